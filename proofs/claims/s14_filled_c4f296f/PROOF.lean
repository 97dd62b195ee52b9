import PyProof.Rows.All
import Wide.All
import OpenK.AllK
import Wide.FinOn
import PyProof.EqAt
import PyProof.EqKinds
import PyProof.TupleCall
import KE.BitLaws
import Open.SpecLaws
import KE.OsHead
import KE.OsGo
import PyProof.RaisesMany
import PyProof.RulesTry
import PyProof.ExcInit
import PyProof.InstStoreFacts
import PyProof.ExcArgsOwn
import PyProof.ExcAttrAll.ValueError
import PyProof.ExcBaseAll.ValueError
import PyProof.RulesAs
import PyProof.NsDelKeeps
import PyProof.WalkInts
import PyProof.Rows.CallKwBuiltin
import PyProof.TupleOfSeq
import PyProof.Rows.SortWalk
import PyProof.SeqI3
import PyProof.MaxThree
import PyProof.ListRange
import PySem.Challenge.RW_beadbodies_s14_filled
section
set_option Elab.async false
set_option linter.all false
set_option maxRecDepth 100000
/-! THE HAND LAYER, for ints, bools, texts, own classes, lists, tuples, dicts, comprehensions, walks over dicts, enumerate, zip, reversed, texts, calls, loops. Paste it whole ahead of your own text; what your proof does not reach may be deleted. -/
namespace L2
open PySem PySem.Spec PyProof.Rows

/-- a key: an int or a str -/
abbrev Key := Sum Int Str
def keyIs : Key → Value → Bool
  | .inl k, v => Value.isInt k v
  | .inr x, v => Value.isStrOf x v
def keyH (w : World) : Key → Int
  | .inl k => hashInt k
  | .inr x => hashStr w x
theorem keyIs_shape : ∀ {k : Key} {v : Value}, keyIs k v = true → (∃ i t, k = Sum.inl i ∧ v = Value.int i t) ∨ (∃ x t, k = Sum.inr x ∧ v = Value.str x t)
  | .inl i, v, h => by
    obtain ⟨t, e⟩ := Value.isInt_shape (k := i) (v := v) h
    exact .inl ⟨i, t, rfl, e⟩
  | .inr x, v, h => by
    obtain ⟨t, e⟩ := Value.isStrOf_shape (x := x) (v := v) h
    exact .inr ⟨x, t, rfl, e⟩
theorem keyIs_int (i : Int) (t : Tok) : keyIs (.inl i) (.int i t) = true := by simp [keyIs, Value.isInt]
theorem keyIs_str (x : Str) (t : Tok) : keyIs (.inr x) (.str x t) = true := by simp [keyIs, Value.isStrOf]
theorem key_ll (a b : Int) : decide ((Sum.inl a : Key) = Sum.inl b) = (a == b) := by
  by_cases e : a = b
  · subst e; simp
  · have h : ¬ (Sum.inl a : Key) = Sum.inl b := fun q => e (Sum.inl.inj q)
    rw [decide_eq_false h]
    exact (beq_eq_false_iff_ne.mpr e).symm
theorem key_rr (a b : Str) : decide ((Sum.inr a : Key) = Sum.inr b) = decide (a = b) := by
  by_cases e : a = b
  · subst e; simp
  · have h : ¬ (Sum.inr a : Key) = Sum.inr b := fun q => e (Sum.inr.inj q)
    rw [decide_eq_false h, decide_eq_false e]
theorem key_lr (a : Int) (b : Str) : decide ((Sum.inl a : Key) = Sum.inr b) = false := decide_eq_false (fun q => nomatch q)
theorem key_rl (a : Str) (b : Int) : decide ((Sum.inr a : Key) = Sum.inl b) = false := decide_eq_false (fun q => nomatch q)

def mixKind (prog : Program) (w : World) : PySem.KeyKind prog w Key where
  is := keyIs
  hash := keyH w
  inj := fun v a b ha hb => by
    rcases keyIs_shape ha with ⟨i, t, rfl, rfl⟩ | ⟨x, t, rfl, rfl⟩
    · rcases keyIs_shape hb with ⟨j, u, rfl, e⟩ | ⟨y, u, rfl, e⟩
      · injection e with e1 _; rw [e1]
      · exact nomatch e
    · rcases keyIs_shape hb with ⟨j, u, rfl, e⟩ | ⟨y, u, rfl, e⟩
      · exact nomatch e
      · injection e with e1 _; rw [e1]
  byValue := fun k v h => by
    rcases keyIs_shape h with ⟨i, t, rfl, rfl⟩ | ⟨x, t, rfl, rfl⟩ <;> rfl
  pyHash := fun hv h => by
    rcases keyIs_shape hv with ⟨i, t, rfl, rfl⟩ | ⟨x, t, rfl, rfl⟩
    · exact wpAny_pyHash_int h
    · exact wpAny_pyHash_str h
  eqBool := fun hu hv h => by
    rcases keyIs_shape hu with ⟨i, t, rfl, rfl⟩ | ⟨x, t, rfl, rfl⟩
    · rcases keyIs_shape hv with ⟨j, u, rfl, rfl⟩ | ⟨y, u, rfl, rfl⟩
      · rw [key_ll] at h; exact wpAny_eqBool_int h
      · rw [key_lr] at h; exact SeqAt.EqAt.int_str i t y u _ _ _ _ h
    · rcases keyIs_shape hv with ⟨j, u, rfl, rfl⟩ | ⟨y, u, rfl, rfl⟩
      · rw [key_rl] at h; exact SeqAt.EqAt.str_int x t j u _ _ _ _ h
      · rw [key_rr] at h; exact wpAny_eqBool_str h
  «strs» := fun k x t v h => by
    rcases keyIs_shape h with ⟨i, u, rfl, e⟩ | ⟨y, u, rfl, e⟩
    · exact nomatch e
    · injection e with e1 _
      subst e1
      cases v <;> rfl

theorem mixKind_int (prog : Program) (w : World) (i : Int) (t : Tok) : (mixKind prog w).is (.inl i) (.int i t) = true := keyIs_int i t
theorem mixKind_str (prog : Program) (w : World) (x : Str) (t : Tok) : (mixKind prog w).is (.inr x) (.str x t) = true := keyIs_str x t
end L2

namespace L2
open PySem PySem.Spec PyProof.Rows

/-- a value, without the heap -/
inductive V where
  | non | bl (b : Bool) | int (i : Int) | str (x : Str) | byt (b : Array UInt8) | flt (b : UInt64) | ref (a : Addr) | ty (n : String)
  deriving DecidableEq

def RelV : V → Value → Prop
  | .non, u => u = Value.none
  | .bl b, u => u = Value.bool b
  | .int i, u => ∃ t, u = Value.int i t
  | .str x, u => ∃ t, u = Value.str x t
  | .byt b, u => ∃ t, u = Value.bytes b t
  | .flt b, u => ∃ t, u = Value.float b t
  | .ref a, u => u = Value.ref a
  | .ty n, u => u = Value.type n

abbrev Vals : List V → List Value → Prop := Paired RelV
theorem Vals.length {xs : List V} {us : List Value} (r : Vals xs us) : xs.length = us.length := Paired.length r
theorem Vals.get : ∀ {xs : List V} {us : List Value} {i : Nat} {x : V}, Vals xs us → xs[i]? = some x → ∃ u, us[i]? = some u ∧ RelV x u
  | _, _, _, _, .nil, e => by simp at e
  | _, _, 0, _, .cons r _, e => by simp at e; subst e; exact ⟨_, rfl, r⟩
  | _, _, i + 1, x, .cons _ t, e => by
    obtain ⟨u, h1, h2⟩ := Vals.get (i := i) (x := x) t (by simpa using e)
    exact ⟨u, by simpa using h1, h2⟩
theorem Vals.set {x : V} {u : Value} (r : RelV x u) : ∀ {xs : List V} {us : List Value} (i : Nat), Vals xs us → Vals (xs.set i x) (us.set i u)
  | _, _, _, .nil => .nil
  | _, _, 0, .cons _ t => .cons r t
  | _, _, i + 1, .cons q t => .cons q (Vals.set r i t)
theorem Vals.append : ∀ {xs ys : List V} {us ws : List Value}, Vals xs us → Vals ys ws → Vals (xs ++ ys) (us ++ ws)
  | _, _, _, _, .nil, s => s
  | _, _, _, _, .cons r t, s => .cons r (Vals.append t s)
theorem Vals.take : ∀ {xs : List V} {us : List Value} (n : Nat), Vals xs us → Vals (xs.take n) (us.take n)
  | _, _, 0, _ => .nil
  | _, _, _ + 1, .nil => .nil
  | _, _, n + 1, .cons r t => .cons r (Vals.take n t)
theorem Vals.drop : ∀ {xs : List V} {us : List Value} (n : Nat), Vals xs us → Vals (xs.drop n) (us.drop n)
  | _, _, 0, r => r
  | _, _, _ + 1, .nil => .nil
  | _, _, n + 1, .cons _ t => Vals.drop n t
def RelO : Option V → Option Value → Prop
  | some v, some u => RelV v u
  | none, none => True
  | _, _ => False
def KV {κ : Type} : List (κ × V) → List (κ × Value) → Prop := Paired fun (p : κ × V) (q : κ × Value) => p.1 = q.1 ∧ RelV p.2 q.2

/-- a key of a dict (00_mix): an int or a text -/
def kV : Key → V
  | .inl i => .int i
  | .inr x => .str x

/-- what stands at a tracked address -/
inductive HO where
  /-- a list -/
  | lst (xs : List V)
  /-- a tuple (never changes) -/
  | tup (xs : List V)
  /-- a dict whose keys are ints and texts; one whose keys are tuples of ints and texts (the empty one is both) -/
  | dK (kvs : List (Key × V)) | dT (kvs : List (List Key × V))
  /-- a set of ints: its members, its size -/
  | set (S : Int → Bool) (n : Nat)
  /-- an instance of the class at C, its dict at dx, its attributes -/
  | ins (C dx : Addr) (fs : List (Str × V))
  /-- the dict of the instance at x -/
  | own (x : Addr)
  /-- the dict of an exception -/
  | xd (fs : List (Str × V))
  /-- a bound method, f of x -/
  | met (f x : Addr)
  /-- a range object lo, lo + 1, .. below hi -/
  | rng (lo hi : Int)
  /-- a thing that is known to the object (the script; a dict while a loop walks it): read, never written while it is so -/
  | frz (o : Obj) (u : HO)
  /-- a code object's table -/
  | tbl (ps : Array Value)
  /-- any other thing, by what is true of its one object (a def of one's own: SetO a S n := HO.ext fun h => ..) -/
  | ext (φ : Heap → Prop)

abbrev Hp := Addr → Option HO
def upd (H : Hp) (a : Addr) (o : HO) : Hp := fun b => if b = a then some o else H b
theorem upd_same {H : Hp} {a : Addr} {o : HO} : upd H a o a = some o := by unfold upd; rw [if_pos rfl]
theorem upd_ne {H : Hp} {a b : Addr} {o : HO} (h : b ≠ a) : upd H a o b = H b := by unfold upd; rw [if_neg h]
/-- two objects of different content stand apart -/
theorem ne_of {H : Hp} {a b : Addr} {o u : HO} (h : H a = some o) (h' : H b = some u) (d : o ≠ u) : a ≠ b := by
  intro e; subst e; rw [h] at h'; exact d (Option.some.inj h')
theorem ne_of_none {H : Hp} {a b : Addr} {o : HO} (h : H a = some o) (h' : H b = none) : a ≠ b := by
  intro e; subst e; rw [h] at h'; cases h'

section
variable (P : Program) (w : World)
def ObjOk (H : Hp) (h : Heap) (a : Addr) : HO → Prop
  | .lst xs => xs.length ≤ sizeLine ∧ ∃ (its : List Value) (n : Nat), Vals xs its ∧ h.get? a = some { cls := .type "list", data := .seq its.toArray n }
  | .tup xs => xs.length ≤ sizeLine ∧ ∃ its : List Value, Vals xs its ∧ IsTup h a its.toArray
  | .dK kvs => kvs.length ≤ sizeLine ∧ (a == sysModules) = false ∧ ∃ vs, KV kvs vs ∧ h.DictOf (mixKind P w) a vs
  | .dT kvs => kvs.length ≤ sizeLine ∧ (a == sysModules) = false ∧ ∃ xs : List (List Key × Addr × Value),
      Paired (fun (p : List Key × V) (q : List Key × Addr × Value) => p.1 = q.1 ∧ H q.2.1 = some (.tup (p.1.map kV)) ∧ RelV p.2 q.2.2) kvs xs ∧
      ∃ o es ep, h.get? a = some o ∧ o.ExactDict ∧ o.data = .dict es ep ∧ es.toList = xs.map (entryOfKey (tupleKind (mixKind P w))) ∧ (xs.map (·.1)).Nodup
  | .set S n => h.SetOf (intKind P w) a S n
  | .ins C dx fs => H dx = some (.own a) ∧ fs.length ≤ 1000 ∧ dx ≠ a ∧ h.get? a = some (PySem.W.instObj C dx) ∧
      ∃ mA, h.Ns1 dx mA ∧ (∀ f, RelO (fs.lookup f) (mA f)) ∧ PySem.Within mA (fs.map (·.1))
  | .own _ => ∃ o, h.get? a = some o
  | .xd fs => ∃ mA, h.Ns1 a mA ∧ ∀ f, RelO (fs.lookup f) (mA f)
  | .rng lo hi => ∃ t u v, h.get? a = some { cls := .type "range", data := .fields #[.int lo t, .int hi u, .int 1 v] }
  | .frz o u => h.get? a = some o ∧ ObjOk H h a u
  | .tbl ps => h.get? a = some { cls := .none, data := .fields ps }
  | .met f x => h.get? a = some (PySem.W.methodObj (.ref f) (.ref x))
  | .ext φ => φ h ∧ (∃ o, h.get? a = some o) ∧ ∀ h1 h2 : Heap, φ h1 → (∀ o, h1.get? a = some o → h2.get? a = some o) → φ h2
/-- the abstract heap is held -/
def HOk (H : Hp) (h : Heap) : Prop := ∀ a o, H a = some o → ObjOk P w H h a o
end

section
variable {P : Program} {w : World} {H H' : Hp} {h h' : Heap} {a : Addr} {o : HO}
theorem ObjOk.lt (x : ObjOk P w H h a o) : a < h.objs.size := by
  cases o with
  | lst xs => obtain ⟨_, _, _, _, e⟩ := x; exact Heap.lt_size e
  | tup xs => obtain ⟨_, _, _, p⟩ := x; exact p.lt
  | dK kvs => obtain ⟨_, _, _, _, o, _, _, e, _⟩ := x; exact Heap.lt_size e
  | dT kvs => obtain ⟨_, _, _, _, o, _, _, e, _⟩ := x; exact Heap.lt_size e
  | set S n => obtain ⟨o, _, _, _, e, _⟩ := x; exact Heap.lt_size e
  | ins C dx fs => obtain ⟨_, _, _, e, _⟩ := x; exact Heap.lt_size e
  | own y => obtain ⟨_, e⟩ := x; exact Heap.lt_size e
  | xd fs => obtain ⟨_, ⟨_, _, _, e, _⟩, _⟩ := x; exact Heap.lt_size e
  | rng lo hi => obtain ⟨_, _, _, e⟩ := x; exact Heap.lt_size e
  | frz ob u => obtain ⟨e, _⟩ := x; exact Heap.lt_size e
  | tbl ps => exact Heap.lt_size (show h.get? a = some _ from x)
  | met f y => exact Heap.lt_size (show h.get? a = some _ from x)
  | ext φ => obtain ⟨_, ⟨_, e⟩, _⟩ := x; exact Heap.lt_size e
theorem Paired.mapP {α β : Type} {F G : α → β → Prop} : ∀ {l₁ : List α} {l₂ : List β}, Paired F l₁ l₂ → (∀ a b, F a b → G a b) → Paired G l₁ l₂
  | _, _, .nil, _ => .nil
  | _, _, .cons r t, f => .cons (f _ _ r) (Paired.mapP t f)
/-- what an object's description leans on: its own object, its own dict, the tuples -/
theorem ObjOk.stay (x : ObjOk P w H h a o) (k : ∀ b u, (b = a ∨ H b = some (.own a)) → h.get? b = some u → h'.get? b = some u)
    (ho : ∀ b, H b = some (.own a) → H' b = some (.own a)) (ht : ∀ b xs, H b = some (.tup xs) → H' b = some (.tup xs)) : ObjOk P w H' h' a o := by
  induction o with
  | lst xs => obtain ⟨z, its, n, r, e⟩ := x; exact ⟨z, its, n, r, k _ _ (.inl rfl) e⟩
  | tup xs => obtain ⟨z, its, r, ob, e, c⟩ := x; exact ⟨z, its, r, ob, k _ _ (.inl rfl) e, c⟩
  | dK kvs => obtain ⟨z, y, vs, r, ob, es, ep, e, c⟩ := x; exact ⟨z, y, vs, r, ob, es, ep, k _ _ (.inl rfl) e, c⟩
  | dT kvs =>
    obtain ⟨z, y, xs, r, ob, es, ep, e, c⟩ := x
    exact ⟨z, y, xs, Paired.mapP r fun p q z => ⟨z.1, ht _ _ z.2.1, z.2.2⟩, ob, es, ep, k _ _ (.inl rfl) e, c⟩
  | set S n => obtain ⟨ob, es, ep, t, e, c⟩ := x; exact ⟨ob, es, ep, t, k _ _ (.inl rfl) e, c⟩
  | ins C dx fs =>
    obtain ⟨d, z, ne, e, mA, ⟨od, es, ep, e2, c⟩, r⟩ := x
    exact ⟨ho _ d, z, ne, k _ _ (.inl rfl) e, mA, ⟨od, es, ep, k _ _ (.inr d) e2, c⟩, r⟩
  | own y => obtain ⟨ob, e⟩ := x; exact ⟨ob, k _ _ (.inl rfl) e⟩
  | xd fs => obtain ⟨mA, ⟨od, es, ep, e, c⟩, r⟩ := x; exact ⟨mA, ⟨od, es, ep, k _ _ (.inl rfl) e, c⟩, r⟩
  | rng lo hi => obtain ⟨t, u, v, e⟩ := x; exact ⟨t, u, v, k _ _ (.inl rfl) e⟩
  | frz ob u ih => obtain ⟨e, q⟩ := x; exact ⟨k _ _ (.inl rfl) e, ih q⟩
  | tbl ps =>
    have e : h.get? a = some { cls := .none, data := .fields ps } := x
    show h'.get? a = some { cls := .none, data := .fields ps }
    exact k a _ (.inl rfl) e
  | met f y =>
    have e : h.get? a = some (PySem.W.methodObj (.ref f) (.ref y)) := x
    show h'.get? a = some (PySem.W.methodObj (.ref f) (.ref y))
    exact k a _ (.inl rfl) e
  | ext φ => obtain ⟨p, ⟨o, e⟩, st⟩ := x; exact ⟨st _ _ p fun o q => k _ _ (.inl rfl) q, ⟨o, k _ _ (.inl rfl) e⟩, st⟩
theorem HOk.lt (x : HOk P w H h) (e : H a = some o) : a < h.objs.size := (x a o e).lt
theorem HOk.fresh (x : HOk P w H h) (e : h.objs.size ≤ a) : H a = none := by
  cases q : H a with
  | none => rfl
  | some u => exact absurd (Nat.lt_of_lt_of_le (x.lt q) e) (Nat.lt_irrefl _)
/-- every object of the heap is kept -/
theorem HOk.kept (x : HOk P w H h) (k : ∀ b u, h.get? b = some u → h'.get? b = some u) : HOk P w H h' := fun a o e =>
  (x a o e).stay (fun b u _ q => k b u q) (fun _ q => q) fun _ _ q => q
/-- a new object is laid and tracked -/
theorem HOk.laid (x : HOk P w H h) (k : ∀ b u, h.get? b = some u → h'.get? b = some u) (hp : h.objs.size ≤ a) (new : ObjOk P w (upd H a o) h' a o) : HOk P w (upd H a o) h' := fun b u e => by
  have hn := x.fresh hp
  by_cases hb : b = a
  · subst hb; rw [upd_same] at e; cases e; exact new
  · rw [upd_ne hb] at e
    exact (x b u e).stay (fun c v _ q => k c v q) (fun c q => by rw [upd_ne (ne_of_none q hn)]; exact q) fun c xs q => by rw [upd_ne (ne_of_none q hn)]; exact q
end

/-- what may be read as u: it is u, or a known u -/
def Rd (H : Hp) (a : Addr) (u : HO) : Prop := H a = some u ∨ ∃ o, H a = some (.frz o u)
theorem Rd.ok {P : Program} {w : World} {H : Hp} {h : Heap} {a : Addr} {u : HO} (r : Rd H a u) (x : HOk P w H h) : ObjOk P w H h a u := by
  rcases r with r | ⟨o, r⟩
  · exact x a u r
  · obtain ⟨_, q⟩ := x a _ r
    exact q
/-- what may be written -/
def Mut : Option HO → Prop
  | some (.lst _) => True
  | some (.dK _) => True
  | some (.dT _) => True
  | some (.set _ _) => True
  | some (.ins _ _ _) => True
  | some (.ext _) => True
  | _ => False
section
variable {P : Program} {w : World} {H : Hp} {h h' : Heap} {x e : Addr} {o' : HO}
/-- the object at e is changed: x itself, or the dict of the instance x -/
theorem HOk.write (ok : HOk P w H h) (mu : Mut (H x)) (he : e = x ∨ H e = some (.own x)) (k : ∀ b u, b ≠ e → h.get? b = some u → h'.get? b = some u) (heo : ∃ u, h'.get? e = some u)
    (new : ObjOk P w (upd H x o') h' x o') : HOk P w (upd H x o') h' := fun b u q => by
  have nown : ∀ c y, H c = some (.own y) → c ≠ x := fun c y r z => by subst z; rw [r] at mu; exact mu
  have ntup : ∀ c xs, H c = some (.tup xs) → c ≠ x := fun c xs r z => by subst z; rw [r] at mu; exact mu
  by_cases hb : b = x
  · subst hb; rw [upd_same] at q; cases q; exact new
  · rw [upd_ne hb] at q
    by_cases hbe : b = e
    · have q' : H b = some (.own x) := by
        rcases he with z | z
        · exact absurd (hbe.trans z) hb
        · rw [hbe]; exact z
      rw [q] at q'; cases q'
      obtain ⟨v, hv⟩ := heo
      exact ⟨v, by rw [hbe]; exact hv⟩
    · refine (ok b u q).stay (fun c v hc r => k c v ?_ r) (fun c r => by rw [upd_ne (nown c b r)]; exact r) fun c xs r => by rw [upd_ne (ntup c xs r)]; exact r
      rcases hc with rfl | hc
      · exact hbe
      · rintro rfl
        rcases he with z | z
        · exact nown c b hc z
        · rw [hc] at z; cases z; exact hb rfl
end

/-! ### kept unless tracked; of the frames at fs (the callers') the slots may change (an exception that passes writes there); of the records at ex (iterators) nothing is said -/
structure Un (fs ex : List Addr) (H H' : Hp) (h h' : Heap) : Prop where
  keep : ∀ b o, h.get? b = some o → H b = none → b ∉ fs → b ∉ ex → h'.get? b = some o
  slot : ∀ b o, h.get? b = some o → H b = none → b ∈ fs → b ∉ ex → ∃ sl, h'.get? b = some { o with slots := sl }
  free : ∀ b o, h.get? b = some o → H b = none → b ∉ ex → H' b = none
  there : ∀ b o, h.get? b = some o → b ∉ ex → ∃ o', h'.get? b = some o'
  tups : ∀ b xs, H b = some (.tup xs) → H' b = some (.tup xs)
  frzs : ∀ b o u, H b = some (.frz o u) → H' b = some (.frz o u)
  tbls : ∀ b ps, H b = some (.tbl ps) → ∃ more, H' b = some (.tbl (ps ++ more))
section
variable {fs fs' ex ex' : List Addr} {H H1 H2 : Hp} {h h1 h2 h' : Heap} {a x e : Addr} {o : HO}
theorem Un.any (u : Un fs ex H H1 h h1) {b : Addr} {ob : Obj} (q : h.get? b = some ob) (n : H b = none) (hx : b ∉ ex) : ∃ sl, h1.get? b = some { ob with slots := sl } := by
  by_cases hb : b ∈ fs
  · exact u.slot b ob q n hb hx
  · exact ⟨ob.slots, u.keep b ob q n hb hx⟩
theorem Un.kept (k : ∀ b u, h.get? b = some u → h'.get? b = some u) : Un fs ex H H h h' :=
  ⟨fun b ob q _ _ _ => k b ob q, fun b ob q _ _ _ => ⟨ob.slots, k b ob q⟩, fun _ _ _ n _ => n, fun b ob q _ => ⟨ob, k b ob q⟩, fun _ _ q => q, fun _ _ _ q => q, fun _ ps q => ⟨#[], by rw [q]; simp⟩⟩
theorem Un.refl : Un fs ex H H h h := Un.kept fun _ _ q => q
theorem Un.laid (k : ∀ b u, h.get? b = some u → h'.get? b = some u) (hp : h.objs.size ≤ a) (hn : H a = none) : Un fs ex H (upd H a o) h h' where
  keep := fun b u q _ _ _ => k b u q
  slot := fun b u q _ _ _ => ⟨u.slots, k b u q⟩
  free := fun b u q n _ => by rw [upd_ne (Nat.ne_of_lt (Nat.lt_of_lt_of_le (Heap.lt_size q) hp))]; exact n
  there := fun b u q _ => ⟨u, k b u q⟩
  tups := fun b xs q => by rw [upd_ne (ne_of_none q hn)]; exact q
  frzs := fun b u xs q => by rw [upd_ne (ne_of_none q hn)]; exact q
  tbls := fun b ps q => ⟨#[], by rw [upd_ne (ne_of_none q hn), q]; simp⟩
theorem Un.write (mu : Mut (H x)) (he : e = x ∨ H e = some (.own x)) (k : ∀ b u, b ≠ e → h.get? b = some u → h'.get? b = some u) (heo : ∃ u, h'.get? e = some u) : Un fs ex H (upd H x o) h h' := by
  have hx : ∀ b, H b = none → b ≠ x := fun b n z => by subst z; rw [n] at mu; exact mu
  have hb : ∀ b, H b = none → b ≠ e := fun b n z => by
    subst z
    rcases he with r | r
    · exact hx b n r
    · rw [n] at r; cases r
  have hm : ∀ b u, H b = some u → ¬ Mut (some u) → b ≠ x := fun b u q nm z => by subst z; rw [q] at mu; exact nm mu
  refine ⟨fun b u q n _ _ => k b u (hb b n) q, fun b u q n _ _ => ⟨u.slots, k b u (hb b n) q⟩, fun b u q n _ => by rw [upd_ne (hx b n)]; exact n, fun b u q _ => ?_,
    fun b xs q => by rw [upd_ne (hm b _ q fun z => z)]; exact q, fun b u xs q => by rw [upd_ne (hm b _ q fun z => z)]; exact q, fun b ps q => ⟨#[], by rw [upd_ne (hm b _ q fun z => z), q]; simp⟩⟩
  by_cases hbe : b = e
  · subst hbe; exact heo
  · exact ⟨u, k b u hbe q⟩
end

/-! ### the heap without what is tracked -/
def trk (h : Heap) (H : Hp) : List Addr := (List.range h.objs.size).filter fun a => (H a).isSome
def hidT (h : Heap) (H : Hp) : Heap := PySem.W.hideAll h (trk h H)
theorem hidT_size (h : Heap) (H : Hp) : (hidT h H).objs.size = h.objs.size := PySem.W.hideAll_size _ _
theorem hidT_get {h : Heap} {H : Hp} {b : Addr} {o : Obj} (e : h.get? b = some o) (n : H b = none) : (hidT h H).get? b = some o :=
  PySem.W.hideAll_get _ e fun hm => by
    have q : (H b).isSome = true := (List.mem_filter.mp hm).2
    rw [n] at q; simp at q
theorem of_hidT {h : Heap} {H : Hp} {b : Addr} {o : Obj} (e : (hidT h H).get? b = some o) : h.get? b = some o ∧ H b = none := by
  have e' : h.get? b = some o := PySem.W.of_hideAll (trk h H) e
  refine ⟨e', ?_⟩
  cases q : H b with
  | none => rfl
  | some x =>
    have hm : b ∈ trk h H := List.mem_filter.mpr ⟨List.mem_range.mpr (Heap.lt_size e'), by simp [q]⟩
    have z : (hidT h H).get? b = none := PySem.W.hideAll_none (trk h H) hm
    rw [z] at e; cases e

/-! ### OpenK's ledger, filled with every new object but one -/
end L2

namespace L2
open PySem PySem.Spec PyProof.Rows

/-- the module's facts, over the base: the heap at the law's entry without what is tracked there -/
structure Mod (K : PySem.W.Frag) (mg : Str → Option Value) (base : Heap) : Prop where
  kin : K.In base
  glob : base.Ns mainGlobals mg
  blt : ∃ mb, base.Ns builtinsNs mb ∧ ∀ x : Str, x ≠ "__name__" → mb x = bootBuiltins x
  nolimit : base.NoLimit

/-- the context: a def's body (or a comprehension's block) running. base: fixed through the whole law; s₀, H₀: the entry; outer: the frames whose slots others may change (a def's callers); stack: all frames that run;
   ex: iterators that were made ahead of the entry and are walked here (a comprehension's); fn: the names whose cells were made at the entry (a def: all; a comprehension's block: its own); calm: not within an except suite; pn: pins that every state bears; xe: what is wanted of an exception that leaves the code -/
structure Cx where
  prog : Program
  w : World
  K : PySem.W.Frag
  mg : Str → Option Value
  base : Heap
  A : Around
  N : List Str
  s_0 : Shared
  H_0 : Hp
  env : Env
  outer : List Env
  stack : List Env
  ex : List Addr
  fn : Str → Bool
  calm : Bool
  pn : List (Addr × Obj)
  xe : Value → Shared → Prop
/-- the callers' frames -/
def frs (l : List Env) : List Addr := l.filterMap (·.frame)
abbrev Cx.fs (X : Cx) : List Addr := frs X.outer

def Vis (sc : Scope) (x : Str) : Prop := sc.names.lookup x = some .local ∨ sc.names.lookup x = some .cell ∨ sc.names.lookup x = some .free
def Loc (sc : Scope) (x : Str) : Prop := sc.names.lookup x = some .local ∨ sc.names.lookup x = some .cell
def Look (env : Env) (h : Heap) (m : Str → Option Value) (x : Str) (u : Value) : Prop :=
  (env.kindOf x = some .local ∧ m x = some u) ∨ ((env.kindOf x = some .cell ∨ env.kindOf x = some .free) ∧ ∃ c, env.cells.lookup x = some c ∧ h.IsCell c (some u))

structure Cx.Ok (X : Cx) : Prop where
  mod : Mod X.K X.mg X.base
  kind : X.env.scope.kind = .function
  glob : X.env.globals = mainGlobals
  blt : X.env.builtins = builtinsNs
  above : X.s_0.heap.objs.size ≤ X.env.locals
  inj : ∀ x y c, X.env.cells.lookup x = some c → X.env.cells.lookup y = some c → x = y
  has : ∀ x, (X.env.kindOf x = some .cell ∨ X.env.kindOf x = some .free) → ∃ c, X.env.cells.lookup x = some c
  cab : ∀ x c, X.fn x = true → X.env.cells.lookup x = some c → X.s_0.heap.objs.size ≤ c
  hd : X.calm = true → X.A.handled = none
  frames : X.A.frames = some X.stack
  stk : X.stack = X.outer ∨ (X.stack = X.env :: X.outer ∧ X.env.frame = some X.env.locals)
  exf : ∀ b ∈ X.ex, b ≠ X.env.locals ∧ ∀ x c, X.env.cells.lookup x = some c → c ≠ b
  bs : ∀ b o, X.base.get? b = some o → X.s_0.heap.get? b = some o ∧ X.H_0 b = none
  bsz : X.base.objs.size ≤ X.s_0.heap.objs.size
  noex : ∀ b o, X.base.get? b = some o → b ∉ X.ex
  exfs : ∀ b ∈ X.ex, b ∉ X.fs
  funs : X.s_0.heap.FunFrames X.base X.outer
  frf : ∀ b ∈ X.fs, X.H_0 b = none

structure Inv (X : Cx) (pins : List (Addr × Obj)) (σ : List (Option V)) (H : Hp) (s : Shared) : Prop where
  ok : X.Ok
  os : s.os = X.s_0.os
  bare : AllBare s.gens
  base : Un X.fs X.ex X.H_0 H X.s_0.heap s.heap
  loc : ∃ m, s.heap.Ns X.env.locals m ∧ ∀ (i : Nat) (x : Str) (v : V), X.N[i]? = some x → σ[i]? = some (some v) → Vis X.env.scope x → ∃ u, RelV v u ∧ Look X.env s.heap m x u
  cell : ∀ x c, X.env.cells.lookup x = some c → ∃ v, s.heap.IsCell c v
  free : H X.env.locals = none
  freeC : ∀ x c, X.env.cells.lookup x = some c → H c = none
  pin : ∀ p ∈ X.pn ++ pins, s.heap.get? p.1 = some p.2 ∧ H p.1 = none ∧ p.1 ≠ X.env.locals ∧ p.1 ∉ X.fs ∧ ∀ v, p.2.data ≠ .cell v
  hok : HOk X.prog X.w H s.heap
  len : σ.length = X.N.length

section
variable {X : Cx} {pins : List (Addr × Obj)} {σ : List (Option V)} {H H' : Hp} {s : Shared} {h' : Heap}

theorem Cx.Ok.nofr (ok : X.Ok) {b : Addr} {o : Obj} (e : X.base.get? b = some o) : b ∉ X.fs := fun hb => by
  have := (ok.funs.mem hb).1
  rw [e] at this; cases this
theorem Inv.bs (I : Inv X pins σ H s) : ∀ b o, X.base.get? b = some o → s.heap.get? b = some o ∧ H b = none := fun b o e =>
  ⟨I.base.keep b o (I.ok.bs b o e).1 (I.ok.bs b o e).2 (I.ok.nofr e) (I.ok.noex b o e), I.base.free b o (I.ok.bs b o e).1 (I.ok.bs b o e).2 (I.ok.noex b o e)⟩
theorem Inv.bk (I : Inv X pins σ H s) : ∀ b o, X.base.get? b = some o → s.heap.get? b = some o := fun b o e => (I.bs b o e).1
theorem Inv.mod (I : Inv X pins σ H s) : Mod X.K X.mg X.base := I.ok.mod
theorem Inv.kIn (I : Inv X pins σ H s) : X.K.In s.heap := I.ok.mod.kin.keeps I.bk
theorem Inv.lt (I : Inv X pins σ H s) : X.env.locals < s.heap.objs.size := let ⟨_, hn, _⟩ := I.loc; hn.lt
theorem Inv.sz (I : Inv X pins σ H s) : X.s_0.heap.objs.size ≤ s.heap.objs.size := Nat.le_trans I.ok.above (Nat.le_of_lt I.lt)
theorem Inv.nofs (I : Inv X pins σ H s) {a : Addr} (h : s.heap.objs.size ≤ a) : a ∉ X.fs := fun hb => by
  obtain ⟨_, o, ho, _⟩ := I.ok.funs.mem hb
  exact absurd (Nat.lt_of_lt_of_le (Heap.lt_size ho) (Nat.le_trans I.sz h)) (Nat.lt_irrefl _)
theorem Inv.cne (I : Inv X pins σ H s) : ∀ x c, X.env.cells.lookup x = some c → c ≠ X.env.locals := fun x c e z => by
  obtain ⟨v, o, ho, hd⟩ := I.cell x c e
  obtain ⟨m, ⟨o', es, ep, ho', hd', _⟩, _⟩ := I.loc
  rw [z, ho'] at ho; cases ho; rw [hd'] at hd; cases hd
theorem Inv.funs (I : Inv X pins σ H s) : s.heap.FunFrames X.base X.outer := by
  have all : ∀ (l : List Env), (∀ b ∈ frs l, b ∈ X.fs) → X.s_0.heap.FunFrames X.base l → s.heap.FunFrames X.base l := by
    intro l
    induction l with
    | nil => intro _ _; trivial
    | cons env r ih =>
      intro hs hl
      obtain ⟨hk, ⟨L, o, hf, hn, ho, hd⟩, hr⟩ := hl
      have hL : L ∈ X.fs := hs L (by unfold frs; rw [List.filterMap_cons, hf]; exact List.mem_cons_self)
      obtain ⟨sl, e⟩ := I.base.slot L o ho (I.ok.frf L hL) hL fun z => I.ok.exfs L z hL
      exact ⟨hk, ⟨L, _, hf, hn, e, hd⟩, ih (fun b hb => hs b (by unfold frs; rw [List.filterMap_cons, hf]; exact List.mem_cons_of_mem _ hb)) hr⟩
  exact all X.outer (fun _ hb => hb) I.ok.funs

/-- the frames that run, for a call -/
theorem Inv.stack (I : Inv X pins σ H s) : s.heap.FunFrames X.base X.stack := by
  rcases I.ok.stk with e | ⟨e, hf⟩
  · rw [e]; exact I.funs
  · rw [e]
    obtain ⟨m, hn, _⟩ := I.loc
    refine .cons (by rw [I.ok.kind]; decide) hf hn ?_ I.funs
    exact Heap.get?_none_of_le (Nat.le_trans I.ok.bsz I.ok.above)
theorem Inv.stkSub (I : Inv X pins σ H s) : ∀ b ∈ frs X.stack, b ∈ X.env.locals :: X.fs := fun b hb => by
  rcases I.ok.stk with e | ⟨e, hf⟩
  · rw [e] at hb; exact List.mem_cons_of_mem _ hb
  · rw [e] at hb
    unfold frs at hb
    rw [List.filterMap_cons, hf] at hb
    exact hb
theorem Inv.stkFree (I : Inv X pins σ H s) : ∀ b ∈ frs X.stack, H b = none := fun b hb => by
  rcases List.mem_cons.mp (I.stkSub b hb) with e | hb
  · rw [e]; exact I.free
  · obtain ⟨_, o, ho, _⟩ := I.ok.funs.mem hb
    exact I.base.free b o ho (I.ok.frf b hb) fun z => I.ok.exfs b z hb

/-- THE STEP: the untracked objects but the frame and the records at ch are kept (the callers' frames up to slots), the frame's map is kept, the new abstract heap is held -/
theorem Inv.step {g' : Array GenState} {t' : Nat} {d' : Drawn} {ch : List Addr} (I : Inv X pins σ H s)
    (hch : ∀ b ∈ ch, (b ∈ X.ex ∨ X.s_0.heap.objs.size ≤ b) ∧ b ≠ X.env.locals ∧ (∀ x c, X.env.cells.lookup x = some c → c ≠ b) ∧ ∀ p ∈ X.pn ++ pins, p.1 ≠ b)
    (keep : ∀ b o, b ≠ X.env.locals → b ∉ X.fs → b ∉ ch → s.heap.get? b = some o → H b = none → h'.get? b = some o)
    (slot : ∀ b o, b ≠ X.env.locals → b ∈ X.fs → b ∉ ch → s.heap.get? b = some o → H b = none → ∃ sl, h'.get? b = some { o with slots := sl }) (free : ∀ b o, b ∉ ch → s.heap.get? b = some o → H b = none → H' b = none)
    (there : ∀ b o, b ∉ ch → s.heap.get? b = some o → ∃ o', h'.get? b = some o')
    (tups : ∀ b xs, H b = some (.tup xs) → H' b = some (.tup xs)) (frzs : ∀ b o u, H b = some (.frz o u) → H' b = some (.frz o u)) (tbls : ∀ b ps, H b = some (.tbl ps) → ∃ more, H' b = some (.tbl (ps ++ more)))
    (ns : ∀ m, s.heap.Ns X.env.locals m → h'.Ns X.env.locals m) (hok : HOk X.prog X.w H' h') (hg : AllBare g') :
    Inv X pins σ H' { s with heap := h', gens := g', drawn := d', toks := t' } := by
  have neL : ∀ b o, X.s_0.heap.get? b = some o → b ≠ X.env.locals := fun b o e => Nat.ne_of_lt (Nat.lt_of_lt_of_le (Heap.lt_size e) I.ok.above)
  have neC : ∀ b o, X.s_0.heap.get? b = some o → b ∉ X.ex → b ∉ ch := fun b o e hx hb => by
    rcases (hch b hb).1 with z | z
    · exact hx z
    · exact absurd (Nat.lt_of_lt_of_le (Heap.lt_size e) z) (Nat.lt_irrefl _)
  have cellK : ∀ x c, X.env.cells.lookup x = some c → ∀ v, s.heap.IsCell c v → h'.IsCell c v := fun x c e v ⟨o, ho, hd⟩ => by
    have nch : c ∉ ch := fun z => (hch c z).2.2.1 x c e rfl
    by_cases hc : c ∈ X.fs
    · obtain ⟨sl, q⟩ := slot c o (I.cne x c e) hc nch ho (I.freeC x c e)
      exact ⟨_, q, hd⟩
    · exact ⟨o, keep c o (I.cne x c e) hc nch ho (I.freeC x c e), hd⟩
  refine ⟨I.ok, I.os, hg, ⟨fun b o e n hb hx => ?_, fun b o e n hb hx => ?_, fun b o e n hx => ?_, fun b o e hx => ?_, fun b xs e => tups b xs (I.base.tups b xs e), fun b o xs e => frzs b o xs (I.base.frzs b o xs e), fun b ps e => ?_⟩, ?_, fun x c e => ?_, ?_, fun x c e => ?_, fun p hp => ?_, hok, I.len⟩
  · exact keep b o (neL b o e) hb (neC b o e hx) (I.base.keep b o e n hb hx) (I.base.free b o e n hx)
  · obtain ⟨sl, e1⟩ := I.base.slot b o e n hb hx
    obtain ⟨sl', e2⟩ := slot b _ (neL b o e) hb (neC b o e hx) e1 (I.base.free b o e n hx)
    exact ⟨sl', e2⟩
  · obtain ⟨o', e1⟩ := I.base.there b o e hx
    exact free b o' (neC b o e hx) e1 (I.base.free b o e n hx)
  · obtain ⟨o', e1⟩ := I.base.there b o e hx
    exact there b o' (neC b o e hx) e1
  · obtain ⟨m1, e1⟩ := I.base.tbls b ps e
    obtain ⟨m2, e2⟩ := tbls b _ e1
    exact ⟨m1 ++ m2, by rw [e2, Array.append_assoc]⟩
  · obtain ⟨m, hn, hl⟩ := I.loc
    refine ⟨m, ns m hn, fun i x v e1 e2 e3 => ?_⟩
    obtain ⟨u, r, l⟩ := hl i x v e1 e2 e3
    refine ⟨u, r, ?_⟩
    rcases l with l | ⟨k, c, e, z⟩
    · exact .inl l
    · exact .inr ⟨k, c, e, cellK x c e _ z⟩
  · obtain ⟨v, z⟩ := I.cell x c e
    exact ⟨v, cellK x c e v z⟩
  · obtain ⟨m, ⟨o, _, _, ho, _⟩, _⟩ := I.loc
    exact free _ o (fun z => (hch _ z).2.1 rfl) ho I.free
  · obtain ⟨v, o, ho, hd⟩ := I.cell x c e
    exact free c o (fun z => (hch c z).2.2.1 x c e rfl) ho (I.freeC x c e)
  · obtain ⟨e, n, ne, nf, d⟩ := I.pin p hp
    have nch : p.1 ∉ ch := fun z => (hch p.1 z).2.2.2 p hp rfl
    exact ⟨keep p.1 p.2 ne nf nch e n, free p.1 p.2 nch e n, ne, nf, d⟩
/-- .. where the frame's own object is kept too -/
theorem Inv.un {t' : Nat} (I : Inv X pins σ H s) (u : Un X.fs [] H H' s.heap h') (hok : HOk X.prog X.w H' h') : Inv X pins σ H' { s with heap := h', toks := t' } := by
  obtain ⟨m, ⟨o, es, ep, ho, r⟩, _⟩ := id I.loc
  obtain ⟨sl, hL⟩ := u.any ho I.free (by simp)
  exact I.step (g' := s.gens) (d' := s.drawn) (ch := []) (fun _ z => nomatch z) (fun b o _ hb _ e n => u.keep b o e n hb (by simp)) (fun b o _ hb _ e n => u.slot b o e n hb (by simp)) (fun b o _ e n => u.free b o e n (by simp)) (fun b o _ e => u.there b o e (by simp)) u.tups u.frzs u.tbls (fun m' hm => by
    obtain ⟨o', es', ep', ho', r'⟩ := hm
    rw [ho] at ho'; cases ho'
    exact ⟨_, es', ep', hL, r'⟩) hok I.bare
/-- behind a call (or a comprehension's block): the slots of this frame may have changed too, the records at ch may have turned -/
theorem Inv.call {g' : Array GenState} {t' : Nat} {d' : Drawn} {ch : List Addr} (I : Inv X pins σ H s) (u : Un (frs X.stack) ch H H' s.heap h') (hok : HOk X.prog X.w H' h') (hg : AllBare g')
    (hch : ∀ b ∈ ch, (b ∈ X.ex ∨ X.s_0.heap.objs.size ≤ b) ∧ b ≠ X.env.locals ∧ (∀ x c, X.env.cells.lookup x = some c → c ≠ b) ∧ ∀ p ∈ X.pn ++ pins, p.1 ≠ b) :
    Inv X pins σ H' { s with heap := h', gens := g', drawn := d', toks := t' } := by
  obtain ⟨m, ⟨o, es, ep, ho, r⟩, _⟩ := id I.loc
  obtain ⟨sl, hL⟩ := u.any ho I.free fun z => (hch _ z).2.1 rfl
  exact I.step (ch := ch) hch (fun b o hL hb hc e n => u.keep b o e n (fun z => (List.mem_cons.mp (I.stkSub b z)).elim hL hb) hc) (fun b o _ _ hc e n => u.any e n hc) (fun b o hc e n => u.free b o e n hc) (fun b o hc e => u.there b o e hc) u.tups u.frzs u.tbls (fun m' hm => by
    obtain ⟨o', es', ep', ho', r'⟩ := hm
    rw [ho] at ho'; cases ho'
    exact ⟨_, es', ep', hL, r'⟩) hok hg
/-- an untracked record of ours (an iterator) has turned -/
theorem Inv.turned {t' : Nat} {it : Addr} (I : Inv X pins σ H s) (k : ∀ b o, b ≠ it → s.heap.get? b = some o → h'.get? b = some o) (hn : H it = none) (hL : it ≠ X.env.locals)
    (h1 : it ∈ X.ex ∨ X.s_0.heap.objs.size ≤ it) (h2 : ∀ x c, X.env.cells.lookup x = some c → c ≠ it) (h3 : ∀ p ∈ X.pn ++ pins, p.1 ≠ it) : Inv X pins σ H { s with heap := h', toks := t' } := by
  have nit : ∀ b u, H b = some u → b ≠ it := fun b u e z => by rw [z, hn] at e; cases e
  refine I.step (g' := s.gens) (d' := s.drawn) (ch := [it]) (fun b hb => ?_) (fun b o _ _ hc e _ => k b o (fun z => hc (by simp [z])) e) (fun b o _ _ hc e _ => ⟨o.slots, k b o (fun z => hc (by simp [z])) e⟩) (fun _ _ _ _ n => n)
    (fun b o hc e => ⟨o, k b o (fun z => hc (by simp [z])) e⟩) (fun _ _ e => e) (fun _ _ _ e => e) (fun b ps e => ⟨#[], by rw [e]; simp⟩) (fun m hm => ?_) (fun b u e => ?_) I.bare
  · have e : b = it := by simpa using hb
    subst e
    exact ⟨h1, hL, h2, h3⟩
  · obtain ⟨o, es, ep, ho, r⟩ := hm
    exact ⟨o, es, ep, k _ o (Ne.symm hL) ho, r⟩
  · refine (I.hok b u e).stay (fun c v hc q => k c v ?_ q) (fun _ q => q) fun _ _ q => q
    rcases hc with z | z
    · rw [z]; exact nit b u e
    · exact nit c _ z
theorem Inv.tok (I : Inv X pins σ H s) (t : Nat) : Inv X pins σ H { s with toks := t } := I.un (h' := s.heap) (t' := t) Un.refl I.hok
/-- all objects kept -/
theorem Inv.kept {t' : Nat} (I : Inv X pins σ H s) (k : ∀ b u, s.heap.get? b = some u → h'.get? b = some u) : Inv X pins σ H { s with heap := h', toks := t' } := I.un (Un.kept k) (I.hok.kept k)
/-- a new object laid and tracked -/
theorem Inv.laid {a : Addr} {o : HO} {t' : Nat} (I : Inv X pins σ H s) (k : ∀ b u, s.heap.get? b = some u → h'.get? b = some u) (hp : s.heap.objs.size ≤ a) (new : ObjOk X.prog X.w (upd H a o) h' a o) :
    Inv X pins σ (upd H a o) { s with heap := h', toks := t' } := I.un (Un.laid k hp (I.hok.fresh hp)) (I.hok.laid k hp new)
/-- an object written -/
theorem Inv.write {x e : Addr} {o : HO} {t' : Nat} (I : Inv X pins σ H s) (mu : Mut (H x)) (he : e = x ∨ H e = some (.own x)) (k : ∀ b u, b ≠ e → s.heap.get? b = some u → h'.get? b = some u) (heo : ∃ u, h'.get? e = some u)
    (new : ObjOk X.prog X.w (upd H x o) h' x o) : Inv X pins σ (upd H x o) { s with heap := h', toks := t' } := I.un (Un.write mu he k heo) (I.hok.write mu he k heo new)
/-- forgetting slots, pins -/
theorem Inv.weak {σ' : List (Option V)} (I : Inv X pins σ H s) (hl : σ'.length = σ.length) (w : ∀ (i : Nat) v, σ'[i]? = some (some v) → σ[i]? = some (some v)) : Inv X pins σ' H s :=
  ⟨I.ok, I.os, I.bare, I.base, let ⟨m, hn, hl'⟩ := I.loc; ⟨m, hn, fun i x v e1 e2 e3 => hl' i x v e1 (w i v e2) e3⟩, I.cell, I.free, I.freeC, I.pin, I.hok, hl.trans I.len⟩
theorem Inv.pins_of {pins' : List (Addr × Obj)} (I : Inv X pins σ H s) (h : ∀ p ∈ pins', s.heap.get? p.1 = some p.2 ∧ H p.1 = none ∧ p.1 ≠ X.env.locals ∧ p.1 ∉ X.fs ∧ ∀ v, p.2.data ≠ .cell v) : Inv X pins' σ H s :=
  ⟨I.ok, I.os, I.bare, I.base, I.loc, I.cell, I.free, I.freeC, fun p hp => (List.mem_append.mp hp).elim (fun z => I.pin p (List.mem_append_left _ z)) (h p), I.hok, I.len⟩

theorem nodup_ix {N : List Str} (hN : N.Nodup) {i j : Nat} {x : Str} (a : N[i]? = some x) (b : N[j]? = some x) : i = j := by
  obtain ⟨h1, e1⟩ := List.getElem?_eq_some_iff.mp a
  obtain ⟨h2, e2⟩ := List.getElem?_eq_some_iff.mp b
  exact (List.getElem_inj hN).mp (e1.trans e2.symm)

/-- a name is stored; what changed -/
theorem store_ok2 {M : Model} {A : Around} {E : Value → Shared → Prop} {i : Nat} {x : Str} {v : V} {u : Value} {Q : Unit → Shared → Prop} (I : Inv X pins σ H s) (hN : X.N.Nodup) (hi : X.N[i]? = some x) (hx : Loc X.env.scope x) (r : RelV v u)
    (h : ∀ s', Inv X pins (σ.set i (some v)) H s' → (∃ a, Heap.SameBut a s.heap s'.heap ∧ (a = X.env.locals ∨ X.env.cells.lookup x = some a)) → Q () s') (hf : X.fn x = true ∨ X.env.scope.names.lookup x = some .local := by first | exact .inl rfl | exact .inr rfl | assumption) : wpAny M A (storeName X.env x u) Q E s := by
  obtain ⟨m, hn, hl⟩ := id I.loc
  have hcls : (X.env.scope.kind == .class || (X.env.scope.kind == .module && X.env.locals != X.env.globals)) = false := by rw [I.ok.kind]; rfl
  have hiσ : i < σ.length := by rw [I.len]; exact (List.getElem?_eq_some_iff.mp hi).1
  have cne := I.cne
  have tracked : ∀ {a : Addr} {h' : Heap}, (∃ o, s.heap.get? a = some o ∧ H a = none) → Heap.SameBut a s.heap h' → HOk X.prog X.w H h' := fun {a h'} ha hs b ob e => by
    obtain ⟨_, _, hfree⟩ := ha
    refine (I.hok b ob e).stay (fun c w' hc q => (hs.2 c ?_).trans q) (fun _ q => q) fun _ _ q => q
    rintro rfl
    rcases hc with rfl | hc
    · rw [hfree] at e; cases e
    · rw [hfree] at hc; cases hc
  rcases hx with hk | hk
  · refine wpAny_storeName_local hk hn (fun h' hn' hs => ?_) hcls
    obtain ⟨oL, _, _, hoL, _⟩ := id hn
    refine h _ ⟨I.ok, I.os, I.bare, ⟨fun b o e n hb hx => ?_, fun b o e n hb hx => ?_, I.base.free, fun b o e hx => ?_, I.base.tups, I.base.frzs, I.base.tbls⟩, ⟨_, hn', fun j y v' e1 e2 e3 => ?_⟩, fun y c e => ?_, I.free, I.freeC, fun p hp => ?_, tracked ⟨oL, hoL, I.free⟩ hs, by simpa using I.len⟩ ⟨_, hs, .inl rfl⟩
    · exact (hs.2 b (Nat.ne_of_lt (Nat.lt_of_lt_of_le (Heap.lt_size e) I.ok.above))).trans (I.base.keep b o e n hb hx)
    · obtain ⟨sl, e1⟩ := I.base.slot b o e n hb hx
      exact ⟨sl, (hs.2 b (Nat.ne_of_lt (Nat.lt_of_lt_of_le (Heap.lt_size e) I.ok.above))).trans e1⟩
    · obtain ⟨o', e1⟩ := I.base.there b o e hx
      exact ⟨o', (hs.2 b (Nat.ne_of_lt (Nat.lt_of_lt_of_le (Heap.lt_size e) I.ok.above))).trans e1⟩
    · by_cases hj : j = i
      · subst hj
        rw [hi] at e1; cases e1
        rw [List.getElem?_set_self hiσ] at e2
        cases e2
        exact ⟨u, r, .inl ⟨hk, by simp⟩⟩
      · rw [List.getElem?_set_ne (Ne.symm hj)] at e2
        obtain ⟨u', r', q⟩ := hl j y v' e1 e2 e3
        refine ⟨u', r', ?_⟩
        rcases q with ⟨k, e⟩ | ⟨k, c, e, z⟩
        · refine .inl ⟨k, ?_⟩
          have : y ≠ x := fun e => hj (nodup_ix hN e1 (e ▸ hi))
          simp [this, e]
        · exact .inr ⟨k, c, e, z.sameBut hs (cne y c e)⟩
    · obtain ⟨w', z⟩ := I.cell y c e
      exact ⟨w', z.sameBut hs (cne y c e)⟩
    · obtain ⟨e, n, ne, nf, d⟩ := I.pin p hp
      exact ⟨(hs.2 p.1 ne).trans e, n, ne, nf, d⟩
  · have hfn : X.fn x = true := by
      rcases hf with z | z
      · exact z
      · rw [z] at hk; cases hk
    obtain ⟨c, hc⟩ := I.ok.has x (.inl hk)
    obtain ⟨w', z⟩ := I.cell x c hc
    refine wpAny_storeName_cell I.ok.kind hk hc z (fun h' hc' hs => ?_)
    obtain ⟨oc, hoc, hocd⟩ := id z
    refine h { s with heap := h' } ⟨I.ok, I.os, I.bare, ⟨fun b o e n hb hx => ?_, fun b o e n hb hx => ?_, I.base.free, fun b o e hx => ?_, I.base.tups, I.base.frzs, I.base.tbls⟩, ⟨m, hn.sameBut hs (Ne.symm (cne x c hc)), fun j y v' e1 e2 e3 => ?_⟩, fun y c' e => ?_, I.free, I.freeC, fun p hp => ?_, tracked ⟨oc, hoc, I.freeC x c hc⟩ hs, by simpa using I.len⟩ ⟨c, hs, .inr hc⟩
    · exact (hs.2 b (Nat.ne_of_lt (Nat.lt_of_lt_of_le (Heap.lt_size e) (I.ok.cab x c hfn hc)))).trans (I.base.keep b o e n hb hx)
    · obtain ⟨sl, e1⟩ := I.base.slot b o e n hb hx
      exact ⟨sl, (hs.2 b (Nat.ne_of_lt (Nat.lt_of_lt_of_le (Heap.lt_size e) (I.ok.cab x c hfn hc)))).trans e1⟩
    · obtain ⟨o', e1⟩ := I.base.there b o e hx
      exact ⟨o', (hs.2 b (Nat.ne_of_lt (Nat.lt_of_lt_of_le (Heap.lt_size e) (I.ok.cab x c hfn hc)))).trans e1⟩
    · by_cases hj : j = i
      · subst hj
        rw [hi] at e1; cases e1
        rw [List.getElem?_set_self hiσ] at e2
        cases e2
        exact ⟨u, r, .inr ⟨.inl hk, c, hc, hc'⟩⟩
      · rw [List.getElem?_set_ne (Ne.symm hj)] at e2
        obtain ⟨u', r', q⟩ := hl j y v' e1 e2 e3
        refine ⟨u', r', ?_⟩
        rcases q with q | ⟨k, c', e, z'⟩
        · exact .inl q
        · refine .inr ⟨k, c', e, z'.sameBut hs ?_⟩
          rintro rfl
          exact hj (nodup_ix hN e1 (I.ok.inj _ _ _ e hc ▸ hi))
    · by_cases hcc : c' = c
      · subst hcc; exact ⟨_, hc'⟩
      · obtain ⟨w2, z2⟩ := I.cell y c' e
        exact ⟨w2, z2.sameBut hs hcc⟩
    · obtain ⟨e, n, ne, nf, d⟩ := I.pin p hp
      refine ⟨(hs.2 p.1 ?_).trans e, n, ne, nf, d⟩
      intro q
      rw [q, hoc] at e
      have q' : oc = p.2 := Option.some.inj e
      exact d w' (by rw [← q']; exact hocd)
theorem store_ok {M : Model} {A : Around} {E : Value → Shared → Prop} {i : Nat} {x : Str} {v : V} {u : Value} {Q : Unit → Shared → Prop} (I : Inv X pins σ H s) (hN : X.N.Nodup) (hi : X.N[i]? = some x) (hx : Loc X.env.scope x) (r : RelV v u)
    (h : ∀ s', Inv X pins (σ.set i (some v)) H s' → Q () s') (hf : X.fn x = true ∨ X.env.scope.names.lookup x = some .local := by first | exact .inl rfl | exact .inr rfl | assumption) : wpAny M A (storeName X.env x u) Q E s :=
  store_ok2 I hN hi hx r (fun s' I' _ => h s' I') hf
/-- behind a call or a block, the state as it is -/
theorem Inv.call' {s' : Shared} {ch : List Addr} (I : Inv X pins σ H s) (ho : s'.os = s.os) (u : Un (frs X.stack) ch H H' s.heap s'.heap) (hok : HOk X.prog X.w H' s'.heap) (hg : AllBare s'.gens)
    (hch : ∀ b ∈ ch, (b ∈ X.ex ∨ X.s_0.heap.objs.size ≤ b) ∧ b ≠ X.env.locals ∧ (∀ x c, X.env.cells.lookup x = some c → c ≠ b) ∧ ∀ p ∈ X.pn ++ pins, p.1 ≠ b) : Inv X pins σ H' s' := by
  obtain ⟨h', g', d', t', o'⟩ := s'
  have e : o' = s.os := ho
  subst e
  exact I.call (g' := g') (t' := t') (d' := d') u hok hg hch
end

/-! ### the judgements -/
/-- an exception: its class, its own dict's address (where it has one), the abstract heap behind it -/
abbrev XK := Value → Option Addr → Hp → Prop
abbrev St := List (Option V)
abbrev VK := V → Hp → Prop
/-- an expression's reading; a test's; an argument list's -/
abbrev TE := St → Hp → VK → Prop
abbrev TT := St → Hp → (Bool → Hp → Prop) → Prop
abbrev TA := St → Hp → (List V → Hp → Prop) → Prop
/-- what is wanted behind a statement -/
structure Ends where
  nx : St → Hp → Prop
  rt : VK
  bk : St → Hp → Prop := fun _ _ => False
  ct : St → Hp → Prop := fun _ _ => False
abbrev TS := Ends → St → Hp → Prop

def EP (X : Cx) (pins : List (Addr × Obj)) (σ : St) (Q : VK) (u : Value) (s' : Shared) : Prop := ∃ v H', Inv X pins σ H' s' ∧ RelV v u ∧ Q v H'
def TP (X : Cx) (pins : List (Addr × Obj)) (σ : St) (Q : Bool → Hp → Prop) (b : Bool) (s' : Shared) : Prop := ∃ H', Inv X pins σ H' s' ∧ Q b H'
def AP (X : Cx) (pins : List (Addr × Obj)) (σ : St) (Q : List V → Hp → Prop) (us : List Value) (s' : Shared) : Prop := ∃ vs H', Inv X pins σ H' s' ∧ Vals vs us ∧ Q vs H'
def SP (X : Cx) (pins : List (Addr × Obj)) (D : Ends) (f : Flow) (s' : Shared) : Prop :=
  match f with
  | .next => ∃ σ' H', Inv X pins σ' H' s' ∧ D.nx σ' H'
  | .brk => ∃ σ' H', Inv X pins σ' H' s' ∧ D.bk σ' H'
  | .cont => ∃ σ' H', Inv X pins σ' H' s' ∧ D.ct σ' H'
  | .ret u => ∃ v σ' H', Inv X pins σ' H' s' ∧ RelV v u ∧ D.rt v H'

def PE (X : Cx) (e : Expr) (t : TE) : Prop :=
  ∀ (pins : List (Addr × Obj)) (s : Shared) (σ : St) (H : Hp) (Q : VK), Inv X pins σ H s → t σ H Q → wpAny (model X.prog X.w) X.A (eval e X.env) (EP X pins σ Q) X.xe s
def PT (X : Cx) (e : Expr) (t : TT) : Prop :=
  ∀ (pins : List (Addr × Obj)) (s : Shared) (σ : St) (H : Hp) (Q : Bool → Hp → Prop), Inv X pins σ H s → t σ H Q → wpAny (model X.prog X.w) X.A (isTrue e X.env (eval e X.env)) (TP X pins σ Q) X.xe s
/-- a test whatever its 'whole' is (and, or) -/
def PW (X : Cx) (e : Expr) (t : TT) : Prop :=
  ∀ (whole : Sem Value) (pins : List (Addr × Obj)) (s : Shared) (σ : St) (H : Hp) (Q : Bool → Hp → Prop), Inv X pins σ H s → t σ H Q → wpAny (model X.prog X.w) X.A (isTrue e X.env whole) (TP X pins σ Q) X.xe s
theorem PW.pt {X : Cx} {e : Expr} {t : TT} (h : PW X e t) : PT X e t := h _
/-- an argument list (no star), from the left -/
def PA (X : Cx) (es : List Expr) (t : TA) : Prop :=
  ∀ (pos : Pos) (pins : List (Addr × Obj)) (s : Shared) (σ : St) (H : Hp) (Q : List V → Hp → Prop), Inv X pins σ H s → t σ H Q → wpAny (model X.prog X.w) X.A (spliced (backTo pos (starEach es X.env))) (AP X pins σ Q) X.xe s
def PS (X : Cx) (st : Stmt) (t : TS) : Prop :=
  ∀ (pins : List (Addr × Obj)) (s : Shared) (σ : St) (H : Hp) (D : Ends), Inv X pins σ H s → t D σ H → wpAny (model X.prog X.w) X.A (exec st X.env) (SP X pins D) X.xe s
def PSs (X : Cx) (st : List Stmt) (t : TS) : Prop :=
  ∀ (pins : List (Addr × Obj)) (s : Shared) (σ : St) (H : Hp) (D : Ends), Inv X pins σ H s → t D σ H → wpAny (model X.prog X.w) X.A (execs st X.env) (SP X pins D) X.xe s
/-- weaken the end -/
theorem thn {α : Type} {t : Sem α} {Q Q' : α → Shared → Prop} {M : Model} {A : Around} {E : Value → Shared → Prop} {s : Shared} (h : wpAny M A t Q E s) (hQ : ∀ a s, Q a s → Q' a s) : wpAny M A t Q' E s := wpAny_mono h hQ fun _ _ x => x
end L2

namespace L2
open PySem PySem.Spec PyProof.Rows
section
variable {X : Cx}

/-! ### names and constants -/
def tVar (i : Nat) : TE := fun σ H Q => ∃ v, σ[i]? = some (some v) ∧ Q v H
def tC (v : V) : TE := fun _ H Q => Q v H
theorem pe_var {i : Nat} {x : Str} {pos : Pos} (hN : X.N[i]? = some x) (hv : Vis X.env.scope x) (hd : (x == ("__debug__" : Str)) = false := by decide) (hcd : (x == ("__classdict__" : Str)) = false := by decide) : PE X (.Name x pos) (tVar i) := by
  intro pins s σ H Q I h
  obtain ⟨v, e, h⟩ := h
  obtain ⟨m, hn, hl⟩ := I.loc
  obtain ⟨u, r, l⟩ := hl i x v hN e hv
  have fin : EP X pins σ Q u s := ⟨v, H, I, r, h⟩
  rcases l with ⟨hk, hm⟩ | ⟨hk, c, hc, hcell⟩
  · exact wpAny_Name (wpAny_loadName_local I.ok.kind hk hn hm fin) hd
  · rcases hk with hk | hk
    · exact wpAny_Name (wpAny_loadName_cell I.ok.kind hk hc hcell fin) hd
    · exact wpAny_Name (wpAny_loadName_free I.ok.kind hk hc hcell fin hcd) hd
theorem pe_int {i j pos} : PE X (.Constant (.int i) j pos) (tC (.int i)) := fun _ _ _ H _ I h => wpAny_Constant_int ⟨.int i, H, I.tok _, ⟨_, rfl⟩, h⟩
theorem pe_non {j pos} : PE X (.Constant .none j pos) (tC .non) := fun _ _ _ H _ I h => Constant_none ⟨.non, H, I, rfl, h⟩
/-- a global name of the def -/
def Gl (X : Cx) (x : Str) : Prop := X.env.kindOf x = some .globalImplicit
theorem ld_glob {E : Value → Shared → Prop} {pins : List (Addr × Obj)} {s : Shared} {σ : St} {H : Hp} {x : Str} {u : Value} {pos : Pos} {Q : Value → Shared → Prop} (I : Inv X pins σ H s) (hg : Gl X x) (hm : X.mg x = some u) (h : Q u s)
    (hd : (x == ("__debug__" : Str)) = false := by decide) : wpAny (model X.prog X.w) X.A (eval (.Name x pos) X.env) Q E s :=
  Calls.Name_function_global I.ok.kind hg (Calls.loadGlobal_global (by rw [I.ok.glob]; exact I.mod.glob.keeps I.bk) hm h) hd
theorem ld_blt {E : Value → Shared → Prop} {pins : List (Addr × Obj)} {s : Shared} {σ : St} {H : Hp} {x : Str} {u : Value} {pos : Pos} {Q : Value → Shared → Prop} (I : Inv X pins σ H s) (hg : Gl X x) (hm : X.mg x = none) (hv : bootBuiltins x = some u) (h : Q u s)
    (hn : x ≠ "__name__" := by decide) (hd : (x == ("__debug__" : Str)) = false := by decide) : wpAny (model X.prog X.w) X.A (eval (.Name x pos) X.env) Q E s := by
  obtain ⟨mb, h1, h2⟩ := I.mod.blt
  exact Calls.Name_function_global I.ok.kind hg (Calls.loadGlobal_builtin (by rw [I.ok.glob]; exact I.mod.glob.keeps I.bk) hm (by rw [I.ok.blt]; exact h1.keeps I.bk) ((h2 x hn).trans hv) h) hd
/-- a module's constant, a class, a function, as a value -/
theorem pe_glob {x : Str} {v : V} {u : Value} {pos : Pos} (hg : Gl X x) (hm : X.mg x = some u) (r : RelV v u) (hd : (x == ("__debug__" : Str)) = false := by decide) : PE X (.Name x pos) (tC v) :=
  fun _ _ _ H _ I h => ld_glob I hg hm ⟨v, H, I, r, h⟩ hd
/-! ### arithmetic -/
variable {a b : Expr} {ta tb : TE} {pos : Pos}
/-! ### comparisons -/
def PC (X : Cx) (op : CmpOp) (a b : Expr) (t : TE) : Prop :=
  ∀ (pins : List (Addr × Obj)) (s : Shared) (σ : St) (H : Hp) (Q : VK), Inv X pins σ H s → t σ H Q →
    wpAny (model X.prog X.w) X.A (eval a X.env) (fun v s₁ => wpAny (model X.prog X.w) X.A (eval b X.env) (fun u s₂ => wpAny (model X.prog X.w) X.A (compareOp op v u) (EP X pins σ Q) X.xe s₂) X.xe s₁) X.xe s
theorem nobehind (b : Expr) {op : CmpOp} (h : op ≠ .In) (h2 : op ≠ .NotIn) : behindInMarks op b = false := by
  have e1 : (op == CmpOp.In) = false := by cases op <;> first | rfl | exact absurd rfl h
  have e2 : (op == CmpOp.NotIn) = false := by cases op <;> first | rfl | exact absurd rfl h2
  cases b <;> simp [behindInMarks, e1, e2]
/-- is None -/
def tIsN (ta : TE) : TE := fun σ H Q => ta σ H fun x H1 => Q (.bl (decide (x = .non))) H1
theorem RelV.none_iff {x : V} {v : Value} (r : RelV x v) : (v == Value.none) = decide (x = .non) := by
  cases x with
  | non => cases r; rfl
  | bl _ => cases r; rfl
  | int _ => obtain ⟨t, rfl⟩ := r; rfl
  | str _ => obtain ⟨t, rfl⟩ := r; rfl
  | byt _ => obtain ⟨t, rfl⟩ := r; rfl
  | flt _ => obtain ⟨t, rfl⟩ := r; rfl
  | ref _ => cases r; rfl
  | ty _ => cases r; rfl
theorem pc_isN {j pos'} (ha : PE X a ta) : PC X .Is a (.Constant .none j pos') (tIsN ta) := by
  intro pins s σ H Q I h
  refine thn (ha pins s σ H _ I h) fun v s1 ⟨x, H1, I1, r1, q1⟩ => ?_
  exact Constant_none (is_none_gen ⟨.bl _, H1, I1, by rw [r1.none_iff]; rfl, q1⟩)
/-- a comparison as a value, as a test -/
def tB (t : TE) : TT := fun σ H Q => t σ H fun x H1 => ∃ c, x = .bl c ∧ Q c H1
theorem pt_cmp {op : CmpOp} {t : TE} (h : PC X op a b t) (h1 : behindInMarks op b = false := by first | exact nobehind _ (by decide) (by decide) | rfl) : PT X (.Compare a [op] [b] pos) (tB t) := by
  intro pins s σ H Q I hw
  refine wpAny_isTrue_Compare1 (thn (h pins s σ H _ I hw) fun v s1 h1 => thn h1 fun u s2 h2 => thn h2 fun c s3 ⟨x, H1, I1, r1, q1⟩ => ?_) h1
  obtain ⟨d, rfl, q⟩ := q1
  cases r1
  exact wpAny_truthy_bool ⟨H1, I1, q⟩
/-- an expression whose value is a bool, as a test -/
theorem pt_val {e : Expr} {t : TE} (h : PE X e t) (he : ∀ whole, isTrue e X.env whole = (do let v ← whole; standAt e.pos; holding [v] (truthy v)) := by intro _; rfl) : PT X e (tB t) := by
  intro pins s σ H Q I hw
  refine isTrue_plain (thn (h pins s σ H _ I hw) fun v s1 ⟨x, H1, I1, r1, q1⟩ => ?_) (he _)
  obtain ⟨d, rfl, q⟩ := q1
  cases r1
  exact wpAny_truthy_bool ⟨H1, I1, q⟩

/-! ### and, or, not -/
variable {tA tB' : TT} {rest : List Expr}
def tAnd (t u : TT) : TT := fun σ H Q => t σ H fun c H1 => if c = true then u σ H1 Q else Q false H1
def tOr (t u : TT) : TT := fun σ H Q => t σ H fun c H1 => if c = true then Q true H1 else u σ H1 Q
def tNot (t : TT) : TT := fun σ H Q => t σ H fun c H1 => Q (!c) H1
theorem pw_and1 (ha : PT X a tA) : PW X (.BoolOp .And [a] pos) tA := by
  intro wh pins s σ H Q I h
  refine isTrue_and (thn (ha pins s σ H Q I h) fun c s1 e => ?_)
  cases c with
  | true => exact isTrue_and_nil e
  | false => exact e
theorem pw_or1 (ha : PT X a tA) : PW X (.BoolOp .Or [a] pos) tA := by
  intro wh pins s σ H Q I h
  refine isTrue_or (thn (ha pins s σ H Q I h) fun c s1 e => ?_)
  cases c with
  | false => exact isTrue_or_nil e
  | true => exact e
theorem pw_and (ha : PT X a tA) (hb : PW X (.BoolOp .And (b :: rest) pos) tB') : PW X (.BoolOp .And (a :: b :: rest) pos) (tAnd tA tB') := by
  intro wh pins s σ H Q I h
  refine isTrue_and (thn (ha pins s σ H _ I h) fun c s1 ⟨H1, I1, q1⟩ => ?_)
  cases c with
  | true => exact hb wh pins s1 σ H1 Q I1 q1
  | false => exact ⟨H1, I1, q1⟩
theorem pw_or (ha : PT X a tA) (hb : PW X (.BoolOp .Or (b :: rest) pos) tB') : PW X (.BoolOp .Or (a :: b :: rest) pos) (tOr tA tB') := by
  intro wh pins s σ H Q I h
  refine isTrue_or (thn (ha pins s σ H _ I h) fun c s1 ⟨H1, I1, q1⟩ => ?_)
  cases c with
  | true => exact ⟨H1, I1, q1⟩
  | false => exact hb wh pins s1 σ H1 Q I1 q1
theorem pt_not (ha : PT X a tA) : PT X (.UnaryOp .Not a pos) (tNot tA) := by
  intro pins s σ H Q I h
  exact isTrue_not (ha pins s σ H (fun c H1 => Q (!c) H1) I h)
/-- .. as values (bools) -/
def tAndV (ta tb : TE) : TE := fun σ H Q => ta σ H fun x H1 => ∃ c, x = .bl c ∧ if c = true then tb σ H1 Q else Q (.bl false) H1
def tOrV (ta tb : TE) : TE := fun σ H Q => ta σ H fun x H1 => ∃ c, x = .bl c ∧ if c = true then Q (.bl true) H1 else tb σ H1 Q
theorem pe_one {op} {t : TE} (h : PE X a t) : PE X (.BoolOp op [a] pos) t := fun pins s σ H Q I hw => BoolOp_one (h pins s σ H Q I hw)
theorem pe_and (ha : PE X a ta) (hb : PE X (.BoolOp .And (b :: rest) pos) tb) : PE X (.BoolOp .And (a :: b :: rest) pos) (tAndV ta tb) := by
  intro pins s σ H Q I h
  refine BoolOp_and (thn (ha pins s σ H _ I h) fun v s1 ⟨x, H1, I1, r1, q1⟩ => ?_)
  obtain ⟨c, rfl, q1⟩ := q1
  cases r1
  refine wpAny_truthy_bool ?_
  cases c with
  | true => exact hb pins s1 σ H1 Q I1 q1
  | false => exact ⟨.bl false, H1, I1, rfl, q1⟩
theorem pe_or (ha : PE X a ta) (hb : PE X (.BoolOp .Or (b :: rest) pos) tb) : PE X (.BoolOp .Or (a :: b :: rest) pos) (tOrV ta tb) := by
  intro pins s σ H Q I h
  refine BoolOp_or (thn (ha pins s σ H _ I h) fun v s1 ⟨x, H1, I1, r1, q1⟩ => ?_)
  obtain ⟨c, rfl, q1⟩ := q1
  cases r1
  refine wpAny_truthy_bool ?_
  cases c with
  | false => exact hb pins s1 σ H1 Q I1 q1
  | true => exact ⟨.bl true, H1, I1, rfl, q1⟩
/-- a if t else b -/
def tIf (t : TT) (ta tb : TE) : TE := fun σ H Q => t σ H fun c H1 => if c = true then ta σ H1 Q else tb σ H1 Q
theorem pe_ifExp {c : Expr} (hc : PT X c tA) (ha : PE X a ta) (hb : PE X b tb) : PE X (.IfExp c a b pos) (tIf tA ta tb) := by
  intro pins s σ H Q I h
  refine wpAny_IfExp (thn (hc pins s σ H _ I h) fun d s1 ⟨H1, I1, q1⟩ => ?_)
  cases d with
  | true => exact ha pins s1 σ H1 Q I1 q1
  | false => exact hb pins s1 σ H1 Q I1 q1
end
end L2

namespace L2
open PySem PySem.Spec PyProof.Rows

/-! ### a list, a tuple that is read: tracked, frozen, or an object of the module -/
def SqL (K : PySem.W.Frag) (H : Hp) (a : Addr) (xs : List V) : Prop :=
  Rd H a (.lst xs) ∨
    ∃ (o : Obj) (its : Array Value) (n : Nat), K.lookup a = some o ∧ o.cls = .type "list" ∧ o.dict = none ∧ o.data = .seq its n ∧ its.size ≤ sizeLine ∧ Vals xs its.toList
def SqT (K : PySem.W.Frag) (H : Hp) (a : Addr) (xs : List V) : Prop :=
  Rd H a (.tup xs) ∨
    ∃ (o : Obj) (its : Array Value) (n : Nat), K.lookup a = some o ∧ o.cls = .type "tuple" ∧ o.data = .seq its n ∧ its.size ≤ sizeLine ∧ Vals xs its.toList
def absV : Value → Option V
  | .none => some .non
  | .bool b => some (.bl b)
  | .int i _ => some (.int i)
  | .str x _ => some (.str x)
  | .bytes b _ => some (.byt b)
  | .float b _ => some (.flt b)
  | .ref a => some (.ref a)
  | .type n => some (.ty n)
  | _ => none
theorem RelV.abs {x : V} {u : Value} (r : RelV x u) : absV u = some x := by
  cases x with
  | non => cases r; rfl
  | bl _ => cases r; rfl
  | int _ => obtain ⟨t, rfl⟩ := r; rfl
  | str _ => obtain ⟨t, rfl⟩ := r; rfl
  | byt _ => obtain ⟨t, rfl⟩ := r; rfl
  | flt _ => obtain ⟨t, rfl⟩ := r; rfl
  | ref _ => cases r; rfl
  | ty _ => cases r; rfl
theorem RelV.inj {x y : V} {u : Value} (r : RelV x u) (q : RelV y u) : x = y := Option.some.inj (r.abs.symm.trans q.abs)
theorem Vals.inj : ∀ {xs ys : List V} {us : List Value}, Vals xs us → Vals ys us → xs = ys
  | _, _, _, .nil, .nil => rfl
  | _, _, _, .cons r t, .cons r' t' => by rw [r.inj r', Vals.inj t t']
section
variable {X : Cx} {pins : List (Addr × Obj)} {σ : St} {H : Hp} {s : Shared} {a : Addr} {xs ys : List V}
theorem SqL.of {K : PySem.W.Frag} (h : H a = some (.lst xs)) : SqL K H a xs := .inl (.inl h)
theorem SqT.of {K : PySem.W.Frag} (h : H a = some (.tup xs)) : SqT K H a xs := .inl (.inl h)
theorem Inv.list (I : Inv X pins σ H s) (h : SqL X.K H a xs) : ∃ its : List Value, Vals xs its ∧ PlainL s.heap a its.toArray ∧ xs.length ≤ sizeLine := by
  rcases h with h | ⟨o, its, n, hk, hc, hd, hs, hz, r⟩
  · obtain ⟨z, its, n, r, e⟩ := h.ok I.hok
    exact ⟨its, r, ⟨_, n, e, rfl, rfl, rfl⟩, z⟩
  · refine ⟨its.toList, r, ⟨o, n, I.kIn a o hk, hc, hd, by simpa using hs⟩, ?_⟩
    have e := r.length
    simp only [Array.length_toList] at e
    omega
theorem Inv.tuple (I : Inv X pins σ H s) (h : SqT X.K H a xs) : ∃ its : List Value, Vals xs its ∧ IsTup s.heap a its.toArray ∧ xs.length ≤ sizeLine := by
  rcases h with h | ⟨o, its, n, hk, hc, hs, hz, r⟩
  · obtain ⟨z, its, r, p⟩ := h.ok I.hok
    exact ⟨its, r, p, z⟩
  · refine ⟨its.toList, r, ⟨o, I.kIn a o hk, hc, n, by simpa using hs⟩, ?_⟩
    have e := r.length
    simp only [Array.length_toList] at e
    omega
theorem Inv.list_inj (I : Inv X pins σ H s) (h : SqL X.K H a xs) (h' : SqL X.K H a ys) : xs = ys := by
  obtain ⟨its, r, ⟨o, n, e, _, _, d⟩, _⟩ := I.list h
  obtain ⟨its', r', ⟨o', n', e', _, _, d'⟩, _⟩ := I.list h'
  rw [e] at e'; cases e'
  rw [d] at d'
  injection d' with d1 _
  have : its = its' := by simpa using congrArg Array.toList d1
  subst this
  exact r.inj r'
theorem Inv.tuple_inj (I : Inv X pins σ H s) (h : SqT X.K H a xs) (h' : SqT X.K H a ys) : xs = ys := by
  obtain ⟨its, r, ⟨o, e, _, n, d⟩, _⟩ := I.tuple h
  obtain ⟨its', r', ⟨o', e', _, n', d'⟩, _⟩ := I.tuple h'
  rw [e] at e'; cases e'
  rw [d] at d'
  injection d' with d1 _
  have : its = its' := by simpa using congrArg Array.toList d1
  subst this
  exact r.inj r'
end

/-! ### another wish about exceptions -/
abbrev Cx.wish (X : Cx) (E : Value → Shared → Prop) : Cx := { X with xe := E }
/-- no exception leaves -/
abbrev Cx.nox (X : Cx) : Cx := X.wish fun _ _ => False
theorem Cx.Ok.wish {X : Cx} (ok : X.Ok) (E : Value → Shared → Prop) : (X.wish E).Ok :=
  ⟨ok.mod, ok.kind, ok.glob, ok.blt, ok.above, ok.inj, ok.has, ok.cab, ok.hd, ok.frames, ok.stk, ok.exf, ok.bs, ok.bsz, ok.noex, ok.exfs, ok.funs, ok.frf⟩
theorem Cx.Ok.unwish {X : Cx} {E : Value → Shared → Prop} (ok : (X.wish E).Ok) : X.Ok :=
  ⟨ok.mod, ok.kind, ok.glob, ok.blt, ok.above, ok.inj, ok.has, ok.cab, ok.hd, ok.frames, ok.stk, ok.exf, ok.bs, ok.bsz, ok.noex, ok.exfs, ok.funs, ok.frf⟩
section
variable {X : Cx} {pins : List (Addr × Obj)} {σ : St} {H : Hp} {s : Shared} {E : Value → Shared → Prop}
theorem Inv.wish (I : Inv X pins σ H s) (E : Value → Shared → Prop) : Inv (X.wish E) pins σ H s := ⟨I.ok.wish E, I.os, I.bare, I.base, I.loc, I.cell, I.free, I.freeC, I.pin, I.hok, I.len⟩
theorem Inv.unwish (I : Inv (X.wish E) pins σ H s) : Inv X pins σ H s := ⟨I.ok.unwish, I.os, I.bare, I.base, I.loc, I.cell, I.free, I.freeC, I.pin, I.hok, I.len⟩
theorem SP.unwish {D : Ends} {f : Flow} {s' : Shared} (h : SP (X.wish E) pins D f s') : SP X pins D f s' := by
  cases f with
  | next => obtain ⟨σ', H', I, q⟩ := h; exact ⟨σ', H', I.unwish, q⟩
  | brk => obtain ⟨σ', H', I, q⟩ := h; exact ⟨σ', H', I.unwish, q⟩
  | cont => obtain ⟨σ', H', I, q⟩ := h; exact ⟨σ', H', I.unwish, q⟩
  | ret u => obtain ⟨v, σ', H', I, r, q⟩ := h; exact ⟨v, σ', H', I.unwish, r, q⟩
theorem PSs.nox {st : List Stmt} {t : TS} (h : PSs X.nox st t) : PSs X st t := fun pins s σ H D I hw =>
  wpAny_mono (h pins s σ H D (I.wish _) hw) (fun _ _ q => q.unwish) fun _ _ z => False.elim z
end

/-! ### blocks and small statements -/
section
variable {X : Cx} {st : Stmt} {rest : List Stmt} {t u : TS} {e : Expr} {te : TE} {pos : Pos}
def tNext : TS := fun D σ H => D.nx σ H
def tSeq (t u : TS) : TS := fun D σ H => t { D with nx := u D } σ H
theorem pss_nil : PSs X [] tNext := fun _ _ σ H _ I h => wpAny_execs_nil ⟨σ, H, I, h⟩
theorem pss_cons (h1 : PS X st t) (h2 : PSs X rest u) : PSs X (st :: rest) (tSeq t u) := by
  intro pins s σ H D I h
  refine wpAny_execs_cons (thn (h1 pins s σ H { D with nx := u D } I h) fun f s1 q => ?_)
  cases f with
  | next =>
    obtain ⟨σ', H', I', q⟩ := q
    exact h2 pins s1 σ' H' D I' q
  | ret v => exact q
  | brk => exact q
  | cont => exact q
theorem pss_one (h1 : PS X st t) : PSs X [st] t := by
  intro pins s σ H D I h
  refine wpAny_execs_cons (thn (h1 pins s σ H D I h) fun f s1 q => ?_)
  cases f with
  | next => exact wpAny_execs_nil q
  | ret v => exact q
  | brk => exact q
  | cont => exact q
/-- in a def's body nothing is shown -/
theorem Inv.quiet {pins : List (Addr × Obj)} {σ : St} {H : Hp} {s : Shared} (I : Inv X pins σ H s) : interactive X.env = false := by simp [interactive, I.ok.kind]
/-- an expression whose value is dropped -/
def tDrop (te : TE) : TS := fun D σ H => te σ H fun _ H1 => D.nx σ H1
theorem ps_expr (he : PE X e te) (hs : swapsWith e none pos.line X.env = pure false := by rfl) : PS X (.Expr e pos) (tDrop te) := by
  intro pins s σ H D I h
  exact wpAny_Expr_any (thn (he pins s σ H _ I h) fun v s1 ⟨x, H1, I1, r1, q1⟩ => ⟨σ, H1, I1, q1⟩) I.quiet hs
def tRet (te : TE) : TS := fun D σ H => te σ H D.rt
theorem ps_ret (he : PE X e te) : PS X (.Return (some e) pos) (tRet te) := by
  intro pins s σ H D I h
  exact wpAny_Return_some (thn (he pins s σ H _ I h) fun v s1 ⟨x, H1, I1, r1, q1⟩ => ⟨x, σ, H1, I1, r1, q1⟩)
def tIfS (c : TT) (t u : TS) : TS := fun D σ H => c σ H fun b H1 => if b = true then t D σ H1 else u D σ H1
theorem ps_if {c : Expr} {a b : List Stmt} {tc : TT} (hc : PT X c tc) (ha : PSs X a t) (hb : PSs X b u) : PS X (.If c a b pos) (tIfS tc t u) := by
  intro pins s σ H D I h
  refine wpAny_If (thn (hc pins s σ H _ I h) fun d s1 ⟨H1, I1, q1⟩ => ?_)
  cases d with
  | true => exact ha pins s1 σ H1 D I1 q1
  | false => exact hb pins s1 σ H1 D I1 q1
end

/-! ### targets -/
abbrev TG := V → St → Hp → (St → Hp → Prop) → Prop
abbrev TGs := List V → St → Hp → (St → Hp → Prop) → Prop
def PG (X : Cx) (target : Expr) (t : TG) : Prop :=
  ∀ (pins : List (Addr × Obj)) (s : Shared) (σ : St) (H : Hp) (v : V) (u : Value) (Q : St → Hp → Prop), Inv X pins σ H s → RelV v u → t v σ H Q →
    wpAny (model X.prog X.w) X.A (assign target X.env u) (fun _ s' => ∃ σ' H', Inv X pins σ' H' s' ∧ Q σ' H') X.xe s
/-- several targets, one after another -/
def PGs (X : Cx) (ts : List Expr) (t : TGs) : Prop :=
  ∀ (pins : List (Addr × Obj)) (s : Shared) (σ : St) (H : Hp) (vs : List V) (us : List Value) (Q : St → Hp → Prop), Inv X pins σ H s → Vals vs us → t vs σ H Q →
    wpAny (model X.prog X.w) X.A (assignInOrder ((assignEach ts X.env).map (·.2)) us) (fun _ s' => ∃ σ' H', Inv X pins σ' H' s' ∧ Q σ' H') X.xe s
/-- o[i] = v, by values -/
abbrev TSet := V → V → V → Hp → (Hp → Prop) → Prop
def PSet (X : Cx) (t : TSet) : Prop :=
  ∀ (pins : List (Addr × Obj)) (s : Shared) (σ : St) (H : Hp) (o i v : V) (ov iv u : Value) (Q : Hp → Prop), Inv X pins σ H s → RelV o ov → RelV i iv → RelV v u → t o i v H Q →
    wpAny (model X.prog X.w) X.A (setItem ov iv u) (fun _ s' => ∃ H', Inv X pins σ H' s' ∧ Q H') X.xe s
/-- a op= b, by values -/
abbrev TIp := V → V → Hp → VK → Prop
def PIp (X : Cx) (op : Operator) (t : TIp) : Prop :=
  ∀ (pins : List (Addr × Obj)) (s : Shared) (σ : St) (H : Hp) (x y : V) (v u : Value) (Q : VK), Inv X pins σ H s → RelV x v → RelV y u → t x y H Q →
    wpAny (model X.prog X.w) X.A (inplaceOp op v u) (EP X pins σ Q) X.xe s
section
variable {X : Cx} {pos : Pos}
def gName (i : Nat) : TG := fun v σ H Q => Q (σ.set i (some v)) H
theorem pg_name {i : Nat} {x : Str} (hN : X.N.Nodup) (hi : X.N[i]? = some x) (hx : Loc X.env.scope x) (hf : X.fn x = true ∨ X.env.scope.names.lookup x = some .local := by first | exact .inl rfl | exact .inr rfl | assumption) : PG X (.Name x pos) (gName i) := by
  intro pins s σ H v u Q I r h
  exact wpAny_assign_Name (store_ok I hN hi hx r (fun s' I' => ⟨_, H, I', h⟩) hf)
def gNil : TGs := fun vs σ H Q => vs = [] ∧ Q σ H
def gCons (t : TG) (u : TGs) : TGs := fun vs σ H Q => ∃ v r, vs = v :: r ∧ t v σ H fun σ' H' => u r σ' H' Q
theorem pgs_nil : PGs X [] gNil := by
  intro pins s σ H vs us Q I r h
  obtain ⟨e, h⟩ := h
  subst e
  cases r
  exact assignInOrder_nil ⟨σ, H, I, h⟩
theorem pgs_cons {e : Expr} {es : List Expr} {t : TG} {u : TGs} (h1 : PG X e t) (h2 : PGs X es u)
    (hs : (assignEach (e :: es) X.env).map (·.2) = assign e X.env :: (assignEach es X.env).map (·.2) := by rfl) : PGs X (e :: es) (gCons t u) := by
  intro pins s σ H vs us Q I r h
  obtain ⟨v, vr, e1, h⟩ := h
  subst e1
  cases r with
  | cons r rr =>
    rw [hs]
    refine assignInOrder_cons (thn (h1 pins s σ H _ _ _ I r h) fun _ s1 ⟨σ1, H1, I1, q1⟩ => ?_)
    exact h2 pins s1 σ1 H1 _ _ Q I1 rr q1
/-- (a, b, ..) = a tuple of that length -/
def gTup (K : PySem.W.Frag) (n : Nat) (t : TGs) : TG := fun v σ H Q => ∃ a xs, v = .ref a ∧ SqT K H a xs ∧ xs.length = n ∧ t xs σ H Q
theorem pg_tup {es : List Expr} {k : Nat} {t : TGs} {n : Nat} (hc : X.calm = true) (h : PGs X es t)
    (hn : (assignEach es X.env).length = n := by rfl) (hst : (assignEach es X.env).findIdx? (·.1) = none := by rfl) : PG X (.Tuple es k pos) (gTup X.K n t) := by
  intro pins s σ H v u Q I r hw
  obtain ⟨a, xs, e1, hq, hl, hw⟩ := hw
  subst e1
  cases r
  obtain ⟨its, rv, ht, hz⟩ := I.tuple hq
  refine assign_Tuple_tuple (I.ok.hd hc) ht (by simp [hn, ← hl, rv.length]) hst fun h' hx => ?_
  have I1 : Inv X pins σ H { s with heap := h' } := I.kept (t' := s.toks) fun b o e => hx b o (Nat.ne_of_lt (Heap.lt_size e)) e
  exact h pins _ σ H xs _ Q I1 (by simpa using rv) hw
/-- target = value -/
def tAsg (te : TE) (g : TG) : TS := fun D σ H => te σ H fun x H1 => g x σ H1 D.nx
/-- name = value -/
theorem ps_set {i : Nat} {x : Str} {e : Expr} {te : TE} {pos' : Pos} (hN : X.N.Nodup) (hi : X.N[i]? = some x) (hx : Loc X.env.scope x) (he : PE X e te) (hs : swapsWith e (some (.Name x pos')) pos.line X.env = pure false := by rfl) (hf : X.fn x = true ∨ X.env.scope.names.lookup x = some .local := by first | exact .inl rfl | exact .inr rfl | assumption) :
    PS X (.Assign [.Name x pos'] e pos) (tAsg te (gName i)) := by
  intro pins s σ H D I h
  refine wpAny_Assign_Name (thn (he pins s σ H _ I h) fun v s1 ⟨y, H1, I1, r1, q1⟩ => ?_) hs
  exact store_ok I1 hN hi hx r1 (fun s2 I2 => ⟨_, H1, I2, q1⟩) hf
/-- name op= e -/
def tAug (i : Nat) (te : TE) (ti : TIp) : TS := fun D σ H => ∃ x, σ[i]? = some (some x) ∧ te σ H fun y H1 => ti x y H1 fun z H2 => D.nx (σ.set i (some z)) H2
theorem ps_aug {i : Nat} {x : Str} {e : Expr} {te : TE} {op : Operator} {ti : TIp} {pos' : Pos} (hN : X.N.Nodup) (hi : X.N[i]? = some x) (hx : Loc X.env.scope x) (he : PE X e te) (ho : PIp X op ti) (hf : X.fn x = true ∨ X.env.scope.names.lookup x = some .local := by first | exact .inl rfl | exact .inr rfl | assumption) :
    PS X (.AugAssign (.Name x pos') op e pos) (tAug i te ti) := by
  intro pins s σ H D I h
  obtain ⟨v, e1, h⟩ := h
  obtain ⟨m, hn, hl⟩ := I.loc
  have vis : Vis X.env.scope x := by rcases hx with k | k; exact .inl k; exact .inr (.inl k)
  obtain ⟨u, r, l⟩ := hl i x v hi e1 vis
  refine wpAny_AugAssign_Name ?_
  have go : wpAny (model X.prog X.w) X.A (eval e X.env) (fun w s₂ => wpAny (model X.prog X.w) X.A (inplaceOp op u w) (fun r s₃ => wpAny (model X.prog X.w) X.A (storeName X.env x r) (fun _ => SP X pins D .next) X.xe s₃) X.xe s₂) X.xe s := by
    refine thn (he pins s σ H _ I h) fun w s1 ⟨y, H1, I1, r1, q1⟩ => ?_
    refine thn (ho pins s1 σ H1 v y u w _ I1 r r1 q1) fun z s2 ⟨zv, H2, I2, r2, q2⟩ => ?_
    exact store_ok I2 hN hi hx r2 (fun s3 I3 => ⟨_, H2, I3, q2⟩) hf
  rcases l with ⟨hk, hm⟩ | ⟨hk, c, hc, hcell⟩
  · exact wpAny_loadName_local I.ok.kind hk hn hm go
  · rcases hk with hk | hk
    · exact wpAny_loadName_cell I.ok.kind hk hc hcell go
    · rcases hx with k | k
      · have : X.env.scope.names.lookup x = some .free := hk
        rw [k] at this; cases this
      · have : X.env.scope.names.lookup x = some .free := hk
        rw [k] at this; cases this
/-- o[i] op= e -/
def tAugS (to ti te : TE) (tget : V → V → Hp → VK → Prop) (tip : TIp) (tset : TSet) : TS := fun D σ H => to σ H fun o H1 => ti σ H1 fun i H2 => tget o i H2 fun x H3 => te σ H3 fun y H4 => tip x y H4 fun z H5 => tset o i z H5 fun H6 => D.nx σ H6
/-- o[i], by values -/
def PGet (X : Cx) (t : V → V → Hp → VK → Prop) : Prop :=
  ∀ (pins : List (Addr × Obj)) (s : Shared) (σ : St) (H : Hp) (o i : V) (ov iv : Value) (Q : VK), Inv X pins σ H s → RelV o ov → RelV i iv → t o i H Q →
    wpAny (model X.prog X.w) X.A (getItem ov iv) (EP X pins σ Q) X.xe s
theorem ps_augS {o i e : Expr} {to ti te : TE} {tget : V → V → Hp → VK → Prop} {tip : TIp} {tset : TSet} {op : Operator} {tpos : Pos} (ho : PE X o to) (hi : PE X i ti) (hg : PGet X tget) (he : PE X e te) (hp : PIp X op tip) (hs : PSet X tset)
    (ha : ∀ ov iv new, augStore i ov iv new = (do holding [new, ov, iv] (setItem ov iv new); release [new, ov, iv] []; pure .next) := by intros; rfl) : PS X (.AugAssign (.Subscript o i tpos) op e pos) (tAugS to ti te tget tip tset) := by
  intro pins s σ H D I h
  refine wpAny_AugAssign_SubscriptAny (thn (ho pins s σ H _ I h) fun ov s1 ⟨x1, H1, I1, r1, q1⟩ => ?_) ha
  refine thn (hi pins s1 σ H1 _ I1 q1) fun iv s2 ⟨x2, H2, I2, r2, q2⟩ => ?_
  refine thn (hg pins s2 σ H2 x1 x2 ov iv _ I2 r1 r2 q2) fun old s3 ⟨x3, H3, I3, r3, q3⟩ => ?_
  refine thn (he pins s3 σ H3 _ I3 q3) fun v s4 ⟨x4, H4, I4, r4, q4⟩ => ?_
  refine thn (hp pins s4 σ H4 x3 x4 old v _ I4 r3 r4 q4) fun new s5 ⟨x5, H5, I5, r5, q5⟩ => ?_
  exact thn (hs pins s5 σ H5 x1 x2 x5 ov iv new _ I5 r1 r2 r5 q5) fun _ s6 ⟨H6, I6, q6⟩ => ⟨σ, H6, I6, q6⟩
/-- ints -/
def ipI (f : Int → Int → Int) : TIp := fun x y H Q => ∃ i j, x = .int i ∧ y = .int j ∧ Q (.int (f i j)) H
theorem ip_add : PIp X .Add (ipI fun i j => i + j) := by
  intro pins s σ H x y v u Q I r1 r2 h
  obtain ⟨i, j, e1, e2, q⟩ := h
  subst e1; subst e2
  obtain ⟨t, rfl⟩ := r1
  obtain ⟨t', rfl⟩ := r2
  exact iadd_int ⟨.int _, H, I.tok _, ⟨_, rfl⟩, q⟩
end

/-! ### while -/
section
variable {X : Cx} {pos : Pos}
/-- the invariant W with its measure -/
def tWhile (c : TT) (tb : TS) : TS := fun D σ H => ∃ W : Nat → St → Hp → Prop, (∃ m, W m σ H) ∧ ∀ m σ H, W m σ H →
  c σ H fun b H1 => if b = true then ∃ N : St → Hp → Prop, (∀ σ' H', N σ' H' → ∃ m', m' < m ∧ W m' σ' H') ∧ tb { D with nx := N, ct := N, bk := D.nx } σ H1 else D.nx σ H1
theorem ps_while {c : Expr} {body : List Stmt} {tc : TT} {tb : TS} (hp : PassesOwn (model X.prog X.w) X.A X.env X.xe) (hc : PT X c tc) (hb : PSs X body tb) : PS X (.While c body [] pos) (tWhile tc tb) := by
  intro pins s σ H D I h
  obtain ⟨W, ⟨m0, w0⟩, turn⟩ := h
  refine wpAny_While (codeAny_whileLoop (fun n s' => ∃ σ' H', Inv X pins σ' H' s' ∧ W n σ' H') ?_ m0 ⟨σ, H, I, w0⟩)
  rintro n s1 ⟨σ1, H1, I1, w1⟩
  refine wpAny_passesOwn hp (thn (hc pins s1 σ1 H1 _ I1 (turn n σ1 H1 w1)) fun b s2 ⟨H2, I2, q2⟩ => ?_)
  cases b with
  | true =>
    obtain ⟨N, hN, q2⟩ := q2
    rw [if_pos rfl]
    refine wpAny_passesOwn hp (thn (hb pins s2 σ1 H2 _ I2 q2) fun f s3 q3 => ?_)
    cases f with
    | next =>
      obtain ⟨σ3, H3, I3, n3⟩ := q3
      obtain ⟨m', hm, w3⟩ := hN σ3 H3 n3
      exact ⟨m', hm, σ3, H3, I3, w3⟩
    | cont =>
      obtain ⟨σ3, H3, I3, n3⟩ := q3
      obtain ⟨m', hm, w3⟩ := hN σ3 H3 n3
      exact ⟨m', hm, σ3, H3, I3, w3⟩
    | brk => exact q3
    | ret v => exact q3
  | false =>
    rw [if_neg Bool.false_ne_true]
    exact wpAny_execs_nil ⟨σ1, H2, I2, q2⟩
end

/-! ### what a loop or a comprehension walks -/
/-- at turn i: it yields x (the heap may grow), or it stops -/
structure It where
  go : Nat → Hp → Prop
  yld : Nat → Hp → V → Hp → Prop
  stop : Nat → Hp → Prop
/-- the iterator's own objects may turn: they are not the frame's, not pinned, younger than the entry (or a comprehension's own) -/
def FpOk (X : Cx) (pins : List (Addr × Obj)) (H : Hp) (b : Addr) : Prop :=
  H b = none ∧ b ≠ X.env.locals ∧ b ∉ X.fs ∧ (b ∈ X.ex ∨ X.s_0.heap.objs.size ≤ b) ∧ (∀ x c, X.env.cells.lookup x = some c → c ≠ b) ∧ ∀ p ∈ X.pn ++ pins, p.1 ≠ b
theorem Inv.fpOk {X : Cx} {pins : List (Addr × Obj)} {σ : St} {H H' : Hp} {s : Shared} {b : Addr} (I : Inv X pins σ H s) (hb : s.heap.objs.size ≤ b) (hn : H' b = none) : FpOk X pins H' b := by
  refine ⟨hn, Nat.ne_of_gt (Nat.lt_of_lt_of_le I.lt hb), I.nofs hb, .inr (Nat.le_trans I.sz hb), fun x c e z => ?_, fun p hp z => ?_⟩
  · obtain ⟨v, q⟩ := I.cell x c e
    exact absurd (Nat.lt_of_lt_of_le q.lt (by rw [z]; exact hb)) (Nat.lt_irrefl _)
  · exact absurd (Nat.lt_of_lt_of_le (Heap.lt_size (I.pin p hp).1) (by rw [z]; exact hb)) (Nat.lt_irrefl _)
structure Turn (P : Program) (w : World) (K : PySem.W.Frag) (tg : Expr) (J : It) (fp : List Addr) (it : Addr) (tn : Nat → Heap → Prop) : Prop where
  mem : it ∈ fp
  obj : ∀ i h, tn i h → ∀ b ∈ fp, ∃ o, h.get? b = some o ∧ ∀ v, o.data ≠ .cell v
  keep : ∀ i h h', tn i h → (∀ b ∈ fp, ∀ o, h.get? b = some o → h'.get? b = some o) → tn i h'
  item : ∀ (X : Cx), X.prog = P → X.w = w → X.K = K → X.calm = true → ∀ (i : Nat) (pins : List (Addr × Obj)) (s : Shared) (σ : St) (H : Hp) (E : Value → Shared → Prop), Inv X pins σ H s → (∀ b ∈ fp, FpOk X pins H b) → tn i s.heap → J.go i H →
    wpAny (model P w) X.A (pyNext (.ref it)) (fun r s1 => ∃ u, r = some u ∧
      wpAny (model P w) X.A (letOwnedTupleGo tg (.ref it) u) (fun _ s2 => ∃ x H', Inv X pins σ H' s2 ∧ RelV x u ∧ J.yld i H x H' ∧ tn (i + 1) s2.heap ∧ ∀ b ∈ fp, H' b = none) E s1) E s
  done : ∀ (X : Cx), X.prog = P → X.w = w → X.K = K → X.calm = true → ∀ (i : Nat) (pins : List (Addr × Obj)) (s : Shared) (σ : St) (H : Hp) (E : Value → Shared → Prop), Inv X pins σ H s → (∀ b ∈ fp, FpOk X pins H b) → tn i s.heap → J.stop i H →
    wpAny (model P w) X.A (pyNext (.ref it)) (fun r s1 => r = none ∧ Inv X pins σ H s1) E s
  self : ∀ (A : Around) (i : Nat) (s : Shared) (Q : Value → Shared → Prop) (E : Value → Shared → Prop), tn i s.heap → Q (.ref it) s → wpAny (model P w) A (pyIter (.ref it)) Q E s
abbrev TI := St → Hp → (It → Hp → Prop) → Prop
/-- an iterator has come -/
def PIE (X : Cx) (pins : List (Addr × Obj)) (σ : St) (tg : Expr) (R : It → Hp → Prop) (itv : Value) (s2 : Shared) : Prop :=
  ∃ (it : Addr) (fp : List Addr) (tn : Nat → Heap → Prop) (J : It) (H' : Hp), itv = .ref it ∧ Inv X pins σ H' s2 ∧ Turn X.prog X.w X.K tg J fp it tn ∧ tn 0 s2.heap ∧ (∀ b ∈ fp, FpOk X pins H' b) ∧ R J H'
def PI (X : Cx) (tg iter : Expr) (wi : TI) : Prop :=
  ∀ (pins : List (Addr × Obj)) (s : Shared) (σ : St) (H : Hp) (R : It → Hp → Prop), Inv X pins σ H s → wi σ H R →
    wpAny (model X.prog X.w) X.A (eval iter X.env) (fun v s1 => wpAny (model X.prog X.w) X.A (pyIter v) (PIE X pins σ tg R) X.xe s1) X.xe s

/-- the step ahead of the store is nothing for an iterator that keeps no tuple -/
theorem go_of {M : Model} {A : Around} {E : Value → Shared → Prop} {s : Shared} {tg : Expr} {it : Addr} {u : Value} {o : Obj} {n : String} {vs : Array Value} {Q : Unit → Shared → Prop} (ho : s.heap.get? it = some o) (hc : o.cls = .type n) (hd : o.data = .fields vs)
    (hn : ["enumerate", "zip", "dict_itemiterator", "dict_reverseitemiterator", "odict_iterator", "itertools.zip_longest", "itertools.pairwise"].contains n = false) (hQ : Q () s) : wpAny M A (letOwnedTupleGo tg (.ref it) u) Q E s := by
  unfold letOwnedTupleGo
  cases tg <;> first
    | exact wpAny_pure hQ
    | (cases u <;> first
        | exact wpAny_pure hQ
        | (refine wpAny_bind (wpAny_load ho ?_)
           rw [hc, hd]
           show wpAny M A (if (["enumerate", "zip", "dict_itemiterator", "dict_reverseitemiterator", "odict_iterator", "itertools.zip_longest", "itertools.pairwise"].contains n && vs[0]? == some (rawInt _)) = true then _ else _) Q E s
           rw [if_neg (by intro h; rw [hn, Bool.false_and] at h; cases h)]
           exact wpAny_pure hQ))

/-- the list at a, as it stands at each turn (a loop may append to it) -/
def Itl (K : PySem.W.Frag) (a : Addr) : It :=
  ⟨fun i H => ∃ xs x, SqL K H a xs ∧ xs[i]? = some x, fun i H x H' => H' = H ∧ ∀ xs, SqL K H a xs → xs[i]? = some x, fun i H => ∃ xs, SqL K H a xs ∧ xs.length ≤ i⟩
def Itt (K : PySem.W.Frag) (a : Addr) : It :=
  ⟨fun i H => ∃ xs x, SqT K H a xs ∧ xs[i]? = some x, fun i H x H' => H' = H ∧ ∀ xs, SqT K H a xs → xs[i]? = some x, fun i H => ∃ xs, SqT K H a xs ∧ xs.length ≤ i⟩
/-- lo, lo + 1, .. (n of them) -/
def Itr (lo : Int) (n : Nat) : It := ⟨fun i _ => i < n, fun i H x H' => H' = H ∧ x = .int (lo + i), fun i _ => n ≤ i⟩
theorem turn_list {P : Program} {w : World} {K : PySem.W.Frag} {tg : Expr} (a it : Addr) : Turn P w K tg (Itl K a) [it] it (fun i h => h.IsListIter it a i) where
  mem := by simp
  obj := fun i h st b hb => by
    have e : b = it := by simpa using hb
    subst e
    obtain ⟨o, e, c, d⟩ := st
    exact ⟨o, e, fun v z => by rw [d] at z; cases z⟩
  keep := fun i h h' st k => st.at fun o e => k it (by simp) o e
  item := by
    intro X hP hw hK hc i pins s σ H E I hf st hg
    subst hP hw hK
    obtain ⟨xs, x, hq, hx⟩ := hg
    obtain ⟨its, rv, p, hz⟩ := I.list hq
    obtain ⟨u, hu, ru⟩ := rv.get hx
    obtain ⟨f0, f1, f2, f3, f4, f5⟩ := hf it (by simp)
    refine wpAny_pyNext_list_item st p.isList (x := u) (by simpa using hu) fun h' st' sb => ?_
    have I1 : Inv X pins σ H { s with heap := h' } := I.turned (t' := s.toks) (fun b o hb e => (sb.2 b hb).trans e) f0 f1 f3 f4 f5
    obtain ⟨o, e, c, d⟩ := id st'
    exact ⟨u, rfl, go_of (s := { s with heap := h' }) e c d (by decide) ⟨x, H, I1, ru, ⟨rfl, fun ys hy => by rw [I.list_inj hy hq]; exact hx⟩, st', fun b hb => (hf b hb).1⟩⟩
  done := by
    intro X hP hw hK hc i pins s σ H E I hf st hg
    subst hP hw hK
    obtain ⟨xs, hq, hx⟩ := hg
    obtain ⟨its, rv, p, hz⟩ := I.list hq
    obtain ⟨f0, f1, f2, f3, f4, f5⟩ := hf it (by simp)
    have hl := rv.length
    exact wpAny_pyNext_list_end (I.ok.hd hc) st p.isList (by simp; omega) fun h' eb => ⟨rfl, I.turned (t' := s.toks) (fun b o hb e => eb b o hb e) f0 f1 f3 f4 f5⟩
  self := fun _ _ _ _ _ st h => wpAny_pyIter_listiter st h
theorem turn_tuple {P : Program} {w : World} {K : PySem.W.Frag} {tg : Expr} (a it : Addr) : Turn P w K tg (Itt K a) [it] it (fun i h => h.IsTupleIter it a i) where
  mem := by simp
  obj := fun i h st b hb => by
    have e : b = it := by simpa using hb
    subst e
    obtain ⟨o, e, c, d⟩ := st
    exact ⟨o, e, fun v z => by rw [d] at z; cases z⟩
  keep := fun i h h' st k => st.at fun o e => k it (by simp) o e
  item := by
    intro X hP hw hK hc i pins s σ H E I hf st hg
    subst hP hw hK
    obtain ⟨xs, x, hq, hx⟩ := hg
    obtain ⟨its, rv, p, hz⟩ := I.tuple hq
    obtain ⟨u, hu, ru⟩ := rv.get hx
    obtain ⟨f0, f1, f2, f3, f4, f5⟩ := hf it (by simp)
    refine wpAny_pyNext_tuple_item st (show s.heap.IsTuple a its.toArray from p) (x := u) (by simpa using hu) fun h' st' sb => ?_
    have I1 : Inv X pins σ H { s with heap := h' } := I.turned (t' := s.toks) (fun b o hb e => (sb.2 b hb).trans e) f0 f1 f3 f4 f5
    obtain ⟨o, e, c, d⟩ := id st'
    exact ⟨u, rfl, go_of (s := { s with heap := h' }) e c d (by decide) ⟨x, H, I1, ru, ⟨rfl, fun ys hy => by rw [I.tuple_inj hy hq]; exact hx⟩, st', fun b hb => (hf b hb).1⟩⟩
  done := by
    intro X hP hw hK hc i pins s σ H E I hf st hg
    subst hP hw hK
    obtain ⟨xs, hq, hx⟩ := hg
    obtain ⟨its, rv, p, hz⟩ := I.tuple hq
    obtain ⟨f0, f1, f2, f3, f4, f5⟩ := hf it (by simp)
    have hl := rv.length
    exact wpAny_pyNext_tuple_end (I.ok.hd hc) st (show s.heap.IsTuple a its.toArray from p) (by simp; omega) fun h' eb => ⟨rfl, I.turned (t' := s.toks) (fun b o hb e => eb b o hb e) f0 f1 f3 f4 f5⟩
  self := fun _ _ _ _ _ st h => wpAny_pyIter_tupleiter st h
theorem turn_range {P : Program} {w : World} {K : PySem.W.Frag} {tg : Expr} (it : Addr) (lo : Int) (n : Nat) : Turn P w K tg (Itr lo n) [it] it (fun i h => IsRangeIter h it (lo + (i : Nat) * 1) ((n : Int) - (i : Nat)) 1) where
  mem := by simp
  obj := fun i h st b hb => by
    have e : b = it := by simpa using hb
    subst e
    exact ⟨_, st, fun v z => by
      have z' : Data.fields _ = Data.cell v := z
      cases z'⟩
  keep := fun i h h' st k => k it (by simp) _ st
  item := by
    intro X hP hw hK hc i pins s σ H E I hf st hg
    subst hP hw hK
    obtain ⟨f0, f1, f2, f3, f4, f5⟩ := hf it (by simp)
    have W := Walks.range (prog := X.prog) (w := X.w) (I.ok.hd hc) it lo 1 n
    refine W.item i s _ _ hg st fun v h' tk hv st' kk => ?_
    obtain ⟨t, rfl⟩ := hv
    have I1 : Inv X pins σ H { s with heap := h', toks := tk } := I.turned (fun b o hb e => kk b o (by simpa using hb) e) f0 f1 f3 f4 f5
    refine ⟨_, rfl, go_of (s := { s with heap := h', toks := tk }) (n := "range_iterator") st' rfl rfl (by decide) ⟨.int (lo + i), H, I1, ⟨t, ?_⟩, ⟨rfl, rfl⟩, st', fun b hb => (hf b hb).1⟩⟩
    rw [Int.mul_one]
  done := by
    intro X hP hw hK hc i pins s σ H E I hf st hg
    subst hP hw hK
    obtain ⟨f0, f1, f2, f3, f4, f5⟩ := hf it (by simp)
    exact wpAny_pyNext_range_end (I.ok.hd hc) st (by have : n ≤ i := hg; omega) fun h' eb => ⟨rfl, I.turned (t' := s.toks) (fun b o hb e => eb b o hb e) f0 f1 f3 f4 f5⟩
  self := fun _ _ _ _ _ st h => wpAny_pyIter_rangeiter st h
end L2

namespace L2
open PySem PySem.Spec PyProof.Rows
section
variable {X : Cx} {tg : Expr}
def iList (K : PySem.W.Frag) (tl : TE) : TI := fun σ H R => tl σ H fun x H1 => ∃ a, x = .ref a ∧ (∃ xs, SqL K H1 a xs) ∧ R (Itl K a) H1
def iTup (K : PySem.W.Frag) (tl : TE) : TI := fun σ H R => tl σ H fun x H1 => ∃ a, x = .ref a ∧ (∃ xs, SqT K H1 a xs) ∧ R (Itt K a) H1
theorem pi_list {l : Expr} {tl : TE} (hl : PE X l tl) : PI X tg l (iList X.K tl) := by
  intro pins s σ H R I h
  refine thn (hl pins s σ H _ I h) fun v s1 ⟨x, H1, I1, r1, q1⟩ => ?_
  obtain ⟨a, e, ⟨xs, hq⟩, q⟩ := q1
  subst e
  cases r1
  obtain ⟨its, rv, p, hz⟩ := I1.list hq
  refine wpAny_pyIter_list p.isList ?_
  refine ⟨s1.heap.objs.size, [s1.heap.objs.size], _, _, H1, rfl, I1.kept (t' := s1.toks) fun b o e => Heap.get?_push_of_some _ e, turn_list a _, ⟨_, Heap.get?_push_size _ rfl, rfl, rfl⟩, fun b hb => ?_, q⟩
  have e : b = s1.heap.objs.size := by simpa using hb
  subst e
  exact I1.fpOk (Nat.le_refl _) (I1.hok.fresh (Nat.le_refl _))
theorem pi_tup {l : Expr} {tl : TE} (hl : PE X l tl) : PI X tg l (iTup X.K tl) := by
  intro pins s σ H R I h
  refine thn (hl pins s σ H _ I h) fun v s1 ⟨x, H1, I1, r1, q1⟩ => ?_
  obtain ⟨a, e, ⟨xs, hq⟩, q⟩ := q1
  subst e
  cases r1
  obtain ⟨its, rv, p, hz⟩ := I1.tuple hq
  refine wpAny_pyIter_tuple (show s1.heap.IsTuple a its.toArray from p) ?_
  refine ⟨s1.heap.objs.size, [s1.heap.objs.size], _, _, H1, rfl, I1.kept (t' := s1.toks) fun b o e => Heap.get?_push_of_some _ e, turn_tuple a _, ⟨_, Heap.get?_push_size _ rfl, rfl, rfl⟩, fun b hb => ?_, q⟩
  have e : b = s1.heap.objs.size := by simpa using hb
  subst e
  exact I1.fpOk (Nat.le_refl _) (I1.hok.fresh (Nat.le_refl _))
/-- a range object just made, walked -/
theorem range_it {pins : List (Addr × Obj)} {σ : St} {H : Hp} {s : Shared} {R : It → Hp → Prop} {E : Value → Shared → Prop} {lo hi : Int} {t u v : Tok} {tk : Nat} (I : Inv X pins σ H s) (h1 : -(2 ^ 62) ≤ lo) (h2 : lo < 2 ^ 62) (h3 : -(2 ^ 62) ≤ hi) (h4 : hi < 2 ^ 62)
    (q : R (Itr lo (hi - lo).toNat) H) : wpAny (model X.prog X.w) X.A (pyIter (.ref s.heap.objs.size)) (PIE X pins σ tg R) E { s with heap := s.heap.push { cls := .type "range", data := .fields #[.int lo t, .int hi u, .int 1 v] }, toks := tk } := by
  refine wpAny_pyIter_range (IsRange.new ..) (small_one h1 h2 h3 h4) ?_
  have I1 : Inv X pins σ H { s with heap := s.heap.push { cls := .type "range", data := .fields #[.int lo t, .int hi u, .int 1 v] }, toks := tk } := I.kept fun b o e => Heap.get?_push_of_some _ e
  refine ⟨(s.heap.push { cls := .type "range", data := .fields #[.int lo t, .int hi u, .int 1 v] }).objs.size, [(s.heap.push { cls := .type "range", data := .fields #[.int lo t, .int hi u, .int 1 v] }).objs.size], _, _, H, rfl,
    I1.kept (t' := tk) fun b o e => Heap.get?_push_of_some _ e, turn_range _ lo (hi - lo).toNat, ?_, fun b hb => ?_, q⟩
  · have e1 : lo + ((0 : Nat) : Int) * 1 = lo := by simp
    have e2 : (((hi - lo).toNat : Nat) : Int) - ((0 : Nat) : Int) = Builtin.Range.rangeSize lo hi 1 := by rw [rangeSize_one]; split <;> omega
    show IsRangeIter _ _ (lo + ((0 : Nat) : Int) * 1) ((((hi - lo).toNat : Nat) : Int) - ((0 : Nat) : Int)) 1
    rw [e1, e2]
    exact Heap.get?_push_size _ rfl
  · have e : b = (s.heap.push { cls := .type "range", data := .fields #[.int lo t, .int hi u, .int 1 v] }).objs.size := by simpa using hb
    subst e
    exact I1.fpOk (Nat.le_refl _) (I1.hok.fresh (Nat.le_refl _))
def iRng1 (ta : TA) : TI := fun σ H R => ta σ H fun vs H1 => ∃ j : Int, vs = [.int j] ∧ -(2 ^ 62) ≤ j ∧ j < 2 ^ 62 ∧ R (Itr 0 j.toNat) H1
def iRng2 (ta : TA) : TI := fun σ H R => ta σ H fun vs H1 => ∃ i j : Int, vs = [.int i, .int j] ∧ (-(2 ^ 62) ≤ i ∧ i < 2 ^ 62 ∧ -(2 ^ 62) ≤ j ∧ j < 2 ^ 62) ∧ R (Itr i (j - i).toNat) H1
theorem pi_range1 {a : Expr} {ta : TA} {p pos : Pos} (hg : Gl X "range") (hm : X.mg "range" = none) (ha : PA X [a] ta) (hs : starEach [a] X.env = [(false, eval a X.env)] := by rfl) : PI X tg (.Call (.Name "range" p) [a] [] pos) (iRng1 ta) := by
  intro pins s σ H R I h
  refine Call_ (ld_blt I hg hm boot_range (PyProof.Rows.callWith_type1 (thn (ha pos pins s σ H _ I h) fun us s1 ⟨vs, H1, I1, r1, q1⟩ => ?_) hs rfl))
  obtain ⟨j, e, q1, q2, q⟩ := q1
  subst e
  cases r1 with
  | cons r rr =>
    cases rr
    obtain ⟨t, rfl⟩ := r
    exact call_range_1 (range_it I1 (by omega) (by omega) q1 q2 (by simpa using q))
theorem pi_range2 {a b : Expr} {ta : TA} {p pos : Pos} (hg : Gl X "range") (hm : X.mg "range" = none) (ha : PA X [a, b] ta) (hs : starEach [a, b] X.env = [(false, eval a X.env), (false, eval b X.env)] := by rfl) (hs2 : starEach [b] X.env = [(false, eval b X.env)] := by rfl) :
    PI X tg (.Call (.Name "range" p) [a, b] [] pos) (iRng2 ta) := by
  intro pins s σ H R I h
  refine Call_ (ld_blt I hg hm boot_range (PyProof.Rows.callWith_type1 (thn (ha pos pins s σ H _ I h) fun us s1 ⟨vs, H1, I1, r1, q1⟩ => ?_) (by rw [hs, hs2]) (by rw [hs2]; rfl)))
  obtain ⟨i, j, e, ⟨q1, q2, q3, q4⟩, q⟩ := q1
  subst e
  cases r1 with
  | cons r rr =>
    cases rr with
    | cons r' rr =>
      cases rr
      obtain ⟨t, rfl⟩ := r
      obtain ⟨t', rfl⟩ := r'
      exact call_range_2 (range_it I1 q1 q2 q3 q4 q)

/-! ### for -/
/-- W: the invariant by the turn and a measure; N: what the body is to reach -/
def tFor (wi : TI) (g : TG) (tb : TS) : TS := fun D σ H => wi σ H fun J H1 => ∃ W : Nat → Nat → St → Hp → Prop, (∃ m, W 0 m σ H1) ∧ ∀ i m σ H, W i m σ H →
  (J.stop i H ∧ D.nx σ H) ∨ (J.go i H ∧ ∃ N : St → Hp → Prop, (∀ σ' H', N σ' H' → ∃ m', m' < m ∧ W (i + 1) m' σ' H') ∧ ∀ x H', J.yld i H x H' → g x σ H' fun σ2 H2 => tb { D with nx := N, ct := N, bk := D.nx } σ2 H2)
/-- the records at fp as they stand -/
def pinsAt (fp : List Addr) (h : Heap) : List (Addr × Obj) := fp.filterMap fun b => (h.get? b).map fun o => (b, o)
theorem mem_pinsAt {fp : List Addr} {h : Heap} {b : Addr} {o : Obj} (hb : b ∈ fp) (e : h.get? b = some o) : (b, o) ∈ pinsAt fp h := List.mem_filterMap.mpr ⟨b, hb, by rw [e]; rfl⟩
theorem of_pinsAt {fp : List Addr} {h : Heap} {p : Addr × Obj} (hp : p ∈ pinsAt fp h) : p.1 ∈ fp ∧ h.get? p.1 = some p.2 := by
  obtain ⟨b, hb, e⟩ := List.mem_filterMap.mp hp
  cases q : h.get? b with
  | none => rw [q] at e; cases e
  | some o =>
    rw [q] at e
    have e' : (b, o) = p := Option.some.inj e
    subst e'
    exact ⟨hb, q⟩
theorem Inv.pinned {pins : List (Addr × Obj)} {σ : St} {H : Hp} {s : Shared} {fp : List Addr} (I : Inv X pins σ H s) (hf : ∀ b ∈ fp, FpOk X pins H b) (ho : ∀ b ∈ fp, ∃ o, s.heap.get? b = some o ∧ ∀ v, o.data ≠ .cell v) : Inv X (pins ++ pinsAt fp s.heap) σ H s :=
  I.pins_of fun p hp => (List.mem_append.mp hp).elim (fun z => I.pin p (List.mem_append_right _ z)) fun z => by
    obtain ⟨hb, e⟩ := of_pinsAt z
    obtain ⟨f0, f1, f2, _⟩ := hf p.1 hb
    obtain ⟨o, e', d⟩ := ho p.1 hb
    rw [e] at e'; cases e'
    exact ⟨e, f0, f1, f2, d⟩
theorem Inv.unpinned {pins pl : List (Addr × Obj)} {σ : St} {H : Hp} {s : Shared} (I : Inv X (pins ++ pl) σ H s) : Inv X pins σ H s := I.pins_of fun p hp => I.pin p (List.mem_append_right _ (List.mem_append_left _ hp))
theorem ps_for {iter : Expr} {body : List Stmt} {wi : TI} {g : TG} {tb : TS} {pos : Pos} (hp : PassesOwn (model X.prog X.w) X.A X.env X.xe) (hc : X.calm = true) (hi : PI X tg iter wi) (hg : PG X tg g) (hb : PSs X body tb)
    (hs : ∀ x, foldedSetIterable iter X.env x = pure x := by intro _; rfl) : PS X (.For tg iter body [] pos) (tFor wi g tb) := by
  intro pins s σ H D I h
  refine wpAny_For (thn (hi pins s σ H _ I h) fun v s1 h1 => thn h1 fun itv s2 h2 => ?_) hs
  obtain ⟨it, fp, tn, J, H2, e, I2, T, st2, f2, W, ⟨m0, w0⟩, turn⟩ := h2
  subst e
  -- what stays true of the iterator's objects through the loop
  have stat : ∀ {H' : Hp}, (∀ b ∈ fp, H' b = none) → ∀ b ∈ fp, FpOk X pins H' b := fun hn b hb => ⟨hn b hb, (f2 b hb).2⟩
  refine codeAny_forLoop_any (fun n s' => ∃ i σ' H', Inv X pins σ' H' s' ∧ tn i s'.heap ∧ (∀ b ∈ fp, H' b = none) ∧ W i n σ' H') ?_ m0 ⟨0, σ, H2, I2, st2, fun b hb => (f2 b hb).1, w0⟩
  rintro n s3 ⟨i, σ3, H3, I3, st3, fr3, w3⟩
  rcases turn i n σ3 H3 w3 with ⟨stop, qn⟩ | ⟨go, N, hN, step⟩
  · refine wpAny_passesOwn hp (thn (T.done X rfl rfl rfl hc i pins s3 σ3 H3 X.xe I3 (stat fr3) st3 stop) fun r s4 ⟨hr, I4⟩ => ?_)
    subst hr
    exact wpAny_execs_nil ⟨σ3, H3, I4, qn⟩
  · refine wpAny_passesOwn hp (thn (T.item X rfl rfl rfl hc i pins s3 σ3 H3 X.xe I3 (stat fr3) st3 go) fun r s4 ⟨u, hr, h4⟩ => ?_)
    subst hr
    refine wpAny_passesOwn hp (thn h4 fun _ s5 ⟨x, H5, I5, r5, y5, st5, fr5⟩ => ?_)
    have I5' := I5.pinned (stat fr5) (T.obj _ _ st5)
    refine wpAny_passesOwn hp (thn (hg _ s5 σ3 H5 x u _ I5' r5 (step x H5 y5)) fun _ s6 ⟨σ6, H6, I6, q6⟩ => ?_)
    refine wpAny_passesOwn hp (thn (hb _ s6 σ6 H6 _ I6 q6) fun f s7 q7 => ?_)
    have again : ∀ {σ7 : St} {H7 : Hp}, Inv X (pins ++ pinsAt fp s5.heap) σ7 H7 s7 → N σ7 H7 → ∃ m, m < n ∧ ∃ i σ' H', Inv X pins σ' H' s7 ∧ tn i s7.heap ∧ (∀ b ∈ fp, H' b = none) ∧ W i m σ' H' := fun {σ7 H7} I7 n7 => by
      obtain ⟨m', hm, w7⟩ := hN σ7 H7 n7
      refine ⟨m', hm, i + 1, σ7, H7, I7.unpinned, T.keep _ _ _ st5 fun b hb o e => (I7.pin (b, o) (List.mem_append_right _ (List.mem_append_right _ (mem_pinsAt hb e)))).1, fun b hb => ?_, w7⟩
      obtain ⟨o, e, d⟩ := T.obj _ _ st5 b hb
      exact (I7.pin (b, o) (List.mem_append_right _ (List.mem_append_right _ (mem_pinsAt hb e)))).2.1
    cases f with
    | next => obtain ⟨σ7, H7, I7, n7⟩ := q7; exact again I7 n7
    | cont => obtain ⟨σ7, H7, I7, n7⟩ := q7; exact again I7 n7
    | brk => obtain ⟨σ7, H7, I7, q7⟩ := q7; exact ⟨σ7, H7, I7.unpinned, q7⟩
    | ret v => obtain ⟨x7, σ7, H7, I7, r7, q7⟩ := q7; exact ⟨x7, σ7, H7, I7.unpinned, r7, q7⟩
end

/-! ### the forms one uses -/
/-- over a list that the body leaves as it is -/
theorem for_list {K : PySem.W.Frag} {a : Addr} {xs : List V} {g : TG} {tb : TS} {D : Ends} {σ : St} {H : Hp} (Pv : Nat → St → Hp → Prop) (h0 : Pv 0 σ H) (hl : ∀ i σ H, i ≤ xs.length → Pv i σ H → SqL K H a xs)
    (hs : ∀ i x σ H, xs[i]? = some x → Pv i σ H → g x σ H fun σ2 H2 => tb { D with nx := Pv (i + 1), ct := Pv (i + 1), bk := D.nx } σ2 H2) (hd : ∀ σ H, Pv xs.length σ H → D.nx σ H) :
    ∃ W : Nat → Nat → St → Hp → Prop, (∃ m, W 0 m σ H) ∧ ∀ i m σ H, W i m σ H →
      ((Itl K a).stop i H ∧ D.nx σ H) ∨ ((Itl K a).go i H ∧ ∃ N : St → Hp → Prop, (∀ σ' H', N σ' H' → ∃ m', m' < m ∧ W (i + 1) m' σ' H') ∧ ∀ x H', (Itl K a).yld i H x H' → g x σ H' fun σ2 H2 => tb { D with nx := N, ct := N, bk := D.nx } σ2 H2) := by
  refine ⟨fun i m σ H => m = xs.length - i ∧ i ≤ xs.length ∧ Pv i σ H, ⟨xs.length, by simp, Nat.zero_le _, h0⟩, ?_⟩
  rintro i m σ H ⟨rfl, hi, p⟩
  have q := hl i σ H hi p
  by_cases hlt : i < xs.length
  · refine .inr ⟨⟨xs, xs[i], q, by simp [hlt]⟩, Pv (i + 1), fun σ' H' p' => ⟨xs.length - (i + 1), by omega, rfl, hlt, p'⟩, fun x H' y => ?_⟩
    obtain ⟨e, y⟩ := y
    subst e
    exact hs i x σ _ (y xs q) p
  · have e : i = xs.length := by omega
    subst e
    exact .inl ⟨⟨xs, q, Nat.le_refl _⟩, hd σ H p⟩
theorem for_range {lo : Int} {n : Nat} {g : TG} {tb : TS} {D : Ends} {σ : St} {H : Hp} (Pv : Nat → St → Hp → Prop) (h0 : Pv 0 σ H)
    (hs : ∀ i σ H, i < n → Pv i σ H → g (.int (lo + i)) σ H fun σ2 H2 => tb { D with nx := Pv (i + 1), ct := Pv (i + 1), bk := D.nx } σ2 H2) (hd : ∀ σ H, Pv n σ H → D.nx σ H) :
    ∃ W : Nat → Nat → St → Hp → Prop, (∃ m, W 0 m σ H) ∧ ∀ i m σ H, W i m σ H →
      ((Itr lo n).stop i H ∧ D.nx σ H) ∨ ((Itr lo n).go i H ∧ ∃ N : St → Hp → Prop, (∀ σ' H', N σ' H' → ∃ m', m' < m ∧ W (i + 1) m' σ' H') ∧ ∀ x H', (Itr lo n).yld i H x H' → g x σ H' fun σ2 H2 => tb { D with nx := N, ct := N, bk := D.nx } σ2 H2) := by
  refine ⟨fun i m σ H => m = n - i ∧ i ≤ n ∧ Pv i σ H, ⟨n, by simp, Nat.zero_le _, h0⟩, ?_⟩
  rintro i m σ H ⟨rfl, hi, p⟩
  by_cases hlt : i < n
  · refine .inr ⟨hlt, Pv (i + 1), fun σ' H' p' => ⟨n - (i + 1), by omega, rfl, hlt, p'⟩, fun x H' y => ?_⟩
    obtain ⟨e, y⟩ := y
    subst e y
    exact hs i σ _ hlt p
  · have e : i = n := by omega
    subst e
    exact .inl ⟨Nat.le_refl _, hd σ H p⟩
end L2

namespace L2
open PySem PySem.Spec PyProof.Rows

abbrev R2 := V → V → Hp → VK → Prop
/-- a two-place operation on values: f is binaryOp op, inplaceOp op or compareOp op -/
def OpR (X : Cx) (f : Value → Value → Sem Value) (r : R2) : Prop :=
  ∀ (pins : List (Addr × Obj)) (s : Shared) (σ : St) (H : Hp) (x y : V) (v u : Value) (Q : VK), Inv X pins σ H s → RelV x v → RelV y u → r x y H Q →
    wpAny (model X.prog X.w) X.A (f v u) (EP X pins σ Q) X.xe s
/-- a call of a value that is known (a builtin, a type) with values -/
def CallR (X : Cx) (f : Value) (r : List V → Hp → VK → Prop) : Prop :=
  ∀ (pins : List (Addr × Obj)) (s : Shared) (σ : St) (H : Hp) (xs : List V) (us : List Value) (Q : VK), Inv X pins σ H s → Vals xs us → r xs H Q →
    wpAny (model X.prog X.w) X.A (call f us) (EP X pins σ Q) X.xe s
def tOp (r : R2) (ta tb : TE) : TE := fun σ H Q => ta σ H fun x H1 => tb σ H1 fun y H2 => r x y H2 Q
/-- ints in, under C, and a value out -/
def rI (C : Int → Int → Prop) (g : Int → Int → V) : R2 := fun x y H Q => ∃ i j, x = .int i ∧ y = .int j ∧ C i j ∧ Q (g i j) H
def rI0 (g : Int → Int → V) : R2 := fun x y H Q => ∃ i j, x = .int i ∧ y = .int j ∧ Q (g i j) H
section
variable {X : Cx} {a b c : Expr} {ta tb tc : TE} {pos : Pos}

theorem binT (ha : PE X a ta) (hb : PE X b tb) {pins : List (Addr × Obj)} {s : Shared} {σ : St} {H : Hp} {R : V → V → Hp → Prop} (I : Inv X pins σ H s)
    (h : ta σ H fun x H1 => tb σ H1 fun y H2 => R x y H2) {Q : Value → Shared → Prop} {f : Value → Value → Sem Value}
    (hf : ∀ v u s2 x y H2, Inv X pins σ H2 s2 → RelV x v → RelV y u → R x y H2 → wpAny (model X.prog X.w) X.A (f v u) Q X.xe s2) :
    wpAny (model X.prog X.w) X.A (eval a X.env) (fun v s₁ => wpAny (model X.prog X.w) X.A (eval b X.env) (fun u s₂ => wpAny (model X.prog X.w) X.A (f v u) Q X.xe s₂) X.xe s₁) X.xe s := by
  refine thn (ha pins s σ H _ I h) fun v s1 ⟨x, H1, I1, r1, q1⟩ => ?_
  refine thn (hb pins s1 σ H1 _ I1 q1) fun u s2 ⟨y, H2, I2, r2, q2⟩ => ?_
  exact hf v u s2 x y H2 I2 r1 r2 q2

theorem pe_op {op : Operator} {r : R2} (ho : OpR X (binaryOp op) r) (ha : PE X a ta) (hb : PE X b tb) : PE X (.BinOp a op b pos) (tOp r ta tb) := by
  intro pins s σ H Q I h
  exact wpAny_BinOp (binT ha hb I h fun v u s2 x y H2 I2 rx ry q => ho pins s2 σ H2 x y v u Q I2 rx ry q)
/-! ### ints -/
theorem opI {f : Value → Value → Sem Value} {C : Int → Int → Prop} {g : Int → Int → Int}
    (rule : ∀ (i j : Int) (t u : Tok) (s : Shared) (Q : Value → Shared → Prop) (E : Value → Shared → Prop), C i j → Q (.int (g i j) s.toks) { s with toks := s.toks + 1 } → wpAny (model X.prog X.w) X.A (f (.int i t) (.int j u)) Q E s) :
    OpR X f (rI C fun i j => .int (g i j)) := by
  intro pins s σ H x y v u Q I rx ry h
  obtain ⟨i, j, rfl, rfl, hc, q⟩ := h
  obtain ⟨t, rfl⟩ := rx
  obtain ⟨t', rfl⟩ := ry
  exact rule i j t t' s _ _ hc ⟨.int (g i j), H, I.tok _, ⟨_, rfl⟩, q⟩
theorem opI0 {f : Value → Value → Sem Value} {g : Int → Int → Int}
    (rule : ∀ (i j : Int) (t u : Tok) (s : Shared) (Q : Value → Shared → Prop) (E : Value → Shared → Prop), Q (.int (g i j) s.toks) { s with toks := s.toks + 1 } → wpAny (model X.prog X.w) X.A (f (.int i t) (.int j u)) Q E s) :
    OpR X f (rI0 fun i j => .int (g i j)) := by
  intro pins s σ H x y v u Q I rx ry h
  obtain ⟨i, j, rfl, rfl, q⟩ := h
  obtain ⟨t, rfl⟩ := rx
  obtain ⟨t', rfl⟩ := ry
  exact rule i j t t' s _ _ ⟨.int (g i j), H, I.tok _, ⟨_, rfl⟩, q⟩
theorem opB0 {f : Value → Value → Sem Value} {g : Int → Int → Bool}
    (rule : ∀ (i j : Int) (t u : Tok) (s : Shared) (Q : Value → Shared → Prop) (E : Value → Shared → Prop), Q (.bool (g i j)) s → wpAny (model X.prog X.w) X.A (f (.int i t) (.int j u)) Q E s) :
    OpR X f (rI0 fun i j => .bl (g i j)) := by
  intro pins s σ H x y v u Q I rx ry h
  obtain ⟨i, j, rfl, rfl, q⟩ := h
  obtain ⟨t, rfl⟩ := rx
  obtain ⟨t', rfl⟩ := ry
  exact rule i j t t' s _ _ ⟨.bl (g i j), H, I, rfl, q⟩

def CDiv (i j : Int) : Prop := 0 < j ∧ j < 1073741824
def CPow (i j : Int) : Prop := 0 ≤ j ∧ j ≤ 1000000 ∧ i.natAbs < 2 ^ 64
def CMul (i j : Int) : Prop := (-(2 ^ 64) < i ∧ i < 2 ^ 64) ∨ (-(2 ^ 64) < j ∧ j < 2 ^ 64)
theorem CMul.ok {i j : Int} (h : CMul i j) : IntMulOk i j := by
  rcases h with ⟨h1, h2⟩ | ⟨h1, h2⟩
  · exact .of_left (intBits_le_64 h1 h2)
  · exact .of_right (intBits_le_64 h1 h2)
theorem two_pow_nn (k : Nat) : (0 : Int) ≤ 2 ^ k := by
  rw [two_pow_cast]
  exact Int.natCast_nonneg _

theorem op_add : OpR X (binaryOp .Add) (rI0 fun i j => .int (i + j)) := opI0 fun _ _ _ _ _ _ _ q => add_int q
theorem op_sub : OpR X (binaryOp .Sub) (rI0 fun i j => .int (i - j)) := opI0 fun _ _ _ _ _ _ _ q => sub_int q
theorem op_mul : OpR X (binaryOp .Mult) (rI CMul fun i j => .int (i * j)) := opI fun _ _ _ _ _ _ _ hc q => mul_int q hc.ok
/-- // by a positive divisor -/
theorem op_fdiv : OpR X (binaryOp .FloorDiv) (rI CDiv fun i j => .int (i / j)) := opI fun i j _ _ _ _ _ hc q => by
  have h1 : (0 : Int) < j := hc.1
  have h2 : j < 1073741824 := hc.2
  exact floordiv_int (by omega) (by rw [Int.fdiv_eq_ediv_of_nonneg i (by omega)]; exact q) (.inl (PyProof.noPylong_small (by omega)))
/-- % by a positive divisor of any size -/
theorem op_mod : OpR X (binaryOp .Mod) (rI (fun _ j => 0 < j) fun i j => .int (i % j)) := opI fun i j _ _ _ _ _ hc q => by
  have h1 : (0 : Int) < j := hc
  exact mod_int' (by omega) (by rw [Int.fmod_eq_emod_of_nonneg i (by omega)]; exact q)
theorem op_shl : OpR X (binaryOp .LShift) (rI CPow fun i j => .int (i * 2 ^ j.toNat)) := opI fun _ _ _ _ _ _ _ hc q => lshift_int_small hc.1 hc.2.1 hc.2.2 q
theorem op_shr : OpR X (binaryOp .RShift) (rI (fun _ j => 0 ≤ j) fun i j => .int (i / 2 ^ j.toNat)) := opI fun i j _ _ _ _ _ hc q =>
  rshift_int hc (by rw [Int.fdiv_eq_ediv_of_nonneg i (two_pow_nn _)]; exact q)
theorem op_and : OpR X (binaryOp .BitAnd) (rI0 fun i j => .int (Builtin.bitAnd i j)) := opI0 fun _ _ _ _ _ _ _ q => and_int q
/-! ### bools among ints: n += (a < b) -/
end

/-! ### comparisons -/
/-- the scalars that == tells apart as data does -/
def scal : V → V → Bool
  | .non, .non => true | .non, .int _ => true | .int _, .non => true | .non, .bl _ => true | .bl _, .non => true | .non, .str _ => true | .str _, .non => true
  | .int _, .int _ => true | .bl _, .bl _ => true | .str _, .str _ => true | .byt _, .byt _ => true
  | .int _, .str _ => true | .str _, .int _ => true | .bl _, .str _ => true | .str _, .bl _ => true
  | _, _ => false
def rEq : R2 := fun x y H Q => scal x y = true ∧ Q (.bl (decide (x = y))) H
def rNe : R2 := fun x y H Q => scal x y = true ∧ Q (.bl (!decide (x = y))) H

theorem dec_int {i j : Int} : decide (V.int i = V.int j) = (i == j) := by
  rw [Bool.eq_iff_iff]
  simp
theorem dec_bl {i j : Bool} : decide (V.bl i = V.bl j) = (i == j) := by
  rw [Bool.eq_iff_iff]
  simp
theorem dec_str {i j : Str} : decide (V.str i = V.str j) = (i == j) := by
  rw [Bool.eq_iff_iff]
  simp
theorem dec_byt {i j : Array UInt8} : decide (V.byt i = V.byt j) = (i.toList == j.toList) := by
  rw [Bool.eq_iff_iff]
  cases i
  cases j
  simp

section
variable {X : Cx} {a b c : Expr} {ta tb tc : TE} {pos : Pos}
theorem fin_bl {pins : List (Addr × Obj)} {σ : St} {H : Hp} {s : Shared} {Q : VK} {k k' : Bool} (I : Inv X pins σ H s) (q : Q (.bl k) H) (e : k = k') : EP X pins σ Q (.bool k') s := by
  subst e
  exact ⟨.bl k, H, I, rfl, q⟩
theorem op_eq : OpR X (compareOp .Eq) rEq := by
  intro pins s σ H x y v u Q I rx ry h
  obtain ⟨hs, q⟩ := h
  cases x with
  | non =>
    cases rx
    cases y with
    | non => cases ry; exact PySem.EqNone.eq_none_none (fin_bl I q (by simp))
    | bl j => cases ry; exact PySem.EqNone.eq_none_bool (fin_bl I q (by simp))
    | int j => obtain ⟨t', rfl⟩ := ry; exact PySem.EqNone.eq_none_int (fin_bl I q (by simp))
    | str j => obtain ⟨t', rfl⟩ := ry; exact PySem.EqNone.eq_none_str (fin_bl I q (by simp))
    | _ => exact absurd (show false = true from hs) Bool.false_ne_true
  | bl i =>
    cases rx
    cases y with
    | non => cases ry; exact PySem.EqNone.eq_bool_none (fin_bl I q (by simp))
    | bl j => cases ry; exact eq_bool (fin_bl I q dec_bl)
    | str j => obtain ⟨t', rfl⟩ := ry; exact PySem.EqMixed.eq_bool_str (fin_bl I q (by simp))
    | _ => exact absurd (show false = true from hs) Bool.false_ne_true
  | int i =>
    obtain ⟨t, rfl⟩ := rx
    cases y with
    | non => cases ry; exact PySem.EqNone.eq_int_none (fin_bl I q (by simp))
    | int j => obtain ⟨t', rfl⟩ := ry; exact eq_int (fin_bl I q dec_int)
    | str j => obtain ⟨t', rfl⟩ := ry; exact PySem.EqMixed.eq_int_str (fin_bl I q (by simp))
    | _ => exact absurd (show false = true from hs) Bool.false_ne_true
  | str i =>
    obtain ⟨t, rfl⟩ := rx
    cases y with
    | non => cases ry; exact PySem.EqNone.eq_str_none (fin_bl I q (by simp))
    | bl j => cases ry; exact PySem.EqMixed.eq_str_bool (fin_bl I q (by simp))
    | int j => obtain ⟨t', rfl⟩ := ry; exact PySem.EqMixed.eq_str_int (fin_bl I q (by simp))
    | str j => obtain ⟨t', rfl⟩ := ry; exact eq_str (fin_bl I q dec_str)
    | _ => exact absurd (show false = true from hs) Bool.false_ne_true
  | byt i =>
    obtain ⟨t, rfl⟩ := rx
    cases y with
    | byt j => obtain ⟨t', rfl⟩ := ry; exact PySem.W.eq_bytes (fin_bl I q dec_byt)
    | _ => exact absurd (show false = true from hs) Bool.false_ne_true
  | _ => cases y <;> exact absurd (show false = true from hs) Bool.false_ne_true
theorem op_ne : OpR X (compareOp .NotEq) rNe := by
  intro pins s σ H x y v u Q I rx ry h
  obtain ⟨hs, q⟩ := h
  cases x with
  | non =>
    cases rx
    cases y with
    | non => cases ry; exact PySem.EqNone.ne_none_none (fin_bl I q (by simp))
    | bl j => cases ry; exact PySem.EqNone.ne_none_bool (fin_bl I q (by simp))
    | int j => obtain ⟨t', rfl⟩ := ry; exact PySem.EqNone.ne_none_int (fin_bl I q (by simp))
    | str j => obtain ⟨t', rfl⟩ := ry; exact PySem.EqNone.ne_none_str (fin_bl I q (by simp))
    | _ => exact absurd (show false = true from hs) Bool.false_ne_true
  | bl i =>
    cases rx
    cases y with
    | non => cases ry; exact PySem.EqNone.ne_bool_none (fin_bl I q (by simp))
    | bl j => cases ry; exact ne_bool (fin_bl I q (congrArg not dec_bl))
    | str j => obtain ⟨t', rfl⟩ := ry; exact PySem.EqMixed.ne_bool_str (fin_bl I q (by simp))
    | _ => exact absurd (show false = true from hs) Bool.false_ne_true
  | int i =>
    obtain ⟨t, rfl⟩ := rx
    cases y with
    | non => cases ry; exact PySem.EqNone.ne_int_none (fin_bl I q (by simp))
    | int j => obtain ⟨t', rfl⟩ := ry; exact ne_int (fin_bl I q (congrArg not dec_int))
    | str j => obtain ⟨t', rfl⟩ := ry; exact PySem.EqMixed.ne_int_str (fin_bl I q (by simp))
    | _ => exact absurd (show false = true from hs) Bool.false_ne_true
  | str i =>
    obtain ⟨t, rfl⟩ := rx
    cases y with
    | non => cases ry; exact PySem.EqNone.ne_str_none (fin_bl I q (by simp))
    | bl j => cases ry; exact PySem.EqMixed.ne_str_bool (fin_bl I q (by simp))
    | int j => obtain ⟨t', rfl⟩ := ry; exact PySem.EqMixed.ne_str_int (fin_bl I q (by simp))
    | str j => obtain ⟨t', rfl⟩ := ry; exact ne_str (fin_bl I q (congrArg not dec_str))
    | _ => exact absurd (show false = true from hs) Bool.false_ne_true
  | byt i =>
    obtain ⟨t, rfl⟩ := rx
    cases y with
    | byt j => obtain ⟨t', rfl⟩ := ry; exact PySem.W.ne_bytes (fin_bl I q (congrArg not dec_byt))
    | _ => exact absurd (show false = true from hs) Bool.false_ne_true
  | _ => cases y <;> exact absurd (show false = true from hs) Bool.false_ne_true

theorem op_lt : OpR X (compareOp .Lt) (rI0 fun i j => .bl (decide (i < j))) := opB0 fun _ _ _ _ _ _ _ q => lt_int q
theorem op_le : OpR X (compareOp .LtE) (rI0 fun i j => .bl (decide (i ≤ j))) := opB0 fun _ _ _ _ _ _ _ q => le_int q
theorem op_gt : OpR X (compareOp .Gt) (rI0 fun i j => .bl (decide (j < i))) := opB0 fun _ _ _ _ _ _ _ q => gt_int q
theorem nomark (b : Expr) {op : CmpOp} (h : op ≠ .In := by decide) (h2 : op ≠ .NotIn := by decide) : behindInMarks op b = false := by
  have e1 : (op == CmpOp.In) = false := by cases op <;> first | rfl | exact absurd rfl h
  have e2 : (op == CmpOp.NotIn) = false := by cases op <;> first | rfl | exact absurd rfl h2
  cases b <;> simp [behindInMarks, e1, e2]
/-- a comparison as a value; hm: nomark b, or (for in, not in) by with_unfolding_all rfl -/
theorem pe_cmpR {op : CmpOp} {r : R2} (ho : OpR X (compareOp op) r) (ha : PE X a ta) (hb : PE X b tb) (hm : behindInMarks op b = false) : PE X (.Compare a [op] [b] pos) (tOp r ta tb) := by
  intro pins s σ H Q I h
  exact wpAny_Compare1 (binT ha hb I h fun v u s2 x y H2 I2 rx ry q => ho pins s2 σ H2 x y v u Q I2 rx ry q) hm
/-- a reading of a value as a test -/
def tTest (t : TE) : TT := fun σ H Q => t σ H fun x H' => ∃ k, x = .bl k ∧ Q k H'
theorem pt_cmpR {op : CmpOp} {r : R2} (ho : OpR X (compareOp op) r) (ha : PE X a ta) (hb : PE X b tb) (hm : behindInMarks op b = false) : PT X (.Compare a [op] [b] pos) (tTest (tOp r ta tb)) := by
  intro pins s σ H Q I h
  refine wpAny_isTrue_Compare1 (thn (ha pins s σ H _ I h) fun v s1 ⟨x, H1, I1, r1, q1⟩ => thn (hb pins s1 σ H1 _ I1 q1) fun u s2 ⟨y, H2, I2, r2, q2⟩ =>
    thn (ho pins s2 σ H2 x y v u _ I2 r1 r2 q2) fun c s3 ⟨z, H3, I3, r3, k, e, q3⟩ => ?_) hm
  subst e
  cases r3
  exact wpAny_truthy_bool ⟨H3, I3, q3⟩
/-- a op1 b op2 c -/
def tChain (r r' : R2) (ta tb tc : TE) : TE := fun σ H Q => ta σ H fun x H1 => tb σ H1 fun y H2 => r x y H2 fun z H3 => ∃ k, z = .bl k ∧
  (if k = true then tc σ H3 fun w' H4 => r' y w' H4 Q else Q (.bl false) H3)
theorem pe_chain {op op' : CmpOp} {r r' : R2} (ho : OpR X (compareOp op) r) (ho' : OpR X (compareOp op') r') (ha : PE X a ta) (hb : PE X b tb) (hc : PE X c tc)
    (hm : lastMarks [op, op'] [b, c] = false := by with_unfolding_all rfl) : PE X (.Compare a [op, op'] [b, c] pos) (tChain r r' ta tb tc) := by
  intro pins s σ H Q I h
  refine Compare_chain (thn (ha pins s σ H _ I h) fun v s1 ⟨x, H1, I1, r1, q1⟩ => chain_link (thn (hb pins s1 σ H1 _ I1 q1) fun u s2 ⟨y, H2, I2, r2, q2⟩ =>
    thn (ho pins s2 σ H2 x y v u _ I2 r1 r2 q2) fun d s3 ⟨z, H3, I3, r3, k, e, q3⟩ => ?_)) hm
  subst e
  cases r3
  refine wpAny_truthy_bool ?_
  cases k with
  | false => exact ite_ff ⟨.bl false, H3, I3, rfl, q3⟩
  | true => exact ite_tt (chain_last (thn (hc pins s3 σ H3 _ I3 q3) fun w' s4 ⟨z', H4, I4, r4, q4⟩ => ho' pins s4 σ H4 y z' u w' Q I4 r2 r4 q4))
/-! ### truth -/
theorem line63 : (sizeLine : Nat) < 2 ^ 63 := by rw [sizeLine_eq]; decide
/-! ### strs and bytes -/
/-! ### scalar builtins, by CallR -/
theorem vals1 {x : V} {us : List Value} (r : Vals [x] us) : ∃ u, us = [u] ∧ RelV x u := by
  cases r with
  | cons r1 r2 => cases r2; exact ⟨_, rfl, r1⟩
end
end L2

namespace L2
open PySem PySem.Spec PyProof.Rows

/-! ### an instance, its attributes a map -/
structure ObjM (h : Heap) (x dx C : Addr) (mA : Str → Option Value) : Prop where
  obj : h.get? x = some (PySem.W.instObj C dx)
  ns : h.Ns1 dx mA
  ne : dx ≠ x

theorem lookIn_ns {h : Heap} {dx : Addr} {mA : Str → Option Value} (n : h.Ns1 dx mA) : ∃ od, h.get? dx = some od ∧ ∀ name, PySem.W.lookIn name od = some (mA name) := by
  obtain ⟨o, es, ep, ho, hd, hk, _, hm⟩ := n
  refine ⟨o, ho, fun name => ?_⟩
  have e := hm name
  unfold nsFind findBy at e
  rw [← Array.find?_toList] at e
  unfold PySem.W.lookIn
  rw [hd]
  dsimp only
  split
  · rename_i y q
    rw [q] at e
    exact congrArg some e
  · rename_i q
    rw [q] at e
    have a : es.toList.any (·.refKey) = false := by
      rw [List.any_eq_false]
      intro y hy
      obtain ⟨z, t, hkey⟩ := hk y (Array.mem_toList_iff.mp hy)
      simp [DictEntry.refKey, hkey]
    have a' : ¬ es.toList.any (·.refKey) = true := by rw [a]; exact Bool.false_ne_true
    rw [if_neg a']
    exact congrArg some e

theorem ObjM.look {h : Heap} {x dx C : Addr} {mA : Str → Option Value} (I : ObjM h x dx C mA) : ∃ od, PySem.W.InstAt h x (PySem.W.instObj C dx) C (some od) ∧ ∀ name, PySem.W.lookIn name od = some (mA name) :=
  let ⟨od, ho, hl⟩ := lookIn_ns I.ns
  ⟨od, ⟨I.obj, rfl, rfl, ho⟩, hl⟩

section
variable {prog : Program} {w : World} {A : Around} {E : Value → Shared → Prop} {s : Shared} {K : PySem.W.Frag} {x dx C f : Addr} {mA : Str → Option Value} {name : Str} {v : Value}

theorem get_map {expr : Bool} {Q : Value → Shared → Prop} (X : K.In s.heap) (I : ObjM s.heap x dx C mA) (hg : PySem.W.plainGet K C name = true) (hh : PySem.W.hasDictIn K C = true)
    (ha : PySem.W.findIn K (.ref C) name = some none) (hv : mA name = some v) (hv' : PySem.W.handedIn v = true) (h : Q v { s with toks := s.toks + 1 }) :
    wpAny (model prog w) A (getAttr (.ref x) name expr) Q E s := by
  obtain ⟨od, J, hl⟩ := I.look
  exact PySem.W.get_value X J (PySem.W.plainGet_of hg).1 (PySem.W.findObj_own hh ha rfl (by rw [hl, hv])) hv' h

theorem get_meth {pl : Sem Bool} {Q : Value × List Value → Shared → Prop} (X : K.In s.heap) (I : ObjM s.heap x dx C mA) (hg : PySem.W.plainGet K C name = true)
    (hf : PySem.W.findIn K (.ref C) name = some (some (.ref f))) (ht : PySem.W.isFn K (.ref f) = true) (hv : mA name = none) (h : Q (.ref f, [.ref x]) s) :
    wpAny (model prog w) A (getMethod (.ref x) name pl) Q E s := by
  obtain ⟨od, J, hl⟩ := I.look
  exact PySem.W.method_fn X J (PySem.W.plainGet_of hg).1 (PySem.W.plainGet_of hg).2 hf (beq_iff_eq.mp ht) (by show (PySem.W.lookIn name od).map (·.isSome) = some false; rw [hl, hv]; rfl) h

theorem set_map {ns : List Str} {Q : Unit → Shared → Prop} (X : K.In s.heap) (I : ObjM s.heap x dx C mA)
    (hs : PySem.W.findIn K (.ref C) "__setattr__" = some (some (.builtin "object.__setattr__"))) (hp : PySem.W.plainOver K C = true) (ht : PySem.W.takerIn K C name = some none) (hh : PySem.W.hasDictIn K C = true)
    (hw : PySem.Within mA ns) (hsz : ns.length ≤ sizeLine)
    (h : ∀ h', ObjM h' x dx C (fun y => if y = name then some v else mA y) → Heap.SameBut dx s.heap h' → Q () { s with heap := h', toks := s.toks + 2 }) :
    wpAny (model prog w) A (setAttr (.ref x) name v) Q E s := by
  obtain ⟨od, J, hl⟩ := I.look
  refine PySem.W.set_plain X J hs (PySem.W.osa_open (s := { s with toks := s.toks + 1 }) (r := none) X J hp ht fun b => ?_)
  obtain ⟨cd, hc, hd'⟩ := PySem.W.any_some hh
  have hx : s.heap.get? x = some ⟨.ref C, some dx, .plain, #[]⟩ := I.obj
  refine wpAny_bind (wpAny_pure (wpAny_bind (wpAny_bind (wpAny_loadPart hx (wpAny_bind (PySem.W.Looks.here (s := { s with toks := s.toks + 1 }) (PySem.W.looks_clsIn X hc) ?_))))))
  rw [hd']
  refine wpAny_pure (a := some dx) (wpAny_bind (wpAny_pure (wpAny_bind ?_)))
  refine wpAny_nsSet1 (s := { s with toks := s.toks + 1 }) I.ns fun h' hn2 hs2 => ?_
  obtain ⟨oD, esD, epD, hoD, hdD, hcD⟩ := hn2.count (PySem.Within.cons name v hw)
  refine wpAny_bind (wpAny_lookBehind hoD (by rw [hdD]; exact pastItsLine_dict (Nat.le_trans hcD (by rw [List.length_cons]; omega))) ?_)
  exact wpAny_pure (h _ ⟨(hs2.2 _ (Ne.symm I.ne)).trans I.obj, hn2, I.ne⟩ hs2)

/-- C(..): the dict at the heap's end, the instance behind it; then its __init__ -/
theorem make_map {R : Result → Shared → Prop} {vs : List Value} {kw : List (Str × Value)} (X : K.In s.heap) (hm : PySem.W.makesIn K C = true)
    (hi : PySem.W.findIn K (.ref C) "__init__" = some (some (.ref f))) (hf : PySem.W.typeIn K (.ref f) = some (.type "function"))
    (h : codeAny (model prog w) (A.under (.builtin "type.__call__" ⟨.ref C :: vs, kw⟩)) (.call (.ref f) ⟨.ref (s.heap.objs.size + 1) :: vs, kw⟩) (PySem.W.InitBack (s.heap.objs.size + 1) R)
      { s with heap := (s.heap.push PySem.W.emptyDict).push (PySem.W.instObj C s.heap.objs.size) }) :
    codeAny (model prog w) A (.call (.ref C) ⟨vs, kw⟩) R s := by
  obtain ⟨hh, g, d, t, os⟩ := s
  exact PySem.W.make_core (PySem.W.makes_of X hm) (PySem.W.looks_findIn X hi) (fun self => PySem.W.bind_fn X self hf) (.inl rfl) h
end

/-! ### the attributes as a list of pairs -/
def putF (f : Str) (v : V) : List (Str × V) → List (Str × V)
  | [] => [(f, v)]
  | (g, x) :: r => if g = f then (g, v) :: r else (g, x) :: putF f v r
theorem lookup_putF (f g : Str) (v : V) : ∀ fs : List (Str × V), (putF f v fs).lookup g = if g = f then some v else fs.lookup g
  | [] => by
    show List.lookup g [(f, v)] = _
    by_cases h : g = f
    · have hb : (g == f) = true := beq_iff_eq.mpr h
      simp only [List.lookup, hb, if_pos h]
    · have hb : (g == f) = false := beq_eq_false_iff_ne.mpr h
      simp only [List.lookup, hb, if_neg h]
  | (k, x) :: r => by
    have ih := lookup_putF f g v r
    rw [show putF f v ((k, x) :: r) = (if k = f then (k, v) :: r else (k, x) :: putF f v r) from rfl]
    by_cases hk : k = f
    · rw [if_pos hk]
      by_cases h : g = k
      · have hb : (g == k) = true := beq_iff_eq.mpr h
        simp only [List.lookup, hb, if_pos (h.trans hk)]
      · have hb : (g == k) = false := beq_eq_false_iff_ne.mpr h
        simp only [List.lookup, hb, if_neg (fun e : g = f => h (e.trans hk.symm))]
    · rw [if_neg hk]
      by_cases h : g = k
      · have hb : (g == k) = true := beq_iff_eq.mpr h
        simp only [List.lookup, hb, if_neg (fun e : g = f => hk (h.symm.trans e))]
      · have hb : (g == k) = false := beq_eq_false_iff_ne.mpr h
        simp only [List.lookup, hb]
        exact ih
theorem keys_putF (f : Str) (v : V) : ∀ fs : List (Str × V), f ∈ (putF f v fs).map (·.1) ∧ ∀ g, g ∈ fs.map (·.1) → g ∈ (putF f v fs).map (·.1)
  | [] => ⟨by simp [putF], fun g h => by simp at h⟩
  | (k, x) :: r => by
    obtain ⟨i1, i2⟩ := keys_putF f v r
    rw [show putF f v ((k, x) :: r) = (if k = f then (k, v) :: r else (k, x) :: putF f v r) from rfl]
    by_cases hk : k = f
    · rw [if_pos hk]
      subst hk
      exact ⟨by simp, fun g h => by simpa using h⟩
    · rw [if_neg hk]
      refine ⟨?_, fun g h => ?_⟩
      · rw [List.map_cons]
        exact List.mem_cons_of_mem _ i1
      · rw [List.map_cons] at h ⊢
        rcases List.mem_cons.mp h with e | e
        · exact List.mem_cons.mpr (.inl e)
        · exact List.mem_cons_of_mem _ (i2 g e)
theorem length_putF (f : Str) (v : V) : ∀ fs : List (Str × V), (putF f v fs).length ≤ fs.length + 1
  | [] => by simp [putF]
  | (k, x) :: r => by
    have ih := length_putF f v r
    rw [show putF f v ((k, x) :: r) = (if k = f then (k, v) :: r else (k, x) :: putF f v r) from rfl]
    by_cases hk : k = f
    · rw [if_pos hk, List.length_cons, List.length_cons]; omega
    · rw [if_neg hk, List.length_cons, List.length_cons]; omega

theorem RelO.some_of {v : V} {o : Option Value} (r : RelO (some v) o) : ∃ u, o = some u ∧ RelV v u := by
  cases o with
  | none => exact (show False from r).elim
  | some u => exact ⟨u, rfl, r⟩
theorem RelO.none_of {o : Option Value} (r : RelO none o) : o = none := by
  cases o with
  | none => rfl
  | some u => exact (show False from r).elim
theorem handed_of {v : V} {u : Value} (r : RelV v u) : PySem.W.handedIn u = true := by
  cases v with
  | non => cases (show u = Value.none from r); rfl
  | bl b => cases (show u = Value.bool b from r); rfl
  | int i => obtain ⟨t, e⟩ := (show ∃ t, u = Value.int i t from r); cases e; rfl
  | str x => obtain ⟨t, e⟩ := (show ∃ t, u = Value.str x t from r); cases e; rfl
  | byt b => obtain ⟨t, e⟩ := (show ∃ t, u = Value.bytes b t from r); cases e; rfl
  | flt b => obtain ⟨t, e⟩ := (show ∃ t, u = Value.float b t from r); cases e; rfl
  | ref a => cases (show u = Value.ref a from r); rfl
  | ty n => cases (show u = Value.type n from r); rfl

section
variable {P : Program} {w : World} {H H' : Hp} {h h' : Heap} {a C dx : Addr} {fs fs' : List (Str × V)}
theorem ins_get (hok : HOk P w H h) (e : H a = some (.ins C dx fs)) : ∃ mA, ObjM h a dx C mA ∧ (∀ f, RelO (fs.lookup f) (mA f)) ∧ PySem.Within mA (fs.map (·.1)) ∧ fs.length ≤ 1000 ∧ H dx = some (.own a) := by
  obtain ⟨d, z, ne, ob, mA, n, r, q⟩ := (show ObjOk P w H h a (.ins C dx fs) from hok a _ e)
  exact ⟨mA, ⟨ob, n, ne⟩, r, q, z, d⟩
end

/-! ### what of the text a class must have -/
structure Cls (K : PySem.W.Frag) (C : Addr) : Prop where
  pg : PySem.W.plainGet K C Str.empty = true
  hd : PySem.W.hasDictIn K C = true
  po : PySem.W.plainOver K C = true
  sa : PySem.W.findIn K (.ref C) "__setattr__" = some (some (.builtin "object.__setattr__"))
theorem Cls.get {K : PySem.W.Frag} {C : Addr} (c : Cls K C) (f : Str) : PySem.W.plainGet K C f = true := c.pg
/-- no class of it has the name -/
def NoAttr (K : PySem.W.Frag) (C : Addr) (f : Str) : Prop := PySem.W.findIn K (.ref C) f = some none
theorem NoAttr.taker {K : PySem.W.Frag} {C : Addr} {f : Str} (n : NoAttr K C f) : PySem.W.takerIn K C f = some none := by
  unfold PySem.W.takerIn
  rw [show PySem.W.findIn K (.ref C) f = some none from n]
  rfl
/-- a method: a plain def of the class or of one above it -/
structure Meth (K : PySem.W.Frag) (C : Addr) (m : Str) (f : Addr) : Prop where
  at_ : PySem.W.findIn K (.ref C) m = some (some (.ref f))
  fn : PySem.W.isFn K (.ref f) = true
  kp : PySem.W.keepIn K (.ref f) = true

section
variable {X : Cx} {pins : List (Addr × Obj)} {σ : St} {H : Hp} {s : Shared} {a C dx : Addr} {fs : List (Str × V)} {f : Str} {v : V} {A : Around} {E : Value → Shared → Prop}

theorem getattr_ok {b : Bool} {Q : Value → Shared → Prop} (I : Inv X pins σ H s) (e : H a = some (.ins C dx fs)) (c : Cls X.K C) (n : NoAttr X.K C f) (l : fs.lookup f = some v)
    (h : ∀ u s', Inv X pins σ H s' → RelV v u → Q u s') : wpAny (model X.prog X.w) A (getAttr (.ref a) f b) Q E s := by
  obtain ⟨mA, O, r, _, _, _⟩ := ins_get I.hok e
  obtain ⟨u, hu, ru⟩ := RelO.some_of (v := v) (o := mA f) (by rw [← l]; exact r f)
  exact get_map I.kIn O (c.get f) c.hd n hu (handed_of ru) (h u _ (I.tok _) ru)

theorem getmeth_ok {m : Str} {g : Addr} {pl : Sem Bool} {Q : Value × List Value → Shared → Prop} (I : Inv X pins σ H s) (e : H a = some (.ins C dx fs)) (c : Cls X.K C) (k : Meth X.K C m g) (l : fs.lookup m = none)
    (h : Q (.ref g, [.ref a]) s) : wpAny (model X.prog X.w) A (getMethod (.ref a) m pl) Q E s := by
  obtain ⟨mA, O, r, _, _, _⟩ := ins_get I.hok e
  have hn : mA m = none := RelO.none_of (by rw [← l]; exact r m)
  exact get_meth I.kIn O (c.get m) k.at_ k.fn hn h

theorem setattr_ok {y : V} {u : Value} {Q : Unit → Shared → Prop} (I : Inv X pins σ H s) (e : H a = some (.ins C dx fs)) (c : Cls X.K C) (n : NoAttr X.K C f) (hl : fs.length < 1000) (ry : RelV y u)
    (h : ∀ s', Inv X pins σ (upd H a (.ins C dx (putF f y fs))) s' → Q () s') : wpAny (model X.prog X.w) A (setAttr (.ref a) f u) Q E s := by
  obtain ⟨mA, O, r, wi, _, ho⟩ := ins_get I.hok e
  have hz : (fs.map (·.1)).length ≤ sizeLine := by rw [List.length_map, sizeLine_eq]; omega
  refine set_map I.kIn O c.sa c.po n.taker c.hd wi hz fun h' O' sb => h _ ?_
  have hd : ∃ o, h'.get? dx = some o := let ⟨o, _, _, e', _⟩ := O'.ns; ⟨o, e'⟩
  refine I.write (x := a) (e := dx) (by rw [e]; exact True.intro) (.inr ho) (fun b q hb z => (sb.2 b hb).trans z) hd ?_
  refine ⟨by rw [upd_ne O.ne]; exact ho, ?_, O.ne, O'.obj, _, O'.ns, fun g => ?_, fun g hg => ?_⟩
  · have := length_putF f y fs; omega
  · show RelO ((putF f y fs).lookup g) (if g = f then some u else mA g)
    rw [lookup_putF]
    by_cases q : g = f
    · rw [if_pos q, if_pos q]; exact ry
    · rw [if_neg q, if_neg q]; exact r g
  · by_cases q : g = f
    · rw [q]; exact (keys_putF f y fs).1
    · refine (keys_putF f y fs).2 g (wi g fun z => hg ?_)
      show (if g = f then some u else mA g) = none
      rw [if_neg q]; exact z

/-- a new instance, tracked, without attributes -/
theorem Inv.made (I : Inv X pins σ H s) : Inv X pins σ (upd (upd H s.heap.objs.size (.own (s.heap.objs.size + 1))) (s.heap.objs.size + 1) (.ins C s.heap.objs.size []))
    { s with heap := (s.heap.push PySem.W.emptyDict).push (PySem.W.instObj C s.heap.objs.size) } := by
  have e1 : (s.heap.push PySem.W.emptyDict).get? s.heap.objs.size = some PySem.W.emptyDict := Heap.get?_push_size s.heap rfl
  have e2 : ((s.heap.push PySem.W.emptyDict).push (PySem.W.instObj C s.heap.objs.size)).get? (s.heap.objs.size + 1) = some (PySem.W.instObj C s.heap.objs.size) := by
    have := Heap.get?_push_size (s.heap.push PySem.W.emptyDict) (o := PySem.W.instObj C s.heap.objs.size) rfl
    rwa [Heap.size_push] at this
  have e3 : (s.heap.push PySem.W.emptyDict).Ns s.heap.objs.size (fun _ => none) := ⟨PySem.W.emptyDict, #[], _, e1, rfl, (fun e he => absurd he (by simp)), fun _ => rfl⟩
  have I1 := I.laid (a := s.heap.objs.size) (o := .own (s.heap.objs.size + 1)) (h' := s.heap.push PySem.W.emptyDict) (t' := s.toks) (fun b u q => Heap.get?_push_of_some _ q) (Nat.le_refl _) ⟨_, e1⟩
  refine I1.laid (a := s.heap.objs.size + 1) (o := .ins C s.heap.objs.size []) (t' := s.toks) (fun b u q => Heap.get?_push_of_some _ q) (Nat.le_of_eq (Heap.size_push _ _)) ?_
  have ne : s.heap.objs.size ≠ s.heap.objs.size + 1 := Nat.ne_of_lt (Nat.lt_succ_self _)
  refine ⟨by rw [upd_ne ne, upd_same], Nat.zero_le _, ne, e2, fun _ => none, (Heap.Ns1.of_empty e3).at fun o q => Heap.get?_push_of_some _ q, fun _ => True.intro, fun y hy => absurd rfl hy⟩

/-- e.f where nothing but the object is asked: through attributeBase (super) and the last hold -/
theorem attr_of {prog : Program} {w : World} {env : Env} {e : Expr} {f : Str} {pos : Pos} {s : Shared} {Q : Value → Shared → Prop} (hb : attributeBase e f env (eval e env) = eval e env)
    (h : wpAny (model prog w) A (eval e env) (fun o s₁ => wpAny (model prog w) A (getAttr o f true) Q E s₁) E s) : wpAny (model prog w) A (eval (.Attribute e f pos) env) Q E s :=
  Attribute_any_ h (by rw [arm_eval_Attribute, hb])
end

/-! ### readings and rules -/
/-- e.f, an attribute of the instance -/
def tFld (K : PySem.W.Frag) (ta : TE) (f : Str) : TE := fun σ H Q => ta σ H fun x H1 => ∃ a C dx fs v, x = .ref a ∧ H1 a = some (.ins C dx fs) ∧ Cls K C ∧ NoAttr K C f ∧ fs.lookup f = some v ∧ Q v H1
/-- e.f = value -/
def sFld (K : PySem.W.Frag) (ta tv : TE) (f : Str) : TS := fun D σ H => tv σ H fun y H1 => ta σ H1 fun x H2 => ∃ a C dx fs, x = .ref a ∧ H2 a = some (.ins C dx fs) ∧ Cls K C ∧ NoAttr K C f ∧ fs.length < 1000 ∧
  D.nx σ (upd H2 a (.ins C dx (putF f y fs)))
section
variable {X : Cx} {o e value : Expr} {f : Str} {pos pos' tpos : Pos} {ta tv : TE}
theorem pe_fld (he : PE X e ta) (hb : attributeBase e f X.env (eval e X.env) = eval e X.env) : PE X (.Attribute e f pos) (tFld X.K ta f) := by
  intro pins s σ H Q I h
  refine attr_of hb (thn (he pins s σ H _ I h) fun u s1 ⟨x, H1, I1, rx, a, C, dx, fs, v, ex, ea, c, n, l, q⟩ => ?_)
  subst ex
  obtain rfl : u = Value.ref a := rx
  exact getattr_ok I1 ea c n l fun u' s2 I2 ru => ⟨v, H1, I2, ru, q⟩
theorem ps_fld (ha : PE X o ta) (hv : PE X value tv) (hs : swapsWith value (some (.Attribute o f pos')) pos.line X.env = pure false) : PS X (.Assign [.Attribute o f pos'] value pos) (sFld X.K ta tv f) := by
  intro pins s σ H D I h
  refine plainObj_wpAny_Assign_Attribute (thn (hv pins s σ H _ I h) fun u s1 ⟨y, H1, I1, ry, q⟩ => thn (ha pins s1 σ H1 _ I1 q) fun ov s2 ⟨x, H2, I2, rx, a, C, dx, fs, ex, ea, c, n, l, q2⟩ => ?_) hs
  subst ex
  obtain rfl : ov = Value.ref a := rx
  exact setattr_ok I2 ea c n l ry fun s3 I3 => ⟨σ, _, I3, q2⟩
end

/-! ### isinstance -/
section
variable {X : Cx} {pins : List (Addr × Obj)} {σ : St} {H : Hp} {s : Shared} {A : Around} {E : Value → Shared → Prop} {Q : Value → Shared → Prop} {c : Value} {b : Bool}
end
end L2

namespace L2
open PySem PySem.Spec PyProof.Rows

/-! ### room -/
structure Room (k : Nat) (A : Around) : Prop where
  hd : A.handled = none
  dp : A.depth + 3 * k + 5 < recursionLimit
  un : A.units + 16 * k + 200 < cLine
theorem Room.mono {j k : Nat} {A : Around} (r : Room k A) (h : j ≤ k) : Room j A := ⟨r.hd, by have := r.dp; omega, by have := r.un; omega⟩
theorem Room.deeper {k : Nat} {A : Around} (r : Room (k + 1) A) (env : Env) : Room k (A.deeper env) :=
  ⟨r.hd, by have := r.dp; show A.depth + 1 + 3 * k + 5 < _; omega, by have := r.un; show A.units + 3 + 16 * k + 200 < _; omega⟩
theorem make_depth {A : Around} {C : Addr} {us : List Value} {kw : List (Str × Value)} : (A.under (.builtin "type.__call__" ⟨.ref C :: us, kw⟩)).depth = A.depth + 1 := by
  first | rfl | simp [Around.under, Code.weight, Code.isCreation, Code.isGuard, Code.isCaller, Code.frames, Code.isFrame, guardIds]
theorem make_units {A : Around} {C : Addr} {us : List Value} {kw : List (Str × Value)} : (A.under (.builtin "type.__call__" ⟨.ref C :: us, kw⟩)).units = A.units + 1 := by
  first | rfl | simp [Around.under, Code.cUnits, Code.frames, Code.isFrame]
theorem Room.make {k : Nat} {A : Around} (r : Room (k + 1) A) (C : Addr) (us : List Value) (kw : List (Str × Value)) : Room k (A.under (.builtin "type.__call__" ⟨.ref C :: us, kw⟩)) :=
  ⟨r.hd, by have := r.dp; rw [make_depth]; omega, by have := r.un; rw [make_units]; omega⟩
theorem Room.depth {k : Nat} {A : Around} (r : Room k A) : A.depth < recursionLimit := by have := r.dp; omega
theorem Room.units {k : Nat} {A : Around} (r : Room k A) : A.units + 64 < cLine := by have := r.un; omega
/-! ### argument lists and displays -/
def tNil : TA := fun _ H Q => Q [] H
def tCons (ta : TE) (tr : TA) : TA := fun σ H Q => ta σ H fun x H1 => tr σ H1 fun xs H2 => Q (x :: xs) H2
section
variable {X : Cx} {e : Expr} {es : List Expr} {te : TE} {t : TA} {pos : Pos}
theorem pa_nil : PA X [] tNil := fun _ _ _ _ H Q I h => Calls.spliced_nil ⟨[], H, I, .nil, h⟩
theorem pa_cons (ha : PE X e te) (hr : PA X es t) (hs : starEach (e :: es) X.env = (false, eval e X.env) :: starEach es X.env := by rfl) : PA X (e :: es) (tCons te t) := by
  intro pos pins s σ H Q I h
  rw [hs]
  show wpAny _ _ (spliced ((false, eval e X.env) :: backTo pos (starEach es X.env))) _ _ s
  refine Calls.spliced_cons (thn (ha pins s σ H _ I h) fun u s1 ⟨x, H1, I1, r1, q1⟩ => ?_)
  exact thn (hr pos pins s1 σ H1 _ I1 q1) fun us s2 ⟨xs, H2, I2, r2, q2⟩ => ⟨x :: xs, H2, I2, .cons r1 r2, q2⟩

/-- a tuple, a list of written items -/
def tTup (t : TA) : TE := fun σ H Q => t σ H fun xs H1 => xs.length ≤ sizeLine ∧ ∀ p, H1 p = none → Q (.ref p) (upd H1 p (.tup xs))
def tLst (t : TA) : TE := fun σ H Q => t σ H fun xs H1 => xs.length ≤ sizeLine ∧ ∀ p, H1 p = none → Q (.ref p) (upd H1 p (.lst xs))
theorem pe_tup {x1} (h : PA X es t) : PE X (.Tuple es x1 pos) (tTup t) := by
  intro pins s σ H Q I hq
  refine wpAny_Tuple_spliced (thn (h pos pins s σ H _ I hq) fun us s1 ⟨xs, H1, I1, r, z, q⟩ => ⟨by rw [← r.length]; exact z, ?_⟩)
  have hf : H1 s1.heap.objs.size = none := I1.hok.fresh (Nat.le_refl _)
  refine ⟨.ref s1.heap.objs.size, upd H1 s1.heap.objs.size (.tup xs), I1.laid (t' := s1.toks) (fun b u e => Heap.get?_push_of_some _ e) (Nat.le_refl _) ?_, rfl, q _ hf⟩
  exact ⟨z, us, r, ⟨_, Heap.get?_push_size _ rfl, rfl, _, rfl⟩⟩
theorem pe_lst (h : PA X es t) : PE X (.List es pos) (tLst t) := by
  intro pins s σ H Q I hq
  refine wpAny_List_spliced (thn (h pos pins s σ H _ I hq) fun us s1 ⟨xs, H1, I1, r, z, q⟩ => ⟨by rw [← r.length]; exact z, ?_⟩)
  have hf : H1 s1.heap.objs.size = none := I1.hok.fresh (Nat.le_refl _)
  refine ⟨.ref s1.heap.objs.size, upd H1 s1.heap.objs.size (.lst xs), I1.laid (t' := s1.toks) (fun b u e => Heap.get?_push_of_some _ e) (Nat.le_refl _) ?_, rfl, q _ hf⟩
  exact ⟨z, us, 0, r, Heap.get?_push_size _ rfl⟩
end

/-! ### what a def promises -/
/-- a def's promise: the bound arguments in the parameters' order, the heap, the wanted end, the wanted exception -/
abbrev Sp := List V → Hp → VK → XK → Prop
/-- how an exception lies behind a call (file 08 gives it): the callers' frames, abstract heap and state ahead of the call, the wish, the exception, the state -/
abbrev CXT := List Env → Hp → Shared → XK → Value → Shared → Prop

/-- the state at a call -/
structure Env0 (P : Program) (w : World) (K : PySem.W.Frag) (mg : Str → Option Value) (base : Heap) (A : Around) (outer : List Env) (s : Shared) (H : Hp) : Prop where
  frames : A.frames = some outer
  mod : Mod K mg base
  bs : ∀ b o, base.get? b = some o → s.heap.get? b = some o ∧ H b = none
  bsz : base.objs.size ≤ s.heap.objs.size
  funs : s.heap.FunFrames base outer
  frf : ∀ b ∈ frs outer, H b = none
  hok : HOk P w H s.heap
  bare : AllBare s.gens
/-- a call's end -/
def CE (outer : List Env) (P : Program) (w : World) (H : Hp) (s : Shared) (Q : VK) (u : Value) (s' : Shared) : Prop :=
  ∃ v H', s'.os = s.os ∧ AllBare s'.gens ∧ Un (frs outer) [] H H' s.heap s'.heap ∧ HOk P w H' s'.heap ∧ RelV v u ∧ Q v H'
def CR (CX : CXT) (outer : List Env) (P : Program) (w : World) (H : Hp) (s : Shared) (Q : VK) (E : XK) (r : Result) (s' : Shared) : Prop :=
  match r with
  | .ok (.ret u) => CE outer P w H s Q u s'
  | .ok _ => False
  | .error e => CX outer H s E e s'
structure FnOk (P : Program) (w : World) (K : PySem.W.Frag) (mg : Str → Option Value) (base : Heap) (CX : CXT) (k : Nat) (f : Addr) (fd : FuncData) (ps : List Str) (sp : Sp) : Prop where
  len : ∀ vs H Q E, sp vs H Q E → vs.length = ps.length
  run : ∀ (A : Around) (outer : List Env) (s : Shared) (H : Hp) (args : Args) (us : List Value) (vs : List V) (Q : VK) (E : XK), Room k A → Env0 P w K mg base A outer s H → BindsTo s fd args (ps.zip us) → Vals vs us → sp vs H Q E →
    codeAny (model P w) A (.call (.ref f) args) (CR CX outer P w H s Q E) s
theorem Env0.make {P : Program} {w : World} {K : PySem.W.Frag} {mg : Str → Option Value} {base : Heap} {A : Around} {outer : List Env} {s : Shared} {H : Hp} (e : Env0 P w K mg base A outer s H) (C : Addr) (us : List Value) (kw : List (Str × Value)) :
    Env0 P w K mg base (A.under (.builtin "type.__call__" ⟨.ref C :: us, kw⟩)) outer s H := ⟨by first | exact e.frames | (simpa [Around.under, Code.envs, Code.isFrame, pushEnvs] using e.frames), e.mod, e.bs, e.bsz, e.funs, e.frf, e.hok, e.bare⟩
section
variable {X : Cx} {pins : List (Addr × Obj)} {σ : St} {H : Hp} {s s' : Shared}
/-- from a body: what a callee wants -/
theorem Inv.env0 (I : Inv X pins σ H s) : Env0 X.prog X.w X.K X.mg X.base X.A X.stack s H :=
  ⟨I.ok.frames, I.ok.mod, I.bs, Nat.le_trans I.ok.bsz I.sz, I.stack, I.stkFree, I.hok, I.bare⟩
/-- behind a call -/
theorem Inv.after {Q : VK} {u : Value} (I : Inv X pins σ H s) (h : CE X.stack X.prog X.w H s Q u s') : EP X pins σ Q u s' := by
  obtain ⟨v, H', os, bare, un, hok, r, q⟩ := h
  obtain ⟨hh, g, d, t, os'⟩ := s'
  obtain rfl : os' = s.os := os
  exact ⟨v, H', I.call (h' := hh) (g' := g) (d' := d) (t' := t) (ch := []) un hok bare (fun b z => absurd z (by simp)), r, q⟩
end

/-! ### calls -/
/-- f(..): the written arguments, then the defaults dvs; E: what is wanted of an exception -/
def tCall (sp : Sp) (dvs : List V) (E : XK) (t : TA) : TE := fun σ H Q => t σ H fun vs H1 => sp (vs ++ dvs) H1 Q E
/-- o.m(..) of an instance of the class at C -/
def tMeth (C : Addr) (m : Str) (sp : Sp) (dvs : List V) (E : XK) (ta : TE) (t : TA) : TE := fun σ H Q => ta σ H fun x H1 => ∃ a dx fs, x = .ref a ∧ H1 a = some (.ins C dx fs) ∧ fs.lookup m = none ∧
  t σ H1 fun vs H2 => sp (x :: (vs ++ dvs)) H2 Q E
/-- C(..): a new instance and its dict, then __init__ -/
def tMake (C : Addr) (sp : Sp) (dvs : List V) (E : XK) (t : TA) : TE := fun σ H Q => t σ H fun vs H1 => ∀ x dx, H1 x = none → H1 dx = none → dx ≠ x →
  sp (.ref x :: (vs ++ dvs)) (upd (upd H1 dx (.own x)) x (.ins C dx [])) (fun v H2 => v = .non ∧ Q (.ref x) H2) E

/-- how the parameters are bound: us the positional arguments, kw the keywords' values by name, ds the defaults that fill up -/
def Binds (K : PySem.W.Frag) (fd : FuncData) (ps : List Str) (ds : List Value) : Prop :=
  ∀ (s : Shared) (us : List Value), K.In s.heap → (us ++ ds).length = ps.length → BindsTo s fd ⟨us, []⟩ (ps.zip (us ++ ds))
/-- every parameter is given -/
theorem Binds.all {K : PySem.W.Frag} {fd : FuncData} {ps : List Str} (h : ∀ us : List Value, us.length = ps.length → bindArgs fd ⟨us, []⟩ = pure (ps.zip us)) : Binds K fd ps [] := fun s us _ hl => by
  rw [List.append_nil] at hl ⊢
  exact .of_eq (h us hl)

/-- an exception of a callee reaches what this body wants of exceptions -/
def Passes (CX : CXT) (X : Cx) (E : XK) : Prop := ∀ (pins : List (Addr × Obj)) (σ : St) (H : Hp) (s : Shared) (e : Value) (s' : Shared), Inv X pins σ H s → CX X.stack H s E e s' → X.xe e s'

section
variable {X : Cx} {CX : CXT} {k : Nat} {f C : Addr} {fd : FuncData} {ps : List Str} {sp : Sp} {dvs : List V} {ds : List Value} {E : XK} {x m : Str} {p pos apos : Pos} {e o : Expr} {es : List Expr} {ta : TE} {t : TA}

/-- the callee runs -/
theorem run_fn {pins : List (Addr × Obj)} {σ : St} {H : Hp} {s : Shared} {Q : VK} {us : List Value} {vs : List V} (F : FnOk X.prog X.w X.K X.mg X.base CX k f fd ps sp) (hr : Room k X.A) (hb : Binds X.K fd ps ds) (hd : Vals dvs ds) (hx : Passes CX X E)
    (I : Inv X pins σ H s) (r : Vals vs us) (h : sp (vs ++ dvs) H Q E) : wpAny (model X.prog X.w) X.A (call (.ref f) us) (EP X pins σ Q) X.xe s := by
  have r2 : Vals (vs ++ dvs) (us ++ ds) := r.append hd
  have hl : (us ++ ds).length = ps.length := by rw [← r2.length]; exact F.len _ _ _ _ h
  refine wpAny_call (codeAny_mono (F.run X.A X.stack s H ⟨us, []⟩ (us ++ ds) (vs ++ dvs) Q E hr I.env0 (hb s us I.kIn hl) r2 h) fun r s' hq => ?_)
  cases r with
  | error e => exact hx pins σ H s e s' I hq
  | ok fl =>
    cases fl with
    | ret u => exact I.after hq
    | next => exact False.elim hq
    | brk => exact False.elim hq
    | cont => exact False.elim hq

theorem pe_call (F : FnOk X.prog X.w X.K X.mg X.base CX k f fd ps sp) (hr : Room k X.A) (hg : Gl X x) (hm : X.mg x = some (.ref f)) (hk : PySem.W.keepIn X.K (.ref f) = true) (hb : Binds X.K fd ps ds) (hd : Vals dvs ds) (hx : Passes CX X E)
    (ha : PA X (e :: es) t) (hdb : (x == ("__debug__" : Str)) = false := by decide) (he : starEach (e :: es) X.env = (false, eval e X.env) :: starEach es X.env := by rfl) (hpl : (backTo pos (starEach es X.env)).any (·.1) = false := by rfl) :
    PE X (.Call (.Name x p) (e :: es) [] pos) (tCall sp dvs E t) := by
  intro pins s σ H Q I h
  refine wpAny_Call_Name_kw (ld_glob I hg hm ?_ hdb)
  refine PySem.W.callWith_K (h₀ := X.base) I.ok.mod.kin hk (thn (ha pos pins s σ H _ I h) fun us s1 ⟨vs, H1, I1, r, q⟩ => ⟨I1.kIn, ?_⟩) he hpl
  exact run_fn F hr hb hd hx I1 r q
/-- o.m(e, ..) -/
theorem pe_meth {pl : Sem Bool} (he : PE X o ta) (c : Cls X.K C) (hm : Meth X.K C m f) (F : FnOk X.prog X.w X.K X.mg X.base CX k f fd ps sp) (hr : Room k X.A) (hb : Binds X.K fd ps ds) (hd : Vals dvs ds) (hx : Passes CX X E) (ha : PA X (e :: es) t)
    (hst : starEach (e :: es) X.env = (false, eval e X.env) :: starEach es X.env := by rfl) (hpl : (backTo pos (starEach es X.env)).any (·.1) = false := by rfl)
    (ht : eval (.Call (.Attribute o m apos) (e :: es) [] pos) X.env = (do
      let ov ← eval o X.env
      standAt apos.atName
      let (f, first) ← holding [ov] (getMethod ov m pl)
      callWith pos f first (backTo pos (starEach (e :: es) X.env)) (backToKw pos (keywordEach [] X.env))) := by rfl) :
    PE X (.Call (.Attribute o m apos) (e :: es) [] pos) (tMeth C m sp dvs E ta t) := by
  intro pins s σ H Q I h
  refine PySem.W.methodCall_KW (pl := pl) (thn (he pins s σ H _ I h) fun u s1 ⟨x, H1, I1, rx, a, dx, fs, ex, ea, l, q⟩ => ?_) ht
  subst ex
  obtain rfl : u = Value.ref a := rx
  refine getmeth_ok I1 ea c hm l ?_
  refine PySem.W.callWith_K (first := [.ref a]) (h₀ := X.base) I.ok.mod.kin hm.kp (thn (ha pos pins s1 σ H1 _ I1 q) fun us s2 ⟨vs, H2, I2, r, q2⟩ => ⟨I2.kIn, ?_⟩) hst hpl
  exact run_fn (us := .ref a :: us) (vs := .ref a :: vs) F hr hb hd hx I2 (.cons rfl r) q2
/-- o.m() -/
theorem pe_meth0 {pl : Sem Bool} (he : PE X o ta) (c : Cls X.K C) (hm : Meth X.K C m f) (F : FnOk X.prog X.w X.K X.mg X.base CX k f fd ps sp) (hr : Room k X.A) (hb : Binds X.K fd ps ds) (hd : Vals dvs ds) (hx : Passes CX X E)
    (ht : eval (.Call (.Attribute o m apos) [] [] pos) X.env = (do
      let ov ← eval o X.env
      standAt apos.atName
      let (f, first) ← holding [ov] (getMethod ov m pl)
      callWith pos f first (backTo pos (starEach [] X.env)) (backToKw pos (keywordEach [] X.env))) := by rfl) :
    PE X (.Call (.Attribute o m apos) [] [] pos) (tMeth C m sp dvs E ta tNil) := by
  intro pins s σ H Q I h
  refine PySem.W.methodCall_KW (pl := pl) (thn (he pins s σ H _ I h) fun u s1 ⟨x, H1, I1, rx, a, dx, fs, ex, ea, l, q⟩ => ?_) ht
  subst ex
  obtain rfl : u = Value.ref a := rx
  refine getmeth_ok I1 ea c hm l ?_
  exact PySem.W.callWith_K0 (first := [.ref a]) I1.kIn hm.kp (run_fn (us := [.ref a]) (vs := [.ref a]) F hr hb hd hx I1 (.cons rfl .nil) q)

/-- what a class must have to be made -/
structure Mk (K : PySem.W.Frag) (C f : Addr) : Prop where
  makes : PySem.W.makesIn K C = true
  init : PySem.W.findIn K (.ref C) "__init__" = some (some (.ref f))
  fn : PySem.W.isFn K (.ref f) = true
  kp : PySem.W.keepIn K (.ref C) = true

theorem run_make {pins : List (Addr × Obj)} {σ : St} {H : Hp} {s : Shared} {Q : VK} {us : List Value} {vs : List V} (M : Mk X.K C f) (F : FnOk X.prog X.w X.K X.mg X.base CX k f fd ps sp) (hr : Room (k + 1) X.A) (hb : Binds X.K fd ps ds) (hd : Vals dvs ds)
    (hx : Passes CX X E) (I : Inv X pins σ H s) (r : Vals vs us)
    (h : ∀ x dx, H x = none → H dx = none → dx ≠ x → sp (.ref x :: (vs ++ dvs)) (upd (upd H dx (.own x)) x (.ins C dx [])) (fun v H2 => v = .non ∧ Q (.ref x) H2) E) :
    wpAny (model X.prog X.w) X.A (call (.ref C) us) (EP X pins σ Q) X.xe s := by
  have hq := h (s.heap.objs.size + 1) s.heap.objs.size (I.hok.fresh (Nat.le_succ _)) (I.hok.fresh (Nat.le_refl _)) (Nat.ne_of_lt (Nat.lt_succ_self _))
  have I2 := Inv.made (C := C) I
  have r2 : Vals (V.ref (s.heap.objs.size + 1) :: (vs ++ dvs)) (Value.ref (s.heap.objs.size + 1) :: (us ++ ds)) := .cons rfl (r.append hd)
  have hl : (Value.ref (s.heap.objs.size + 1) :: us ++ ds).length = ps.length := by
    have e := r2.length
    rw [F.len _ _ _ _ hq] at e
    exact e.symm
  refine wpAny_call (make_map (f := f) I.kIn M.makes M.init (beq_iff_eq.mp M.fn) (codeAny_mono (F.run _ X.stack _ _ ⟨Value.ref (s.heap.objs.size + 1) :: us, []⟩ (Value.ref (s.heap.objs.size + 1) :: (us ++ ds)) _ _ E (hr.make C us [])
    (I2.env0.make C us []) (hb _ (Value.ref (s.heap.objs.size + 1) :: us) I2.kIn hl) r2 hq) fun r s' hq' => ?_))
  cases r with
  | error e => exact hx pins σ _ _ e s' I2 hq'
  | ok fl =>
    cases fl with
    | ret u =>
      obtain ⟨v, H', I3, rv, ev, q3⟩ := I2.after hq'
      subst ev
      exact ⟨rv, ⟨V.ref (s.heap.objs.size + 1), H', I3, rfl, q3⟩⟩
    | next => exact False.elim hq'
    | brk => exact False.elim hq'
    | cont => exact False.elim hq'
theorem pe_make (M : Mk X.K C f) (F : FnOk X.prog X.w X.K X.mg X.base CX k f fd ps sp) (hr : Room (k + 1) X.A) (hg : Gl X x) (hm : X.mg x = some (.ref C)) (hb : Binds X.K fd ps ds) (hd : Vals dvs ds) (hx : Passes CX X E)
    (ha : PA X (e :: es) t) (hdb : (x == ("__debug__" : Str)) = false := by decide) (he : starEach (e :: es) X.env = (false, eval e X.env) :: starEach es X.env := by rfl) (hpl : (backTo pos (starEach es X.env)).any (·.1) = false := by rfl) :
    PE X (.Call (.Name x p) (e :: es) [] pos) (tMake C sp dvs E t) := by
  intro pins s σ H Q I h
  refine wpAny_Call_Name_kw (ld_glob I hg hm ?_ hdb)
  refine PySem.W.callWith_K (h₀ := X.base) I.ok.mod.kin M.kp (thn (ha pos pins s σ H _ I h) fun us s1 ⟨vs, H1, I1, r, q⟩ => ⟨I1.kIn, ?_⟩) he hpl
  exact run_make M F hr hb hd hx I1 r q
end

/-! ### keywords -/
section
variable {X : Cx} {CX : CXT} {k : Nat} {f C : Addr} {fd : FuncData} {ps ks : List Str} {sp : Sp} {E : XK} {x m : Str} {p pos apos kpos : Pos} {e o : Expr} {es : List Expr} {kws : List Keyword} {te ta : TE} {t tk : TA} {nm : Option Str}
variable {g : List Value → List Value → List Value} {gV : List V → List V → List V}
end

/-! ### a def's body keeps its promise -/
/-- names: the parameters first -/
structure FnScope (N P : List Str) (sc : Scope) : Prop where
  kind : sc.kind = .function
  co : sc.isCoroutine = false
  gen : sc.isGenerator = false
  nd : N.Nodup
  pre : N.take P.length = P
  par : ∀ x ∈ P, sc.names.lookup x = some .local ∨ sc.names.lookup x = some .cell
  nofree : ∀ y ∈ sc.names, y.2 ≠ .free

theorem bindL_out {kindOf : Str → Option NameKind} {x : Str} : ∀ {binds : List (Str × Value)} {m : Str → Option Value}, (∀ v, (x, v) ∉ binds) → bindL kindOf binds m x = m x
  | [], _, _ => rfl
  | (n, v) :: r, m, h => by
    unfold bindL
    rw [bindL_out fun w hw => h w (List.mem_cons_of_mem _ hw)]
    split
    · have : x ≠ n := by rintro rfl; exact h v List.mem_cons_self
      simp [this]
    · rfl
theorem bindC_out {kindOf : Str → Option NameKind} {x : Str} : ∀ {binds : List (Str × Value)} {m : Str → Option Value}, (∀ v, (x, v) ∉ binds) → bindC kindOf binds m x = m x
  | [], _, _ => rfl
  | (n, v) :: r, m, h => by
    unfold bindC
    rw [bindC_out fun w hw => h w (List.mem_cons_of_mem _ hw)]
    split
    · rfl
    · have : x ≠ n := by rintro rfl; exact h v List.mem_cons_self
      simp [this]
theorem bindL_get {kindOf : Str → Option NameKind} {x : Str} {v : Value} : ∀ {P : List Str} {vs : List Value} {i : Nat} {m : Str → Option Value}, P.Nodup → P[i]? = some x → vs[i]? = some v → kindOf x = some .local →
    bindL kindOf (P.zip vs) m x = some v
  | [], _, _, _, _, h, _, _ => by simp at h
  | _ :: _, [], _, _, _, _, h, _ => by simp at h
  | p :: P, w :: vs, 0, m, nd, h1, h2, hk => by
    simp at h1 h2; subst h1; subst h2
    show bindL kindOf ((p, w) :: P.zip vs) m p = _
    unfold bindL
    rw [bindL_out fun v hv => (List.nodup_cons.mp nd).1 (List.of_mem_zip hv).1, if_pos hk]
    simp
  | p :: P, w :: vs, i + 1, m, nd, h1, h2, hk => by
    show bindL kindOf ((p, w) :: P.zip vs) m x = _
    unfold bindL
    exact bindL_get (i := i) (List.nodup_cons.mp nd).2 (by simpa using h1) (by simpa using h2) hk
theorem bindC_get {kindOf : Str → Option NameKind} {x : Str} {v : Value} : ∀ {P : List Str} {vs : List Value} {i : Nat} {m : Str → Option Value}, P.Nodup → P[i]? = some x → vs[i]? = some v → kindOf x ≠ some .local →
    bindC kindOf (P.zip vs) m x = some v
  | [], _, _, _, _, h, _, _ => by simp at h
  | _ :: _, [], _, _, _, _, h, _ => by simp at h
  | p :: P, w :: vs, 0, m, nd, h1, h2, hk => by
    simp at h1 h2; subst h1; subst h2
    show bindC kindOf ((p, w) :: P.zip vs) m p = _
    unfold bindC
    rw [bindC_out fun v hv => (List.nodup_cons.mp nd).1 (List.of_mem_zip hv).1, if_neg hk]
    simp
  | p :: P, w :: vs, i + 1, m, nd, h1, h2, hk => by
    show bindC kindOf ((p, w) :: P.zip vs) m x = _
    unfold bindC
    exact bindC_get (i := i) (List.nodup_cons.mp nd).2 (by simpa using h1) (by simpa using h2) hk

/-- the names' values at the entry -/
def start (N : List Str) (vs : List V) : St := vs.map some ++ List.replicate (N.length - vs.length) none

/-- the context of a def's body, at its entry; an exception leaves the frame, then lies as CX says -/
def cxOf (CX : CXT) (P : Program) (w : World) (K : PySem.W.Frag) (mg : Str → Option Value) (base : Heap) (N : List Str) (qual : Str) (scope : Scope) (f : Addr) (cd : Value) (A : Around) (outer : List Env) (s : Shared) (H : Hp) (E : XK) : Cx where
  prog := P
  w := w
  K := K
  mg := mg
  base := base
  A := A.deeper (envOfC qual scope s.heap.objs.size f cd)
  N := N
  s_0 := s
  H_0 := H
  env := envOfC qual scope s.heap.objs.size f cd
  outer := outer
  stack := envOfC qual scope s.heap.objs.size f cd :: outer
  ex := []
  calm := true
  fn := fun _ => true
  pn := []
  xe := fun e s' => wpAny (model P w) (A.deeper (envOfC qual scope s.heap.objs.size f cd)) (leaving (envOfC qual scope s.heap.objs.size f cd) e) (fun _ s'' => CX outer H s E e s'') (fun e' s'' => CX outer H s E e' s'') s'

theorem cell_has {sc : Scope} {n : Nat} {x : Str} (h : sc.names.lookup x = some .cell) : ∃ c, (cellsFrom n sc.names []).lookup x = some c := by
  have q := PySem.W.cellsFrom_some sc.names n [] (.inl h)
  exact Option.isSome_iff_exists.mp q

theorem inv_start {CX : CXT} {P : Program} {w : World} {K : PySem.W.Frag} {mg : Str → Option Value} {base : Heap} {N ps : List Str} {qual : Str} {scope : Scope} {f : Addr} {cd : Value} {A : Around} {outer : List Env} {s s1 : Shared} {H : Hp} {E : XK} {us : List Value} {vs : List V}
    (S : FnScope N ps scope) (hd : A.handled = none) (e0 : Env0 P w K mg base A outer s H) (hl : vs.length = ps.length) (r : Vals vs us)
    (x : InCallC s s.heap.objs.size (bindL (envOfC qual scope s.heap.objs.size f cd).kindOf (ps.zip us) fun _ => none) (cellsFrom (s.heap.objs.size + 1) scope.names []) (bindC (envOfC qual scope s.heap.objs.size f cd).kindOf (ps.zip us) fun _ => none) s1) :
    Inv (cxOf CX P w K mg base N qual scope f cd A outer s H E) [] (start N vs) H s1 := by
  have hpl : ps.length ≤ N.length := by have := congrArg List.length S.pre; rw [List.length_take] at this; omega
  obtain ⟨h1, tk, rfl, hk⟩ := x.done
  have noA : ∀ b : Addr, b ∉ (cxOf CX P w K mg base N qual scope f cd A outer s H E).ex := fun b z => absurd (show b ∈ ([] : List Addr) from z) (by simp)
  refine ⟨⟨e0.mod, S.kind, rfl, rfl, Nat.le_refl _, fun y z c h1 h2 => ?_, fun y hy => ?_, fun y c _ h => ?_, fun _ => hd, Around.frames_deeper e0.frames, .inr ⟨rfl, rfl⟩, fun b z => absurd z (noA b), e0.bs, e0.bsz, fun b _ _ => noA b, fun b z => absurd z (noA b), e0.funs, e0.frf⟩,
    rfl, e0.bare, Un.kept hk, ⟨_, x.toInCall.ns, fun i y v h1 h2 h3 => ?_⟩, fun y c h => ⟨_, x.cell y c h⟩, e0.hok.fresh (Nat.le_refl _), fun y c h => ?_, fun p hp => absurd (show p ∈ ([] : List (Addr × Obj)) from hp) (by simp), e0.hok.kept hk, ?_⟩
  · exact name_of_addr x.apart (PySem.mem_of_lookup h1) (PySem.mem_of_lookup h2)
  · have hy : scope.names.lookup y = some .cell ∨ scope.names.lookup y = some .free := hy
    rcases hy with hy | hy
    · exact cell_has hy
    · exact absurd rfl (S.nofree _ (PySem.mem_of_lookup hy))
  · exact Nat.le_of_lt (x.above y c (PySem.mem_of_lookup h))
  · have hi : i < vs.length := by
      unfold start at h2
      by_cases hi : i < vs.length
      · exact hi
      · rw [List.getElem?_append_right (by simpa using hi)] at h2
        rw [List.getElem?_replicate] at h2
        split at h2 <;> cases h2
    have ha : vs[i]? = some v := by
      unfold start at h2
      rw [List.getElem?_append_left (by simpa using hi), List.getElem?_map] at h2
      cases e : vs[i]? with
      | none => rw [e] at h2; cases h2
      | some a => rw [e] at h2; cases h2; rfl
    obtain ⟨u, hu, rv⟩ := r.get ha
    have hp : ps[i]? = some y := by
      rw [← S.pre, List.getElem?_take_of_lt (by omega)]; exact h1
    have ndP : ps.Nodup := by rw [← S.pre]; exact S.nd.sublist (List.take_sublist _ _)
    refine ⟨u, rv, ?_⟩
    rcases S.par y (List.mem_of_getElem? hp) with k | k
    · exact .inl ⟨k, bindL_get ndP hp hu k⟩
    · obtain ⟨c, e⟩ := cell_has (n := s.heap.objs.size + 1) k
      refine .inr ⟨.inl k, c, e, ?_⟩
      have q := x.cell y c e
      rw [bindC_get ndP hp hu (by show scope.names.lookup y ≠ _; rw [k]; decide)] at q
      exact q
  · exact e0.hok.fresh (Nat.le_of_lt (x.above y c (PySem.mem_of_lookup h)))
  · unfold start
    show _ = N.length
    rw [List.length_append, List.length_map, List.length_replicate]
    omega

/-- THE RULE: a def (or a method) of the text, by its body. The body's reading t is chosen for each entry; it is run at the parameters' values -/
theorem fn_of {CX : CXT} {P : Program} {w : World} {K : PySem.W.Frag} {mg : Str → Option Value} {base : Heap} {k : Nat} {f : Addr} {name qual : Str} {params : Arguments} {body : List Stmt} {scope : Scope} {dV kV doc pm cdv ct oc : Value} {an od : Option Addr}
    {osl : Array (Option Value)} {N ps : List Str} {sp : Sp} (lk : K.lookup f = some ⟨oc, od, .func (PySem.W.fnOf name qual params body scope dV kV doc pm an cdv ct), osl⟩) (hcd : PySem.W.codeIn K cdv qual = true) (S : FnScope N ps scope)
    (len : ∀ vs H Q E, sp vs H Q E → vs.length = ps.length)
    (hbody : ∀ (A : Around) (outer : List Env) (s : Shared) (H : Hp) (vs : List V) (Q : VK) (E : XK), Room k (A.deeper (envOfC qual scope s.heap.objs.size f cdv)) → sp vs H Q E →
      ∃ t, PSs (cxOf CX P w K mg base N qual scope f cdv A outer s H E) body t ∧ t { nx := fun _ H' => Q .non H', rt := Q } (start N vs) H) :
    FnOk P w K mg base CX (k + 1) f (PySem.W.fnOf name qual params body scope dV kV doc pm an cdv ct) ps sp := by
  refine ⟨len, fun A outer s H args us vs Q E hr e0 hb r hsp => ?_⟩
  have hl := len _ _ _ _ hsp
  have KX : K.In s.heap := e0.mod.kin.keeps fun b o e => (e0.bs b o e).1
  have lim : s.heap.NoLimit := e0.mod.nolimit.keeps fun b o e => (e0.bs b o e).1
  have hkind : ∀ y ∈ ps.zip us, scope.names.lookup y.1 = some .local ∨ (scope.names.lookup y.1 = some .cell ∧ ((cellsFrom (s.heap.objs.size + 1) scope.names []).lookup y.1).isSome = true) := fun ⟨n, v⟩ hy => by
    rcases S.par n (List.of_mem_zip hy).1 with q | q
    · exact .inl q
    · exact .inr ⟨q, PySem.W.cellsFrom_some _ _ _ (.inl q)⟩
  refine codeAny_call_function hr.depth (KX _ _ lk) rfl S.co S.gen rfl (PySem.W.codeRec_of KX hcd) (hb _ _ _ _ ?_)
  refine wpAny_newFunctionEnv_cells S.kind hkind fun env he s1 x => ?_
  subst he
  refine ⟨lim.keeps x.toInCall.keep, codeAny_func ?_⟩
  obtain ⟨t, ht, hq⟩ := hbody A outer s H vs Q E (hr.deeper _) hsp
  have I : Inv (cxOf CX P w K mg base N qual scope f cdv A outer s H E) [] (start N vs) H s1 := inv_start S hr.hd e0 hl r x
  refine wpAny_mono (ht [] s1 (start N vs) H _ I hq) (fun fl s' hs => ?_) fun e s' hs => hs
  have fin : ∀ {σ' : St} {H' : Hp} {v : V} {u : Value}, Inv (cxOf CX P w K mg base N qual scope f cdv A outer s H E) [] σ' H' s' → RelV v u → Q v H' → CE outer P w H s Q u s' :=
    fun {σ' H' v u} J rv q => ⟨v, H', J.os, J.bare, J.base, J.hok, rv, q⟩
  cases fl with
  | ret u =>
    obtain ⟨v, σ', H', J, rv, q⟩ := hs
    exact fin J rv q
  | next =>
    obtain ⟨σ', H', J, q⟩ := hs
    exact fin (v := V.non) (u := Value.none) J rfl q
  | brk =>
    obtain ⟨_, _, _, q⟩ := hs
    exact False.elim q
  | cont =>
    obtain ⟨_, _, _, q⟩ := hs
    exact False.elim q
end L2

namespace L2
open PySem PySem.Spec PyProof.Rows
section
variable {X : Cx} {x : Str} {p pos : Pos} {e : Expr} {es : List Expr} {t : TA} {id T : String} {r : List V → Hp → VK → Prop}

def tCB (r : List V → Hp → VK → Prop) (t : TA) : TE := fun σ H Q => t σ H fun vs H1 => r vs H1 Q
/-- f(e, ..), f a built-in function -/
theorem pe_callB (hc : CallR X (.builtin id) r) (hg : Gl X x) (hm : X.mg x = none) (hv : bootBuiltins x = some (.builtin id)) (ha : PA X (e :: es) t) (hn : x ≠ "__name__" := by decide) (hdb : (x == ("__debug__" : Str)) = false := by decide)
    (he : starEach (e :: es) X.env = (false, eval e X.env) :: starEach es X.env := by rfl) (hpl : (backTo pos (starEach es X.env)).any (·.1) = false := by rfl) : PE X (.Call (.Name x p) (e :: es) [] pos) (tCB r t) := by
  intro pins s σ H Q I h
  refine wpAny_Call_Name_kw (ld_blt I hg hm hv ?_ hn hdb)
  exact PyProof.Rows.callWith_builtin1 (thn (ha pos pins s σ H _ I h) fun us s1 ⟨vs, H1, I1, r1, q1⟩ => hc pins s1 σ H1 vs us Q I1 r1 q1) he hpl
/-- T(e, ..), T a built-in type -/
theorem pe_callTy (hc : CallR X (.type T) r) (hg : Gl X x) (hm : X.mg x = none) (hv : bootBuiltins x = some (.type T)) (ha : PA X (e :: es) t) (hn : x ≠ "__name__" := by decide) (hdb : (x == ("__debug__" : Str)) = false := by decide)
    (he : starEach (e :: es) X.env = (false, eval e X.env) :: starEach es X.env := by rfl) (hpl : (backTo pos (starEach es X.env)).any (·.1) = false := by rfl) : PE X (.Call (.Name x p) (e :: es) [] pos) (tCB r t) := by
  intro pins s σ H Q I h
  refine wpAny_Call_Name_kw (ld_blt I hg hm hv ?_ hn hdb)
  exact PyProof.Rows.callWith_type1 (thn (ha pos pins s σ H _ I h) fun us s1 ⟨vs, H1, I1, r1, q1⟩ => hc pins s1 σ H1 vs us Q I1 r1 q1) he hpl
end
end L2

namespace HT
open PySem PyProof.Rows

section
open PySem.SeqAt
open PySem.AutoSeq1 (wpAny_loadPart')
open PySem.MeetsSeq PySem.MeetsSeq2 PySem.MeetsSeq3

end

section
variable {prog : Program} {w : World} {A : Around} {E : Value → Shared → Prop} {s : Shared}

/-! ### t[a:b], not the whole -/
/-- a slice's bound as a place among n (d where it is left out) -/
def sIx (n d : Nat) : Option Int → Nat
  | none => d
  | some v => if v < 0 then (v + (n : Int)).toNat else min v.toNat n
theorem sIx_none (n d : Nat) : sIx n d none = d := rfl
theorem sIx_nat (n d k : Nat) : sIx n d (some (k : Int)) = min k n := by
  show (if (k : Int) < 0 then ((k : Int) + (n : Int)).toNat else min (k : Int).toNat n) = min k n
  rw [if_neg (by omega), Int.toNat_natCast]
end
end HT

namespace L2
open PySem PySem.Spec PyProof.Rows

/-! ### the parts of a slice -/
abbrev TO := St → Hp → (Option Int → Hp → Prop) → Prop
/-- a slice's part (left out, or an int) -/
def PO (X : Cx) (e : Option Expr) (t : TO) : Prop :=
  ∀ (pins : List (Addr × Obj)) (s : Shared) (σ : St) (H : Hp) (Q : Option Int → Hp → Prop), Inv X pins σ H s → t σ H Q →
    wpAny (model X.prog X.w) X.A (evalPart e X.env) (fun u s' => ∃ o H', Inv X pins σ H' s' ∧ IsPart u o ∧ Q o H') X.xe s
def tNoPart : TO := fun _ H Q => Q none H
def tPart (t : TE) : TO := fun σ H Q => t σ H fun x H1 => ∃ i, x = .int i ∧ Q (some i) H1

section
variable {X : Cx} {e : Expr} {te : TE} {lo hi : Option Expr} {tl th : TO} {pos p2 : Pos}

theorem po_none : PO X none tNoPart := by
  intro pins s σ H Q I h
  rw [evalPart_none]
  exact wpAny_pure ⟨none, H, I, .none, h⟩
theorem po_some (h : PE X e te) : PO X (some e) (tPart te) := by
  intro pins s σ H Q I hw
  rw [evalPart_some]
  refine thn (h pins s σ H _ I hw) fun u s1 ⟨x, H1, I1, r1, q1⟩ => ?_
  obtain ⟨i, rfl, q⟩ := q1
  obtain ⟨t, rfl⟩ := r1
  exact ⟨some i, H1, I1, .int i t, q⟩

/-- what a slice of a value is, by values: the slice object stands at sl -/
def SlR (X : Cx) (r : V → Option Int → Option Int → Hp → VK → Prop) : Prop :=
  ∀ (pins : List (Addr × Obj)) (s : Shared) (σ : St) (H : Hp) (x : V) (v vl vu : Value) (lo hi : Option Int) (sl : Addr) (Q : VK), Inv X pins σ H s → RelV x v → s.heap.IsSliceOf sl vl vu .none → IsPart vl lo → IsPart vu hi → r x lo hi H Q →
    ∃ T id, typeLookup (.type T) "__getitem__" = pure (some (.builtin id)) ∧ s.TypeIs v T ∧ wpAny (model X.prog X.w) X.A (getItem v (.ref sl)) (EP X pins σ Q) X.xe s
def tSl (r : V → Option Int → Option Int → Hp → VK → Prop) (te : TE) (tl th : TO) : TE := fun σ H Q => te σ H fun x H1 => tl σ H1 fun l H2 => th σ H2 fun u H3 => r x l u H3 Q
/-- a[lo:hi], any a -/
theorem pe_slice {r : V → Option Int → Option Int → Hp → VK → Prop} (hr : SlR X r) (he : PE X e te) (hl : PO X lo tl) (hu : PO X hi th) : PE X (.Subscript e (.Slice lo hi none p2) pos) (tSl r te tl th) := by
  intro pins s σ H Q I h
  refine Subscript_ (thn (he pins s σ H _ I h) fun v s1 ⟨x, H1, I1, r1, q1⟩ => ?_)
  refine wpAny_Slice (thn (hl pins s1 σ H1 _ I1 q1) fun vl s2 ⟨l, H2, I2, pl, q2⟩ => thn (hu pins s2 σ H2 _ I2 q2) fun vu s3 ⟨u, H3, I3, pu, q3⟩ => ?_)
  rw [evalPart_none]
  refine wpAny_pure ?_
  have I4 : Inv X pins σ H3 { s3 with heap := s3.heap.push { cls := .type "slice", data := .fields #[vl, vu, .none] } } := I3.kept (t' := s3.toks) fun b ob q => Heap.get?_push_of_some _ q
  obtain ⟨T, id, hT, ht, hg⟩ := hr pins { s3 with heap := s3.heap.push { cls := .type "slice", data := .fields #[vl, vu, .none] } } σ H3 x v vl vu l u s3.heap.objs.size Q I4 r1 (Heap.IsSliceOf.new ..) pl pu q3
  show wpAny (model X.prog X.w) X.A (subscriptTail e (.Slice lo hi none p2) v (.ref s3.heap.objs.size)) (EP X pins σ Q) X.xe { s3 with heap := s3.heap.push { cls := .type "slice", data := .fields #[vl, vu, .none] } }
  exact tail_any (ops := [.ref s3.heap.objs.size, v]) ht hT hg (by with_unfolding_all rfl)

/-- the items of xs[lo:hi] -/
def cutV (xs : List V) (lo hi : Option Int) : List V := (xs.drop (HT.sIx xs.length 0 lo)).take (HT.sIx xs.length xs.length hi - HT.sIx xs.length 0 lo)
theorem cutV_length (xs : List V) (lo hi : Option Int) : (cutV xs lo hi).length ≤ xs.length := by
  unfold cutV
  rw [List.length_take, List.length_drop]
  omega
/-! ### t < u, t + u -/
end
end L2

namespace L2
open PySem PySem.Spec PyProof.Rows

/-! ### places -/
/-- the place that an index of any sign means -/
def ixN (n : Nat) (i : Int) : Option Nat := if 0 ≤ i then (if i < n then some i.toNat else none) else if -(n : Int) ≤ i then some (i + n).toNat else none
def atI {α : Type} (xs : List α) (i : Int) : Option α := (ixN xs.length i).bind fun j => xs[j]?
theorem ixN_seq {n : Nat} {i : Int} {j : Nat} (h : ixN n i = some j) : seqIndex? i n = some j ∧ j < n ∧ -(n : Int) ≤ i ∧ i < n := by
  unfold ixN at h
  by_cases h0 : 0 ≤ i
  · rw [if_pos h0] at h
    by_cases h1 : i < n
    · rw [if_pos h1] at h
      have e : i.toNat = j := Option.some.inj h
      exact ⟨by rw [seqIndex_of h0 h1, e], by omega, by omega, h1⟩
    · rw [if_neg h1] at h; cases h
  · rw [if_neg h0] at h
    by_cases h1 : -(n : Int) ≤ i
    · rw [if_pos h1] at h
      have e : (i + n).toNat = j := Option.some.inj h
      exact ⟨by rw [seqIndex_neg (by omega) h1, e], by omega, h1, by omega⟩
    · rw [if_neg h1] at h; cases h
theorem atI_get {α : Type} {xs : List α} {i : Int} {v : α} (h : atI xs i = some v) : ∃ j, seqIndex? i xs.length = some j ∧ xs[j]? = some v ∧ j < xs.length ∧ -(xs.length : Int) ≤ i ∧ i < xs.length := by
  unfold atI at h
  cases e : ixN xs.length i with
  | none => rw [e] at h; cases h
  | some j =>
    rw [e] at h
    obtain ⟨h1, h2, h3, h4⟩ := ixN_seq e
    exact ⟨j, h1, h, h2, h3, h4⟩
theorem atI_nat {α : Type} {xs : List α} {j : Nat} {v : α} (h : xs[j]? = some v) : atI xs (j : Int) = some v := by
  have hj : j < xs.length := (List.getElem?_eq_some_iff.mp h).1
  have e : ixN xs.length (j : Int) = some j := by
    unfold ixN
    rw [if_pos (by omega), if_pos (by omega)]; simp
  unfold atI; rw [e]; exact h
/-! ### what may be subscripted -/
/-- what stands as an index of a plain subscript -/
def PlainIx (b : Expr) : Prop := ∀ o i, subscripted b false o i = operate [o, i] (getItem o i)
/-- a subscript by values -/
def IxR (X : Cx) (r : R2) : Prop :=
  ∀ (value slice : Expr) (pins : List (Addr × Obj)) (s : Shared) (σ : St) (H : Hp) (x y : V) (v u : Value) (Q : VK), Inv X pins σ H s → RelV x v → RelV y u → r x y H Q →
    subscripted slice false v u = operate [v, u] (getItem v u) → wpAny (model X.prog X.w) X.A (subscriptTail value slice v u) (EP X pins σ Q) X.xe s
/-- a call of a builtin's method by values: the receiver, the arguments -/
def MtR (X : Cx) (id : String) (r : V → List V → Hp → VK → Prop) : Prop :=
  ∀ (pins : List (Addr × Obj)) (s : Shared) (σ : St) (H : Hp) (x : V) (xs : List V) (v : Value) (us : List Value) (Q : VK), Inv X pins σ H s → RelV x v → Vals xs us → r x xs H Q →
    wpAny (model X.prog X.w) X.A (call (.builtin id) (v :: us)) (EP X pins σ Q) X.xe s
section
variable {X : Cx} {a b : Expr} {ta tb : TE} {pos : Pos}
/-- a[b] -/
theorem pe_ix {r : R2} (hr : IxR X r) (ha : PE X a ta) (hb : PE X b tb) (hs : PlainIx b) : PE X (.Subscript a b pos) (tOp r ta tb) := by
  intro pins s σ H Q I h
  exact Subscript_ (binT ha hb I h fun v u s2 x y H2 I2 rx ry q => hr a b pins s2 σ H2 x y v u Q I2 rx ry q (hs _ _))

def rIxL (K : PySem.W.Frag) : R2 := fun x y H Q => ∃ p xs i v, x = .ref p ∧ y = .int i ∧ SqL K H p xs ∧ atI xs i = some v ∧ Q v H
def rIxT (K : PySem.W.Frag) : R2 := fun x y H Q => ∃ p xs i v, x = .ref p ∧ y = .int i ∧ SqT K H p xs ∧ atI xs i = some v ∧ Q v H
theorem ix_list : IxR X (rIxL X.K) := by
  intro value slice pins s σ H x y v u Q I rx ry h hs
  obtain ⟨p, xs, i, z, rfl, rfl, hq, he, q⟩ := h
  cases rx
  obtain ⟨t, rfl⟩ := ry
  obtain ⟨its, r, pl, hz⟩ := I.list hq
  obtain ⟨j, h1, h2, h3, h4, h5⟩ := atI_get he
  obtain ⟨w, ew, rw'⟩ := r.get h2
  have hl := r.length
  have hn := line63
  have fin : EP X pins σ Q w s := ⟨z, H, I, rw', q⟩
  by_cases h0 : 0 ≤ i
  · have hj : i.toNat = j := by
      rw [seqIndex_of h0 h5] at h1
      exact Option.some.inj h1
    exact item_listR pl.isList h0 (by omega) (by rw [hj]; simpa using ew) fin hs
  · have hj : (i + (its.toArray.size : Int)).toNat = j := by
      rw [seqIndex_neg (by omega) h4] at h1
      rw [List.size_toArray, ← hl]
      exact Option.some.inj h1
    exact subscriptTail_builtinR (x := w) pl.isList.typeIs slot_list_getitem.lookup
      (wpAny_getItem_list_neg (Q := fun r s' => r = w ∧ EP X pins σ Q r s') pl.isList (by omega) (by rw [List.size_toArray] <;> omega) (by omega) (by rw [hj]; simpa using ew) ⟨rfl, fin⟩) hs
theorem ix_tup : IxR X (rIxT X.K) := by
  intro value slice pins s σ H x y v u Q I rx ry h hs
  obtain ⟨p, xs, i, z, rfl, rfl, hq, he, q⟩ := h
  cases rx
  obtain ⟨t, rfl⟩ := ry
  obtain ⟨its, r, pl, hz⟩ := I.tuple hq
  obtain ⟨j, h1, h2, h3, h4, h5⟩ := atI_get he
  obtain ⟨w, ew, rw'⟩ := r.get h2
  have hl := r.length
  have hn := line63
  have fin : EP X pins σ Q w s := ⟨z, H, I, rw', q⟩
  exact subscriptTail_builtinR (x := w) pl.typeIs slot_tuple_getitem.lookup
    (getItem_tuple (j := j) (Q := fun r s' => r = w ∧ EP X pins σ Q r s') pl (by omega) (by omega) (by rw [List.size_toArray, ← hl]; exact h1) (by simpa using ew) ⟨rfl, fin⟩) hs
/-! ### xs[i] = v, any sign -/
/-- the list's object behind a store -/
theorem mapSeq_set (its : List Value) (n j : Nat) (u : Value) : Obj.mapSeq (·.setIfInBounds j u) { cls := .type "list", data := .seq its.toArray n } = { cls := .type "list", data := .seq (its.set j u).toArray n } := by
  simp [Obj.mapSeq]
theorem Inv.lst {pins : List (Addr × Obj)} {σ : St} {H : Hp} {s : Shared} {p : Addr} {xs : List V} (I : Inv X pins σ H s) (h : H p = some (.lst xs)) :
    ∃ (its : List Value) (n : Nat), Vals xs its ∧ s.heap.get? p = some { cls := .type "list", data := .seq its.toArray n } ∧ xs.length ≤ sizeLine := by
  obtain ⟨z, its, n, r, e⟩ := I.hok p _ h
  exact ⟨its, n, r, e, z⟩
/-- the list at p is written by an update of its object -/
theorem Inv.lstUpd {pins : List (Addr × Obj)} {σ : St} {H : Hp} {s : Shared} {p : Addr} {xs ys : List V} {its its' : List Value} {n n' : Nat} {f : Obj → Obj} (I : Inv X pins σ H s) (h : H p = some (.lst xs))
    (ho : s.heap.get? p = some { cls := .type "list", data := .seq its.toArray n }) (hf : f { cls := .type "list", data := .seq its.toArray n } = { cls := .type "list", data := .seq its'.toArray n' }) (r : Vals ys its') (hz : ys.length ≤ sizeLine) (t : Nat) :
    Inv X pins σ (upd H p (.lst ys)) { s with heap := s.heap.update p f, toks := t } := by
  have e : (s.heap.update p f).get? p = some { cls := .type "list", data := .seq its'.toArray n' } := by
    rw [Heap.get?_update_self f ho (by rw [hf] <;> rfl), hf]
  refine I.write (x := p) (e := p) (by rw [h]; trivial) (.inl rfl) (fun b u hb q => (Heap.get?_update_other _ _ (Ne.symm hb)).trans q) ⟨_, e⟩ ?_
  exact ⟨hz, its', n', r, e⟩
def rSetL : V → V → V → Hp → (Hp → Prop) → Prop := fun o i v H Q => ∃ p xs k j, o = .ref p ∧ i = .int k ∧ H p = some (.lst xs) ∧ ixN xs.length k = some j ∧ Q (upd H p (.lst (xs.set j v)))
theorem set_list : PSet X rSetL := by
  intro pins s σ H o i v ov iv u Q I ro ri rv h
  obtain ⟨p, xs, k, j, rfl, rfl, hp, hj, q⟩ := h
  cases ro
  obtain ⟨t, rfl⟩ := ri
  obtain ⟨its, n, r, ho, hz⟩ := I.lst hp
  obtain ⟨h1, h2, h3, h4⟩ := ixN_seq hj
  have hl := r.length
  have hn := line63
  have I' : Inv X pins σ (upd H p (.lst (xs.set j v))) { s with heap := s.heap.update p (Obj.mapSeq (·.setIfInBounds j u)) } :=
    I.lstUpd hp ho (mapSeq_set its n j u) (r.set rv j) (by rw [List.length_set]; exact hz) s.toks
  by_cases h0 : 0 ≤ k
  · have hk : k.toNat = j := by
      rw [seqIndex_of h0 h4] at h1
      exact Option.some.inj h1
    exact PySem.W.ki_setAt ho h0 (by omega) (by rw [List.size_toArray, ← hl]; exact h4) (by rw [hk]; exact ⟨_, I', q⟩)
  · have hk : (k + (its.toArray.size : Int)).toNat = j := by
      rw [seqIndex_neg (by omega) h3] at h1
      rw [List.size_toArray, ← hl]
      exact Option.some.inj h1
    exact PySem.W.ki_setBack ho (by omega) (by rw [List.size_toArray, ← hl]; exact h3) (by omega) (by rw [hk]; exact ⟨_, I', q⟩)

/-! ### slices -/
theorem slice_bounds (lo hi : Option Int) (n : Nat) : (sliceBounds lo hi none n).1 = ((HT.sIx n 0 lo : Nat) : Int) ∧ (sliceBounds lo hi none n).2.1 = ((HT.sIx n n hi : Nat) : Int) ∧ (sliceBounds lo hi none n).2.2 = 1 := by
  refine ⟨?_, ?_, rfl⟩
  · cases lo with
    | none => simp [sliceBounds, HT.sIx]
    | some i =>
      simp only [sliceBounds, HT.sIx, Option.getD_none, show (1 : Int) > 0 by decide, if_true]
      by_cases h : i < 0
      · simp only [h, if_true] <;> omega
      · simp only [h, if_false] <;> omega
  · cases hi with
    | none => simp [sliceBounds, HT.sIx]
    | some i =>
      simp only [sliceBounds, HT.sIx, Option.getD_none, show (1 : Int) > 0 by decide, if_true]
      by_cases h : i < 0
      · simp only [h, if_true] <;> omega
      · simp only [h, if_false] <;> omega
theorem slicePick_cut (its : List Value) (lo hi : Option Int) : slicePick its.toArray lo hi none = ((its.drop (HT.sIx its.length 0 lo)).take (HT.sIx its.length its.length hi - HT.sIx its.length 0 lo)).toArray := by
  obtain ⟨h1, h2, h3⟩ := slice_bounds lo hi its.toArray.size
  unfold slicePick
  rw [h1, h2, h3]
  simp only [sliceRange_one, pick_run, List.size_toArray] <;> rfl
/-- xs[lo:hi] of a list: a new list -/
def rSlL (K : PySem.W.Frag) : V → Option Int → Option Int → Hp → VK → Prop := fun x lo hi H Q => ∃ a xs, x = .ref a ∧ SqL K H a xs ∧ ∀ p, H p = none → Q (.ref p) (upd H p (.lst (cutV xs lo hi)))
theorem sl_list : SlR X (rSlL X.K) := by
  intro pins s σ H x v vl vu lo hi sl Q I rx hs pl pu h
  obtain ⟨a, xs, rfl, hx, q⟩ := h
  cases rx
  obtain ⟨its, r, ht, hz⟩ := I.list hx
  have hlen := r.length
  refine ⟨"list", _, slot_list_getitem.lookup, ht.isList.typeIs, ?_⟩
  refine wpAny_getItem_list_slice ht.isList hs pl pu .none (by simp) ?_ (by rw [List.size_toArray] <;> omega)
  rw [slicePick_cut, ← hlen]
  refine ⟨.ref s.heap.objs.size, _, I.laid (t' := s.toks) (o := .lst (cutV xs lo hi)) (fun b ob q => Heap.get?_push_of_some _ q) (Nat.le_refl _) ?_, rfl, q _ (I.hok.fresh (Nat.le_refl _))⟩
  exact ⟨Nat.le_trans (cutV_length xs lo hi) hz, _, 0, (r.drop (HT.sIx xs.length 0 lo)).take (HT.sIx xs.length xs.length hi - HT.sIx xs.length 0 lo), Heap.get?_push_size _ rfl⟩

/-! ### in, not in: flat items -/
def flatV : V → Bool
  | .non => true
  | .bl _ => true
  | .int _ => true
  | .str _ => true
  | _ => false
/-- == of flat values -/
def eqV : V → V → Bool
  | .non, .non => true
  | .bl a, .bl b => a == b
  | .bl a, .int b => (if a then 1 else 0) == b
  | .int a, .bl b => a == (if b then 1 else 0)
  | .int a, .int b => a == b
  | .str a, .str b => a == b
  | _, _ => false
theorem eqAt_V {A : Around} {s : Shared} {y x : V} {u v : Value} (ry : RelV y u) (rx : RelV x v) (fy : flatV y = true) (fx : flatV x = true) : SeqAt.EqAt A s u v (eqV y x) := by
  cases y with
  | non =>
    cases ry
    cases x with
    | non => cases rx; exact SeqAt.EqAt.same _
    | bl b => cases rx; exact SeqAt.EqAt.none_bool b
    | int b => obtain ⟨t, rfl⟩ := rx; exact SeqAt.EqAt.none_int b t
    | str b => obtain ⟨t, rfl⟩ := rx; exact SeqAt.EqAt.none_str b t
    | _ => exact absurd (show false = true from fx) Bool.false_ne_true
  | bl a =>
    cases ry
    cases x with
    | non => cases rx; exact SeqAt.EqAt.bool_none a
    | bl b => cases rx; exact SeqAt.EqAt.bool_bool a b
    | int b => obtain ⟨t, rfl⟩ := rx; exact SeqAt.EqAt.bool_int a b t
    | str b => obtain ⟨t, rfl⟩ := rx; exact SeqAt.EqAt.bool_str a b t
    | _ => exact absurd (show false = true from fx) Bool.false_ne_true
  | int a =>
    obtain ⟨t', rfl⟩ := ry
    cases x with
    | non => cases rx; exact SeqAt.EqAt.int_none a t'
    | bl b => cases rx; exact SeqAt.EqAt.int_bool a t' b
    | int b => obtain ⟨t, rfl⟩ := rx; exact SeqAt.EqAt.int_int a t' b t
    | str b => obtain ⟨t, rfl⟩ := rx; exact SeqAt.EqAt.int_str a t' b t
    | _ => exact absurd (show false = true from fx) Bool.false_ne_true
  | str a =>
    obtain ⟨t', rfl⟩ := ry
    cases x with
    | non => cases rx; exact SeqAt.EqAt.str_none a t'
    | bl b => cases rx; exact SeqAt.EqAt.str_bool a t' b
    | int b => obtain ⟨t, rfl⟩ := rx; exact SeqAt.EqAt.str_int a t' b t
    | str b => obtain ⟨t, rfl⟩ := rx; exact SeqAt.EqAt.str_str a t' b t
    | _ => exact absurd (show false = true from fx) Bool.false_ne_true
  | _ => exact absurd (show false = true from fy) Bool.false_ne_true
/-- the items' answers, read off the values (a value's own answer does not lean on its token) -/
def eqU (x : V) (u : Value) : Bool := match u with
  | .none => eqV .non x
  | .bool b => eqV (.bl b) x
  | .int i _ => eqV (.int i) x
  | .str z _ => eqV (.str z) x
  | _ => false
theorem eqU_of {x y : V} {u : Value} (r : RelV y u) (f : flatV y = true) : eqU x u = eqV y x := by
  cases y with
  | non => cases r; rfl
  | bl b => cases r; rfl
  | int i => obtain ⟨t, rfl⟩ := r; rfl
  | str z => obtain ⟨t, rfl⟩ := r; rfl
  | _ => exact absurd (show false = true from f) Bool.false_ne_true
theorem any_eqU {x : V} : ∀ {xs : List V} {us : List Value}, Vals xs us → xs.all flatV = true → us.any (eqU x) = xs.any fun y => eqV y x
  | _, _, .nil, _ => rfl
  | y :: xs, u :: us, .cons r t, f => by
    rw [List.all_cons, Bool.and_eq_true] at f
    rw [List.any_cons, List.any_cons, eqU_of r f.1, any_eqU t f.2]
theorem mem_eqAt {A : Around} {s : Shared} {x : V} {v : Value} (rx : RelV x v) (fx : flatV x = true) : ∀ {xs : List V} {us : List Value}, Vals xs us → xs.all flatV = true → ∀ u ∈ us, SeqAt.EqAt A s u v (eqU x u)
  | _, _, .nil, _ => fun u hu => by cases hu
  | y :: xs, u :: us, .cons r t, f => fun u' hu => by
    rw [List.all_cons, Bool.and_eq_true] at f
    rcases List.mem_cons.mp hu with rfl | hu
    · rw [eqU_of r f.1]; exact eqAt_V r rx f.1 fx
    · exact mem_eqAt rx fx t f.2 u' hu
def inV (x : V) (xs : List V) : Bool := xs.any fun y => eqV y x
/-- x in a list or tuple of flat items -/
def rIn (K : PySem.W.Frag) (neg : Bool) : R2 := fun x y H Q => ∃ p xs, y = .ref p ∧ (SqL K H p xs ∨ SqT K H p xs) ∧ flatV x = true ∧ xs.all flatV = true ∧ Q (.bl (if neg then !inV x xs else inV x xs)) H
theorem op_in_seq : OpR X (compareOp .In) (rIn X.K false) := by
  intro pins s σ H x y v u Q I rx ry h
  obtain ⟨p, xs, rfl, hq, fx, fs, q⟩ := h
  cases ry
  rcases hq with hq | hq
  · obtain ⟨its, r, pl, hz⟩ := I.list hq
    refine SeqAt.in_listAt (eqU x) pl.isList (fun w hw => mem_eqAt rx fx r fs w (by simpa using hw)) ⟨.bl _, H, I, rfl, ?_⟩
    rw [show its.toArray.any (eqU x) = its.any (eqU x) by simp, any_eqU r fs]
    exact q
  · obtain ⟨its, r, pl, hz⟩ := I.tuple hq
    refine SeqAt.in_tupleAt (eqU x) pl (fun w hw => mem_eqAt rx fx r fs w (by simpa using hw)) ⟨.bl _, H, I, rfl, ?_⟩
    rw [show its.toArray.any (eqU x) = its.any (eqU x) by simp, any_eqU r fs]
    exact q
/-! ### len, list(x), tuple(x) of any list or tuple that is read -/
theorem call_len_seq : CallR X (.builtin "len") (fun xs H Q => ∃ p ys, xs = [.ref p] ∧ (SqL X.K H p ys ∨ SqT X.K H p ys) ∧ Q (.int ys.length) H) := by
  intro pins s σ H xs us Q I r h
  obtain ⟨p, ys, rfl, hq, q⟩ := h
  obtain ⟨u, rfl, rx⟩ := vals1 r
  cases rx
  have hn := line63
  rcases hq with hq | hq
  · obtain ⟨its, r', pl, hz⟩ := I.list hq
    have hlen := r'.length
    exact Calls.call_len_list pl.isList (by simp only [List.size_toArray] <;> omega) ⟨.int ys.length, H, I.tok _, ⟨s.toks + 1, by rw [List.size_toArray, hlen]⟩, q⟩
  · obtain ⟨its, r', pl, hz⟩ := I.tuple hq
    have hlen := r'.length
    exact len_tuple pl (by simp only [List.size_toArray] <;> omega) ⟨.int ys.length, H, I.tok _, ⟨s.toks + 1, by rw [List.size_toArray, hlen]⟩, q⟩
theorem call_list_of : CallR X (.type "list") (fun xs H Q => ∃ p ys, xs = [.ref p] ∧ (SqL X.K H p ys ∨ SqT X.K H p ys) ∧ ∀ l, H l = none → Q (.ref l) (upd H l (.lst ys))) := by
  intro pins s σ H xs us Q I r h
  obtain ⟨p, ys, rfl, hq, q⟩ := h
  obtain ⟨u, rfl, rx⟩ := vals1 r
  cases rx
  have fin : ∀ (its : List Value), Vals ys its → ys.length ≤ sizeLine → ∀ (h' : Heap) (c' : Nat), (∀ b o', s.heap.get? b = some o' → h'.get? b = some o') →
      h'.get? s.heap.objs.size = some { cls := .type "list", dict := none, data := .seq its.toArray c', slots := #[] } → EP X pins σ Q (.ref s.heap.objs.size) { s with heap := h' } := fun its r' hz h' c' kp e =>
    ⟨.ref s.heap.objs.size, _, I.laid (t' := s.toks) kp (Nat.le_refl _) (show ObjOk X.prog X.w _ h' _ (.lst ys) from ⟨hz, its, c', r', e⟩), rfl, q _ (I.hok.fresh (Nat.le_refl _))⟩
  rcases hq with hq | hq
  · obtain ⟨its, r', pl, hz⟩ := I.list hq
    have hlen := r'.length
    obtain ⟨o, ho, hc, n, hd⟩ := pl.isList
    exact call_list_seq p (.inl rfl) ho hc hd (fun h' c' kp e => fin its r' hz h' c' kp e) (by simp only [List.size_toArray] <;> omega)
  · obtain ⟨its, r', pl, hz⟩ := I.tuple hq
    have hlen := r'.length
    obtain ⟨o, ho, hc, n, hd⟩ := pl
    exact call_list_seq p (.inr rfl) ho hc hd (fun h' c' kp e => fin its r' hz h' c' kp e) (by simp only [List.size_toArray] <;> omega)
theorem call_tuple_of : CallR X (.type "tuple") (fun xs H Q => ∃ p ys, xs = [.ref p] ∧ ((SqL X.K H p ys ∧ ∀ l, H l = none → Q (.ref l) (upd H l (.tup ys))) ∨ (SqT X.K H p ys ∧ Q (.ref p) H))) := by
  intro pins s σ H xs us Q I r h
  obtain ⟨p, ys, rfl, h⟩ := h
  obtain ⟨u, rfl, rx⟩ := vals1 r
  cases rx
  rcases h with ⟨hq, q⟩ | ⟨hq, q⟩
  · obtain ⟨its, r', pl, hz⟩ := I.list hq
    have hlen := r'.length
    refine call_tuple_list pl.isList (fun h' kp => ?_) (by simp only [List.size_toArray] <;> omega)
    have I1 : Inv X pins σ H { s with heap := h' } := I.kept (t' := s.toks) kp
    have I2 : Inv X pins σ (upd H h'.objs.size (.tup ys)) { s with heap := h'.push { cls := .type "tuple", data := .seq its.toArray } } :=
      I1.laid (t' := s.toks) (fun b o e => Heap.get?_push_of_some _ e) (Nat.le_refl _) (show ObjOk X.prog X.w _ _ _ (.tup ys) from ⟨hz, its, r', IsTup.new _ _⟩)
    exact ⟨.ref h'.objs.size, _, I2, rfl, q _ (I1.hok.fresh (Nat.le_refl _))⟩
  · obtain ⟨its, r', pl, hz⟩ := I.tuple hq
    exact call_tuple_same pl ⟨.ref p, H, I, rfl, q⟩

/-! ### the call of a builtin's method: o.m(..) -/
/-- the value is of that builtin type -/
def tyV (K : PySem.W.Frag) (T : String) (x : V) (H : Hp) : Prop := match x with
  | .str _ => T = "str"
  | .int _ => T = "int"
  | .ref p => (T = "list" ∧ ∃ xs, SqL K H p xs) ∨ (T = "tuple" ∧ ∃ o, K.lookup p = some o ∧ o.cls = .type "tuple" ∧ o.dict = none) ∨
      (T = "dict" ∧ ((∃ kvs, H p = some (.dK kvs)) ∨ ∃ kvs, H p = some (.dT kvs))) ∨ (T = "set" ∧ ∃ S n, H p = some (.set S n))
  | _ => False
theorem tyV_is {pins : List (Addr × Obj)} {σ : St} {H : Hp} {s : Shared} {T : String} {x : V} {v : Value} (I : Inv X pins σ H s) (r : RelV x v) (ty : tyV X.K T x H) :
    s.TypeIs v T ∧ ∀ a, v = .ref a → ∃ ob, s.heap.get? a = some ob ∧ ob.dict = none := by
  cases x with
  | str z =>
    obtain ⟨t, rfl⟩ := r
    cases (show T = "str" from ty)
    exact ⟨typeIs_str s z t, fun _ e => nomatch e⟩
  | int i =>
    obtain ⟨t, rfl⟩ := r
    cases (show T = "int" from ty)
    exact ⟨typeIs_int s i t, fun _ e => nomatch e⟩
  | ref p =>
    cases r
    rcases ty with ⟨rfl, xs, hq⟩ | ⟨rfl, o, hk, hc, hd⟩ | ⟨rfl, hk⟩ | ⟨rfl, S, n, hk⟩
    · obtain ⟨its, _, pl, _⟩ := I.list hq
      refine ⟨pl.isList.typeIs, fun a e => ?_⟩
      cases e
      obtain ⟨o, n, e, c, hd, _⟩ := pl
      exact ⟨o, e, hd⟩
    · refine ⟨⟨o, I.kIn p o hk, hc⟩, fun a e => ?_⟩
      cases e
      exact ⟨o, I.kIn _ o hk, hd⟩
    · have z : ∃ o, s.heap.get? p = some o ∧ o.ExactDict := by
        rcases hk with ⟨kvs, hk⟩ | ⟨kvs, hk⟩
        · obtain ⟨_, _, _, _, o, _, _, e, ex, _⟩ := I.hok p _ hk
          exact ⟨o, e, ex⟩
        · obtain ⟨_, _, _, _, o, _, _, e, ex, _⟩ := I.hok p _ hk
          exact ⟨o, e, ex⟩
      obtain ⟨o, e, ex⟩ := z
      refine ⟨⟨o, e, ex.1⟩, fun a e2 => ?_⟩
      cases e2
      exact ⟨o, e, ex.2.1⟩
    · obtain ⟨o, _, _, _, e, ex, _⟩ := I.hok p _ hk
      refine ⟨⟨o, e, ex.1⟩, fun a e2 => ?_⟩
      cases e2
      exact ⟨o, e, ex.2.1⟩
  | _ => exact False.elim ty
def tBM0 (K : PySem.W.Frag) (T : String) (r : V → List V → Hp → VK → Prop) (to : TE) : TE := fun σ H Q => to σ H fun x H1 => tyV K T x H1 ∧ r x [] H1 Q
def tBM (K : PySem.W.Frag) (T : String) (r : V → List V → Hp → VK → Prop) (to : TE) (t : TA) : TE := fun σ H Q => to σ H fun x H1 => tyV K T x H1 ∧ t σ H1 fun xs H2 => r x xs H2 Q
variable {o e : Expr} {es : List Expr} {to : TE} {t : TA} {name : Str} {apos cpos : Pos} {T id : String} {r : V → List V → Hp → VK → Prop}
theorem pe_bm0 (pa : PlainAttrs T) (slot : Slot T name id) (hty : typeOf (.builtin id) = pure (.type "method_descriptor")) (hm : MtR X id r) (ho : PE X o to)
    (hbase : attributeBase o name X.env (eval o X.env) = eval o X.env := by rfl) (hline : (apos.endLine == cpos.line) = true := by rfl) : PE X (.Call (.Attribute o name apos) [] [] cpos) (tBM0 X.K T r to) := by
  intro pins s σ H Q I h
  refine wpAny_Call_method0_late hbase hline (thn (ho pins s σ H _ I h) fun v s1 ⟨x, H1, I1, r1, ty, q1⟩ => ?_)
  obtain ⟨h1, h2⟩ := tyV_is I1 r1 ty
  exact ⟨T, id, pa, slot, hty, h1, h2, Calls.callWith_builtin rfl (PySem.evalArgs_none (hm pins s1 σ H1 x [] v [] Q I1 r1 .nil q1))⟩
theorem pe_bm (pa : PlainAttrs T) (slot : Slot T name id) (hty : typeOf (.builtin id) = pure (.type "method_descriptor")) (hm : MtR X id r) (ho : PE X o to) (ha : PA X (e :: es) t)
    (hbase : attributeBase o name X.env (eval o X.env) = eval o X.env := by rfl)
    (hfew : ((backTo cpos (starEach (e :: es) X.env)).all (fun x => !x.1) && (backToKw cpos (keywordEach [] X.env)).all (fun x => x.1.isSome)
      && decide ((e :: es).length + ([] : List Keyword).length + (if ([] : List Keyword).isEmpty then 0 else 1) < 30)) = true := by rfl)
    (hline : (apos.endLine == cpos.line) = true := by rfl) (hs : starEach (e :: es) X.env = (false, eval e X.env) :: starEach es X.env := by rfl) (hplain : (backTo cpos (starEach es X.env)).any (·.1) = false := by rfl) :
    PE X (.Call (.Attribute o name apos) (e :: es) [] cpos) (tBM X.K T r to t) := by
  intro pins s σ H Q I h
  refine wpAny_Call_method_late hbase hfew hline rfl (thn (ho pins s σ H _ I h) fun v s1 ⟨x, H1, I1, r1, ty, q1⟩ => ?_)
  obtain ⟨h1, h2⟩ := tyV_is I1 r1 ty
  refine ⟨T, id, pa, slot, hty, h1, h2, ?_⟩
  have hA := ha cpos pins s1 σ H1 _ I1 q1
  rw [hs] at hA ⊢
  refine Calls.callWith_builtin (by show (false || (backTo cpos (starEach es X.env)).any (·.1)) = false; rw [hplain] <;> rfl) (Calls.evalArgs_plain ?_)
  exact thn hA fun us s2 ⟨vs, H2, I2, r2, q2⟩ => hm pins s2 σ H2 x vs v us Q I2 r1 r2 q2
/- xs.append(e), list.index on a module's tuple .. are MtR facts of 06m -/
end
end L2

namespace L2
open PySem PySem.Spec PyProof.Rows

def MtM (X : Cx) (id : String) (r : V → List V → Hp → VK → Prop) : Prop :=
  ∀ (pins : List (Addr × Obj)) (s : Shared) (σ : St) (H : Hp) (x : V) (xs : List V) (v : Value) (us : List Value) (Q : VK), Inv X pins σ H s → RelV x v → Vals xs us → r x xs H Q →
    wpAny (model X.prog X.w) X.A (call (.builtin id) (v :: us)) (EP X pins σ Q) X.xe s

/-! ### lists of values -/
theorem Vals.one : ∀ {x : V} {us : List Value}, Vals [x] us → ∃ u, us = [u] ∧ RelV x u
  | _, _, .cons r .nil => ⟨_, rfl, r⟩
theorem Vals.zero : ∀ {us : List Value}, Vals [] us → us = []
  | _, .nil => rfl
theorem Vals.dropLast {xs : List V} {us : List Value} (h : Vals xs us) : Vals xs.dropLast us.dropLast := by
  induction h with
  | nil => exact .nil
  | cons r t ih =>
    cases t with
    | nil => exact .nil
    | cons q t' => exact .cons r ih
theorem Vals.rep {xs : List V} {us : List Value} (h : Vals xs us) : ∀ k : Nat, Vals (List.replicate k xs).flatten (List.replicate k us).flatten
  | 0 => .nil
  | k + 1 => by
    rw [List.replicate_succ, List.replicate_succ, List.flatten_cons, List.flatten_cons]
    exact Vals.append h (Vals.rep h k)
theorem erase_last {α : Type} (l : List α) : l.eraseIdx (l.length - 1) = l.dropLast := by
  induction l with
  | nil => rfl
  | cons a r ih =>
    cases r with
    | nil => rfl
    | cons b r =>
      have e : (a :: b :: r).length - 1 = ((b :: r).length - 1) + 1 := by
        have h1 : (a :: b :: r).length = r.length + 2 := rfl
        have h2 : (b :: r).length = r.length + 1 := rfl
        omega
      rw [e, List.eraseIdx_cons_succ, ih]
      all_goals rfl
theorem foldl_rep (its : List Value) : ∀ (k : Nat) (acc : List Value),
    List.foldl (fun x1 x2 => x1 ++ x2) acc.toArray (List.replicate k its.toArray) = (acc ++ (List.replicate k its).flatten).toArray
  | 0, acc => by simp
  | k + 1, acc => by
    have e : acc.toArray ++ its.toArray = (acc ++ its).toArray := by simp
    have e2 : (acc ++ its) ++ (List.replicate k its).flatten = acc ++ (List.replicate (k + 1) its).flatten := by
      rw [List.replicate_succ, List.flatten_cons, List.append_assoc]
    rw [← e2, ← foldl_rep its k (acc ++ its), ← e, List.replicate_succ, List.foldl_cons]

section
variable {X : Cx} {pins : List (Addr × Obj)} {σ : St} {H : Hp} {s : Shared} {l b : Addr} {xs ys zs : List V}

/-! ### the two steps: a tracked list is rewritten, a new list is laid -/
theorem Inv.lset {its its' : List Value} {n : Nat} {f : Array Value → Array Value} {t' : Nat} (I : Inv X pins σ H s) (hH : H l = some (.lst xs))
    (e : s.heap.get? l = some { cls := .type "list", data := .seq its.toArray n }) (hf : f its.toArray = its'.toArray) (hv : Vals ys its') (hz : ys.length ≤ sizeLine) :
    Inv X pins σ (upd H l (.lst ys)) { s with heap := s.heap.update l (Obj.mapSeq f), toks := t' } := by
  have q := PySem.IsL.update e f
  rw [hf] at q
  refine I.write (x := l) (e := l) (by rw [hH]; exact trivial) (.inl rfl) (fun b' u hb hu => (Heap.get?_update_other s.heap (Obj.mapSeq f) (Ne.symm hb)).trans hu) ⟨_, q⟩ ?_
  exact ⟨hz, its', _, hv, q⟩
theorem Inv.lnew {its : List Value} {t' : Nat} (I : Inv X pins σ H s) (hv : Vals ys its) (hz : ys.length ≤ sizeLine) :
    Inv X pins σ (upd H s.heap.objs.size (.lst ys)) { s with heap := s.heap.push { cls := .type "list", data := .seq its.toArray }, toks := t' } :=
  I.laid (fun _ _ q => Heap.get?_push_of_some _ q) (Nat.le_refl _) ⟨hz, its, 0, hv, Heap.get?_push_size _ rfl⟩
theorem Inv.fresh (I : Inv X pins σ H s) : H s.heap.objs.size = none := I.hok.fresh (Nat.le_refl _)
theorem Inv.lstM (I : Inv X pins σ H s) (hH : H l = some (.lst xs)) : xs.length ≤ sizeLine ∧ ∃ (its : List Value) (n : Nat), Vals xs its ∧ xs.length = its.length ∧ s.heap.get? l = some { cls := .type "list", data := .seq its.toArray n } := by
  obtain ⟨z, its, n, r, e⟩ := I.hok l _ hH
  exact ⟨z, its, n, r, r.length, e⟩

theorem notLongL {n : Nat} (h : n ≤ sizeLine) : Builtin.List.listTooLong n = false := by
  unfold Builtin.List.listTooLong
  exact decide_eq_false (by omega)
end

section
variable {X : Cx}

/-! ### methods -/
def rAppend : V → List V → Hp → VK → Prop := fun x vs H Q => ∃ l xs y, x = .ref l ∧ vs = [y] ∧ H l = some (.lst xs) ∧ xs.length < sizeLine ∧ Q .non (upd H l (.lst (xs ++ [y])))
theorem mt_append : MtM X "list.append" rAppend := by
  intro pins s σ H x vs v us Q I rx rv h
  obtain ⟨l, xs, y, rfl, rfl, hH, hz, q⟩ := h
  cases rx
  obtain ⟨u, rfl, ru⟩ := rv.one
  obtain ⟨z, its, n, r, hl, e⟩ := I.lstM hH
  refine call_meets F.slot_list_append ⟨_, e, rfl⟩ F.entry_list_append (F.args_list_append_2 _ _) (PySem.list_append l its.toArray n u (by rw [List.size_toArray]; omega)) ⟨e, ?_⟩
  refine ⟨.non, _, I.lset (its' := its ++ [u]) hH e (by simp) (r.append (.cons ru .nil)) ?_, rfl, q⟩
  rw [List.length_append, List.length_singleton]
  omega

def rPop : V → List V → Hp → VK → Prop := fun x vs H Q => ∃ l xs y, x = .ref l ∧ vs = [] ∧ H l = some (.lst xs) ∧ xs[xs.length - 1]? = some y ∧ Q y (upd H l (.lst xs.dropLast))
theorem mt_pop : MtM X "list.pop" rPop := by
  intro pins s σ H x vs v us Q I rx rv h
  obtain ⟨l, xs, y, rfl, rfl, hH, hy, q⟩ := h
  cases rx
  have hus := rv.zero
  subst hus
  obtain ⟨z, its, n, r, hl, e⟩ := I.lstM hH
  obtain ⟨u, hu, ru⟩ := r.get hy
  have hy' : its.toArray[its.toArray.size - 1]? = some u := by
    show its.toArray[its.length - 1]? = some u
    rw [← Array.getElem?_toList, ← hl]
    exact hu
  refine call_meets F.slot_list_pop ⟨_, e, rfl⟩ F.entry_list_pop (F.args_list_pop_1 _) (MeetsSeq.list_pop_last l its.toArray n u hy' (by rw [List.size_toArray]; omega)) ⟨e, ?_⟩
  refine ⟨y, _, I.lset (its' := its.dropLast) hH e ?_ r.dropLast ?_, ru, q⟩
  · show its.toArray.eraseIdxIfInBounds (its.toArray.size - 1) = its.dropLast.toArray
    rw [List.size_toArray, List.eraseIdxIfInBounds_toArray, erase_last]
  · rw [List.length_dropLast]
    omega

/-! ### list + list, list += list, list * int -/
def rCat : R2 := fun x y H Q => ∃ l b xs zs, x = .ref l ∧ y = .ref b ∧ H l = some (.lst xs) ∧ H b = some (.lst zs) ∧ xs.length + zs.length ≤ sizeLine ∧ ∀ p, H p = none → Q (.ref p) (upd H p (.lst (xs ++ zs)))
theorem op_cat : OpR X (binaryOp .Add) rCat := by
  intro pins s σ H x y v u Q I rx ry h
  obtain ⟨l, b, xs, zs, rfl, rfl, hH, hB, hz, q⟩ := h
  cases rx
  cases ry
  obtain ⟨z, its, n, r, hl, e⟩ := I.lstM hH
  obtain ⟨z2, its2, n2, r2, hl2, e2⟩ := I.lstM hB
  refine PySem.P.add_list e e2 ?_ (by rw [List.size_toArray, List.size_toArray]; omega)
  have ea : its.toArray ++ its2.toArray = (its ++ its2).toArray := by simp
  rw [ea]
  exact ⟨.ref _, _, I.lnew (t' := s.toks) (r.append r2) (by rw [List.length_append]; omega), rfl, q _ I.fresh⟩
/-- a list times an int (a negative one is nothing) -/
def rRep : R2 := fun x y H Q => ∃ l k xs, x = .ref l ∧ y = .int k ∧ H l = some (.lst xs) ∧ -(2 ^ 63) ≤ k ∧ k < 2 ^ 63 ∧ xs.length * k.toNat ≤ sizeLine ∧
  ∀ p, H p = none → Q (.ref p) (upd H p (.lst (List.replicate k.toNat xs).flatten))
theorem len_rep {α : Type} (xs : List α) (k : Nat) : (List.replicate k xs).flatten.length = k * xs.length := by
  induction k with
  | zero => simp
  | succ k ih => rw [List.replicate_succ, List.flatten_cons, List.length_append, ih, Nat.succ_mul, Nat.add_comm]
theorem op_rep : OpR X (binaryOp .Mult) rRep := by
  intro pins s σ H x y v u Q I rx ry h
  obtain ⟨l, k, xs, rfl, rfl, hH, h1, h2, hz, q⟩ := h
  cases rx
  obtain ⟨t, rfl⟩ := ry
  obtain ⟨z, its, n, r, hl, e⟩ := I.lstM hH
  have hlen : its.toArray.size * k.toNat ≤ sizeLine := by rw [List.size_toArray, ← hl]; exact hz
  have hcap : ¬ its.toArray.size * k.toNat > (2 ^ 63 - 1) / 8 := by
    have : (sizeLine : Nat) ≤ (2 ^ 63 - 1) / 8 := by decide
    omega
  have hfit : ¬ (!Builtin.List.listFitsIndex k) = true := by
    rw [fitsIndex_both h1 h2]
    exact Bool.false_ne_true
  have hlong : ¬ Builtin.List.listTooLong (its.toArray.size * k.toNat) = true := by
    rw [notLongL hlen]
    exact Bool.false_ne_true
  have hnew : List.foldl (fun x1 x2 => x1 ++ x2) #[] (List.replicate (if its.toArray.isEmpty = true then 0 else k.toNat) its.toArray) = (List.replicate k.toNat its).flatten.toArray := by
    have f0 : ∀ m : Nat, List.foldl (fun x1 x2 => x1 ++ x2) #[] (List.replicate m its.toArray) = (List.replicate m its).flatten.toArray := fun m => by
      have := foldl_rep its m []
      rw [List.nil_append] at this
      exact this
    rw [f0]
    cases its with
    | nil => simp
    | cons a r' => rw [if_neg (by simp)]
  refine wpAny_binaryOp_repeat_ref (T := "list") (U := "int") (by decide) ⟨_, e, rfl⟩ (fun s' => typeIs_int s' k t) noFill_list_mul F.fills_int_mul F.slot_int_rmul repeat_list F.slot_int_index.lookup
    (call_meets F.slot_int_rmul (typeIs_int s k t) F.entry_int_rmul (F.args_int_rmul_2 _ _) (int___rmul___int_list k t l its.toArray n)
      ⟨e, rfl, ⟨_, e, rfl⟩, call_meets F.slot_list_mul ⟨_, e, rfl⟩ F.entry_list_mul (F.args_list_mul_2 _ _) (AutoListH.list___mul___list_int_3 l its.toArray n k t hfit hcap hlong) ⟨e, ?_⟩⟩)
  rw [hnew]
  exact ⟨.ref _, _, I.lnew (t' := s.toks) (r.rep k.toNat) (by rw [len_rep, Nat.mul_comm]; exact hz), rfl, q _ I.fresh⟩

/-! ### del xs[i] -/
end

/-! ### xs[a:b] = ys -/
section
variable {prog : Program} {w : World} {A : Around} {E : Value → Shared → Prop} {s : Shared}
end

section
variable {X : Cx}
end
end L2

namespace L2
open PySem PySem.Spec PyProof.Rows

theorem Vals.ints : ∀ {ns : List Int} {us : List Value}, Vals (ns.map V.int) us → IntsAre us ns
  | [], us, h => by
    rw [List.map_nil] at h
    cases h
    exact IntsAre.nil
  | n :: ns, us, h => by
    rw [List.map_cons] at h
    cases h with
    | cons r t =>
      obtain ⟨k, rfl⟩ := r
      exact IntsAre.cons n k (Vals.ints t)
theorem Vals.ref1 {a : Addr} {us : List Value} (r : Vals [V.ref a] us) : us = [Value.ref a] := by
  cases r with
  | cons r t =>
    cases t
    cases r
    rfl
/-! ### the library's walks over a list of ints, kept objects alone -/
section
variable {prog : Program} {w : World} {A : Around} {E : Value → Shared → Prop} {s : Shared} {l : Addr} {its : List Value} {ns : List Int} {Q : Value → Shared → Prop}
end

/-! ### the calls, by values (CallR of 03t; MtR of 06l) -/
section
variable {X : Cx}
/-! sorted, sort (fewer than 64 items: the library's own bound) -/
end

/-! ### list.index, flat items -/
section
variable {X : Cx}
end

/-! ### type(x) of an own instance; is, is not of a module's class -/
section
variable {X : Cx}
end

/-! ### any(xs), all(xs) of a list of bools -/
theorem iter_any {prog : Program} {w : World} {A : Around} {E : Value → Shared → Prop} {s : Shared} {l : Addr} {items : Array Value} {Q : Value → Shared → Prop} (hl : s.heap.IsList l items)
    (h : ∀ s₂ : Shared, s₂ = { s with heap := s.heap.push { cls := .type "list_iterator", data := .fields #[.ref l, .int 0 0] } } →
      (s₂.heap.IsListIter s.heap.objs.size l 0 ∧ s₂.heap.IsList l items) → l ≠ s.heap.objs.size → Q (.ref s.heap.objs.size) s₂) : wpAny (model prog w) A (pyIter (.ref l)) Q E s := by
  have hlt : l < s.heap.objs.size := by obtain ⟨_, e, _⟩ := hl; exact Heap.lt_size e
  exact wpAny_pyIter_list hl (h _ rfl ⟨⟨_, Heap.get?_push_size _ rfl, rfl, rfl⟩, hl.push _⟩ (Nat.ne_of_lt hlt))
section
variable {X : Cx}
end

/-! ### == and != of data at any depth: none, bools, ints, texts, lists, tuples -/
mutual
inductive Dp (K : PySem.W.Frag) (H : Hp) : V → PyData → Prop
  | non : Dp K H .non .none
  | bl (b : Bool) : Dp K H (.bl b) (.bool b)
  | int (i : Int) : Dp K H (.int i) (.int i)
  | str (x : Str) : Dp K H (.str x) (.str x)
  | lst {a : Addr} {xs : List V} {ds : List PyData} : SqL K H a xs → DpAll K H xs ds → Dp K H (.ref a) (.list ds)
  | tup {a : Addr} {xs : List V} {ds : List PyData} : SqT K H a xs → DpAll K H xs ds → Dp K H (.ref a) (.tuple ds)
inductive DpAll (K : PySem.W.Frag) (H : Hp) : List V → List PyData → Prop
  | nil : DpAll K H [] []
  | cons {v : V} {vs : List V} {d : PyData} {ds : List PyData} : Dp K H v d → DpAll K H vs ds → DpAll K H (v :: vs) (d :: ds)
end
section
variable {X : Cx} {pins : List (Addr × Obj)} {σ : St} {H : Hp} {s : Shared}
mutual
theorem Dp.reads (I : Inv X pins σ H s) : ∀ (d : PyData) (v : V) (u : Value), Dp X.K H v d → RelV v u → ∃ as, Reads s.heap u d as
  | .none, _, _, h, r => by
    cases h
    cases r
    exact ⟨_, Reads.none⟩
  | .bool b, _, _, h, r => by
    cases h
    cases r
    exact ⟨_, Reads.bool b⟩
  | .int i, _, _, h, r => by
    cases h
    obtain ⟨t, rfl⟩ := r
    exact ⟨_, Reads.int i t⟩
  | .str x, _, _, h, r => by
    cases h
    obtain ⟨t, rfl⟩ := r
    exact ⟨_, Reads.str x t⟩
  | .list ds, _, _, h, r => by
    cases h with
    | lst hs ha =>
      cases r
      obtain ⟨its, rv, ⟨o, n, ho, hc, _, hd⟩, _⟩ := I.list hs
      obtain ⟨as, hr⟩ := Dp.readsAll I ds _ its ha rv
      exact ⟨_, Reads.list ho hc hd hr⟩
  | .tuple ds, _, _, h, r => by
    cases h with
    | tup hs ha =>
      cases r
      obtain ⟨its, rv, ⟨o, ho, hc, n, hd⟩, _⟩ := I.tuple hs
      obtain ⟨as, hr⟩ := Dp.readsAll I ds _ its ha rv
      exact ⟨_, Reads.tuple ho hc hd hr⟩
  | .dict _, _, _, h, _ => by cases h
theorem Dp.readsAll (I : Inv X pins σ H s) : ∀ (ds : List PyData) (vs : List V) (us : List Value), DpAll X.K H vs ds → Vals vs us → ∃ as, ReadsAll s.heap us ds as
  | [], _, _, h, r => by
    cases h
    cases r
    exact ⟨_, ReadsAll.nil⟩
  | d :: ds, _, _, h, r => by
    cases h with
    | cons h1 h2 =>
      cases r with
      | cons r1 r2 =>
        obtain ⟨as, q1⟩ := Dp.reads I d _ _ h1 r1
        obtain ⟨bs, q2⟩ := Dp.readsAll I ds _ _ h2 r2
        exact ⟨_, ReadsAll.cons q1 q2⟩
end
end
section
variable {X : Cx}
def rNeD (K : PySem.W.Frag) : R2 := fun x y H Q => ∃ d e, Dp K H x d ∧ Dp K H y e ∧ SeqAt.shaped d = true ∧ SeqAt.shaped e = true ∧ Q (.bl (!PyData.eqv d e)) H
theorem op_neD (hu : X.A.units + 64 < cLine) : OpR X (compareOp .NotEq) (rNeD X.K) := by
  intro pins s σ H x y v u Q I rx ry h
  obtain ⟨d, e, hd, he, sd, se, q⟩ := h
  obtain ⟨as, r1⟩ := Dp.reads I d x v hd rx
  obtain ⟨bs, r2⟩ := Dp.reads I e y u he ry
  exact SeqAt.compareNe_shaped r1 r2 sd se hu ⟨.bl _, H, I, rfl, q⟩
end
end L2

namespace L2
open PySem PySem.Spec PyProof.Rows
abbrev CellAt (h : Heap) (c : Addr) (v : Option Value) : Prop := h.IsCell c v
def relS (scope sc : Scope) : Scope :=
  { scope with names := scope.names.map fun (n, k) => if (k == .free && sc.kind == .function && sc.names.lookup n == some .cell) then (n, .cell) else (n, k) }

def cloFrom (cells : List (Str × Addr)) : List (Str × NameKind) → List (Str × Addr) → List (Str × Addr)
  | [], acc => acc
  | (n, k) :: r, acc => if k == .free then cloFrom cells r ((n, (cells.lookup n).getD 0) :: acc) else cloFrom cells r acc

theorem closure_loop (env : Env) (f : Str × NameKind → List (Str × Addr) → Sem (ForInStep (List (Str × Addr))))
    (hf : ∀ n k c, f (n, k) c = if k == .free then (do let a ← cellOf env n; pure (.yield ((n, a) :: c))) else pure (.yield c)) :
    ∀ (names : List (Str × NameKind)) (acc : List (Str × Addr)), (∀ y ∈ names, y.2 = .free → ∃ c, env.cells.lookup y.1 = some c) → forIn names acc f = pure (cloFrom env.cells names acc)
  | [], acc, _ => by rw [List.forIn_nil]; rfl
  | (n, k) :: r, acc, h => by
    rw [List.forIn_cons, hf]
    have ih := fun acc => closure_loop env f hf r acc fun y hy => h y (List.mem_cons_of_mem _ hy)
    unfold cloFrom
    by_cases hk : (k == NameKind.free) = true
    · rw [if_pos hk, if_pos hk]
      obtain ⟨c, hc⟩ := h (n, k) List.mem_cons_self (by simpa using hk)
      have e : cellOf env n = pure c := by unfold cellOf; rw [hc]
      rw [e]
      have e2 : (env.cells.lookup n).getD 0 = c := by rw [hc]; rfl
      rw [e2]
      exact ih _
    · rw [if_neg hk, if_neg hk]
      exact ih _
theorem closure_ok {scope : Scope} {env : Env} (h : ∀ y ∈ scope.names, y.2 = .free → ∃ c, env.cells.lookup y.1 = some c) : closureFor scope env = pure (cloFrom env.cells scope.names []) := by
  simp only [closureFor]
  rw [closure_loop env _ (fun n k c => rfl) scope.names [] h]
  rfl

theorem mem_lookup {α : Type} : ∀ {l : List (Str × α)} {n : Str} {c : α}, (n, c) ∈ l → ∃ c', l.lookup n = some c'
  | (k, v) :: r, n, c, h => by
    rw [List.lookup_cons]
    cases hb : n == k with
    | true => exact ⟨_, rfl⟩
    | false =>
      rcases List.mem_cons.mp h with e | h
      · cases e; simp at hb
      · exact mem_lookup h

theorem cloFrom_mem {cells : List (Str × Addr)} : ∀ {names : List (Str × NameKind)} {acc : List (Str × Addr)} {n : Str} {c : Addr}, (n, c) ∈ cloFrom cells names acc → (n, c) ∈ acc ∨ ((n, .free) ∈ names ∧ c = (cells.lookup n).getD 0)
  | [], _, _, _, h => .inl h
  | (m, k) :: r, acc, n, c, h => by
    unfold cloFrom at h
    split at h
    · rename_i hk
      have hk : k = .free := by simpa using hk
      rcases cloFrom_mem h with h | ⟨h1, h2⟩
      · rcases List.mem_cons.mp h with e | h
        · cases e; exact .inr ⟨hk ▸ List.mem_cons_self, rfl⟩
        · exact .inl h
      · exact .inr ⟨List.mem_cons_of_mem _ h1, h2⟩
    · rcases cloFrom_mem h with h | ⟨h1, h2⟩
      · exact .inl h
      · exact .inr ⟨List.mem_cons_of_mem _ h1, h2⟩
theorem cloFrom_acc {cells : List (Str × Addr)} : ∀ {names : List (Str × NameKind)} {acc : List (Str × Addr)} {p : Str × Addr}, p ∈ acc → p ∈ cloFrom cells names acc
  | [], _, _, h => h
  | (m, k) :: r, acc, p, h => by
    unfold cloFrom
    split
    · exact cloFrom_acc (List.mem_cons_of_mem _ h)
    · exact cloFrom_acc h
theorem cloFrom_has {cells : List (Str × Addr)} : ∀ {names : List (Str × NameKind)} {acc : List (Str × Addr)} {n : Str}, (n, .free) ∈ names → (n, (cells.lookup n).getD 0) ∈ cloFrom cells names acc
  | (m, k) :: r, acc, n, h => by
    unfold cloFrom
    rcases List.mem_cons.mp h with e | h
    · cases e
      exact cloFrom_acc List.mem_cons_self
    · split
      · exact cloFrom_has h
      · exact cloFrom_has h

theorem cells_mem : ∀ {names : List (Str × NameKind)} {h : Heap} {acc : List (Str × Addr)} {x : Str} {c : Addr}, (x, c) ∈ cellsFrom h.objs.size names acc →
    (x, c) ∈ acc ∨ ((x, .cell) ∈ names ∧ h.objs.size ≤ c ∧ CellAt (pushCells h names) c none)
  | [], _, _, _, _, h => .inl h
  | (n, k) :: r, h, acc, x, c, hm => by
    unfold cellsFrom at hm
    unfold pushCells
    split at hm
    · rename_i hk
      rw [if_pos hk]
      have hk : k = .cell := by simpa using hk
      rw [← Heap.size_push h { cls := .type "cell", data := .cell none }] at hm
      rcases cells_mem hm with hm | ⟨h1, h2, h3⟩
      · rcases List.mem_cons.mp hm with e | hm
        · cases e
          exact .inr ⟨hk ▸ List.mem_cons_self, Nat.le_refl _, _, pushCells_keeps r _ _ _ (Heap.get?_push_size _ rfl), rfl⟩
        · exact .inl hm
      · rw [Heap.size_push] at h2
        exact .inr ⟨List.mem_cons_of_mem _ h1, Nat.le_of_succ_le h2, h3⟩
    · rename_i hk
      rw [if_neg hk]
      rcases cells_mem hm with hm | ⟨h1, h2, h3⟩
      · exact .inl hm
      · exact .inr ⟨List.mem_cons_of_mem _ h1, h2, h3⟩
theorem cells_acc : ∀ {names : List (Str × NameKind)} {n : Nat} {acc : List (Str × Addr)} {p : Str × Addr}, p ∈ acc → p ∈ cellsFrom n names acc
  | [], _, _, _, h => h
  | (m, k) :: r, n, acc, p, h => by
    unfold cellsFrom
    split
    · exact cells_acc (List.mem_cons_of_mem _ h)
    · exact cells_acc h
theorem cells_has : ∀ {names : List (Str × NameKind)} {n : Nat} {acc : List (Str × Addr)} {x : Str}, (x, .cell) ∈ names → ∃ c, (x, c) ∈ cellsFrom n names acc
  | (m, k) :: r, n, acc, x, h => by
    unfold cellsFrom
    rcases List.mem_cons.mp h with e | h
    · cases e
      exact ⟨n, cells_acc List.mem_cons_self⟩
    · split
      · exact cells_has h
      · exact cells_has h
theorem cells_inj : ∀ {names : List (Str × NameKind)} {h : Heap} {acc : List (Str × Addr)} {x y : Str} {c : Addr}, (∀ p ∈ acc, p.2 < h.objs.size) → (∀ x y c, (x, c) ∈ acc → (y, c) ∈ acc → x = y) →
    (x, c) ∈ cellsFrom h.objs.size names acc → (y, c) ∈ cellsFrom h.objs.size names acc → x = y
  | [], _, _, _, _, _, _, hi, h1, h2 => hi _ _ _ h1 h2
  | (n, k) :: r, h, acc, x, y, c, hl, hi, h1, h2 => by
    unfold cellsFrom at h1 h2
    split at h1
    · rename_i hk
      rw [if_pos hk] at h2
      rw [← Heap.size_push h { cls := .type "cell", data := .cell none }] at h1 h2
      refine cells_inj (h := h.push _) (fun p hp => ?_) (fun x y c a b => ?_) h1 h2
      · rw [Heap.size_push]
        rcases List.mem_cons.mp hp with rfl | hp
        · exact Nat.lt_succ_self _
        · exact Nat.lt_succ_of_lt (hl p hp)
      · rcases List.mem_cons.mp a with e | a <;> rcases List.mem_cons.mp b with e' | b
        · cases e; cases e'; rfl
        · cases e; exact absurd (hl _ b) (Nat.lt_irrefl _)
        · cases e'; exact absurd (hl _ a) (Nat.lt_irrefl _)
        · exact hi _ _ _ a b
    · rename_i hk
      rw [if_neg hk] at h2
      exact cells_inj hl hi h1 h2

theorem newEnv_comp {M : Model} {A : Around} {E : Value → Shared → Prop} {s : Shared} {scope : Scope} {globals : Addr} {closure : List (Str × Addr)} {qual : Str} {func : Option Addr} {code : Value} {around : Env} {builtins : Addr} {Q : Env → Shared → Prop}
    (h : Q (newEnv scope s.heap.objs.size globals (cellsFrom (s.heap.objs.size + 1) scope.names closure) qual func code (some around) builtins)
      { s with heap := pushCells (s.heap.push { cls := .type "dict", data := .dict #[] }) scope.names }) :
    wpAny M A (newFunctionEnv scope globals closure [] qual func code (some around) builtins) Q E s := by
  simp only [newFunctionEnv, Option.isSome_some, if_true]
  refine wpAny_bind (wpAny_alloc ?_)
  refine wpAny_bind (wpAny_layCells _ (fun n k c => rfl) scope.names closure _ _ ?_)
  rw [show ({ s with heap := s.heap.push { cls := .type "dict", data := .dict #[] } } : Shared).heap.objs.size = s.heap.objs.size + 1 from Heap.size_push ..]
  rw [List.forIn_nil]
  exact wpAny_bind (wpAny_pure (wpAny_pure h))

/-- every name of the written scope, in the scope that runs -/
theorem lookup_relS {sc : Scope} : ∀ {names : List (Str × NameKind)} {x : Str} {k : NameKind},
    (names.map fun (n, k) => if (k == NameKind.free && sc.kind == .function && sc.names.lookup n == some .cell) then (n, NameKind.cell) else (n, k)).lookup x = some k →
    ∃ k', names.lookup x = some k' ∧ (k = k' ∨ (k' = .free ∧ k = .cell))
  | [], _, _, h => by simp at h
  | (n, k₀) :: r, x, k, h => by
    have ih := @lookup_relS sc r x k
    have h' : List.lookup x ((if (k₀ == NameKind.free && sc.kind == .function && sc.names.lookup n == some .cell) = true then (n, NameKind.cell) else (n, k₀)) :: (r.map _)) = some k := h
    cases hx : x == n with
    | true =>
      simp only [List.lookup_cons, hx]
      by_cases hc : (k₀ == NameKind.free && sc.kind == .function && sc.names.lookup n == some .cell) = true
      · rw [if_pos hc] at h'
        simp only [List.lookup_cons, hx] at h'
        cases h'
        simp only [Bool.and_eq_true, beq_iff_eq] at hc
        exact ⟨k₀, rfl, .inr ⟨hc.1.1, rfl⟩⟩
      · rw [if_neg hc] at h'
        simp only [List.lookup_cons, hx] at h'
        cases h'
        exact ⟨_, rfl, .inl rfl⟩
    | false =>
      simp only [List.lookup_cons, hx]
      by_cases hc : (k₀ == NameKind.free && sc.kind == .function && sc.names.lookup n == some .cell) = true
      · rw [if_pos hc] at h'
        simp only [List.lookup_cons, hx] at h'
        exact ih h'
      · rw [if_neg hc] at h'
        simp only [List.lookup_cons, hx] at h'
        exact ih h'
/-- the names of a comprehension's block: its own (with their places in N), or captured -/
structure BlkOk (N : List Str) (sc scope : Scope) (own : List (Str × Nat)) : Prop where
  kind : scope.kind = .function
  uniq : ∀ y ∈ scope.names, scope.names.lookup y.1 = some y.2
  ix : ∀ p ∈ own, N[p.2]? = some p.1
  free : ∀ y ∈ scope.names, y.2 = .free → sc.names.lookup y.1 = some .cell ∨ sc.names.lookup y.1 = some .free
  own : ∀ y ∈ scope.names, y.2 = .local ∨ y.2 = .cell → y.1 ∈ own.map (·.1) ∨ y.1 ∉ N
/-- the slots of the block's own names forgotten -/
def wipe (σ : St) : List Nat → St
  | [] => σ
  | v :: vs => (wipe σ vs).set v none
theorem wipe_length (σ : St) : ∀ vs : List Nat, (wipe σ vs).length = σ.length
  | [] => rfl
  | v :: vs => by unfold wipe; rw [List.length_set, wipe_length σ vs]
theorem wipe_some {σ : St} {i : Nat} {x : V} : ∀ {vs : List Nat}, (wipe σ vs)[i]? = some (some x) → σ[i]? = some (some x) ∧ i ∉ vs
  | [], h => ⟨h, by simp⟩
  | v :: vs, h => by
    unfold wipe at h
    by_cases hi : v = i
    · subst hi
      by_cases hv : v < (wipe σ vs).length
      · rw [List.getElem?_set_self hv] at h; cases h
      · rw [List.getElem?_eq_none (by simpa using hv)] at h; cases h
    · rw [List.getElem?_set_ne hi] at h
      obtain ⟨h1, h2⟩ := wipe_some h
      exact ⟨h1, by simp only [List.mem_cons, not_or]; exact ⟨fun e => hi e.symm, h2⟩⟩

/-- the context of a block that starts at s, its iterator's objects at fp -/
abbrev Cx.blk (X : Cx) (s : Shared) (H : Hp) (scope : Scope) (cenv : Env) (fp : List Addr) : Cx := { X with s_0 := s, H_0 := H, env := cenv, outer := X.stack, ex := fp, fn := fun x => scope.names.lookup x == some .cell, pn := [], xe := fun _ _ => False }
section
variable {X : Cx} {pins : List (Addr × Obj)} {σ : St} {H : Hp} {s : Shared}
theorem block_start {scope : Scope} {own : List (Str × Nat)} {fp : List Addr} (I : Inv X pins σ H s) (ok : BlkOk X.N X.env.scope scope own) (hN : X.N.Nodup) (hfp : ∀ b ∈ fp, FpOk X pins H b ∧ b < s.heap.objs.size) :
    Inv (X.blk s H scope (compEnvC scope (cellsFrom (s.heap.objs.size + 1) scope.names (cloFrom X.env.cells scope.names [])) s.heap.objs.size X.env) fp) [] (wipe σ (own.map (·.2))) H { s with heap := pushCells (s.heap.push { cls := .type "dict", data := .dict #[] }) scope.names } := by
  have hfree : ∀ y ∈ scope.names, y.2 = .free → ∃ c, X.env.cells.lookup y.1 = some c := fun y hy e => by
    rcases ok.free y hy e with k | k
    · exact I.ok.has _ (.inl k)
    · exact I.ok.has _ (.inr k)
  generalize hcenv : compEnvC scope (cellsFrom (s.heap.objs.size + 1) scope.names (cloFrom X.env.cells scope.names [])) s.heap.objs.size X.env = cenv
  have kp : ∀ b o, s.heap.get? b = some o → (pushCells (s.heap.push { cls := .type "dict", data := .dict #[] }) scope.names).get? b = some o := fun b o e => pushCells_keeps _ _ _ _ (Heap.get?_push_of_some _ e)
  have hL : cenv.locals = s.heap.objs.size := by rw [← hcenv]; rfl
  have hcl : cenv.cells = cellsFrom (s.heap.objs.size + 1) scope.names (cloFrom X.env.cells scope.names []) := by rw [← hcenv]; rfl
  have hsc : cenv.scope = relS scope X.env.scope := by rw [← hcenv]; rfl
  rw [← Heap.size_push s.heap { cls := .type "dict", data := .dict #[] }] at hcl
  have cm : ∀ {y c}, (y, c) ∈ cloFrom X.env.cells scope.names [] → X.env.cells.lookup y = some c ∧ c < s.heap.objs.size := fun {y c} hm => by
    rcases cloFrom_mem hm with hm | ⟨h1, rfl⟩
    · cases hm
    · obtain ⟨c, hc⟩ := hfree _ h1 rfl
      rw [hc]
      obtain ⟨w, z⟩ := I.cell _ _ hc
      exact ⟨rfl, z.lt⟩
  have mem : ∀ {y c}, cenv.cells.lookup y = some c → (X.env.cells.lookup y = some c ∧ c < s.heap.objs.size) ∨ (s.heap.objs.size + 1 ≤ c ∧ CellAt (pushCells (s.heap.push { cls := .type "dict", data := .dict #[] }) scope.names) c none) := fun {y c} e => by
    rw [hcl] at e
    rcases cells_mem (PySem.mem_of_lookup e) with hm | ⟨_, h2, h3⟩
    · exact .inl (cm hm)
    · rw [Heap.size_push] at h2; exact .inr ⟨h2, h3⟩
  have look : ∀ {y}, scope.names.lookup y = some .free → ∃ c, cenv.cells.lookup y = some c ∧ X.env.cells.lookup y = some c := fun {y} hl => by
    have hy : (y, NameKind.free) ∈ scope.names := PySem.mem_of_lookup hl
    obtain ⟨c', e'⟩ := mem_lookup (cells_acc (names := scope.names) (n := (s.heap.push { cls := .type "dict", data := .dict #[] }).objs.size) (cloFrom_has (cells := X.env.cells) (acc := []) hy))
    rw [← hcl] at e'
    refine ⟨c', e', ?_⟩
    rw [hcl] at e'
    rcases cells_mem (PySem.mem_of_lookup e') with hm | ⟨h1, _, _⟩
    · exact (cm hm).1
    · have := ok.uniq _ h1
      rw [hl] at this; cases this
  have okB : (X.blk s H scope cenv fp).Ok := by
    refine ⟨I.ok.mod, by show cenv.scope.kind = _; rw [hsc]; exact ok.kind, by show cenv.globals = _; rw [← hcenv]; exact I.ok.glob, by show cenv.builtins = _; rw [← hcenv]; exact I.ok.blt, by show s.heap.objs.size ≤ cenv.locals; rw [hL]; exact Nat.le_refl _,
      fun y z c e1 e2 => ?_, fun y hy => ?_, fun y c z e => ?_, I.ok.hd, I.ok.frames, .inl rfl, fun b hb => ⟨?_, fun y c e z => ?_⟩, I.bs, Nat.le_trans I.ok.bsz I.sz, fun b o e hb => ?_, fun b hb z => ?_, I.stack, I.stkFree⟩
    · have e1 : cenv.cells.lookup y = some c := e1
      have e2 : cenv.cells.lookup z = some c := e2
      rw [hcl] at e1 e2
      refine cells_inj (fun p hp => ?_) (fun y z c a b => I.ok.inj y z c (cm a).1 (cm b).1) (PySem.mem_of_lookup e1) (PySem.mem_of_lookup e2)
      rw [Heap.size_push]
      exact Nat.lt_succ_of_lt (cm (y := p.1) (c := p.2) hp).2
    · show ∃ c, cenv.cells.lookup y = some c
      have key : ∀ k, cenv.kindOf y = some k → (k = .cell ∨ k = .free) → ∃ c, cenv.cells.lookup y = some c := fun k hk hk' => by
        unfold Env.kindOf at hk
        rw [hsc] at hk
        obtain ⟨k', e, r⟩ := lookup_relS hk
        have : k' = .cell ∨ k' = .free := by
          rcases r with rfl | ⟨rfl, _⟩
          · exact hk'
          · exact .inr rfl
        rcases this with rfl | rfl
        · obtain ⟨c, hm⟩ := cells_has (n := (s.heap.push { cls := .type "dict", data := .dict #[] }).objs.size) (acc := cloFrom X.env.cells scope.names []) (PySem.mem_of_lookup e)
          obtain ⟨c', e'⟩ := mem_lookup hm
          exact ⟨c', by rw [hcl]; exact e'⟩
        · obtain ⟨c, h1, _⟩ := look e
          exact ⟨c, h1⟩
      rcases hy with hy | hy
      · exact key _ hy (.inl rfl)
      · exact key _ hy (.inr rfl)
    · have z : (scope.names.lookup y == some NameKind.cell) = true := z
      have z : scope.names.lookup y = some .cell := by simpa using z
      have e : cenv.cells.lookup y = some c := e
      rw [hcl] at e
      rcases cells_mem (PySem.mem_of_lookup e) with hm | ⟨_, h2, _⟩
      · rcases cloFrom_mem hm with hm | ⟨h1, _⟩
        · cases hm
        · have q := ok.uniq _ h1
          rw [z] at q; cases q
      · rw [Heap.size_push] at h2
        exact Nat.le_of_succ_le h2
    · show b ≠ cenv.locals
      rw [hL]; exact Nat.ne_of_lt (hfp b hb).2
    · have e : cenv.cells.lookup y = some c := e
      rcases mem e with ⟨h1, _⟩ | ⟨h1, _⟩
      · exact (hfp b hb).1.2.2.2.2.1 y c h1 z
      · have h2 : s.heap.objs.size + 1 ≤ b := by rw [← z]; exact h1
        exact absurd (Nat.lt_of_lt_of_le (hfp b hb).2 (Nat.le_of_succ_le h2)) (Nat.lt_irrefl _)
    · rcases (hfp b hb).1.2.2.2.1 with z | z
      · exact I.ok.noex b o e z
      · exact absurd (Nat.lt_of_lt_of_le (Heap.lt_size e) (Nat.le_trans I.ok.bsz z)) (Nat.lt_irrefl _)
    · rcases List.mem_cons.mp (I.stkSub b z) with z | z
      · exact (hfp b hb).1.2.1 z
      · exact (hfp b hb).1.2.2.1 z
  refine ⟨okB, rfl, I.bare, Un.kept kp, ⟨fun _ => none, ?_, fun i y av e1 e2 e3 => ?_⟩, fun y c e => ?_, ?_, fun y c e => ?_, fun p hp => ?_, I.hok.kept kp, by rw [wipe_length]; exact I.len⟩
  · show Heap.Ns _ cenv.locals _
    rw [hL]
    exact Heap.Ns.keeps (Heap.Ns.new ..) fun b o e => pushCells_keeps _ _ _ _ e
  · obtain ⟨e2, hne⟩ := wipe_some e2
    have hfr : scope.names.lookup y = some .free ∧ (cenv.kindOf y = some .cell ∨ cenv.kindOf y = some .free) := by
      have key : ∀ k, cenv.scope.names.lookup y = some k → k = .local ∨ k = .cell ∨ k = .free → scope.names.lookup y = some .free ∧ (cenv.kindOf y = some .cell ∨ cenv.kindOf y = some .free) := fun k hk hk' => by
        have hk0 := hk
        rw [hsc] at hk
        obtain ⟨k', e, r⟩ := lookup_relS hk
        have no : ¬ (k' = .local ∨ k' = .cell) := fun hh => by
          rcases ok.own _ (PySem.mem_of_lookup e) hh with e' | e'
          · obtain ⟨p, hp, hpy⟩ := List.mem_map.mp e'
            have e3 := ok.ix p hp
            have : p.1 = y := hpy
            rw [this] at e3
            exact hne (List.mem_map.mpr ⟨p, hp, nodup_ix hN e3 e1⟩)
          · exact e' (List.mem_of_getElem? e1)
        rcases r with rfl | ⟨rfl, rfl⟩
        · rcases hk' with rfl | rfl | rfl
          · exact absurd (.inl rfl) no
          · exact absurd (.inr rfl) no
          · exact ⟨e, .inr hk0⟩
        · exact ⟨e, .inl hk0⟩
      have e3 : Vis cenv.scope y := e3
      rcases e3 with e3 | e3 | e3
      · exact key _ e3 (.inl rfl)
      · exact key _ e3 (.inr (.inl rfl))
      · exact key _ e3 (.inr (.inr rfl))
    obtain ⟨m, hn, hl⟩ := I.loc
    have hvis : Vis X.env.scope y := (ok.free _ (PySem.mem_of_lookup hfr.1) rfl).elim (fun k => .inr (.inl k)) (fun k => .inr (.inr k))
    obtain ⟨w, r, q⟩ := hl i y av e1 e2 hvis
    refine ⟨w, r, .inr ⟨hfr.2, ?_⟩⟩
    obtain ⟨c, h1, h2⟩ := look hfr.1
    rcases q with ⟨k, _⟩ | ⟨_, c', e', z⟩
    · have k : X.env.scope.names.lookup y = some .local := k
      rcases ok.free _ (PySem.mem_of_lookup hfr.1) rfl with k' | k' <;> rw [show X.env.scope.names.lookup y = _ from k'] at k <;> cases k
    · rw [h2] at e'; cases e'
      exact ⟨c, h1, z.keeps kp⟩
  · have e : cenv.cells.lookup y = some c := e
    rcases mem e with ⟨h1, _⟩ | ⟨_, z⟩
    · obtain ⟨w, z⟩ := I.cell y c h1
      exact ⟨w, z.keeps kp⟩
    · exact ⟨_, z⟩
  · show H cenv.locals = none
    rw [hL]; exact I.hok.fresh (Nat.le_refl _)
  · have e : cenv.cells.lookup y = some c := e
    rcases mem e with ⟨h1, _⟩ | ⟨h1, _⟩
    · exact I.freeC y c h1
    · exact I.hok.fresh (Nat.le_of_succ_le h1)
  · exact absurd (show p ∈ ([] : List (Addr × Obj)) ++ [] from hp) (by simp)

/-- an item appended to a tracked list -/
theorem app_ok {E : Value → Shared → Prop} {D : Addr} {xs : List V} {y : V} {v : Value} {Q : Value → Shared → Prop} (I : Inv X pins σ H s) (hD : H D = some (.lst xs)) (hz : xs.length < sizeLine) (r : RelV y v)
    (h : ∀ s', Inv X pins σ (upd H D (.lst (xs ++ [y]))) s' → Q .none s') : wpAny (model X.prog X.w) X.A (call (.builtin "list.append") [.ref D, v]) Q E s := by
  obtain ⟨hz', its, n, ri, e⟩ := I.hok D _ hD
  have hl := ri.length
  refine append_at (hsz := by rw [List.size_toArray]; omega) e fun h' sb ho' => ?_
  refine h { s with heap := h' } (I.write (t' := s.toks) (by rw [hD]; trivial) (.inl rfl) (fun b u hb q => (sb.2 b hb).trans q) ⟨_, ho'⟩ ⟨by rw [List.length_append]; exact hz, its ++ [v], n + 1, ri.append (.cons r .nil), ?_⟩)
  rw [ho']
  simp

/-- a clause's tests -/
def PTs (X : Cx) (ifs : List Expr) (t : TT) : Prop :=
  ∀ (pins : List (Addr × Obj)) (s : Shared) (σ : St) (H : Hp) (Q : Bool → Hp → Prop), Inv X pins σ H s → t σ H Q →
    wpAny (model X.prog X.w) X.A (forIn ifs true fun c r => if r = true then do let ok ← isTrue c X.env (eval c X.env); pure (ForInStep.yield ok) else pure (ForInStep.yield r)) (TP X pins σ Q) X.xe s
def tYes : TT := fun _ H Q => Q true H
theorem pts_nil : PTs X [] tYes := fun _ _ _ H _ I h => wpAny_tests_nil ⟨H, I, h⟩
theorem pts_one {c : Expr} {t : TT} (h : PT X c t) : PTs X [c] t := fun pins s σ H Q I hw => wpAny_tests_one (h pins s σ H Q I hw)
end

theorem thnF {α : Type} {t : Sem α} {Q Q' : α → Shared → Prop} {M : Model} {A : Around} {E : Value → Shared → Prop} {s : Shared} (h : wpAny M A t Q (fun _ _ => False) s) (hQ : ∀ a s, Q a s → Q' a s) : wpAny M A t Q' E s := wpAny_mono h hQ fun _ _ z => False.elim z

/-- the loop of a list comprehension's block, the target of any form (codeAny_compLoop_tests asks a target that no tuple goes to; statement and proof follow it, PyProof/CompMap.lean:41-61, with the step letOwnedTupleGo kept) -/
theorem compLoop_any {prog : Program} {w : World} {A : Around} {R : Result → Shared → Prop} {s : Shared} {elt target iter : Expr} {ifs : List Expr} {scope : Scope} {pos : Pos} {it acc : Value} {env : Env} (I : Nat → Shared → Prop)
    (turn : ∀ n s, I n s → wpAny (model prog w) A (pyNext it) (fun r s₁ => match r with
      | none => R (.ok .next) s₁
      | some v => wpAny (model prog w) A (letOwnedTupleGo target it v) (fun _ s₁' => wpAny (model prog w) A (assign target env v) (fun _ s₂ =>
          wpAny (model prog w) A (forIn ifs true fun c r => if r = true then do let ok ← isTrue c env (eval c env); pure (ForInStep.yield ok) else pure (ForInStep.yield r)) (fun ok s₃ =>
            if ok = true then wpAny (model prog w) A (eval elt env) (fun x s₄ =>
              wpAny (model prog w) A (call (.builtin "list.append") [acc, x]) (fun _ s₅ => ∃ m, m < n ∧ I m s₅) (notedBy (model prog w) A env fun e s' => R (.error e) s') s₄) (notedBy (model prog w) A env fun e s' => R (.error e) s') s₃
            else ∃ m, m < n ∧ I m s₃) (notedBy (model prog w) A env fun e s' => R (.error e) s') s₂) (notedBy (model prog w) A env fun e s' => R (.error e) s') s₁') (notedBy (model prog w) A env fun e s' => R (.error e) s') s₁) (notedBy (model prog w) A env fun e s' => R (.error e) s') s)
    (n : Nat) (h : I n s) :
    codeAny (model prog w) A (.compLoop (.ListComp elt [⟨target, iter, ifs, 0⟩] scope pos) 0 it acc env) R s := by
  refine codeAny_loop rfl I (fun n s hI => ?_) n h
  show wpAny _ A ((compTurn (.ListComp elt [⟨target, iter, ifs, 0⟩] scope pos) 0 it acc env).onRaise (fun x => do noteFrame x env; theTreesLotGoes x)) _ _ s
  refine wpAny_noted ?_
  rw [compTurn_list]
  refine wpAny_bind (wpAny_standAt (wpAny_bind (wpAny_mono (turn n s hI) (fun r s₁ h₁ => ?_) fun _ _ h' => h')))
  cases r with
  | none => exact wpAny_pure h₁
  | some v =>
    refine wpAny_bind (wpAny_mono h₁ (fun _ s₁' h₁' => ?_) fun _ _ h' => h')
    refine wpAny_bind (wpAny_mono h₁' (fun _ s₂ h₂ => wpAny_bind (wpAny_mono h₂ (fun ok s₃ h₃ => ?_) fun _ _ h' => h')) fun _ _ h' => h')
    cases ok with
    | false => exact wpAny_pure ⟨rfl, h₃⟩
    | true =>
      exact wpAny_bind (wpAny_bind (wpAny_mono h₃ (fun x s₄ h₄ => wpAny_bind (wpAny_mono h₄ (fun _ s₅ h₅ => wpAny_pure (wpAny_pure ⟨rfl, h₅⟩)) fun _ _ h' => h')) fun _ _ h' => h'))

section
variable {X : Cx}
/-- [elt for target in iter if ..]: D the new list; W by the turn and a measure, Nx what a turn is to reach -/
def tLc (wi : TI) (g : TG) (tt : TT) (te : TE) (vs : List Nat) : TE := fun σ H Q => wi σ H fun J H1 => ∀ D, H1 D = none → ∃ W : Nat → Nat → Hp → Prop, (∃ m, W 0 m (upd H1 D (.lst []))) ∧ ∀ i m H, W i m H →
  (J.stop i H ∧ Q (.ref D) H) ∨ (J.go i H ∧ ∃ Nx : Hp → Prop, (∀ H', Nx H' → ∃ m', m' < m ∧ W (i + 1) m' H') ∧ ∀ x H', J.yld i H x H' → g x (wipe σ vs) H' fun σ2 H2 => wipe σ2 vs = wipe σ vs ∧ tt σ2 H2 fun b H3 =>
    if b = true then te σ2 H3 fun y H4 => ∃ acc, H4 D = some (.lst acc) ∧ acc.length < sizeLine ∧ Nx (upd H4 D (.lst (acc ++ [y]))) else Nx H3)
theorem lc_core {pins : List (Addr × Obj)} {s : Shared} {σ : St} {H : Hp} {Q : VK} {elt tg iter : Expr} {ifs : List Expr} {scope : Scope} {own : List (Str × Nat)} {pos pos' : Pos} {wi : TI} {g : TG} {tt : TT} {te : TE} {use : Option (Value → Sem Unit)} {Qf : Value → Shared → Prop}
    (hc : X.calm = true) (hN : X.N.Nodup) (I : Inv X pins σ H s) (hi : PI X tg iter wi) (ok : BlkOk X.N X.env.scope scope own)
    (hg : ∀ (s : Shared) (H : Hp) (C : Addr) (cl : List (Str × Addr)) (fp : List Addr), PG (X.blk s H scope (compEnvC scope cl C X.env) fp) tg g) (ht : ∀ (s : Shared) (H : Hp) (C : Addr) (cl : List (Str × Addr)) (fp : List Addr), PTs (X.blk s H scope (compEnvC scope cl C X.env) fp) ifs tt)
    (he : ∀ (s : Shared) (H : Hp) (C : Addr) (cl : List (Str × Addr)) (fp : List Addr), PE (X.blk s H scope (compEnvC scope cl C X.env) fp) elt te) (hs : ∀ x, foldedSetIterable iter X.env x = pure x)
    (h : tLc wi g tt te (own.map (·.2)) σ H Q)
    (hRR : ∀ D C s' m H', Inv X pins σ H' s' → Q (.ref D) H' → s'.heap.Ns C m → FpOk X pins H' C → compPost (model X.prog X.w) X.A X.xe use Qf (.ref D) C (.ok .next) s') :
    wpAny (model X.prog X.w) X.A (comprehension (.ListComp elt [⟨tg, iter, ifs, 0⟩] scope pos) scope X.env pos' (newList []) false (eval iter X.env) use) Qf X.xe s := by
  have hfree : ∀ y ∈ scope.names, y.2 = .free → ∃ c, X.env.cells.lookup y.1 = some c := fun y hy e => by
    rcases ok.free y hy e with k | k
    · exact I.ok.has _ (.inl k)
    · exact I.ok.has _ (.inr k)
  refine wpAny_comprehension_free (use := use) rfl hs (closure_ok hfree) ok.kind (fun y hy e => by rw [ok.uniq y hy, e])
    (thn (hi pins s σ H _ I h) fun xv s1 hx => thn hx fun itv s2 h2 => ?_)
  obtain ⟨it, fp, tn, J, H2, e, I2, T, st2, f2, q⟩ := h2
  subst e
  refine wpAny_newObj_type (newEnv_comp ?_) (by show 0 ≤ sizeLine; decide)
  generalize hD : s2.heap.objs.size = D
  have hDn : H2 D = none := I2.hok.fresh (Nat.le_of_eq hD)
  obtain ⟨W, ⟨m0, w0⟩, turn⟩ := q D hDn
  -- the new list
  generalize hs3 : ({ s2 with heap := s2.heap.push { cls := .type "list", data := .seq ([] : List Value).toArray } } : Shared) = s3
  have I3 : Inv X pins σ (upd H2 D (.lst [])) s3 := by
    rw [← hs3]
    refine I2.laid (t' := s2.toks) (fun b o e => Heap.get?_push_of_some _ e) (Nat.le_of_eq hD) ⟨Nat.zero_le _, [], 0, .nil, ?_⟩
    rw [← hD]
    exact Heap.get?_push_size _ rfl
  have h3 : s3.heap = s2.heap.push { cls := .type "list", data := .seq ([] : List Value).toArray } := by rw [← hs3]
  have sz : ∀ b ∈ fp, b < s2.heap.objs.size := fun b hb => by
    obtain ⟨o, e, _⟩ := T.obj _ _ st2 b hb
    exact Heap.lt_size e
  have f3 : ∀ b ∈ fp, FpOk X pins (upd H2 D (.lst [])) b ∧ b < s3.heap.objs.size := fun b hb => by
    have hlt := sz b hb
    refine ⟨⟨?_, (f2 b hb).2⟩, by rw [h3, Heap.size_push]; exact Nat.lt_succ_of_lt hlt⟩
    rw [upd_ne (by rw [← hD]; exact Nat.ne_of_lt hlt)]
    exact (f2 b hb).1
  have st3 : tn 0 s3.heap := T.keep _ _ _ st2 fun b _ o e => by rw [h3]; exact Heap.get?_push_of_some _ e
  have I4 := block_start I3 ok hN f3
  have pg := hg s3 (upd H2 D (.lst [])) s3.heap.objs.size (cellsFrom (s3.heap.objs.size + 1) scope.names (cloFrom X.env.cells scope.names [])) fp
  have pt := ht s3 (upd H2 D (.lst [])) s3.heap.objs.size (cellsFrom (s3.heap.objs.size + 1) scope.names (cloFrom X.env.cells scope.names [])) fp
  have pe := he s3 (upd H2 D (.lst [])) s3.heap.objs.size (cellsFrom (s3.heap.objs.size + 1) scope.names (cloFrom X.env.cells scope.names [])) fp
  show codeAny _ _ (.compStart (.ListComp elt [⟨tg, iter, ifs, 0⟩] scope pos) 0 (.ref it) (.ref D) (compEnvC scope (cellsFrom (s3.heap.objs.size + 1) scope.names (cloFrom X.env.cells scope.names [])) s3.heap.objs.size X.env)) (compPost (model X.prog X.w) X.A X.xe use Qf (.ref D) s3.heap.objs.size) { s3 with heap := pushCells (s3.heap.push { cls := .type "dict", data := .dict #[] }) scope.names }
  have nfp : ∀ b ∈ fp, (upd H2 D (.lst [])) b = none := fun b hb => (f3 b hb).1.1
  generalize hce : compEnvC scope (cellsFrom (s3.heap.objs.size + 1) scope.names (cloFrom X.env.cells scope.names [])) s3.heap.objs.size X.env = ce at I4 pg pt pe ⊢
  have cL : ce.locals = s3.heap.objs.size := by subst hce; rfl
  generalize hH3 : upd H2 D (.lst []) = H3 at I3 I4 pg pt pe w0 nfp f3
  generalize hs4 : ({ s3 with heap := pushCells (s3.heap.push { cls := .type "dict", data := .dict #[] }) scope.names } : Shared) = s4 at I4 ⊢
  have st4 : tn 0 s4.heap := T.keep _ _ _ st3 fun b _ o e => by rw [← hs4]; exact pushCells_keeps _ _ _ _ (Heap.get?_push_of_some _ e)
  have stat : ∀ {σ' : St} {H' : Hp} {s' : Shared}, Inv (X.blk s3 H3 scope ce fp) [] σ' H' s' → (∀ b ∈ fp, H' b = none) → ∀ b ∈ fp, FpOk (X.blk s3 H3 scope ce fp) [] H' b := fun {σ' H' s'} I' hn b hb =>
    ⟨hn b hb, (I'.ok.exf b hb).1, I'.ok.exfs b hb, .inl hb, fun x c e => (I'.ok.exf b hb).2 x c e, fun p hp => absurd (show p ∈ ([] : List (Addr × Obj)) ++ [] from hp) (by simp)⟩
  have loop : codeAny (model X.prog X.w) X.A (.compLoop (.ListComp elt [⟨tg, iter, ifs, 0⟩] scope pos) 0 (.ref it) (.ref D) ce) (compPost (model X.prog X.w) X.A X.xe use Qf (.ref D) s3.heap.objs.size) s4 := by
    refine compLoop_any (fun n s' => ∃ i H', Inv (X.blk s3 H3 scope ce fp) [] (wipe σ (own.map (·.2))) H' s' ∧ tn i s'.heap ∧ (∀ b ∈ fp, H' b = none) ∧ W i n H') ?_ m0 ⟨0, H3, I4, st4, nfp, w0⟩
    rintro n s5 ⟨i, H5, I5, st5, n5, w5⟩
    rcases turn i n H5 w5 with ⟨stop, qq⟩ | ⟨go, Nx, hNx, step⟩
    · have td := T.done (X.blk s3 H3 scope ce fp) rfl rfl rfl hc i [] s5 _ H5 (fun _ _ => False) I5 (stat I5 n5) st5 stop
      refine thnF td fun r s6 ⟨hr, I6⟩ => ?_
      subst hr
      -- back in the def's context
      have I7 : Inv X pins σ H5 s6 := I3.call' (ch := fp) I6.os I6.base I6.hok I6.bare fun b hb => ⟨(f3 b hb).1.2.2.2.1, (f3 b hb).1.2.1, (f3 b hb).1.2.2.2.2.1, (f3 b hb).1.2.2.2.2.2⟩
      have nC : H5 s3.heap.objs.size = none := by
        have z : H5 ce.locals = none := I6.free
        rw [cL] at z
        exact z
      obtain ⟨m, hn, _⟩ := I6.loc
      have hn : s6.heap.Ns ce.locals m := hn
      rw [cL] at hn
      exact hRR D s3.heap.objs.size s6 m H5 I7 qq hn (I3.fpOk (Nat.le_refl _) nC)
    · have ti := T.item (X.blk s3 H3 scope ce fp) rfl rfl rfl hc i [] s5 _ H5 (fun _ _ => False) I5 (stat I5 n5) st5 go
      refine thnF ti fun r s6 ⟨u, hr, h6⟩ => ?_
      subst hr
      refine thnF h6 fun _ s7 ⟨x, H7, I7, r7, y7, st7, n7⟩ => ?_
      have I7' := I7.pinned (stat I7 n7) (T.obj _ _ st7)
      refine thnF (pg _ s7 _ H7 x u _ I7' r7 (step x H7 y7)) fun _ s8 ⟨σ8, H8, I8, hw8, q8⟩ => ?_
      refine thnF (pt _ s8 σ8 H8 _ I8 q8) fun b s9 ⟨H9, I9, q9⟩ => ?_
      -- the turn's end
      have fin : ∀ {s' : Shared} {H' : Hp}, Inv (X.blk s3 H3 scope ce fp) ([] ++ pinsAt fp s7.heap) σ8 H' s' → Nx H' → ∃ m, m < n ∧ ∃ i H', Inv (X.blk s3 H3 scope ce fp) [] (wipe σ (own.map (·.2))) H' s' ∧ tn i s'.heap ∧ (∀ b ∈ fp, H' b = none) ∧ W i m H' := fun {s' H'} I' nx => by
        obtain ⟨m', hm, w'⟩ := hNx H' nx
        have pin' : ∀ b ∈ fp, ∀ o, s7.heap.get? b = some o → s'.heap.get? b = some o ∧ H' b = none := fun b hb o e =>
          let z := I'.pin (b, o) (List.mem_append_right _ (List.mem_append_right _ (mem_pinsAt hb e)))
          ⟨z.1, z.2.1⟩
        have hl : (wipe σ (own.map (·.2))).length = σ8.length := by rw [← hw8, wipe_length]
        refine ⟨m', hm, i + 1, H', (I'.unpinned (pins := [])).weak hl (fun j v e => ?_), T.keep _ _ _ st7 fun b hb o e => (pin' b hb o e).1, fun b hb => ?_, w'⟩
        · rw [← hw8] at e
          exact (wipe_some e).1
        · obtain ⟨o, e, _⟩ := T.obj _ _ st7 b hb
          exact (pin' b hb o e).2
      cases b with
      | false =>
        simp only [Bool.false_eq_true, if_false] at q9 ⊢
        exact fin I9 q9
      | true =>
        simp only [if_true] at q9 ⊢
        refine thnF (pe _ s9 σ8 H9 _ I9 q9) fun z s10 ⟨yv, H10, I10, r10, acc, hD10, hz10, nx⟩ => ?_
        exact app_ok (X := X.blk s3 H3 scope ce fp) I10 hD10 hz10 r10 fun s11 I11 => fin I11 nx
  exact codeAny_compStart_list loop (T.self X.A 0 _ _ _ st4 loop)
/-- as a value -/
theorem pe_lc {elt tg iter : Expr} {ifs : List Expr} {scope : Scope} {own : List (Str × Nat)} {pos : Pos} {wi : TI} {g : TG} {tt : TT} {te : TE} (hc : X.calm = true) (hN : X.N.Nodup) (hi : PI X tg iter wi) (ok : BlkOk X.N X.env.scope scope own)
    (hg : ∀ (s : Shared) (H : Hp) (C : Addr) (cl : List (Str × Addr)) (fp : List Addr), PG (X.blk s H scope (compEnvC scope cl C X.env) fp) tg g) (ht : ∀ (s : Shared) (H : Hp) (C : Addr) (cl : List (Str × Addr)) (fp : List Addr), PTs (X.blk s H scope (compEnvC scope cl C X.env) fp) ifs tt)
    (he : ∀ (s : Shared) (H : Hp) (C : Addr) (cl : List (Str × Addr)) (fp : List Addr), PE (X.blk s H scope (compEnvC scope cl C X.env) fp) elt te) (hs : ∀ x, foldedSetIterable iter X.env x = pure x := by intro _; rfl) :
    PE X (.ListComp elt [⟨tg, iter, ifs, 0⟩] scope pos) (tLc wi g tt te (own.map (·.2))) := by
  intro pins s σ H Q I h
  rw [eval_ListComp]
  refine lc_core hc hN I hi ok hg ht he hs h fun D C s' m H' I' q hn f => ⟨m, hn, fun h'' sb => ?_⟩
  obtain ⟨f0, f1, f2, f3, f4, f5⟩ := f
  exact ⟨.ref D, H', I'.turned (t' := s'.toks) (fun b o hb e => (sb.2 b hb).trans e) f0 f1 f3 f4 f5, rfl, q⟩
/-- name = [..] on one line, the name a local -/
theorem ps_setLc {i : Nat} {y : Str} {py : Pos} {elt tg iter : Expr} {ifs : List Expr} {scope : Scope} {own : List (Str × Nat)} {pos spos : Pos} {wi : TI} {g : TG} {tt : TT} {te : TE} (hc : X.calm = true) (hN : X.N.Nodup) (hy : X.N[i]? = some y) (hyl : X.env.scope.names.lookup y = some .local)
    (hsw : swapsWith (.ListComp elt [⟨tg, iter, ifs, 0⟩] scope pos) (some (.Name y py)) spos.line X.env = pure true) (hi : PI X tg iter wi) (ok : BlkOk X.N X.env.scope scope own)
    (hg : ∀ (s : Shared) (H : Hp) (C : Addr) (cl : List (Str × Addr)) (fp : List Addr), PG (X.blk s H scope (compEnvC scope cl C X.env) fp) tg g) (ht : ∀ (s : Shared) (H : Hp) (C : Addr) (cl : List (Str × Addr)) (fp : List Addr), PTs (X.blk s H scope (compEnvC scope cl C X.env) fp) ifs tt)
    (he : ∀ (s : Shared) (H : Hp) (C : Addr) (cl : List (Str × Addr)) (fp : List Addr), PE (X.blk s H scope (compEnvC scope cl C X.env) fp) elt te) (hs : ∀ x, foldedSetIterable iter X.env x = pure x := by intro _; rfl) :
    PS X (.Assign [.Name y py] (.ListComp elt [⟨tg, iter, ifs, 0⟩] scope pos) spos) (tAsg (tLc wi g tt te (own.map (·.2))) (gName i)) := by
  intro pins s σ H D I h
  rw [exec_Assign_Name_used _ _ _ _ hsw]
  refine wpAny_bind (wpAny_standAt (wpAny_bind ?_))
  show wpAny _ X.A (do let _ ← comprehension (.ListComp elt [⟨tg, iter, ifs, 0⟩] scope pos) scope X.env (firstIterPos [⟨tg, iter, ifs, 0⟩] pos) (newList []) false (eval iter X.env) (some (assign (.Name y py) X.env))) _ _ s
  have h : tLc wi g tt te (own.map (·.2)) σ H (fun x H1 => gName i x σ H1 D.nx) := h
  refine wpAny_bind (thn (lc_core (Qf := fun _ s' => SP X pins D .next s') hc hN I hi ok hg ht he hs h fun L C s' m H' I' q hn f => ?_) fun _ s' hq => wpAny_pure (wpAny_pure hq))
  show wpAny _ _ (assign (.Name y py) X.env (.ref L)) _ _ _
  refine wpAny_assign_Name (store_ok2 (v := V.ref L) I' hN hy (.inl hyl) rfl (fun s2 I2 ⟨a, sb, ha⟩ => ?_) (.inr hyl))
  obtain ⟨f0, f1, f2, f3, f4, f5⟩ := f
  have haC : C ≠ a := by
    rcases ha with z | z
    · rw [z]; exact f1
    · exact fun e => f4 y a z e.symm
  refine ⟨m, hn.sameBut sb haC, fun h3 sb3 => ?_⟩
  exact ⟨_, H', I2.turned (t' := s2.toks) (fun b o hb e => (sb3.2 b hb).trans e) f0 f1 f3 f4 f5, q⟩
theorem sw_true {elt : Expr} {gs : List Comprehension} {scope : Scope} {pos py : Pos} {y : Str} {l : Nat} {env : Env} (hk : env.scope.kind = .function) (hy : env.scope.names.lookup y = some .local) (hl : (py.line == pos.line) = true)
    (ha : (scope.names.any fun (n, k) => n == y && (k == .local || k == .cell)) = false) : swapsWith (.ListComp elt gs scope pos) (some (.Name y py)) l env = pure true := by
  have ky : env.kindOf y = some .local := hy
  have hb : env.blockKind = .function := by unfold Env.blockKind; rw [hk]; rfl
  unfold swapsWith
  simp only [hb, ky, ha, Expr.pos, hl]
  rfl
end

/-! ### the forms one uses -/
/-- over a range: Pv by the turn and the heap (the new list at D within) -/
theorem lc_range {lo : Int} {n : Nat} {g : TG} {tt : TT} {te : TE} {vs : List Nat} {σ : St} {H1 : Hp} {D : Addr} {Qd : Hp → Prop} (Pv : Nat → Hp → Prop) (h0 : Pv 0 (upd H1 D (.lst [])))
    (hs : ∀ i H, i < n → Pv i H → g (.int (lo + i)) (wipe σ vs) H fun σ2 H2 => wipe σ2 vs = wipe σ vs ∧ tt σ2 H2 fun b H3 =>
      if b = true then te σ2 H3 fun y H4 => ∃ acc, H4 D = some (.lst acc) ∧ acc.length < sizeLine ∧ Pv (i + 1) (upd H4 D (.lst (acc ++ [y]))) else Pv (i + 1) H3) (hd : ∀ H, Pv n H → Qd H) :
    ∃ W : Nat → Nat → Hp → Prop, (∃ m, W 0 m (upd H1 D (.lst []))) ∧ ∀ i m H, W i m H →
      ((Itr lo n).stop i H ∧ Qd H) ∨ ((Itr lo n).go i H ∧ ∃ Nx : Hp → Prop, (∀ H', Nx H' → ∃ m', m' < m ∧ W (i + 1) m' H') ∧ ∀ x H', (Itr lo n).yld i H x H' → g x (wipe σ vs) H' fun σ2 H2 => wipe σ2 vs = wipe σ vs ∧ tt σ2 H2 fun b H3 =>
        if b = true then te σ2 H3 fun y H4 => ∃ acc, H4 D = some (.lst acc) ∧ acc.length < sizeLine ∧ Nx (upd H4 D (.lst (acc ++ [y]))) else Nx H3) := by
  refine ⟨fun i m H => m = n - i ∧ i ≤ n ∧ Pv i H, ⟨n, by simp, Nat.zero_le _, h0⟩, ?_⟩
  rintro i m H ⟨rfl, hi, p⟩
  by_cases hlt : i < n
  · refine .inr ⟨hlt, Pv (i + 1), fun H' p' => ⟨n - (i + 1), by omega, rfl, hlt, p'⟩, fun x H' y => ?_⟩
    obtain ⟨e, y⟩ := y
    subst e y
    exact hs i _ hlt p
  · have e : i = n := by omega
    subst e
    exact .inl ⟨Nat.le_refl _, hd H p⟩
/-- over a list that the block leaves as it is -/
theorem lc_list {K : PySem.W.Frag} {a : Addr} {xs : List V} {g : TG} {tt : TT} {te : TE} {vs : List Nat} {σ : St} {H1 : Hp} {D : Addr} {Qd : Hp → Prop} (Pv : Nat → Hp → Prop) (h0 : Pv 0 (upd H1 D (.lst []))) (hl : ∀ i H, i ≤ xs.length → Pv i H → SqL K H a xs)
    (hs : ∀ i x H, xs[i]? = some x → Pv i H → g x (wipe σ vs) H fun σ2 H2 => wipe σ2 vs = wipe σ vs ∧ tt σ2 H2 fun b H3 =>
      if b = true then te σ2 H3 fun y H4 => ∃ acc, H4 D = some (.lst acc) ∧ acc.length < sizeLine ∧ Pv (i + 1) (upd H4 D (.lst (acc ++ [y]))) else Pv (i + 1) H3) (hd : ∀ H, Pv xs.length H → Qd H) :
    ∃ W : Nat → Nat → Hp → Prop, (∃ m, W 0 m (upd H1 D (.lst []))) ∧ ∀ i m H, W i m H →
      ((Itl K a).stop i H ∧ Qd H) ∨ ((Itl K a).go i H ∧ ∃ Nx : Hp → Prop, (∀ H', Nx H' → ∃ m', m' < m ∧ W (i + 1) m' H') ∧ ∀ x H', (Itl K a).yld i H x H' → g x (wipe σ vs) H' fun σ2 H2 => wipe σ2 vs = wipe σ vs ∧ tt σ2 H2 fun b H3 =>
        if b = true then te σ2 H3 fun y H4 => ∃ acc, H4 D = some (.lst acc) ∧ acc.length < sizeLine ∧ Nx (upd H4 D (.lst (acc ++ [y]))) else Nx H3) := by
  refine ⟨fun i m H => m = xs.length - i ∧ i ≤ xs.length ∧ Pv i H, ⟨xs.length, by simp, Nat.zero_le _, h0⟩, ?_⟩
  rintro i m H ⟨rfl, hi, p⟩
  have q := hl i H hi p
  by_cases hlt : i < xs.length
  · refine .inr ⟨⟨xs, xs[i], q, by simp [hlt]⟩, Pv (i + 1), fun H' p' => ⟨xs.length - (i + 1), by omega, rfl, hlt, p'⟩, fun x H' y => ?_⟩
    obtain ⟨e, y⟩ := y
    subst e
    exact hs i x _ (y xs q) p
  · have e : i = xs.length := by omega
    subst e
    exact .inl ⟨⟨xs, q, Nat.le_refl _⟩, hd H p⟩
/-- over a tuple -/
theorem lc_tup {K : PySem.W.Frag} {a : Addr} {xs : List V} {g : TG} {tt : TT} {te : TE} {vs : List Nat} {σ : St} {H1 : Hp} {D : Addr} {Qd : Hp → Prop} (Pv : Nat → Hp → Prop) (h0 : Pv 0 (upd H1 D (.lst []))) (hl : ∀ i H, i ≤ xs.length → Pv i H → SqT K H a xs)
    (hs : ∀ i x H, xs[i]? = some x → Pv i H → g x (wipe σ vs) H fun σ2 H2 => wipe σ2 vs = wipe σ vs ∧ tt σ2 H2 fun b H3 =>
      if b = true then te σ2 H3 fun y H4 => ∃ acc, H4 D = some (.lst acc) ∧ acc.length < sizeLine ∧ Pv (i + 1) (upd H4 D (.lst (acc ++ [y]))) else Pv (i + 1) H3) (hd : ∀ H, Pv xs.length H → Qd H) :
    ∃ W : Nat → Nat → Hp → Prop, (∃ m, W 0 m (upd H1 D (.lst []))) ∧ ∀ i m H, W i m H →
      ((Itt K a).stop i H ∧ Qd H) ∨ ((Itt K a).go i H ∧ ∃ Nx : Hp → Prop, (∀ H', Nx H' → ∃ m', m' < m ∧ W (i + 1) m' H') ∧ ∀ x H', (Itt K a).yld i H x H' → g x (wipe σ vs) H' fun σ2 H2 => wipe σ2 vs = wipe σ vs ∧ tt σ2 H2 fun b H3 =>
        if b = true then te σ2 H3 fun y H4 => ∃ acc, H4 D = some (.lst acc) ∧ acc.length < sizeLine ∧ Nx (upd H4 D (.lst (acc ++ [y]))) else Nx H3) := by
  refine ⟨fun i m H => m = xs.length - i ∧ i ≤ xs.length ∧ Pv i H, ⟨xs.length, by simp, Nat.zero_le _, h0⟩, ?_⟩
  rintro i m H ⟨rfl, hi, p⟩
  have q := hl i H hi p
  by_cases hlt : i < xs.length
  · refine .inr ⟨⟨xs, xs[i], q, by simp [hlt]⟩, Pv (i + 1), fun H' p' => ⟨xs.length - (i + 1), by omega, rfl, hlt, p'⟩, fun x H' y => ?_⟩
    obtain ⟨e, y⟩ := y
    subst e
    exact hs i x _ (y xs q) p
  · have e : i = xs.length := by omega
    subst e
    exact .inl ⟨⟨xs, q, Nat.le_refl _⟩, hd H p⟩
def blkC (N : List Str) (sc scope : Scope) (own : List (Str × Nat)) : Bool :=
  (match scope.kind with | .function => true | _ => false) && (scope.names.all fun y => decide (scope.names.lookup y.1 = some y.2)) && (own.all fun p => decide (N[p.2]? = some p.1)) &&
    (scope.names.all fun y => match y.2 with
      | .free => (match sc.names.lookup y.1 with | some .cell => true | some .free => true | _ => false)
      | .local => decide (y.1 ∈ own.map (·.1)) || decide (y.1 ∉ N)
      | .cell => decide (y.1 ∈ own.map (·.1)) || decide (y.1 ∉ N)
      | _ => true)
theorem blkOk_by {N : List Str} {sc scope : Scope} {own : List (Str × Nat)} (h : blkC N sc scope own = true) : BlkOk N sc scope own := by
  unfold blkC at h
  simp only [Bool.and_eq_true, List.all_eq_true, decide_eq_true_eq] at h
  obtain ⟨⟨⟨h1, h2⟩, h3⟩, h4⟩ := h
  refine ⟨?_, h2, h3, fun y hy e => ?_, fun y hy e => ?_⟩
  · split at h1
    · assumption
    · cases h1
  · have q := h4 y hy
    simp only [e] at q
    split at q <;> first | exact .inl (by assumption) | exact .inr (by assumption) | cases q
  · have q := h4 y hy
    rcases e with e | e <;> (simp only [e, Bool.or_eq_true, decide_eq_true_eq] at q; exact q)
end L2

namespace L2
open PySem PySem.Spec PyProof.Rows

section
variable {prog : Program} {w : World} {A : Around} {R : Result → Shared → Prop} {s : Shared} {elt t0 i0 t1 i1 : Expr} {ifs0 ifs1 : List Expr} {scope : Scope} {pos : Pos} {it acc : Value} {env : Env}
end

section
variable {X : Cx}
end
end L2

namespace L2
open PySem PySem.Spec PyProof.Rows

/-! ### lists of pairs as tables -/
section
variable {κ : Type} [DecidableEq κ]
def valV (kvs : List (κ × V)) (k : κ) : Option V := (kvs.find? fun kv => decide (kv.1 = k)).map (·.2)
/-- in its place, or at the end -/
def putK (kvs : List (κ × V)) (k : κ) (v : V) : List (κ × V) :=
  if (kvs.any fun kv => decide (kv.1 = k)) = true then kvs.map (fun kv => if kv.1 = k then (kv.1, v) else kv) else kvs ++ [(k, v)]
theorem valV_pos {p : κ × V} {r : List (κ × V)} {k : κ} (e : p.1 = k) : valV (p :: r) k = some p.2 := by simp [valV, List.find?_cons, e]
theorem valV_neg {p : κ × V} {r : List (κ × V)} {k : κ} (e : ¬ p.1 = k) : valV (p :: r) k = valV r k := by simp [valV, List.find?_cons, e]
theorem valV_any (k : κ) : ∀ kvs : List (κ × V), (kvs.any fun kv => decide (kv.1 = k)) = (valV kvs k).isSome
  | [] => rfl
  | p :: r => by
    rw [List.any_cons]
    by_cases e : p.1 = k
    · simp only [valV_pos e, decide_eq_true e, Bool.true_or, Option.isSome_some]
    · rw [valV_neg e, decide_eq_false e, Bool.false_or]; exact valV_any k r
theorem length_putK (kvs : List (κ × V)) (k : κ) (v : V) : (putK kvs k v).length ≤ kvs.length + 1 := by
  unfold putK
  split
  · rw [List.length_map]; omega
  · rw [List.length_append, List.length_cons, List.length_nil]; omega
theorem RelO.isSome_eq {o : Option V} {u : Option Value} (r : RelO o u) : o.isSome = u.isSome := by
  cases o with
  | none => cases u with
    | none => rfl
    | some _ => exact (show False from r).elim
  | some _ => cases u with
    | none => exact (show False from r).elim
    | some _ => rfl
/-- raw tables of the same keys -/
theorem KV.val {kvs : List (κ × V)} {vs : List (κ × Value)} (r : KV kvs vs) (k : κ) : RelO (valV kvs k) (valueAt vs k) := by
  unfold KV at r
  induction r with
  | nil => exact True.intro
  | @cons p q ps qs h t ih =>
    obtain ⟨h1, h2⟩ := h
    by_cases e : p.1 = k
    · have e' : q.1 = k := h1.symm.trans e
      have b : valueAt (q :: qs) k = some q.2 := by simp [valueAt, List.find?_cons, e']
      rw [valV_pos e, b]; exact h2
    · have e' : ¬ q.1 = k := fun z => e (h1.trans z)
      have b : valueAt (q :: qs) k = valueAt qs k := by simp [valueAt, List.find?_cons, e']
      rw [valV_neg e, b]; exact ih
theorem KV.any {kvs : List (κ × V)} {vs : List (κ × Value)} (r : KV kvs vs) (k : κ) : (kvs.any fun kv => decide (kv.1 = k)) = vs.any fun kv => decide (kv.1 = k) := by
  unfold KV at r
  induction r with
  | nil => rfl
  | cons h t ih => rw [List.any_cons, List.any_cons, ih, h.1]
theorem KV.repl {kvs : List (κ × V)} {vs : List (κ × Value)} (r : KV kvs vs) (k : κ) {y : V} {u : Value} (ry : RelV y u) :
    KV (kvs.map fun kv => if kv.1 = k then (kv.1, y) else kv) (vs.map fun kv => if kv.1 = k then (kv.1, u) else kv) := by
  unfold KV at r ⊢
  induction r with
  | nil => exact .nil
  | @cons p q ps qs h t ih =>
    rw [List.map_cons, List.map_cons]
    refine .cons ?_ ih
    obtain ⟨h1, h2⟩ := h
    by_cases e : p.1 = k
    · rw [if_pos e, if_pos (h1.symm.trans e)]; exact ⟨h1, ry⟩
    · rw [if_neg e, if_neg (fun z => e (h1.trans z))]; exact ⟨h1, h2⟩
theorem KV.put {kvs : List (κ × V)} {vs : List (κ × Value)} (r : KV kvs vs) (k : κ) {y : V} {u : Value} (ry : RelV y u) : KV (putK kvs k y) (stored vs k u) := by
  unfold putK stored
  rw [r.any k]
  by_cases e : (vs.any fun kv => decide (kv.1 = k)) = true
  · rw [if_pos e, if_pos e]; exact r.repl k ry
  · rw [if_neg e, if_neg e]; exact Paired.snoc r ⟨rfl, ry⟩
theorem KV.length {kvs : List (κ × V)} {vs : List (κ × Value)} (r : KV kvs vs) : kvs.length = vs.length := Paired.length r
end


/-! ### a tracked dict, its keys ints and texts or tuples of these -/
theorem kV_is {P : Program} {w : World} {k : Key} {u : Value} (r : RelV (kV k) u) : (mixKind P w).is k u = true := by
  cases k with
  | inl i => obtain ⟨t, e⟩ := (show ∃ t, u = Value.int i t from r); subst e; exact mixKind_int P w i t
  | inr x => obtain ⟨t, e⟩ := (show ∃ t, u = Value.str x t from r); subst e; exact mixKind_str P w x t
theorem items_are {P : Program} {w : World} : ∀ {ks : List Key} {us : List Value}, Vals (ks.map kV) us → ItemsAre (mixKind P w) ks us
  | [], _, r => by rw [List.map_nil] at r; cases r; exact .nil
  | k :: ks, _, r => by
    rw [List.map_cons] at r
    cases r with
    | cons h t => exact .cons (kV_is h) (items_are t)

/-- raw entries of a dict with tuple keys -/
abbrev KT (H : Hp) : List (List Key × V) → List (List Key × Addr × Value) → Prop := Paired fun p q => p.1 = q.1 ∧ H q.2.1 = some (.tup (p.1.map kV)) ∧ RelV p.2 q.2.2
theorem KT.val {H : Hp} {kvs : List (List Key × V)} {xs : List (List Key × Addr × Value)} (r : KT H kvs xs) (k : List Key) : RelO (valV kvs k) ((atKey xs k).map (·.2)) := by
  induction r with
  | nil => exact True.intro
  | @cons p q ps qs h t ih =>
    obtain ⟨h1, _, h2⟩ := h
    by_cases e : p.1 = k
    · have e' : q.1 = k := h1.symm.trans e
      have b : atKey (q :: qs) k = some q.2 := by simp [atKey, List.find?_cons, e']
      rw [valV_pos e, b]; exact h2
    · have e' : ¬ q.1 = k := fun z => e (h1.trans z)
      have b : atKey (q :: qs) k = atKey qs k := by simp [atKey, List.find?_cons, e']
      rw [valV_neg e, b]; exact ih
theorem KT.repl {H : Hp} {kvs : List (List Key × V)} {xs : List (List Key × Addr × Value)} (r : KT H kvs xs) (k : List Key) {y : V} {u : Value} (ry : RelV y u) :
    KT H (kvs.map fun kv => if kv.1 = k then (kv.1, y) else kv) (xs.map (putAt k u)) := by
  induction r with
  | nil => exact .nil
  | @cons p q ps qs h t ih =>
    rw [List.map_cons, List.map_cons]
    refine .cons ?_ ih
    obtain ⟨h1, h2, h3⟩ := h
    unfold putAt
    by_cases e : p.1 = k
    · rw [if_pos e, if_pos (h1.symm.trans e)]; exact ⟨h1, h2, ry⟩
    · rw [if_neg e, if_neg (fun z => e (h1.trans z))]; exact ⟨h1, h2, h3⟩
theorem KT.put {H : Hp} {kvs : List (List Key × V)} {xs : List (List Key × Addr × Value)} (r : KT H kvs xs) (k : List Key) {b : Addr} {y : V} {u : Value} (hb : H b = some (.tup (k.map kV))) (ry : RelV y u) :
    KT H (putK kvs k y) (storedH xs k b u) := by
  have e : (kvs.any fun kv => decide (kv.1 = k)) = (atKey xs k).isSome := by
    rw [valV_any, (r.val k).isSome_eq, Option.isSome_map]
  unfold putK storedH
  rw [e]
  by_cases q : (atKey xs k).isSome = true
  · rw [if_pos q, if_pos q]; exact r.repl k ry
  · rw [if_neg q, if_neg q]; exact Paired.snoc r ⟨rfl, hb, ry⟩
theorem KT.keeps {H H' : Hp} {kvs : List (List Key × V)} {xs : List (List Key × Addr × Value)} (r : KT H kvs xs) (ht : ∀ b ys, H b = some (.tup ys) → H' b = some (.tup ys)) : KT H' kvs xs :=
  Paired.mapP r fun _ _ z => ⟨z.1, ht _ _ z.2.1, z.2.2⟩

section
variable {P : Program} {w : World} {H : Hp} {h : Heap} {a : Addr}
theorem rd_of {u : HO} (ok : HOk P w H h) (e : Rd H a u) : ObjOk P w H h a u := e.ok ok
theorem dk_rd {kvs : List (Key × V)} (ok : HOk P w H h) (e : Rd H a (.dK kvs)) : kvs.length ≤ sizeLine ∧ (a == sysModules) = false ∧ ∃ vs, KV kvs vs ∧ h.DictOf (mixKind P w) a vs :=
  show ObjOk P w H h a (.dK kvs) from rd_of ok e
theorem dk_of {kvs : List (Key × V)} (ok : HOk P w H h) (e : H a = some (.dK kvs)) : kvs.length ≤ sizeLine ∧ (a == sysModules) = false ∧ ∃ vs, KV kvs vs ∧ h.DictOf (mixKind P w) a vs := dk_rd ok (.inl e)
/-- a tracked tuple of ints and texts is a key -/
theorem key_of {ks : List Key} (ok : HOk P w H h) (e : H a = some (.tup (ks.map kV))) : (tupleKind (mixKind P w)).is h ks a := by
  obtain ⟨_, its, r, o, h1, h2, n, h3⟩ := (show ObjOk P w H h a (.tup (ks.map kV)) from ok a _ e)
  exact ⟨o, its.toArray, n, h1, h2, h3, by simpa using items_are r⟩
theorem dt_rd {kvs : List (List Key × V)} (ok : HOk P w H h) (e : Rd H a (.dT kvs)) : kvs.length ≤ sizeLine ∧ (a == sysModules) = false ∧
    ∃ xs, KT H kvs xs ∧ h.DictOfH (tupleKind (mixKind P w)) a xs := by
  obtain ⟨z, y, xs, r, o, es, ep, h1, h2, h3, h4, h5⟩ := (show ObjOk P w H h a (.dT kvs) from rd_of ok e)
  refine ⟨z, y, xs, r, o, es, ep, h1, h2, h3, h4, fun x hx => ?_, h5⟩
  have all : ∀ {l : List (List Key × V)} {m : List (List Key × Addr × Value)}, KT H l m → ∀ x ∈ m, (tupleKind (mixKind P w)).is h x.1 x.2.1 := by
    intro l m q
    induction q with
    | nil => intro x hx; exact nomatch hx
    | @cons p q ps qs hq t ih =>
      intro x hx
      rcases List.mem_cons.mp hx with e | hx
      · subst e
        exact key_of ok (by rw [← hq.1]; exact hq.2.1)
      · exact ih x hx
  exact all r x hx
theorem dt_of {kvs : List (List Key × V)} (ok : HOk P w H h) (e : H a = some (.dT kvs)) : kvs.length ≤ sizeLine ∧ (a == sysModules) = false ∧
    ∃ xs, KT H kvs xs ∧ h.DictOfH (tupleKind (mixKind P w)) a xs := dt_rd ok (.inl e)
end

/-- what the dict at a holds at the key y -/
def DGet (H : Hp) (a : Addr) (y : V) (r : Option V) : Prop :=
  (∃ kvs k, Rd H a (.dK kvs) ∧ y = kV k ∧ r = valV kvs k) ∨ ∃ kvs k b, Rd H a (.dT kvs) ∧ y = .ref b ∧ H b = some (.tup (k.map kV)) ∧ r = valV kvs k
/-- the heap behind a[y] = v -/
def DPut (H : Hp) (a : Addr) (y v : V) (H' : Hp) : Prop :=
  (∃ kvs k, H a = some (.dK kvs) ∧ y = kV k ∧ kvs.length < sizeLine ∧ H' = upd H a (.dK (putK kvs k v))) ∨
  ∃ kvs k b, H a = some (.dT kvs) ∧ y = .ref b ∧ H b = some (.tup (k.map kV)) ∧ kvs.length < sizeLine ∧ H' = upd H a (.dT (putK kvs k v))
theorem DGet.k {H : Hp} {a : Addr} {kvs : List (Key × V)} {k : Key} (e : H a = some (.dK kvs)) : DGet H a (kV k) (valV kvs k) := .inl ⟨kvs, k, .inl e, rfl, rfl⟩
theorem DPut.k {H : Hp} {a : Addr} {kvs : List (Key × V)} {k : Key} {v : V} (e : H a = some (.dK kvs)) (hl : kvs.length < sizeLine) : DPut H a (kV k) v (upd H a (.dK (putK kvs k v))) := .inl ⟨kvs, k, e, rfl, hl, rfl⟩
section
variable {X : Cx} {pins : List (Addr × Obj)} {σ : St} {H : Hp} {s : Shared} {a : Addr} {y v : V} {u r : Value} {o : Option V} {A : Around} {E : Value → Shared → Prop}

theorem Inv.big (I : Inv X pins σ H s) : sysModules < s.heap.objs.size := by
  have h : mainGlobals < s.heap.objs.size := (I.mod.glob.keeps I.bk).lt
  exact Nat.lt_trans (by decide) h

/-- y in d -/
theorem d_in {Q : Value → Shared → Prop} (hu : A.units + 1 < cLine) (I : Inv X pins σ H s) (g : DGet H a y o) (ry : RelV y u) (h : ∀ s', Inv X pins σ H s' → Q (.bool o.isSome) s') :
    wpAny (model X.prog X.w) A (compareOp .In u (.ref a)) Q E s := by
  rcases g with ⟨kvs, k, e, ey, l⟩ | ⟨kvs, k, b, e, ey, eb, l⟩
  · subst ey
    obtain ⟨z, hd, vs, rel, dd⟩ := dk_rd I.hok e
    refine wpAny_in_of (kV_is ry) hd dd.mapOf ?_
    rw [← (rel.val k).isSome_eq, ← l]
    exact h _ (I.tok _)
  · subst ey
    cases (show u = Value.ref b from ry)
    obtain ⟨z, hd, xs, rel, dd⟩ := dt_rd I.hok e
    refine wpAny_in_heap (tupleKind_room_in1 hu) (key_of I.hok eb) hd dd ?_
    have q := (rel.val k).isSome_eq
    rw [Option.isSome_map] at q
    rw [← q, ← l]
    exact h _ (I.tok _)
theorem d_notIn {Q : Value → Shared → Prop} (hu : A.units + 1 < cLine) (I : Inv X pins σ H s) (g : DGet H a y o) (ry : RelV y u) (h : ∀ s', Inv X pins σ H s' → Q (.bool (!o.isSome)) s') :
    wpAny (model X.prog X.w) A (compareOp .NotIn u (.ref a)) Q E s := by
  rcases g with ⟨kvs, k, e, ey, l⟩ | ⟨kvs, k, b, e, ey, eb, l⟩
  · subst ey
    obtain ⟨z, hd, vs, rel, dd⟩ := dk_rd I.hok e
    refine wpAny_notIn_of (kV_is ry) hd dd.mapOf ?_
    rw [← (rel.val k).isSome_eq, ← l]
    exact h _ (I.tok _)
  · subst ey
    cases (show u = Value.ref b from ry)
    obtain ⟨z, hd, xs, rel, dd⟩ := dt_rd I.hok e
    refine wpAny_notIn_heap (tupleKind_room_in1 hu) (key_of I.hok eb) hd dd ?_
    have q := (rel.val k).isSome_eq
    rw [Option.isSome_map] at q
    rw [← q, ← l]
    exact h _ (I.tok _)
/-- a dict's object is replaced -/
theorem d_write {h' : Heap} {t' : Nat} {ob : HO} (I : Inv X pins σ H s) (mu : Mut (H a)) (hs : Heap.SameBut a s.heap h') (he : ∃ q, h'.get? a = some q) (new : ObjOk X.prog X.w (upd H a ob) h' a ob) :
    Inv X pins σ (upd H a ob) { s with heap := h', toks := t' } :=
  I.write (x := a) (e := a) mu (.inl rfl) (fun b q hb z => (hs.2 b hb).trans z) he new
theorem dk_new {P : Program} {w : World} {H' : Hp} {h' : Heap} {kvs : List (Key × V)} {vs : List (Key × Value)} (z : kvs.length ≤ sizeLine) (hd : (a == sysModules) = false) (rel : KV kvs vs) (dd : h'.DictOf (mixKind P w) a vs) :
    ObjOk P w H' h' a (.dK kvs) := ⟨z, hd, vs, rel, dd⟩
/-- d[y] = v -/
theorem d_setItem {H' : Hp} {Q : Unit → Shared → Prop} (hu : A.units + 1 < cLine) (I : Inv X pins σ H s) (g : DPut H a y v H') (ry : RelV y u) (rv : RelV v r) (h : ∀ s', Inv X pins σ H' s' → Q () s') :
    wpAny (model X.prog X.w) A (setItem (.ref a) u r) Q E s := by
  rcases g with ⟨kvs, k, e, ey, l, eH⟩ | ⟨kvs, k, b, e, ey, eb, l, eH⟩
  · subst ey eH
    obtain ⟨z, hd, vs, rel, dd⟩ := dk_of I.hok e
    have hz : vs.length ≤ sizeLine := by rw [← rel.length]; exact z
    have hl : (putK kvs k v).length ≤ sizeLine := by have := length_putK kvs k v; omega
    refine wpAny_setItem_pairs (hsz := hz) (kV_is ry) dd fun h' dd' hs => h _ ?_
    have he : ∃ q, h'.get? a = some q := let ⟨q, _, _, hq, _⟩ := dd'; ⟨q, hq⟩
    exact d_write I (by rw [e]; exact True.intro) hs he (dk_new hl hd (rel.put k rv) dd')
  · subst ey eH
    cases (show u = Value.ref b from ry)
    obtain ⟨z, hd, xs, rel, dd⟩ := dt_of I.hok e
    have hz : xs.length ≤ sizeLine := by rw [← Paired.length rel]; exact z
    have hl : (putK kvs k v).length ≤ sizeLine := by have := length_putK kvs k v; omega
    refine wpAny_setItem_heap (hsz := hz) (tupleKind_room_in1 hu) (key_of I.hok eb) dd fun h' dd' hs => h _ ?_
    obtain ⟨q, es, ep, hq, h2, h3, h4, _, h5⟩ := dd'
    refine d_write I (by rw [e]; exact True.intro) hs ⟨q, hq⟩ ⟨hl, hd, _, (rel.put k eb rv).keeps fun c ys ec => ?_, q, es, ep, hq, h2, h3, h4, h5⟩
    rw [upd_ne (ne_of ec e (fun z => nomatch z))]
    exact ec
end

section
variable {X : Cx} {pins : List (Addr × Obj)} {σ : St} {H : Hp} {s : Shared} {a : Addr} {kvs : List (Key × V)} {k : Key} {u : Value} {A : Around} {E : Value → Shared → Prop}
end


/-! ### readings and rules -/
/-- y in d, y not in d -/
def tDIn (ty td : TE) : TE := fun σ H Q => ty σ H fun y H1 => td σ H1 fun x H2 => ∃ a o, x = .ref a ∧ DGet H2 a y o ∧ Q (.bl o.isSome) H2
def tDNotIn (ty td : TE) : TE := fun σ H Q => ty σ H fun y H1 => td σ H1 fun x H2 => ∃ a o, x = .ref a ∧ DGet H2 a y o ∧ Q (.bl (!o.isSome)) H2
/-- d[y] = v -/
def sDPut (td ty tv : TE) : TS := fun D σ H => tv σ H fun v H1 => td σ H1 fun x H2 => ty σ H2 fun y H3 => ∃ a H4, x = .ref a ∧ DPut H3 a y v H4 ∧ D.nx σ H4
section
variable {X : Cx} {o i e value : Expr} {pos pos' tpos : Pos} {td ty tv : TE}
theorem pc_din (hu : X.A.units + 1 < cLine) (hi : PE X i ty) (ho : PE X o td) : PC X .In i o (tDIn ty td) := by
  intro pins s σ H Q I h
  refine thn (hi pins s σ H _ I h) fun iv s1 ⟨y, H1, I1, ry, q1⟩ => thn (ho pins s1 σ H1 _ I1 q1) fun u s2 ⟨x, H2, I2, rx, a, ov, ex, g, q2⟩ => ?_
  subst ex
  obtain rfl : u = Value.ref a := rx
  exact d_in hu I2 g ry fun s3 I3 => ⟨.bl ov.isSome, H2, I3, rfl, q2⟩
theorem pc_dnotin (hu : X.A.units + 1 < cLine) (hi : PE X i ty) (ho : PE X o td) : PC X .NotIn i o (tDNotIn ty td) := by
  intro pins s σ H Q I h
  refine thn (hi pins s σ H _ I h) fun iv s1 ⟨y, H1, I1, ry, q1⟩ => thn (ho pins s1 σ H1 _ I1 q1) fun u s2 ⟨x, H2, I2, rx, a, ov, ex, g, q2⟩ => ?_
  subst ex
  obtain rfl : u = Value.ref a := rx
  exact d_notIn hu I2 g ry fun s3 I3 => ⟨.bl (!ov.isSome), H2, I3, rfl, q2⟩
theorem ps_dput (hu : X.A.units + 1 < cLine) (ho : PE X o td) (hi : PE X i ty) (hv : PE X value tv) (hs : swapsWith value (some (.Subscript o i pos')) pos.line X.env = pure false) :
    PS X (.Assign [.Subscript o i pos'] value pos) (sDPut td ty tv) := by
  intro pins s σ H D I h
  refine wpAny_Assign_Subscript (thn (hv pins s σ H _ I h) fun r s1 ⟨v, H1, I1, rv, q1⟩ => thn (ho pins s1 σ H1 _ I1 q1) fun u s2 ⟨x, H2, I2, rx, q2⟩ => thn (hi pins s2 σ H2 _ I2 q2) fun iv s3 ⟨y, H3, I3, ry, a, H4, ex, g, q3⟩ => ?_) hs
  subst ex
  obtain rfl : u = Value.ref a := rx
  exact d_setItem hu I3 g ry rv fun s4 I4 => ⟨σ, H4, I4, q3⟩
end


/-! ### displays -/
theorem dk_empty {P : Program} {w : World} {H : Hp} (h : Heap) (hb : sysModules < h.objs.size) : ObjOk P w H (h.push { cls := .type "dict", data := .dict #[] }) h.objs.size (.dK []) :=
  ⟨Nat.zero_le _, beq_eq_false_iff_ne.mpr (Ne.symm (Nat.ne_of_lt hb)), [], .nil, Heap.DictOf.new h⟩
/-- {}, to be a dict of the kind that is wanted -/
def tDNewK : TE := fun _ H Q => ∀ p, H p = none → Q (.ref p) (upd H p (.dK []))
section
variable {X : Cx} {pos : Pos}
theorem pe_dnewK : PE X (.Dict [] [] pos) tDNewK := fun pins s σ H Q I h =>
  wpAny_Dict_empty ⟨.ref s.heap.objs.size, _, I.laid (a := s.heap.objs.size) (o := .dK []) (t' := s.toks) (fun _ _ q => Heap.get?_push_of_some _ q) (Nat.le_refl _) (dk_empty s.heap I.big), rfl, h _ (I.hok.fresh (Nat.le_refl _))⟩
end

/-! ### methods -/
section
variable {X : Cx} {pins : List (Addr × Obj)} {σ : St} {H : Hp} {s : Shared} {a : Addr} {y d : V} {u r : Value} {o : Option V} {A : Around} {E : Value → Shared → Prop}
end

section
variable {X : Cx} {o e f : Expr} {apos cpos : Pos} {td ty tx : TE}
end

/-! ### dict(d): a copy -/
section
variable {X : Cx} {pins : List (Addr × Obj)} {σ : St} {H : Hp} {s : Shared} {a : Addr} {kvs : List (Key × V)} {A : Around} {E : Value → Shared → Prop}
end


section
variable {X : Cx} {pins : List (Addr × Obj)} {σ : St} {H : Hp} {s : Shared} {a : Addr} {y : V} {u : Value} {A : Around} {E : Value → Shared → Prop}
end
end L2

namespace L2
open PySem PySem.Spec PyProof.Rows

section
variable {prog : Program} {w : World} {A : Around} {E : Value → Shared → Prop}
end

section
variable {X : Cx}
end
end L2

namespace L2
open PySem PySem.Spec PyProof.Rows

section
variable {X : Cx} {pins : List (Addr × Obj)} {σ : St} {H : Hp} {s : Shared} {h' : Heap}
/-- .. and one new object is laid -/
theorem Inv.turnedNew {t' : Nat} {ch : List Addr} {T : Addr} {ob : HO} (I : Inv X pins σ H s) (k : ∀ b o, b ∉ ch → s.heap.get? b = some o → h'.get? b = some o) (hf : ∀ b ∈ ch, FpOk X pins H b) (hT : s.heap.objs.size ≤ T)
    (new : ObjOk X.prog X.w (upd H T ob) h' T ob) : Inv X pins σ (upd H T ob) { s with heap := h', toks := t' } := by
  have hn : H T = none := I.hok.fresh hT
  have nit : ∀ b u, H b = some u → b ∉ ch := fun b u e z => by
    have q := (hf b z).1
    rw [q] at e; cases e
  refine I.step (g' := s.gens) (d' := s.drawn) (ch := ch) (fun b hb => ⟨(hf b hb).2.2.2.1, (hf b hb).2.1, (hf b hb).2.2.2.2.1, (hf b hb).2.2.2.2.2⟩) (fun b o _ _ hc e _ => k b o hc e) (fun b o _ _ hc e _ => ⟨o.slots, k b o hc e⟩)
    (fun b o _ e n => ?_) (fun b o hc e => ⟨o, k b o hc e⟩) (fun b xs e => ?_) (fun b o u e => ?_) (fun b ps e => ⟨#[], ?_⟩) (fun m hm => ?_) (fun b u e => ?_) I.bare
  · rw [upd_ne (Nat.ne_of_lt (Nat.lt_of_lt_of_le (Heap.lt_size e) hT))]; exact n
  · rw [upd_ne (ne_of_none e hn)]; exact e
  · rw [upd_ne (ne_of_none e hn)]; exact e
  · rw [upd_ne (ne_of_none e hn), e]; simp
  · obtain ⟨o, es, ep, ho, r⟩ := hm
    exact ⟨o, es, ep, k _ o (fun z => (hf _ z).2.1 rfl) ho, r⟩
  · by_cases hb : b = T
    · subst hb
      rw [upd_same] at e
      cases e
      exact new
    · rw [upd_ne hb] at e
      refine (I.hok b u e).stay (fun c v hc q => k c v ?_ q) (fun c q => by rw [upd_ne (ne_of_none q hn)]; exact q) fun c xs q => by rw [upd_ne (ne_of_none q hn)]; exact q
      rcases hc with z | z
      · rw [z]; exact nit b u e
      · exact nit c _ z

/-! ### locking a thing while a statement runs -/
end
section
variable {X : Cx}
/-! ### one iterator just laid -/
end

/-! ### range with a step -/
section
variable {X : Cx} {tg : Expr}
end
/-! ### reversed(list) -/
section
variable {X : Cx} {tg : Expr}
end

/-! ### a str -/
/-! ### a dict's keys: any dict's entries -/
section
variable {prog : Program} {w : World} {A : Around} {E : Value → Shared → Prop} {s : Shared}
end

/-! ### a locked dict -/
section
variable {X : Cx} {pins : List (Addr × Obj)} {σ : St} {H : Hp} {s : Shared} {d : Addr} {o : Obj}
end

section
variable {P : Program} {w : World} {K : PySem.W.Frag} {tg : Expr} {d : Addr} {o : Obj} {es : Array DictEntry} {ep : Nat}
end

/-! ### for k in d, d.keys(), d.values(), d.items() -/
section
variable {X : Cx} {tg e : Expr} {td : TE} {apos cpos : Pos}
end

/-! ### enumerate(list) -/
/-- the list at a as it stands at each turn, each item in a new pair -/
def Ite (K : PySem.W.Frag) (a : Addr) : It :=
  ⟨fun i H => ∃ (xs : List V) (x : V), SqL K H a xs ∧ xs[i]? = some x, fun i H v H' => ∃ T x, v = .ref T ∧ H T = none ∧ H' = upd H T (.tup [.int (i : Nat), x]) ∧ ∀ xs, SqL K H a xs → xs[i]? = some x, fun i H => ∃ xs : List V, SqL K H a xs ∧ xs.length ≤ i⟩
theorem turn_enum {P : Program} {w : World} {K : PySem.W.Frag} {elts : List Expr} {kk : Nat} {tpos : Pos} (a e it : Addr) :
    Turn P w K (.Tuple elts kk tpos) (Ite K a) [e, it] e (fun i h => (∃ old, IsEnum h e it ((i : Nat) : Int) old) ∧ h.IsListIter it a i ∧ e ≠ it) where
  mem := by simp
  obj := fun i h st b hb => by
    obtain ⟨⟨old, he⟩, ⟨o, ho, hc, hd⟩, _⟩ := st
    have e' : b = e ∨ b = it := by simpa using hb
    rcases e' with z | z
    · rw [z]; exact ⟨_, he, fun v q => nomatch q⟩
    · rw [z]; exact ⟨o, ho, fun v q => by rw [hd] at q; cases q⟩
  keep := fun i h h' st k => let ⟨⟨old, he⟩, hi, hne⟩ := st; ⟨⟨old, k e (by simp) _ he⟩, hi.at fun o q => k it (by simp) o q, hne⟩
  item := by
    intro X hP hw hK hc i pins s σ H E I hf st hg
    subst hP hw hK
    obtain ⟨⟨old, he⟩, hit, hne⟩ := st
    obtain ⟨xs, x, hq, hx⟩ := hg
    obtain ⟨its, rv, p, hz⟩ := I.list hq
    obtain ⟨u, hu, ru⟩ := rv.get hx
    have hel : e < s.heap.objs.size := Heap.lt_size he
    have hil : it < s.heap.objs.size := by obtain ⟨_, q, _⟩ := hit; exact Heap.lt_size q
    refine wpAny_pyNext_enum_item he hit p.isList (x := u) (by simpa using hu) hne fun h' ho hit' hT hsz hk => ?_
    refine ⟨_, rfl, wpAny_letOwnedTupleGo_enum (s := { s with heap := h', toks := s.toks + 1 }) ho fun h'' he' sb => ?_⟩
    have hT2 : h''.get? s.heap.objs.size = some { cls := .type "tuple", data := .seq #[.int i s.toks, u] } := (sb.2 _ (Nat.ne_of_gt hel)).trans hT
    have new : ObjOk X.prog X.w (upd H s.heap.objs.size (.tup [.int (i : Nat), x])) h'' s.heap.objs.size (.tup [.int (i : Nat), x]) :=
      ⟨by show 2 ≤ sizeLine; decide, [.int i s.toks, u], .cons ⟨_, rfl⟩ (.cons ru .nil), ⟨_, hT2, rfl, _, rfl⟩⟩
    have I1 : Inv X pins σ (upd H s.heap.objs.size (.tup [.int (i : Nat), x])) { s with heap := h'', toks := s.toks + 1 } :=
      I.turnedNew (ch := [e, it]) (fun b ob hb q => (sb.2 b (fun z => hb (by simp [z]))).trans (hk b ob (fun z => hb (by simp [z])) (fun z => hb (by simp [z])) q)) hf (Nat.le_refl _) new
    refine ⟨.ref s.heap.objs.size, _, I1, rfl, ⟨_, x, rfl, I.hok.fresh (Nat.le_refl _), rfl, fun ys hy => by rw [I.list_inj hy hq]; exact hx⟩, ⟨⟨u, ?_⟩, hit'.at fun o q => (sb.2 it (Ne.symm hne)).trans q, hne⟩, fun b hb => ?_⟩
    · have e1 : ((i + 1 : Nat) : Int) = (i : Int) + 1 := by omega
      rw [e1]; exact he'
    · have hb' : b < s.heap.objs.size := by
        have e' : b = e ∨ b = it := by simpa using hb
        rcases e' with z | z
        · rw [z]; exact hel
        · rw [z]; exact hil
      rw [upd_ne (Nat.ne_of_lt hb')]
      exact (hf b hb).1
  done := by
    intro X hP hw hK hc i pins s σ H E I hf st hg
    subst hP hw hK
    obtain ⟨⟨old, he⟩, hit, hne⟩ := st
    obtain ⟨xs, hq, hx⟩ := hg
    obtain ⟨its, rv, p, hz⟩ := I.list hq
    obtain ⟨f0, f1, f2, f3, f4, f5⟩ := hf it (by simp)
    have hl := rv.length
    exact wpAny_pyNext_enum_end (I.ok.hd hc) he hit p.isList (by simp; omega) fun h' eb => ⟨rfl, I.turned (t' := s.toks) (fun b o hb q => eb b o hb q) f0 f1 f3 f4 f5⟩
  self := fun A i s Q E st h => let ⟨⟨_, he⟩, _⟩ := st; wpAny_pyIter_enum he h
def iEnum (K : PySem.W.Frag) (ta : TA) : TI := fun σ H R => ta σ H fun vs H1 => ∃ a xs, vs = [.ref a] ∧ SqL K H1 a xs ∧ R (Ite K a) H1
theorem pi_enum {X : Cx} {e : Expr} {ta : TA} {p pos tpos : Pos} {elts : List Expr} {kk : Nat} (hg : Gl X "enumerate") (hm : X.mg "enumerate" = none) (ha : PA X [e] ta) (hs : starEach [e] X.env = [(false, eval e X.env)] := by rfl) :
    PI X (.Tuple elts kk tpos) (.Call (.Name "enumerate" p) [e] [] pos) (iEnum X.K ta) := by
  intro pins s σ H R I h
  refine Call_ (ld_blt I hg hm boot_enumerate (PyProof.Rows.callWith_type1 (thn (ha pos pins s σ H _ I h) fun us s1 ⟨vs, H1, I1, r1, q1⟩ => ?_) hs rfl))
  obtain ⟨a, xs, ex, hq, q⟩ := q1
  subst ex
  cases r1 with
  | cons r rr =>
    cases rr
    cases r
    obtain ⟨its, rv, p', hz⟩ := I1.list hq
    refine call_enumerate_list p'.isList fun h' he hit hsz hk => wpAny_pyIter_enum he ?_
    have I2 : Inv X pins σ H1 { s1 with heap := h' } := I1.kept (t' := s1.toks) hk
    refine ⟨s1.heap.objs.size + 1, [s1.heap.objs.size + 1, s1.heap.objs.size], _, _, H1, rfl, I2, turn_enum a (s1.heap.objs.size + 1) s1.heap.objs.size, ⟨⟨.none, he⟩, hit, Nat.succ_ne_self _⟩, fun b hb => ?_, q⟩
    have e' : b = s1.heap.objs.size + 1 ∨ b = s1.heap.objs.size := by simpa using hb
    have hle : s1.heap.objs.size ≤ b := by
      rcases e' with z | z
      · rw [z]; exact Nat.le_add_right _ _
      · rw [z]; exact Nat.le_refl _
    exact I1.fpOk hle (I1.hok.fresh hle)
/-! ### zip(list, list) -/
end L2

section 
namespace Bits
open PySem PyProof.Rows

end Bits
end 

section 
namespace TL
open PySem PySem.Builtin PySem.Builtin.Str PySem.StrLaws

/-! ### the list functions -/
/-! ### the model's split and partition are these -/
/-! ### computing spl and par -/
/-! ### digits -/
/-! ### words: x.split() -/
end TL
end 

namespace L2
open PySem PySem.Spec PyProof.Rows

section
variable {X : Cx} {pins : List (Addr × Obj)} {σ : St} {H : Hp} {s : Shared} {Q : VK}
end

section
variable {X : Cx}

/-! ### of a text alone -/
/-! ### of a text and a text -/
end

section
variable {X : Cx} {o e : Expr} {to te : TE}
end
end L2

namespace L2
open PySem PySem.Spec PyProof.Rows

section
variable {X : Cx}
end

/-! ### slices of a text -/
end L2

end
section
set_option Elab.async false
set_option linter.all false
set_option maxRecDepth 100000
set_option maxHeartbeats 2000000
namespace L2
open PySem PySem.Spec PyProof.Rows
open PySem.W (WData Codec OpenSpec Well WellAll ReadsW ReadsAllW)
/-! ### an answer as data -/
mutual
/-- x stands for the datum d, lists and tuples all the way -/
inductive Dw (K : PySem.W.Frag) (H : Hp) : V → WData → Prop
  | non : Dw K H .non .none
  | bl (b : Bool) : Dw K H (.bl b) (.bool b)
  | int (i : Int) : Dw K H (.int i) (.int i)
  | str (x : Str) : Dw K H (.str x) (.str x)
  | byt (b : Array UInt8) : Dw K H (.byt b) (.bytes b.toList)
  | lst {a : Addr} {xs : List V} {ds : List WData} : SqL K H a xs → DwAll K H xs ds → Dw K H (.ref a) (.list ds)
  | tup {a : Addr} {xs : List V} {ds : List WData} : SqT K H a xs → DwAll K H xs ds → Dw K H (.ref a) (.tuple ds)
inductive DwAll (K : PySem.W.Frag) (H : Hp) : List V → List WData → Prop
  | nil : DwAll K H [] []
  | cons {v : V} {vs : List V} {d : WData} {ds : List WData} : Dw K H v d → DwAll K H vs ds → DwAll K H (v :: vs) (d :: ds)
end
theorem dw_ints {K : PySem.W.Frag} {H : Hp} : ∀ ns : List Int, DwAll K H (ns.map V.int) (ns.map WData.int)
  | [] => .nil
  | n :: r => .cons (.int n) (dw_ints r)
theorem ints_dw {K : PySem.W.Frag} {H : Hp} : ∀ (ns : List Int) (xs : List V), DwAll K H xs (ns.map WData.int) → xs = ns.map V.int
  | [], xs, h => by
    cases h
    rfl
  | n :: r, xs, h => by
    cases h with
    | cons h1 h2 =>
      cases h1
      rw [ints_dw r _ h2] <;> rfl
section
variable {P : Program} {w : World} {K : PySem.W.Frag} {H : Hp} {h : Heap} {R : PySem.W.WRecords} {cl : Str → Option Addr}
theorem sqL_at {a : Addr} {xs : List V} (hok : HOk P w H h) (KX : K.In h) (q : SqL K H a xs) : ∃ (its : List Value) (o : Obj) (n : Nat), Vals xs its ∧ h.get? a = some o ∧ o.cls = .type "list" ∧ o.data = .seq its.toArray n := by
  rcases q with q | ⟨o, its, n, e, hc, _, hd, _, hv⟩
  · obtain ⟨_, its, n, hv, e⟩ := (show ObjOk P w H h a (.lst xs) from q.ok hok)
    exact ⟨its, _, n, hv, e, rfl, rfl⟩
  · exact ⟨its.toList, o, n, hv, KX _ _ e, hc, by simp [hd]⟩
theorem sqT_at {a : Addr} {xs : List V} (hok : HOk P w H h) (KX : K.In h) (q : SqT K H a xs) : ∃ (its : List Value) (o : Obj) (n : Nat), Vals xs its ∧ h.get? a = some o ∧ o.cls = .type "tuple" ∧ o.data = .seq its.toArray n := by
  rcases q with q | ⟨o, its, n, e, hc, hd, _, hv⟩
  · obtain ⟨_, its, hv, o, e, hc, n, hd⟩ := (show ObjOk P w H h a (.tup xs) from q.ok hok)
    exact ⟨its, o, n, hv, e, hc, hd⟩
  · exact ⟨its.toList, o, n, hv, KX _ _ e, hc, by simp [hd]⟩
mutual
theorem Dw.reads (hok : HOk P w H h) (KX : K.In h) : ∀ (d : WData) (v : V) (u : Value), Dw K H v d → RelV v u → ∃ as, ReadsW R cl h u d as
  | .none, _, _, x, r => by
    cases x
    cases r
    exact ⟨_, ReadsW.none⟩
  | .bool b, _, _, x, r => by
    cases x
    cases r
    exact ⟨_, ReadsW.bool b⟩
  | .int i, _, _, x, r => by
    cases x
    obtain ⟨t, rfl⟩ := r
    exact ⟨_, ReadsW.int i t⟩
  | .str s, _, _, x, r => by
    cases x
    obtain ⟨t, rfl⟩ := r
    exact ⟨_, ReadsW.str s t⟩
  | .bytes b, _, _, x, r => by
    cases x
    obtain ⟨t, rfl⟩ := r
    exact ⟨_, ReadsW.bytes _ t⟩
  | .list ds, _, _, x, r => by
    cases x with
    | lst hs ha =>
      cases r
      obtain ⟨its, o, n, rv, ho, hc, hd⟩ := sqL_at hok KX hs
      obtain ⟨as, hr⟩ := Dw.readsAll hok KX ds _ its ha rv
      exact ⟨_, ReadsW.list ho hc hd hr⟩
  | .tuple ds, _, _, x, r => by
    cases x with
    | tup hs ha =>
      cases r
      obtain ⟨its, o, n, rv, ho, hc, hd⟩ := sqT_at hok KX hs
      obtain ⟨as, hr⟩ := Dw.readsAll hok KX ds _ its ha rv
      exact ⟨_, ReadsW.tuple ho hc hd hr⟩
  | .float _, _, _, x, _ => by cases x
  | .dict _, _, _, x, _ => by cases x
  | .bytearray _, _, _, x, _ => by cases x
  | .set _, _, _, x, _ => by cases x
  | .frozenset _, _, _, x, _ => by cases x
  | .obj _ _, _, _, x, _ => by cases x
theorem Dw.readsAll (hok : HOk P w H h) (KX : K.In h) : ∀ (ds : List WData) (vs : List V) (us : List Value), DwAll K H vs ds → Vals vs us → ∃ as, ReadsAllW R cl h us ds as
  | [], _, _, x, r => by
    cases x
    cases r
    exact ⟨_, ReadsAllW.nil⟩
  | d :: ds, _, _, x, r => by
    cases x with
    | cons h1 h2 =>
      cases r with
      | cons r1 r2 =>
        obtain ⟨as, q1⟩ := Dw.reads hok KX d _ _ h1 r1
        obtain ⟨bs, q2⟩ := Dw.readsAll hok KX ds _ _ h2 r2
        exact ⟨_, ReadsAllW.cons q1 q2⟩
end
end
/-! ### the arguments -/
mutual
/-- data that a codec tells -/
def plW : WData → Bool
  | .none => true
  | .bool _ => true
  | .int _ => true
  | .str _ => true
  | .bytes _ => true
  | .list xs => plWs xs
  | .tuple xs => plWs xs
  | _ => false
def plWs : List WData → Bool
  | [] => true
  | x :: r => plW x && plWs r
end
theorem plWs_map {α : Type} {f : α → WData} (h : ∀ a, plW (f a) = true) : ∀ l : List α, plWs (l.map f) = true
  | [] => rfl
  | x :: r => by
    show (plW (f x) && plWs (r.map f)) = true
    rw [h x, plWs_map h r] <;> rfl
theorem pl_enc : ∀ (c : Codec) (a : c.denote), plW (c.enc a) = true
  | .unit, _ => rfl
  | .bool, _ => rfl
  | .int _ _, _ => rfl
  | .nat _ _, _ => rfl
  | .u8, _ => rfl
  | .bytes _ _, _ => rfl
  | .text _ _ _ _, _ => rfl
  | .list _ _ c, a => plWs_map (fun x => pl_enc c x) a
  | .pair c d, a => by
    show (plW (c.enc a.1) && (plW (d.enc a.2) && true)) = true
    rw [pl_enc c a.1, pl_enc d a.2] <;> rfl
  | .triple c d e, a => by
    show (plW (c.enc a.1) && (plW (d.enc a.2.1) && (plW (e.enc a.2.2) && true))) = true
    rw [pl_enc c a.1, pl_enc d a.2.1, pl_enc e a.2.2] <;> rfl
  | .option c, none => rfl
  | .option c, some x => pl_enc c x
theorem pl_encAll : ∀ (cs : List Codec) (a : Codec.denoteAll cs), plWs (Codec.encAll cs a) = true
  | [], _ => rfl
  | c :: cs, a => by
    show (plW (c.enc a.1) && plWs (Codec.encAll cs a.2)) = true
    rw [pl_enc c a.1, pl_encAll cs a.2] <;> rfl
theorem weight_mem : ∀ {xs : List WData} {d : WData}, d ∈ xs → d.weight ≤ WData.weightAll xs
  | [], d, h => absurd h (by simp)
  | x :: r, d, h => by
    show d.weight ≤ x.weight + 1 + WData.weightAll r
    rcases List.mem_cons.mp h with e | m
    · rw [e]
      omega
    · have z := weight_mem m
      omega
def toV : Value → V
  | .none => .non
  | .bool b => .bl b
  | .int i _ => .int i
  | .str x _ => .str x
  | .bytes b _ => .byt b
  | .ref a => .ref a
  | _ => .non
/-- a value of the arguments, its objects among A -/
def OkU (A : List Addr) : Value → Prop
  | .none => True
  | .bool _ => True
  | .int _ _ => True
  | .str _ _ => True
  | .bytes _ _ => True
  | .ref a => a ∈ A
  | _ => False
theorem OkU.mono {A B : List Addr} (h : ∀ a ∈ A, a ∈ B) : ∀ {u : Value}, OkU A u → OkU B u := fun {u} x => by
  cases u with
  | ref a => exact h a x
  | none => trivial
  | bool b => trivial
  | int i t => trivial
  | str s t => trivial
  | bytes b t => trivial
  | _ => exact False.elim x
theorem relV_toV {A : List Addr} {u : Value} (x : OkU A u) : RelV (toV u) u := by
  cases u with
  | ref a => rfl
  | none => rfl
  | bool b => rfl
  | int i t => exact ⟨t, rfl⟩
  | str s t => exact ⟨t, rfl⟩
  | bytes b t => exact ⟨t, rfl⟩
  | _ => exact False.elim x
theorem vals_toV {A : List Addr} : ∀ {vs : List Value}, (∀ u ∈ vs, OkU A u) → Vals (vs.map toV) vs
  | [], _ => .nil
  | u :: r, h => .cons (relV_toV (h u (List.mem_cons_self ..))) (vals_toV fun x hx => h x (List.mem_cons_of_mem _ hx))
/-- an object of the arguments -/
def ArgOb (h : Heap) (A : List Addr) (a : Addr) : Prop := ∃ vs : List Value, vs.length ≤ sizeLine ∧ (∀ u ∈ vs, OkU A u) ∧
  (h.get? a = some { cls := .type "list", data := .seq vs.toArray } ∨ h.get? a = some { cls := .type "tuple", data := .seq vs.toArray })
theorem ArgOb.mono {h : Heap} {A B : List Addr} {a : Addr} (k : ∀ a ∈ A, a ∈ B) (x : ArgOb h A a) : ArgOb h B a := by
  obtain ⟨vs, h1, h2, h3⟩ := x
  exact ⟨vs, h1, fun u hu => (h2 u hu).mono k, h3⟩
theorem wellAll_len {P : Params} {h : Heap} : ∀ {vs : List Value} {ds : List WData}, WellAll P h vs ds → vs.length = ds.length
  | _, _, .nil => rfl
  | _, _, .cons _ b => by
    show _ + 1 = _ + 1
    rw [wellAll_len b]
theorem well_list {P : Params} {h : Heap} {v : Value} {ds : List WData} (x : Well P h v (.list ds)) : ∃ (a : Addr) (vs : List Value), v = .ref a ∧ h.get? a = some { cls := .type "list", data := .seq vs.toArray } ∧ WellAll P h vs ds := by
  cases x with
  | list ho hall => exact ⟨_, _, rfl, ho, hall⟩
theorem well_tuple {P : Params} {h : Heap} {v : Value} {ds : List WData} (x : Well P h v (.tuple ds)) : ∃ (a : Addr) (vs : List Value), v = .ref a ∧ h.get? a = some { cls := .type "tuple", data := .seq vs.toArray } ∧ WellAll P h vs ds := by
  cases x with
  | tuple ho hall => exact ⟨_, _, rfl, ho, hall⟩
theorem well_cons {P : Params} {h : Heap} {us : List Value} {d : WData} {ds : List WData} (x : WellAll P h us (d :: ds)) : ∃ (v : Value) (vs : List Value), us = v :: vs ∧ Well P h v d ∧ WellAll P h vs ds := by
  cases x with
  | cons a b => exact ⟨_, _, rfl, a, b⟩
theorem line_of {n : Nat} (h : n ≤ 1048576) : n ≤ sizeLine := Nat.le_trans h (by decide)
section
variable {P : Params} {h : Heap}
mutual
theorem area_one : ∀ (d : WData) (v : Value), Well P h v d → plW d = true → d.weight ≤ 1048576 → ∃ A : List Addr, OkU A v ∧ ∀ a ∈ A, ArgOb h A a
  | .none, _, x, _, _ => by
    cases x
    exact ⟨[], trivial, fun a m => absurd m (by simp)⟩
  | .bool b, _, x, _, _ => by
    cases x
    exact ⟨[], trivial, fun a m => absurd m (by simp)⟩
  | .int i, _, x, _, _ => by
    cases x
    exact ⟨[], trivial, fun a m => absurd m (by simp)⟩
  | .str s, _, x, _, _ => by
    cases x
    exact ⟨[], trivial, fun a m => absurd m (by simp)⟩
  | .bytes b, _, x, _, _ => by
    cases x
    exact ⟨[], trivial, fun a m => absurd m (by simp)⟩
  | .list ds, _, x, p, z => by
    obtain ⟨a, vs, rfl, ho, hall⟩ := well_list x
    have z2 : WData.weightAll ds ≤ 1048576 := z
    obtain ⟨A, h1, h2⟩ := area_all ds _ hall p fun d hd => Nat.le_trans (weight_mem hd) z2
    have k : ∀ b ∈ A, b ∈ a :: A := fun b hb => List.mem_cons_of_mem _ hb
    refine ⟨a :: A, List.mem_cons_self .., fun b hb => ?_⟩
    rcases List.mem_cons.mp hb with e | m
    · rw [e]
      exact ⟨vs, line_of (by rw [wellAll_len hall]; exact Nat.le_trans (PySem.W.length_le_weightAllW ds) z2), fun u hu => (h1 u hu).mono k, .inl ho⟩
    · exact (h2 b m).mono k
  | .tuple ds, _, x, p, z => by
    obtain ⟨a, vs, rfl, ho, hall⟩ := well_tuple x
    have z2 : WData.weightAll ds ≤ 1048576 := z
    obtain ⟨A, h1, h2⟩ := area_all ds _ hall p fun d hd => Nat.le_trans (weight_mem hd) z2
    have k : ∀ b ∈ A, b ∈ a :: A := fun b hb => List.mem_cons_of_mem _ hb
    refine ⟨a :: A, List.mem_cons_self .., fun b hb => ?_⟩
    rcases List.mem_cons.mp hb with e | m
    · rw [e]
      exact ⟨vs, line_of (by rw [wellAll_len hall]; exact Nat.le_trans (PySem.W.length_le_weightAllW ds) z2), fun u hu => (h1 u hu).mono k, .inr ho⟩
    · exact (h2 b m).mono k
  | .float _, _, _, p, _ => Bool.noConfusion (show false = true from p)
  | .dict _, _, _, p, _ => Bool.noConfusion (show false = true from p)
  | .bytearray _, _, _, p, _ => Bool.noConfusion (show false = true from p)
  | .set _, _, _, p, _ => Bool.noConfusion (show false = true from p)
  | .frozenset _, _, _, p, _ => Bool.noConfusion (show false = true from p)
  | .obj _ _, _, _, p, _ => Bool.noConfusion (show false = true from p)
theorem area_all : ∀ (ds : List WData) (vs : List Value), WellAll P h vs ds → plWs ds = true → (∀ d ∈ ds, d.weight ≤ 1048576) → ∃ A : List Addr, (∀ u ∈ vs, OkU A u) ∧ ∀ a ∈ A, ArgOb h A a
  | [], _, x, _, _ => by
    cases x
    exact ⟨[], fun u m => absurd m (by simp), fun a m => absurd m (by simp)⟩
  | d :: ds, _, x, p, z => by
    obtain ⟨v, vs, rfl, x1, x2⟩ := well_cons x
    have q : plW d = true ∧ plWs ds = true := Bool.and_eq_true_iff.mp p
    obtain ⟨A, a1, a2⟩ := area_one d v x1 q.1 (z d (List.mem_cons_self ..))
    obtain ⟨B, b1, b2⟩ := area_all ds vs x2 q.2 fun e he => z e (List.mem_cons_of_mem _ he)
    have kA : ∀ b ∈ A, b ∈ A ++ B := fun b hb => List.mem_append.mpr (.inl hb)
    have kB : ∀ b ∈ B, b ∈ A ++ B := fun b hb => List.mem_append.mpr (.inr hb)
    refine ⟨A ++ B, fun u hu => ?_, fun b hb => ?_⟩
    · rcases List.mem_cons.mp hu with e | m
      · rw [e]
        exact a1.mono kA
      · exact (b1 u m).mono kB
    · rcases List.mem_append.mp hb with m | m
      · exact (a2 b m).mono kA
      · exact (b2 b m).mono kB
end
end
/-- what is tracked of an argument's object -/
def hoOf (o : Obj) : Option HO := match o.data with
  | .seq vs _ => if (o.cls == Value.type "list") = true then some (.frz o (.lst (vs.toList.map toV))) else some (.frz o (.tup (vs.toList.map toV)))
  | _ => none
def argH (K : PySem.W.Frag) (h : Heap) (A : List Addr) : Hp := fun b => if b ∈ A then (if (K.lookup b).isNone = true then (h.get? b).bind hoOf else none) else none
/-- nothing is tracked but what is known to the object -/
def OnlyF (H : Hp) : Prop := ∀ b, H b = none ∨ ∃ o u, H b = some (.frz o u)
theorem hoOf_lst (vs : List Value) : hoOf { cls := .type "list", data := .seq vs.toArray } = some (.frz { cls := .type "list", data := .seq vs.toArray } (.lst (vs.map toV))) := by
  show (if (Value.type "list" == Value.type "list") = true then some (HO.frz { cls := .type "list", data := .seq vs.toArray } (.lst (vs.toArray.toList.map toV))) else some (HO.frz { cls := .type "list", data := .seq vs.toArray } (.tup (vs.toArray.toList.map toV)))) = _
  rw [if_pos (beq_self_eq_true _)]
theorem hoOf_tup (vs : List Value) : hoOf { cls := .type "tuple", data := .seq vs.toArray } = some (.frz { cls := .type "tuple", data := .seq vs.toArray } (.tup (vs.map toV))) := by
  show (if (Value.type "tuple" == Value.type "list") = true then some (HO.frz { cls := .type "tuple", data := .seq vs.toArray } (.lst (vs.toArray.toList.map toV))) else some (HO.frz { cls := .type "tuple", data := .seq vs.toArray } (.tup (vs.toArray.toList.map toV)))) = _
  rw [if_neg (by decide)]
section
variable {P : Program} {w : World} {K : PySem.W.Frag} {h : Heap} {A : List Addr}
theorem argH_at {b : Addr} {o : Obj} (hb : b ∈ A) (hk : K.lookup b = none) (e : h.get? b = some o) : argH K h A b = hoOf o := by
  unfold argH
  rw [if_pos hb, hk, if_pos (show (none : Option Obj).isNone = true from rfl), e] <;> rfl
theorem of_argH {b : Addr} {u : HO} (q : argH K h A b = some u) : b ∈ A ∧ K.lookup b = none := by
  unfold argH at q
  by_cases hb : b ∈ A
  · rw [if_pos hb] at q
    cases hk : K.lookup b with
    | none => exact ⟨hb, rfl⟩
    | some o =>
      rw [hk, if_neg (by simp)] at q
      cases q
  · rw [if_neg hb] at q
    cases q
/-- what stands tracked -/
theorem argH_is (ar : ∀ a ∈ A, ArgOb h A a) {b : Addr} {u : HO} (q : argH K h A b = some u) : K.lookup b = none ∧ ∃ vs : List Value, vs.length ≤ sizeLine ∧ (∀ u ∈ vs, OkU A u) ∧
    ((h.get? b = some { cls := .type "list", data := .seq vs.toArray } ∧ u = .frz { cls := .type "list", data := .seq vs.toArray } (.lst (vs.map toV))) ∨
     (h.get? b = some { cls := .type "tuple", data := .seq vs.toArray } ∧ u = .frz { cls := .type "tuple", data := .seq vs.toArray } (.tup (vs.map toV)))) := by
  obtain ⟨hb, hk⟩ := of_argH q
  obtain ⟨vs, h1, h2, h3⟩ := ar b hb
  refine ⟨hk, vs, h1, h2, ?_⟩
  rcases h3 with e | e
  · rw [argH_at hb hk e, hoOf_lst] at q
    exact .inl ⟨e, (Option.some.inj q).symm⟩
  · rw [argH_at hb hk e, hoOf_tup] at q
    exact .inr ⟨e, (Option.some.inj q).symm⟩
theorem argH_only (ar : ∀ a ∈ A, ArgOb h A a) : OnlyF (argH K h A) := fun b => by
  cases q : argH K h A b with
  | none => exact .inl rfl
  | some u =>
    obtain ⟨_, vs, _, _, ⟨_, e⟩ | ⟨_, e⟩⟩ := argH_is ar q
    · exact .inr ⟨_, _, by rw [e]⟩
    · exact .inr ⟨_, _, by rw [e]⟩
theorem argH_ok (ar : ∀ a ∈ A, ArgOb h A a) : HOk P w (argH K h A) h := fun b u q => by
  obtain ⟨_, vs, h1, h2, ⟨e, rfl⟩ | ⟨e, rfl⟩⟩ := argH_is ar q
  · exact ⟨e, by rw [List.length_map]; exact h1, vs, _, vals_toV h2, e⟩
  · exact ⟨e, by rw [List.length_map]; exact h1, vs, vals_toV h2, _, e, rfl, _, rfl⟩
theorem seq_inj {c c' : Value} {vs us : List Value} (e : (some { cls := c, data := .seq vs.toArray } : Option Obj) = some { cls := c', data := .seq us.toArray }) : c = c' ∧ vs = us := by
  have e1 := Option.some.inj e
  have e2 : c = c' := congrArg Obj.cls e1
  have e3 : Data.seq vs.toArray = Data.seq us.toArray := congrArg Obj.data e1
  injection e3 with e4
  refine ⟨e2, ?_⟩
  have e5 := congrArg Array.toList e4
  simpa using e5
/-- a list argument -/
theorem argL (KX : K.In h) (ar : ∀ a ∈ A, ArgOb h A a) {a : Addr} {vs : List Value} (ha : a ∈ A) (e : h.get? a = some { cls := .type "list", data := .seq vs.toArray }) : (∀ u ∈ vs, OkU A u) ∧ SqL K (argH K h A) a (vs.map toV) := by
  obtain ⟨us, h1, h2, h3⟩ := ar a ha
  have hu : us = vs := by
    rcases h3 with q | q
    · rw [e] at q
      exact (seq_inj q).2.symm
    · rw [e] at q
      exact absurd (Value.type.inj (seq_inj q).1) (by decide)
  subst hu
  refine ⟨h2, ?_⟩
  cases hk : K.lookup a with
  | none => exact .inl (.inr ⟨_, by rw [argH_at ha hk e, hoOf_lst]⟩)
  | some o =>
    have e2 := KX a o hk
    rw [e] at e2
    obtain rfl := Option.some.inj e2
    exact .inr ⟨_, us.toArray, _, hk, rfl, rfl, rfl, by rw [List.size_toArray]; exact h1, by simpa using vals_toV h2⟩
theorem argT (KX : K.In h) (ar : ∀ a ∈ A, ArgOb h A a) {a : Addr} {vs : List Value} (ha : a ∈ A) (e : h.get? a = some { cls := .type "tuple", data := .seq vs.toArray }) : (∀ u ∈ vs, OkU A u) ∧ SqT K (argH K h A) a (vs.map toV) := by
  obtain ⟨us, h1, h2, h3⟩ := ar a ha
  have hu : us = vs := by
    rcases h3 with q | q
    · rw [e] at q
      exact absurd (Value.type.inj (seq_inj q).1) (by decide)
    · rw [e] at q
      exact (seq_inj q).2.symm
  subst hu
  refine ⟨h2, ?_⟩
  cases hk : K.lookup a with
  | none => exact .inl (.inr ⟨_, by rw [argH_at ha hk e, hoOf_tup]⟩)
  | some o =>
    have e2 := KX a o hk
    rw [e] at e2
    obtain rfl := Option.some.inj e2
    exact .inr ⟨_, us.toArray, _, hk, rfl, rfl, by rw [List.size_toArray]; exact h1, by simpa using vals_toV h2⟩
mutual
theorem dw_one {Pm : Params} (KX : K.In h) (ar : ∀ a ∈ A, ArgOb h A a) : ∀ (d : WData) (v : Value), Well Pm h v d → plW d = true → OkU A v → Dw K (argH K h A) (toV v) d
  | .none, _, x, _, _ => by
    cases x
    exact .non
  | .bool b, _, x, _, _ => by
    cases x
    exact .bl b
  | .int i, _, x, _, _ => by
    cases x
    exact .int i
  | .str s, _, x, _, _ => by
    cases x
    exact .str s
  | .bytes b, _, x, _, _ => by
    cases x
    have z := Dw.byt (K := K) (H := argH K h A) b.toArray
    exact z
  | .list ds, _, x, p, hu => by
    obtain ⟨a, vs, rfl, ho, hall⟩ := well_list x
    obtain ⟨h2, hs⟩ := argL KX ar hu ho
    exact .lst hs (dw_all KX ar ds _ hall p h2)
  | .tuple ds, _, x, p, hu => by
    obtain ⟨a, vs, rfl, ho, hall⟩ := well_tuple x
    obtain ⟨h2, hs⟩ := argT KX ar hu ho
    exact .tup hs (dw_all KX ar ds _ hall p h2)
  | .float _, _, _, p, _ => Bool.noConfusion (show false = true from p)
  | .dict _, _, _, p, _ => Bool.noConfusion (show false = true from p)
  | .bytearray _, _, _, p, _ => Bool.noConfusion (show false = true from p)
  | .set _, _, _, p, _ => Bool.noConfusion (show false = true from p)
  | .frozenset _, _, _, p, _ => Bool.noConfusion (show false = true from p)
  | .obj _ _, _, _, p, _ => Bool.noConfusion (show false = true from p)
theorem dw_all {Pm : Params} (KX : K.In h) (ar : ∀ a ∈ A, ArgOb h A a) : ∀ (ds : List WData) (vs : List Value), WellAll Pm h vs ds → plWs ds = true → (∀ u ∈ vs, OkU A u) → DwAll K (argH K h A) (vs.map toV) ds
  | [], _, x, _, _ => by
    cases x
    exact .nil
  | d :: ds, _, x, p, hu => by
    obtain ⟨v, vs, rfl, x1, x2⟩ := well_cons x
    have q : plW d = true ∧ plWs ds = true := Bool.and_eq_true_iff.mp p
    exact .cons (dw_one KX ar d v x1 q.1 (hu _ (List.mem_cons_self ..))) (dw_all KX ar ds vs x2 q.2 fun u m => hu u (List.mem_cons_of_mem _ m))
end
end
/-! ### the call -/
theorem spec_call {P : Program} {w : World} {K : PySem.W.Frag} {mg mb : Str → Option Value} {CX : CXT} {k : Nat} {fa : Addr} {fd : FuncData} {ps : List Str} {sp : Sp} {s₁ : Shared} {vals : List Value} {ds : List WData} {R : PySem.W.WRecords} {cl : Str → Option Addr} {d0 : WData}
    (KX : K.In s₁.heap) (hns : s₁.heap.Ns mainGlobals mg) (hb : s₁.heap.Ns builtinsNs mb) (hbb : ∀ x : Str, x ≠ "__name__" → mb x = bootBuiltins x) (hlim : s₁.heap.NoLimit) (hg : s₁.gens = #[])
    (hwl : WellAll w.params s₁.heap vals ds) (hpl : plWs ds = true) (hwt : ∀ d ∈ ds, d.weight ≤ 1048576) (hr : Room k callerA)
    (F : ∀ base : Heap, K.In base → base.Ns mainGlobals mg → FnOk P w K mg base CX k fa fd ps sp) (hbind : ∀ (s : Shared) (us : List Value), us.length = ps.length → BindsTo s fd ⟨us, []⟩ (ps.zip us)) (hlen : ds.length = ps.length)
    (hsp : ∀ (H : Hp) (xs : List V), OnlyF H → DwAll K H xs ds → sp xs H (fun v H' => Dw K H' v d0) fun _ _ _ => False)
    (hCX : ∀ H e s', CX [] H s₁ (fun _ _ _ => False) e s' → False) :
    codeAny (model P w) callerA (.call (.ref fa) ⟨vals, []⟩) (fun r s' => ∃ u as, r = .ok (.ret u) ∧ ReadsW R cl s'.heap u d0 as ∧ OldK s₁.heap s'.heap ∧ s'.os = s₁.os ∧ AllBare s'.gens) s₁ := by
  obtain ⟨A, ho, ar⟩ := area_all ds vals hwl hpl hwt
  have hO : OnlyF (argH K s₁.heap A) := argH_only ar
  have hok : HOk P w (argH K s₁.heap A) s₁.heap := argH_ok ar
  have hS := dw_all KX ar ds vals hwl hpl ho
  have hV := vals_toV ho
  have hK : ∀ b u, argH K s₁.heap A b = some u → K.lookup b = none := fun b u q => (argH_is ar q).1
  have noA : ∀ {b : Addr} {o : Obj} {es : Array DictEntry} {ep : Nat}, s₁.heap.get? b = some o → o.data = .dict es ep → argH K s₁.heap A b = none := fun {b o es ep} e d => by
    cases q : argH K s₁.heap A b with
    | none => rfl
    | some u =>
      obtain ⟨_, vs, _, _, ⟨e2, _⟩ | ⟨e2, _⟩⟩ := argH_is ar q
      · rw [e2] at e
        cases e
        have d' : Data.seq vs.toArray _ = Data.dict es ep := d
        cases d'
      · rw [e2] at e
        cases e
        have d' : Data.seq vs.toArray _ = Data.dict es ep := d
        cases d'
  generalize argH K s₁.heap A = H at hO hok hS hK noA
  have base_of : ∀ {b : Addr} {o : Obj}, s₁.heap.get? b = some o → H b = none → (hidT s₁.heap H).get? b = some o := fun e n => hidT_get e n
  have nsK : ∀ {b : Addr} {m : Str → Option Value}, s₁.heap.Ns b m → (hidT s₁.heap H).Ns b m := fun {b m} ⟨o, es, ep, e, d, r⟩ => ⟨o, es, ep, base_of e (noA e d), d, r⟩
  have nK : ∀ b o, K.lookup b = some o → H b = none := fun b o e => by
    cases q : H b with
    | none => rfl
    | some u =>
      rw [hK b u q] at e
      cases e
  have hKb : K.In (hidT s₁.heap H) := fun b o e => base_of (KX b o e) (nK b o e)
  have hM : Mod K mg (hidT s₁.heap H) := ⟨hKb, nsK hns, ⟨mb, nsK hb, hbb⟩, let ⟨mc, h1, h2⟩ := hlim; ⟨mc, nsK h1, h2⟩⟩
  have e0 : Env0 P w K mg (hidT s₁.heap H) callerA [] s₁ H := ⟨rfl, hM, fun b o e => of_hidT e, Nat.le_of_eq (hidT_size _ _), trivial, fun b hb => absurd (show b ∈ ([] : List Addr) from hb) (by simp), hok, .of_eq hg⟩
  have hl : vals.length = ps.length := by rw [wellAll_len hwl]; exact hlen
  refine codeAny_mono ((F _ hKb (nsK hns)).run callerA [] s₁ H ⟨vals, []⟩ vals (vals.map toV) _ _ hr e0 (hbind s₁ vals hl) hV (hsp H _ hO hS)) fun r s' x => ?_
  cases r with
  | error e => exact (hCX H e s' x).elim
  | ok fl =>
    cases fl with
    | next => exact False.elim x
    | brk => exact False.elim x
    | cont => exact False.elim x
    | ret u =>
      obtain ⟨v, H', os, bare, un, hok', r', q⟩ := x
      have kept : ∀ b o, s₁.heap.get? b = some o → s'.heap.get? b = some o := fun b o e => by
        cases q2 : H b with
        | none => exact un.keep b o e q2 (by intro z; exact absurd (show b ∈ ([] : List Addr) from z) (by simp)) (by simp)
        | some u2 =>
          rcases hO b with z | ⟨ob, u3, z⟩
          · rw [q2] at z
            cases z
          · have z2 := un.frzs b ob _ z
            obtain ⟨e1, _⟩ := hok b _ z
            obtain ⟨e2, _⟩ := hok' b _ z2
            rw [e] at e1
            cases e1
            exact e2
      have KX' : K.In s'.heap := fun b o e => kept b o (KX b o e)
      obtain ⟨as, hrd⟩ := Dw.reads (R := R) (cl := cl) hok' KX' d0 v u q r'
      exact ⟨u, as, rfl, hrd, OldK.of_keep kept, os, bare⟩
/-! ### the row -/
theorem layable_weight {ds : List WData} (h : WData.layableAll ds = true) : ∀ d ∈ ds, d.weight ≤ 1048576 := fun d hd =>
  (PySem.W.layableW_iff.mp (List.all_eq_true.mp h d hd)).2.2
theorem encAll_len : ∀ (cs : List Codec) (a : Codec.denoteAll cs), (Codec.encAll cs a).length = cs.length
  | [], _ => rfl
  | c :: cs, a => by
    show (Codec.encAll cs a.2).length + 1 = cs.length + 1
    rw [encAll_len cs a.2]
/-- the goal that k_headS leaves (case hc), from the promise of the row's def: whatever the arguments that the codecs let and the row asks for, the def gives what stands for enc (f ..) -/
theorem walk_spec {r : OpenSpec} {k : Nat} {q : Program} {loose : List Str} {XP : (Str → Option Value) → Heap → Prop} {YP : World → Heap → Prop} {d : DefRec} {K : Params → PySem.W.Frag} {CX : World → CXT} {ps : List Str} {sp : World → Sp}
    (hwell : r.wellSaid = true) (hdf : d.params.defaults = []) (hlen : r.args.length = ps.length) (hr : Room k callerA)
    (hY : ∀ (w : World) (h : Heap), YP w h → (K w.params).In h)
    (F : ∀ (w : World) (mg : Str → Option Value) (fa : Addr) (h : Heap), YP w h → (K w.params).In h → h.Ns mainGlobals mg → mg d.name = some (.ref fa) →
      ∃ fd : FuncData, (∀ (s : Shared) (us : List Value), us.length = ps.length → BindsTo s fd ⟨us, []⟩ (ps.zip us)) ∧
        ∀ base : Heap, (K w.params).In base → base.Ns mainGlobals mg → FnOk r.prog w (K w.params) mg base (CX w) k fa fd ps (sp w))
    (hsp : ∀ (w : World) (H : Hp) (xs : List V) (a : Codec.denoteAll r.args), OnlyF H → Codec.withinAll r.args a = true → Codec.app r.args r.asked a = true → DwAll (K w.params) H xs (Codec.encAll r.args a) →
      sp w xs H (fun v H' => Dw (K w.params) H' v (r.ret.enc (Codec.app r.args r.f a))) fun _ _ _ => False)
    (hCX : ∀ (w : World) (H : Hp) (s : Shared) (e : Value) (s' : Shared), CX w [] H s (fun _ _ _ => False) e s' → False) :
    PySem.W.WalkOS q loose XP YP r d [] (fun f vs => PySem.call f vs) := by
  intro w s_0 s₁ mg mb G Y fa o pm cd doc dV kV ho hd hcd hD hmg hg args vals as hpre hlay hrd hwl hlo
  obtain ⟨a, e1, e2⟩ := PySem.W.os_pre_some hpre
  obtain ⟨e3, hwi⟩ := Codec.encAll_of_decAll r.args args a e1
  subst e3
  have KX := hY w _ Y
  obtain ⟨fd, hb, hF⟩ := F w mg fa _ Y KX G.T.g hmg
  refine PySem.W.enter_call (codeAny_mono (spec_call (R := []) (cl := classAt s_0.heap) (d0 := r.ret.enc (Codec.app r.args r.f a)) KX G.T.g G.T.b G.T.builtins G.T.nolimit hg hwl (pl_encAll _ _) (layable_weight hlay) hr hF hb (by rw [encAll_len]; exact hlen)
    (fun H xs hO hS => hsp w H xs a hO hwi e2 hS) fun H e s' => hCX w H s₁ e s') fun r' s' hq => ?_)
  obtain ⟨u, as', rfl, h1, h2, h3, h4⟩ := hq
  exact ⟨.inl ⟨u, _, as', rfl, fun _ => rfl, h1, (OpenSpec.post_iff hwell hwi _ _).mpr rfl, fun z => Bool.noConfusion (show false = true from z)⟩, h2, h3, h4⟩
/-- the same where the promise hangs on the written part alone -/
theorem walk_specK {r : OpenSpec} {k : Nat} {q : Program} {loose : List Str} {XP : (Str → Option Value) → Heap → Prop} {YP : World → Heap → Prop} {d : DefRec} {K : Params → PySem.W.Frag} {CX : CXT} {ps : List Str} {sp : PySem.W.Frag → Sp}
    (hwell : r.wellSaid = true) (hdf : d.params.defaults = []) (hlen : r.args.length = ps.length) (hr : Room k callerA)
    (hY : ∀ (w : World) (h : Heap), YP w h → (K w.params).In h)
    (F : ∀ (w : World) (mg : Str → Option Value) (fa : Addr) (h : Heap), YP w h → (K w.params).In h → h.Ns mainGlobals mg → mg d.name = some (.ref fa) →
      ∃ fd : FuncData, (∀ (s : Shared) (us : List Value), us.length = ps.length → BindsTo s fd ⟨us, []⟩ (ps.zip us)) ∧
        ∀ base : Heap, (K w.params).In base → base.Ns mainGlobals mg → FnOk r.prog w (K w.params) mg base CX k fa fd ps (sp (K w.params)))
    (hsp : ∀ (K : PySem.W.Frag) (H : Hp) (xs : List V) (a : Codec.denoteAll r.args), OnlyF H → Codec.withinAll r.args a = true → Codec.app r.args r.asked a = true → DwAll K H xs (Codec.encAll r.args a) →
      sp K xs H (fun v H' => Dw K H' v (r.ret.enc (Codec.app r.args r.f a))) fun _ _ _ => False)
    (hCX : ∀ (H : Hp) (s : Shared) (e : Value) (s' : Shared), CX [] H s (fun _ _ _ => False) e s' → False) :
    PySem.W.WalkOS q loose XP YP r d [] (fun f vs => PySem.call f vs) :=
  walk_spec (K := K) (CX := fun _ => CX) (sp := fun w => sp (K w.params)) hwell hdf hlen hr hY F (fun w H xs a h1 h2 h3 h4 => hsp (K w.params) H xs a h1 h2 h3 h4) fun _ H s e s' => hCX H s e s'
end L2
end
section
set_option Elab.async false
set_option maxRecDepth 100000
/-! SHORT WORDS over the layer: a def of the text, its body, what a loop and a test want. -/
namespace L2
open PySem PySem.Spec PyProof.Rows

/-! ### the text by places -/
/-- the j-th statement of a class's body -/
def inClass (s : Stmt) (j : Nat) : Stmt := match s with
  | .ClassDef _ _ _ body _ _ _ _ _ _ _ => body.getD j (.Pass ⟨0, 0, 0, 0⟩)
  | _ => .Pass ⟨0, 0, 0, 0⟩
def defArgs (s : Stmt) : Arguments := match s with
  | .FunctionDef _ a _ _ _ _ _ _ _ _ => a
  | _ => { posonlyargs := [], args := [], vararg := none, kwonlyargs := [], kw_defaults := [], kwarg := none, defaults := [] }
def defBody (s : Stmt) : List Stmt := match s with
  | .FunctionDef _ _ b _ _ _ _ _ _ _ => b
  | _ => []
def defScope (s : Stmt) : Scope := match s with
  | .FunctionDef _ _ _ _ _ _ sc _ _ _ => sc
  | _ => { kind := .function, names := [], isGenerator := false, isCoroutine := false }

/-! ### no exception leaves a def -/
abbrev CX0 : CXT := fun _ _ _ _ _ _ => False
abbrev E0 : XK := fun _ _ _ => False
theorem pass0 {X : Cx} : Passes CX0 X E0 := fun _ _ _ _ _ _ _ h => h.elim

/-! ### a def (or method) of the text as it stands behind the top -/
structure Fun (K : PySem.W.Frag) (x qual : Str) (st : Stmt) (f : Addr) (fd : FuncData) : Prop where
  ex : ∃ (oc : Value) (od : Option Addr) (kV doc pm : Value) (an : Option Addr) (cdv ct : Value) (osl : Array (Option Value)),
    fd = PySem.W.fnOf x qual (defArgs st) (defBody st) (defScope st) .none kV doc pm an cdv ct ∧ K.lookup f = some ⟨oc, od, .func fd, osl⟩ ∧ PySem.W.codeIn K cdv qual = true
  kp : PySem.W.keepIn K (.ref f) = true
section
variable {P : Program} {w : World} {K : PySem.W.Frag} {mg : Str → Option Value} {base : Heap}
/-- THE RULE for a def: its body as a term of rules, and the reading of that term -/
theorem Fun.ok {x qual : Str} {st : Stmt} {f : Addr} {fd : FuncData} {N ps : List Str} {k : Nat} {sp : Sp} (F : Fun K x qual st f fd) (S : FnScope N ps (defScope st)) (len : ∀ vs H Q E, sp vs H Q E → vs.length = ps.length)
    (hbody : ∀ (cdv : Value) (A : Around) (outer : List Env) (s : Shared) (H : Hp) (vs : List V) (Q : VK) (E : XK), Room k (A.deeper (envOfC qual (defScope st) s.heap.objs.size f cdv)) → sp vs H Q E →
      ∃ t, PSs (cxOf CX0 P w K mg base N qual (defScope st) f cdv A outer s H E).nox (defBody st) t ∧ t { nx := fun _ H' => Q .non H', rt := Q } (start N vs) H) : FnOk P w K mg base CX0 (k + 1) f fd ps sp := by
  obtain ⟨oc, od, kV, doc, pm, an, cdv, ct, osl, rfl, lk, hcd⟩ := F.ex
  refine fn_of lk hcd S len fun A outer s H vs Q E hr hsp => ?_
  obtain ⟨t, h, q⟩ := hbody cdv A outer s H vs Q E hr hsp
  exact ⟨t, h.nox, q⟩
/-- how its arguments bind (no defaults): h is «fun _ _ _ _ _ _ us hl => match us, hl with | [_, _], _ => rfl», one _ a parameter -/
theorem Fun.binds {x qual : Str} {st : Stmt} {f : Addr} {fd : FuncData} {ps : List Str} (F : Fun K x qual st f fd)
    (h : ∀ (kV doc pm : Value) (an : Option Addr) (cdv ct : Value) (us : List Value), us.length = ps.length → bindArgs (PySem.W.fnOf x qual (defArgs st) (defBody st) (defScope st) .none kV doc pm an cdv ct) ⟨us, []⟩ = pure (ps.zip us)) : Binds K fd ps [] := by
  obtain ⟨oc, od, kV, doc, pm, an, cdv, ct, osl, rfl, lk, hcd⟩ := F.ex
  exact .all (h kV doc pm an cdv ct)
theorem fun_mk {x qual : Str} {st : Stmt} {f : Addr} {oc : Value} {od an : Option Addr} {osl : Array (Option Value)} {kV doc pm cdv ct : Value} (l : K.lookup f = some ⟨oc, od, .func (PySem.W.fnOf x qual (defArgs st) (defBody st) (defScope st) .none kV doc pm an cdv ct), osl⟩)
    (c : PySem.W.codeIn K cdv qual = true) (k : PySem.W.keepIn K (.ref f) = true) : Fun K x qual st f (PySem.W.fnOf x qual (defArgs st) (defBody st) (defScope st) .none kV doc pm an cdv ct) := ⟨⟨oc, od, kV, doc, pm, an, cdv, ct, osl, rfl, l, c⟩, k⟩
end
theorem hu_of {A : Around} {k : Nat} (hr : Room k A) : A.units + 1 < cLine := Nat.lt_of_le_of_lt (Nat.add_le_add_left (by decide : 1 ≤ 64) _) hr.units
/-! ### expressions in short: the name that stands in the i-th slot -/
section
variable {X : Cx}
theorem pv (i : Nat) {x : Str} {pos : Pos} (hN : X.N[i]? = some x := by rfl) (hv : Vis X.env.scope x := by first | exact Or.inl rfl | exact Or.inr (Or.inl rfl) | exact Or.inr (Or.inr rfl)) (hd : (x == ("__debug__" : Str)) = false := by decide)
    (hcd : (x == ("__classdict__" : Str)) = false := by decide) : PE X (.Name x pos) (tVar i) := pe_var hN hv hd hcd
end

/-! ### tests -/
theorem iteF {A B : Prop} (h : B) : if false = true then A else B := by
  rw [if_neg Bool.false_ne_true]
  exact h
theorem iteT {A B : Prop} (h : A) : if true = true then A else B := by
  rw [if_pos rfl]
  exact h
/-! ### heaps -/
/-- all that was tracked is as it was -/
def Same (H H' : Hp) : Prop := ∀ b o, H b = some o → H' b = some o
theorem Same.refl (H : Hp) : Same H H := fun _ _ h => h
theorem Same.trans {H H1 H2 : Hp} (a : Same H H1) (b : Same H1 H2) : Same H H2 := fun c o h => b c o (a c o h)
theorem Same.free {H H' : Hp} (e : Same H H') {l : Addr} (h : H' l = Option.none) : H l = Option.none := by
  cases q : H l with
  | none => rfl
  | some o =>
    rw [e l o q] at h
    cases h
theorem Same.seq {K : PySem.W.Frag} {H H' : Hp} {a : Addr} {xs : List V} (e : Same H H') (h : SqL K H a xs) : SqL K H' a xs := by
  rcases h with (h | ⟨o, h⟩) | h
  · exact .inl (.inl (e _ _ h))
  · exact .inl (.inr ⟨o, e _ _ h⟩)
  · exact .inr h

/-! ### a dict's pairs: keys that differ -/
section
variable {κ : Type} [DecidableEq κ]
end
/-! ### lists -/
/-- a new instance and its __init__ leave all that was tracked as it was -/
theorem Same.made {H H1 : Hp} {x dx C : Addr} (nx : H x = Option.none) (nd : H dx = Option.none) (k : ∀ b o, (upd (upd H dx (.own x)) x (.ins C dx [])) b = some o → b ≠ x → H1 b = some o) : Same H H1 := fun b o e =>
  k b o (by rw [upd_ne (ne_of_none e nx), upd_ne (ne_of_none e nd)]; exact e) (ne_of_none e nx)
end L2

end


section
set_option Elab.async false
/-! An exception of an own class with a dict of its own: how it lies in the heap while it leaves frames. -/
namespace XB
open PySem

/-- the frames of callers -/
abbrev fra (l : List Env) : List Addr := l.filterMap (·.frame)

/-- raised: no entry yet -/
structure Fresh (h : Heap) (e C dx : Addr) : Prop where
  ex : ∃ vs sl, h.get? e = some { cls := .ref C, dict := some dx, data := .fields vs, slots := sl } ∧ vs[1]? = some .none
/-- in flight, between two frames: its newest entry T is of no frame's flight -/
structure Flies (h : Heap) (e C dx T : Addr) : Prop where
  ex : ∃ vs sl, h.get? e = some { cls := .ref C, dict := some dx, data := .fields vs, slots := sl } ∧ vs[1]? = some (.ref T)
  tb : ∃ oT ts, h.get? T = some oT ∧ oT.data = .fields ts ∧ ts[3]? = some .none
  ne : T ≠ e

section
variable {M : Model} {A : Around} {E : Value → Shared → Prop} {s : Shared} {Q : Unit → Shared → Prop} {e C dx T : Addr}
/-- its flight ends -/
theorem land {vs ts : Array Value} {sl : Array (Option Value)} {oT : Obj} (he : s.heap.get? e = some { cls := .ref C, dict := some dx, data := .fields vs, slots := sl }) (h1 : vs[1]? = some (.ref T))
    (hT : s.heap.get? T = some oT) (hd : oT.data = .fields ts) (sz : 3 < ts.size) (ne : T ≠ e)
    (h : ∀ h', Flies h' e C dx T → (∀ b o, b ≠ T → s.heap.get? b = some o → h'.get? b = some o) → Q () { s with heap := h' }) : wpAny M A (setFlight (.ref e) none) Q E s := by
  unfold setFlight
  refine wpAny_bind (wpAny_field he rfl h1 ?_)
  rw [if_pos (by simp)]
  refine wpAny_setField hT hd sz (h _ ⟨⟨vs, sl, ?_, h1⟩, ⟨_, _, Heap.get?_update_self _ hT (Obj.isFreed_of_fields (Obj.data_mapFields hd _)), Obj.data_mapFields hd _, ?_⟩, ne⟩ fun b o hb hh => ?_)
  · rw [Heap.get?_update_other _ _ ne]
    exact he
  · show (ts.setIfInBounds 3 Value.none)[3]? = some Value.none
    simp [sz]
  · rw [Heap.get?_update_other _ _ (Ne.symm hb)]
    exact hh
/-- .. once more -/
theorem land_again (X : Flies s.heap e C dx T)
    (h : ∀ h', Flies h' e C dx T → (∀ b o, b ≠ T → s.heap.get? b = some o → h'.get? b = some o) → Q () { s with heap := h' }) : wpAny M A (setFlight (.ref e) none) Q E s := by
  obtain ⟨⟨vs, sl, he, h1⟩, ⟨oT, ts, hT, hd, h3⟩, ne⟩ := X
  exact land he h1 hT hd (Array.getElem?_eq_some_iff.mp h3).1 ne h
end

section
variable {M : Model} {A : Around} {E : Value → Shared → Prop} {s : Shared} {Q : Unit → Shared → Prop} {e C dx L : Addr} {env : Env} {outer : List Env} {base : Heap}

/-- what an entry more leaves as it was: all but the frames, the exception, the entry ahead -/
structure Noted (l : List Env) (h h' : Heap) (e : Addr) (T0 : Option Addr) : Prop where
  keep : ∀ b o, b ∉ fra l → b ≠ e → T0 ≠ some b → h.get? b = some o → h'.get? b = some o
  slot : ∀ b o, b ∈ fra l → h.get? b = some o → ∃ sl, h'.get? b = some { o with slots := sl }

/-- a new entry for the frame of env; then its flight ends -/
theorem entry_new {vs : Array Value} {sl : Array (Option Value)} {head : Value} {nx : Bool} (hfr : A.frames = some (env :: outer)) (hl : s.heap.FunFrames base (env :: outer)) (hf : env.frame = some L)
    (he : s.heap.get? e = some { cls := .ref C, dict := some dx, data := .fields vs, slots := sl }) (sz : 1 < vs.size)
    (h : ∀ h' T, Flies h' e C dx T → s.heap.objs.size ≤ T → Noted (env :: outer) s.heap h' e none → Q () { s with heap := h' }) :
    wpAny M A (frameOf env >>= fun a => entryPlaceOf L nx >>= fun pl => EntryCells.newEntry head a .none (rawInt L) .none pl >>= fun b => setField (.ref e) 1 b)
      (fun _ s' => wpAny M A (setFlight (.ref e) none) Q E s') E s := by
  have ene : e ∉ fra (env :: outer) := fun hm => by
    obtain ⟨_, o, ho, hnf⟩ := hl.mem hm
    rw [he] at ho
    cases ho
    exact hnf vs rfl
  refine wpAny_bind (wpAny_frameOf_fun hfr hl hf fun h1 hs1 => ?_)
  refine wpAny_bind (wpAny_entryPlaceOf fun pl hpl => ?_)
  unfold EntryCells.newEntry newFields
  refine wpAny_bind (wpAny_newObj_type ?_ (hpl.sizeOk5 _ _ _ _ _))
  generalize hts : ([head, .ref L, .none, rawInt L, .none] ++ (if pl.isEmpty then List.replicate 6 Value.none else pl)).toArray = ts
  have tsz : 3 < ts.size := by
    rw [← hts, List.size_toArray, List.length_append]
    simp only [List.length_cons, List.length_nil]
    omega
  have he1 : h1.get? e = some { cls := .ref C, dict := some dx, data := .fields vs, slots := sl } := (hs1.2.1 e ene).trans he
  have he2 := Heap.get?_push_of_some (h := h1) { cls := .type "traceback", dict := none, data := .fields ts } he1
  have hTe : h1.objs.size ≠ e := Nat.ne_of_gt (Heap.lt_size he1)
  refine wpAny_setField he2 rfl sz ?_
  refine land (C := C) (dx := dx) (T := h1.objs.size) (vs := vs.setIfInBounds 1 (.ref h1.objs.size)) (ts := ts) (sl := sl) ?_ ?_ ((Heap.get?_update_other _ _ (Ne.symm hTe)).trans (Heap.get?_push_size h1 rfl)) rfl tsz hTe fun h' F k => ?_
  · exact (Heap.get?_update_self _ he2 rfl).trans rfl
  · simp [sz]
  · have up : ∀ b o, b ≠ e → h1.get? b = some o → h'.get? b = some o := fun b o hb hh => by
      have hbT : b ≠ h1.objs.size := Nat.ne_of_lt (Heap.lt_size hh)
      refine k b o hbT ?_
      show ((h1.push _).update e _).get? b = some o
      rw [Heap.get?_update_other _ _ (Ne.symm hb)]
      exact Heap.get?_push_of_some _ hh
    refine h h' _ F (by rw [hs1.1]; exact Nat.le_refl _) ⟨fun b o hb1 hb2 _ hh => up b o hb2 ((hs1.2.1 b hb1).trans hh), fun b o hb1 hh => ?_⟩
    obtain ⟨sl', q⟩ := hs1.2.2 b o hh
    exact ⟨sl', up b _ (fun z => ene (z ▸ hb1)) q⟩

/-- the exception leaves the frame in which it was raised -/
theorem note_first (hfr : A.frames = some (env :: outer)) (hl : s.heap.FunFrames base (env :: outer)) (hf : env.frame = some L) (X : Fresh s.heap e C dx)
    (h : ∀ h' T, Flies h' e C dx T → s.heap.objs.size ≤ T → Noted (env :: outer) s.heap h' e none → Q () { s with heap := h' }) :
    wpAny M A (noteFrame (.ref e) env) (fun _ s' => wpAny M A (setFlight (.ref e) none) Q E s') E s := by
  obtain ⟨vs, sl, he, h1⟩ := X.ex
  unfold noteFrame
  simp only [hf]
  refine wpAny_bind (wpAny_field he rfl h1 ?_)
  rw [if_neg (by decide)]
  exact entry_new hfr hl hf he (Array.getElem?_eq_some_iff.mp h1).1 h
/-- .. a caller's frame -/
theorem note_next {T0 : Addr} (hfr : A.frames = some (env :: outer)) (hl : s.heap.FunFrames base (env :: outer)) (hf : env.frame = some L) (X : Flies s.heap e C dx T0)
    (h : ∀ h' T, Flies h' e C dx T → s.heap.objs.size ≤ T → Noted (env :: outer) s.heap h' e (some T0) → Q () { s with heap := h' }) :
    wpAny M A (noteFrame (.ref e) env) (fun _ s' => wpAny M A (setFlight (.ref e) none) Q E s') E s := by
  obtain ⟨⟨vs, sl, he, h1⟩, ⟨oT, ts, hT, hd, h3⟩, ne⟩ := X
  have n3 : ∀ b o, s.heap.get? b = some o → (∀ ws, o.data ≠ .fields ws) → b ≠ T0 := fun b o hb hn q => by
    rw [q, hT] at hb
    cases hb
    exact hn ts hd
  have oth : ∀ b, b ≠ T0 → (s.heap.update T0 (Obj.mapFields (·.setIfInBounds 3 Value.none))).get? b = s.heap.get? b := fun b hb => Heap.get?_update_other _ _ (Ne.symm hb)
  unfold noteFrame
  simp only [hf]
  refine wpAny_bind (wpAny_field he rfl h1 ?_)
  rw [if_pos (by simp)]
  refine wpAny_bind (wpAny_field hT hd h3 ?_)
  rw [if_neg (by simp [rawInt])]
  refine wpAny_bind (wpAny_setField hT hd (Array.getElem?_eq_some_iff.mp h3).1 ?_)
  refine entry_new (base := base) hfr (hl.of_keeps fun b o hb hn => ⟨o, (oth b (n3 b o hb hn)).trans hb, rfl⟩) hf ((oth e (Ne.symm ne)).trans he) (Array.getElem?_eq_some_iff.mp h1).1 fun h' T F nT N => ?_
  refine h h' T F (Nat.le_trans (Nat.le_of_eq (Heap.size_after_update ..).symm) nT) ⟨fun b o h1 h2 h3 hb => N.keep b o h1 h2 (by simp) ((oth b fun q => h3 (by rw [q])).trans hb), fun b o h1 hb => ?_⟩
  have nb : b ≠ T0 := by
    obtain ⟨_, o', ho, hn⟩ := hl.mem h1
    exact n3 b o' ho hn
  exact N.slot b o h1 ((oth b nb).trans hb)
theorem leave_first (hfr : A.frames = some (env :: outer)) (hl : s.heap.FunFrames base (env :: outer)) (hf : env.frame = some L) (X : Fresh s.heap e C dx)
    (h : ∀ h' T, Flies h' e C dx T → s.heap.objs.size ≤ T → Noted (env :: outer) s.heap h' e none → Q () { s with heap := h' }) : wpAny M A (leaving env (.ref e)) Q E s := by
  unfold leaving
  exact wpAny_bind (note_first hfr hl hf X h)
theorem leave_next {T0 : Addr} (hfr : A.frames = some (env :: outer)) (hl : s.heap.FunFrames base (env :: outer)) (hf : env.frame = some L) (X : Flies s.heap e C dx T0)
    (h : ∀ h' T, Flies h' e C dx T → s.heap.objs.size ≤ T → Noted (env :: outer) s.heap h' e (some T0) → Q () { s with heap := h' }) : wpAny M A (leaving env (.ref e)) Q E s := by
  unfold leaving
  exact wpAny_bind (note_next hfr hl hf X h)
end
end XB

end

section
set_option Elab.async false
set_option maxRecDepth 100000
/-! Exceptions of an own class under ValueError whose __init__ stores attributes: raised, read, caught. -/
namespace XB
open PySem

abbrev bmV : List Value := [.type "ValueError", .type "Exception", .type "BaseException", .type "object"]

/-- the class at C stands in the heap; its __init__ is fI, the names of ns are no attributes of it -/
structure Cls (h : Heap) (C fI : Addr) (ns : List Str) : Prop where
  ex : ∃ (nm q : Str) (N : Addr) (bs : List Value) (sn : List Str) (sub : List Value) (ab : Bool) (col : Option Bool) (dd : Option Addr) (k0 k1 k2 k3 k5 : Option Value) (mN : Str → Option Value),
    h.get? C = some (excClassObj nm q C N bs bmV true sn sub ab col dd k0 k1 k2 k3 k5 "ValueError.__new__") ∧ h.Ns N mN ∧ mN "__init__" = some (.ref fI) ∧ mN "__setattr__" = none ∧ mN "__getattribute__" = none ∧ mN "__getattr__" = none ∧ ∀ x ∈ ns, mN x = none
section
variable {M : Model} {A : Around} {E : Value → Shared → Prop} {s : Shared} {env : Env} {C fI : Addr} {ns : List Str}

/-- raise of an exception that has been made -/
theorem raise_made {x : Sem Value} {Q : Flow → Shared → Prop} (hh : A.handled = none)
    (h : wpAny M A x (fun v s1 => ∃ e dx vs sl, v = .ref e ∧ Cls s1.heap C fI ns ∧ s1.heap.get? e = some { cls := .ref C, dict := some dx, data := .fields vs, slots := sl } ∧ vs[1]? = some .none ∧ E (.ref e) s1) E s) :
    wpAny M A (raiseStmt env (some x) none) Q E s := by
  unfold raiseStmt
  refine wpAny_bind (wpAny_mono h (fun v s1 h1 => ?_) fun _ _ z => z)
  obtain ⟨e, dx, vs, sl, rfl, X, he, hv, hE⟩ := h1
  obtain ⟨nm, q, N, bs, sn, sub, ab, col, dd, k0, k1, k2, k3, k5, mN, hC, _⟩ := X.ex
  have hcB : (Value.ref C :: bmV).contains (.type "BaseException") = true := by
    rw [List.contains_cons, show bmV.contains (.type "BaseException") = true from by decide +kernel, Bool.or_true]
  obtain ⟨hp, g, d, tk, os⟩ := s1
  repeat (first | with_reducible refine wpAny_loadPart_at he ?_ | with_reducible refine wpAny_loadPart_at hC ?_ | (with_reducible refine wpAny_isSubtype_exc hC ?_; rw [hcB]) | with_reducible refine wpAny_field he rfl hv ?_ | wp_step)
  exact wpAny_raiseNew_none hh hE
end

section
variable {prog : Program} {w : World} {A : Around} {E : Value → Shared → Prop} {h : Heap} {g : Array GenState} {d : Drawn} {t : Nat} {os : OsState} {C fI e dx : Addr} {ns : List Str} {name : Str} {v : Value} {mA : Str → Option Value} {vs : Array Value} {sl : Array (Option Value)}

end

section
variable {prog : Program} {w : World} {A : Around} {E : Value → Shared → Prop} {h : Heap} {g : Array GenState} {d : Drawn} {t : Nat} {os : OsState} {C fI e dx : Addr} {ns : List Str} {name : Str} {v : Value} {mA : Str → Option Value} {vs : Array Value} {sl : Array (Option Value)}

/-- a goal put aside: no step goes on in it -/
structure Park (p : Prop) : Prop where
  out : p
set_option maxHeartbeats 2000000 in
/-- the first attribute of an exception that has no dict yet -/
theorem set_entry0 {tk : Tok} {Q : Fin → Shared → Prop} (X : Cls h C fI ns) (hna : name ∈ ns) (hB : typeLookup (.type "ValueError") name = pure none)
    (hx : h.get? e = some { cls := .ref C, dict := none, data := .fields vs, slots := sl })
    (hq : ∀ h' tk', h'.get? e = some { cls := .ref C, dict := some h.objs.size, data := .fields vs, slots := sl } → h'.Ns1 h.objs.size (fun y => if y = name then some v else none) →
      (∀ b o, b ≠ e → h.get? b = some o → h'.get? b = some o) → Q (.done (.ret .none)) ⟨h', g, d, tk', os⟩) :
    wpAny (model prog w) A (Builtin.«object.__setattr__» ⟨[.ref e, .str name tk, v], []⟩) Q E ⟨h, g, d, t, os⟩ := by
  obtain ⟨nm, q, N, bs, sn, sub, ab, col, dd, k0, k1, k2, k3, k5, mN, hC, hN, h1, h2, h3, h4, h5⟩ := id X.ex
  have SF := F.store_ValueError
  have h6 := h5 name hna
  have hpass := SF.passes (.ref e)
  unfold Builtin.«object.__setattr__»
  have hx1 : (h.push { cls := .type "dict", data := .dict #[] }).get? e = some { cls := .ref C, dict := none, data := .fields vs, slots := sl } := Heap.get?_push_of_some _ hx
  have hes : e ≠ h.objs.size := Nat.ne_of_lt (Heap.lt_size hx)
  have hnd : ((h.push { cls := .type "dict", data := .dict #[] }).update e fun o => { cls := o.cls, dict := some h.objs.size, data := o.data, slots := o.slots }).Ns h.objs.size (fun _ => none) :=
    ⟨_, #[], _, (Heap.get?_update_ne _ _ _ _ hes.symm).trans (Heap.get?_push_at rfl rfl), rfl, fun z hz => absurd hz (by simp), fun _ => rfl⟩
  repeat (first | rw [refuse_eq] | (rw [refuseLoop_ref, hpass]) | with_reducible refine wpAny_loadPart_at hx ?_ | with_reducible refine wpAny_mroOf_exc hC ?_ | (with_reducible refine wpAny_typeLookup_exc hC hN SF.mro hB ?_; rw [h6]) | with_reducible refine wpAny_nsSet1 (Heap.Ns1.of_empty hnd) (fun h' hn' hs => Park.out ?_) | wp_step)
  constructor
  obtain ⟨oD, esD, epD, hoD, hdD, hcD⟩ := hn'.count (Within.cons name v Within.nil)
  refine wpAny_bind (wpAny_lookBehind hoD (by rw [hdD]; exact pastItsLine_dict (Nat.le_trans hcD (by rw [List.length_cons, List.length_nil, sizeLine_eq]; omega))) ?_)
  wp_walk
  refine hq h' _ ((hs.2 e hes).trans (Heap.get?_update_self _ hx1 rfl)) hn' fun b o hb hh => ?_
  exact (hs.2 b (Nat.ne_of_lt (Heap.lt_size hh))).trans ((Heap.get?_update_ne _ _ _ _ hb).trans (Heap.get?_push_of_some _ hh))
theorem set_call0 {tk : Tok} {sa owner : String} {R : Result → Shared → Prop} (SF : StoreFacts "ValueError" bmV sa owner) (X : Cls h C fI ns) (hna : name ∈ ns) (hB : typeLookup (.type "ValueError") name = pure none)
    (hx : h.get? e = some { cls := .ref C, dict := none, data := .fields vs, slots := sl })
    (hq : ∀ h' tk', h'.get? e = some { cls := .ref C, dict := some h.objs.size, data := .fields vs, slots := sl } → h'.Ns1 h.objs.size (fun y => if y = name then some v else none) →
      (∀ b o, b ≠ e → h.get? b = some o → h'.get? b = some o) → R (.ok (.ret .none)) ⟨h', g, d, tk', os⟩) :
    codeAny (model prog w) A (.call (.builtin sa) ⟨[.ref e, .str name tk, v], []⟩) R ⟨h, g, d, t, os⟩ := by
  obtain ⟨nm, q, N, bs, sn, sub, ab, col, dd, k0, k1, k2, k3, k5, mN, hC, hN, _⟩ := id X.ex
  exact codeAny_call_builtin SF.slot.plain SF.entry (wpAny_check_sa SF hC hx rfl (set_entry0 X hna hB hx hq))
theorem set_attr0 {Q : Unit → Shared → Prop} (X : Cls h C fI ns) (hna : name ∈ ns) (hB : typeLookup (.type "ValueError") name = pure none)
    (hx : h.get? e = some { cls := .ref C, dict := none, data := .fields vs, slots := sl })
    (hq : ∀ h' tk', h'.get? e = some { cls := .ref C, dict := some h.objs.size, data := .fields vs, slots := sl } → h'.Ns1 h.objs.size (fun y => if y = name then some v else none) →
      (∀ b o, b ≠ e → h.get? b = some o → h'.get? b = some o) → Q () ⟨h', g, d, tk', os⟩) :
    wpAny (model prog w) A (setAttr (.ref e) name v) Q E ⟨h, g, d, t, os⟩ := by
  obtain ⟨nm, q, N, bs, sn, sub, ab, col, dd, k0, k1, k2, k3, k5, mN, hC, hN, h1, h2, h3, h4, h5⟩ := id X.ex
  have SF := F.store_ValueError
  have f3 := SF.slot.bind (.ref e)
  unfold setAttr callSpecial? specialOf
  repeat (any_goals (first | assumption | with_reducible refine wpAny_loadPart_at hx ?_ | (with_reducible refine wpAny_typeLookup_exc hC hN SF.mro SF.slot.lookup ?_; rw [h2]) | wp_step))
  refine set_call0 SF X hna hB hx fun h' tk' q1 q2 q3 => ?_
  have q4 := hq h' tk' q1 q2 q3
  repeat (any_goals (first | assumption | wp_step))
end

section
variable {prog : Program} {w : World} {A : Around} {E : Value → Shared → Prop} {s : Shared} {env : Env} {C fI e : Addr} {ns : List Str}
/-- except C: -/
theorem caught_plain {t : Expr} {b0 : Stmt} {suite : List Stmt} {pos : Pos} {rest : List ExceptHandler} {Q : Flow → Shared → Prop}
    (h : wpAny (model prog w) (A.mark (some (.ref e))) (eval t env) (fun c s1 => c = .ref C ∧ Cls s1.heap C fI ns ∧ (∃ o, s1.heap.get? e = some o ∧ o.cls = .ref C) ∧
      wpAny (model prog w) (A.mark (some (.ref e))) (setFlight (.ref e) none) (fun _ s2 => wpAny (model prog w) (A.mark (some (.ref e))) (execs (b0 :: suite) env) Q (fun _ _ => False) s2) (fun _ _ => False) s1) (fun _ _ => False) s) :
    wpAny (model prog w) A (handleBy (.ref e) env (.ExceptHandler (some t) none (b0 :: suite) pos :: rest)) Q E s := by
  refine wpAny_handleBy_cons (codeAny_handlers_test (wpAny_mono h (fun c s1 h1 => ?_) fun _ _ z => z.elim)) (by intro z; cases z)
  obtain ⟨rfl, X, ⟨o, he, hc⟩, hk⟩ := h1
  obtain ⟨nm, q, N, bs, sn, sub, ab, col, dd, k0, k1, k2, k3, k5, mN, hC, _⟩ := X.ex
  obtain ⟨hh, g, d, tk, os⟩ := s1
  refine wpAny_excMatches_sub_self hC he hc (by decide +kernel) ?_
  show codeAny _ _ _ _ _
  refine codeAny_handlers_suite ?_
  exact wpAny_mono hk (fun _ s2 h2 => wpAny_mono h2 (fun f s4 h4 => h4) fun _ _ z => z.elim) fun _ _ z => z.elim
end
end XB

end

section
set_option Elab.async false
set_option linter.all false
set_option maxRecDepth 100000
set_option maxHeartbeats 1000000
/-! EXCEPTIONS over the hand layer: an own class under ValueError whose __init__ stores attributes; raised in a def, through callers, caught in a try. -/
namespace L2
open PySem PySem.Spec PyProof.Rows

/-! ### how an exception lies behind a call -/
def CXE (P : Program) (w : World) : CXT := fun outer H s E e s' => ∃ (ea C dx T : Addr) (H' : Hp), e = .ref ea ∧ s'.os = s.os ∧ AllBare s'.gens ∧ Un (frs outer) [] H H' s.heap s'.heap ∧ HOk P w H' s'.heap ∧
  XB.Flies s'.heap ea C dx T ∧ s.heap.get? ea = none ∧ s.heap.get? T = none ∧ H' ea = none ∧ H' T = none ∧ (∃ fs, H' dx = some (.xd fs)) ∧ E (.ref C) (some dx) H'

section
variable {P : Program} {w : World} {H H' : Hp} {h h1 h2 : Heap} {env : Env} {outer l : List Env} {ea L : Addr} {T0 : Option Addr}
theorem frs_cons (hf : env.frame = some L) : frs (env :: outer) = L :: frs outer := by
  unfold frs
  rw [List.filterMap_cons, hf]
/-- an entry more: the frame's own is younger -/
theorem Un.noted (u : Un (frs outer) [] H H' h h1) (N : XB.Noted (env :: outer) h1 h2 ea T0) (hf : env.frame = some L) (hL : h.get? L = none) (he : h.get? ea = none) (hT : ∀ T, T0 = some T → h.get? T = none) :
    Un (frs outer) [] H H' h h2 := by
  have nL : ∀ {b o}, h.get? b = some o → b ≠ L := fun e z => by
    rw [z, hL] at e
    cases e
  have nE : ∀ {b o}, h.get? b = some o → b ≠ ea := fun e z => by
    rw [z, he] at e
    cases e
  have nT : ∀ {b o}, h.get? b = some o → T0 ≠ some b := fun e z => by
    rw [hT _ z] at e
    cases e
  have mem : ∀ {b}, b ∈ XB.fra (env :: outer) → b = L ∨ b ∈ frs outer := fun {b} z => by
    rw [show XB.fra (env :: outer) = L :: frs outer from frs_cons hf] at z
    exact List.mem_cons.mp z
  have mem2 : ∀ {b}, b ∈ frs outer → b ∈ XB.fra (env :: outer) := fun {b} z => by
    rw [show XB.fra (env :: outer) = L :: frs outer from frs_cons hf]
    exact List.mem_cons_of_mem _ z
  refine ⟨fun b o e n hb hx => N.keep b o (fun z => (mem z).elim (nL e) hb) (nE e) (nT e) (u.keep b o e n hb hx), fun b o e n hb hx => ?_, u.free, fun b o e hx => ?_, u.tups, u.frzs, u.tbls⟩
  · obtain ⟨sl, e1⟩ := u.slot b o e n hb hx
    obtain ⟨sl2, e2⟩ := N.slot b _ (mem2 hb) e1
    exact ⟨sl2, e2⟩
  · obtain ⟨o1, e1⟩ := u.there b o e hx
    by_cases m : b ∈ XB.fra (env :: outer)
    · obtain ⟨sl, e2⟩ := N.slot b o1 m e1
      exact ⟨_, e2⟩
    · exact ⟨o1, N.keep b o1 m (nE e) (nT e) e1⟩
/-- .. all frames are the callers' -/
theorem Un.noted2 (u : Un (frs l) [] H H' h h1) (N : XB.Noted l h1 h2 ea T0) (he : h.get? ea = none) (hT : ∀ T, T0 = some T → h.get? T = none) : Un (frs l) [] H H' h h2 := by
  have nE : ∀ {b o}, h.get? b = some o → b ≠ ea := fun e z => by
    rw [z, he] at e
    cases e
  have nT : ∀ {b o}, h.get? b = some o → T0 ≠ some b := fun e z => by
    rw [hT _ z] at e
    cases e
  refine ⟨fun b o e n hb hx => N.keep b o hb (nE e) (nT e) (u.keep b o e n hb hx), fun b o e n hb hx => ?_, u.free, fun b o e hx => ?_, u.tups, u.frzs, u.tbls⟩
  · obtain ⟨sl, e1⟩ := u.slot b o e n hb hx
    obtain ⟨sl2, e2⟩ := N.slot b _ hb e1
    exact ⟨sl2, e2⟩
  · obtain ⟨o1, e1⟩ := u.there b o e hx
    by_cases m : b ∈ XB.fra l
    · obtain ⟨sl, e2⟩ := N.slot b o1 m e1
      exact ⟨_, e2⟩
    · exact ⟨o1, N.keep b o1 m (nE e) (nT e) e1⟩
theorem HOk.noted (ok : HOk P w H' h1) (N : XB.Noted l h1 h2 ea T0) (hf : ∀ b ∈ frs l, H' b = none) (he : H' ea = none) (hT : ∀ T, T0 = some T → H' T = none) : HOk P w H' h2 := fun b o e => by
  have nn : ∀ c u, H' c = some u → c ∉ XB.fra l ∧ c ≠ ea ∧ T0 ≠ some c := fun c u q => by
    refine ⟨fun z => ?_, fun z => ?_, fun z => ?_⟩
    · rw [hf c z] at q
      cases q
    · rw [z, he] at q
      cases q
    · rw [hT c z] at q
      cases q
  refine (ok b o e).stay (fun c u hc q => ?_) (fun _ q => q) fun _ _ q => q
  have k : ∃ u', H' c = some u' := by
    rcases hc with z | z
    · exact ⟨o, by rw [z]; exact e⟩
    · exact ⟨_, z⟩
  obtain ⟨u', k⟩ := k
  obtain ⟨n1, n2, n3⟩ := nn c u' k
  exact N.keep c u n1 n2 n3 q
/-- a record that nobody tracks turned -/
theorem HOk.turned {T : Addr} (ok : HOk P w H' h1) (k : ∀ b o, b ≠ T → h1.get? b = some o → h2.get? b = some o) (hT : H' T = none) : HOk P w H' h2 := fun b o e => by
  have nn : ∀ c u, H' c = some u → c ≠ T := fun c u q z => by
    rw [z, hT] at q
    cases q
  refine (ok b o e).stay (fun c u hc q => k c u ?_ q) (fun _ q => q) fun _ _ q => q
  rcases hc with z | z
  · rw [z]
    exact nn b o e
  · exact nn c _ z
theorem Un.turned {T : Addr} {fs : List Addr} (u : Un fs [] H H' h h1) (k : ∀ b o, b ≠ T → h1.get? b = some o → h2.get? b = some o) (hT : h.get? T = none) : Un fs [] H H' h h2 := by
  have nT : ∀ {b o}, h.get? b = some o → b ≠ T := fun e z => by
    rw [z, hT] at e
    cases e
  refine ⟨fun b o e n hb hx => k b o (nT e) (u.keep b o e n hb hx), fun b o e n hb hx => ?_, u.free, fun b o e hx => ?_, u.tups, u.frzs, u.tbls⟩
  · obtain ⟨sl, e1⟩ := u.slot b o e n hb hx
    exact ⟨sl, k b _ (nT e) e1⟩
  · obtain ⟨o1, e1⟩ := u.there b o e hx
    exact ⟨o1, k b o1 (nT e) e1⟩
/-- a thing that was not there ahead is tracked from now on -/
theorem Un.track {fs : List Addr} {a : Addr} {o : HO} (u : Un fs [] H H' h h1) (ha : h.get? a = none) (hn : H' a = none) : Un fs [] H (upd H' a o) h h1 := by
  have na : ∀ {b o}, h.get? b = some o → b ≠ a := fun e z => by
    rw [z, ha] at e
    cases e
  refine ⟨u.keep, u.slot, fun b ob e n hx => ?_, u.there, fun b xs q => ?_, fun b ob x q => ?_, fun b ps q => ?_⟩
  · rw [upd_ne (na e)]
    exact u.free b ob e n hx
  · have z := u.tups b xs q
    rw [upd_ne (ne_of_none z hn)]
    exact z
  · have z := u.frzs b ob x q
    rw [upd_ne (ne_of_none z hn)]
    exact z
  · obtain ⟨m, z⟩ := u.tbls b ps q
    exact ⟨m, by rw [upd_ne (ne_of_none z hn)]; exact z⟩
theorem HOk.track {a : Addr} {o : HO} (ok : HOk P w H' h1) (hn : H' a = none) (new : ObjOk P w (upd H' a o) h1 a o) : HOk P w (upd H' a o) h1 := fun b u e => by
  by_cases hb : b = a
  · subst hb
    rw [upd_same] at e
    cases e
    exact new
  · rw [upd_ne hb] at e
    exact (ok b u e).stay (fun _ _ _ q => q) (fun c q => by rw [upd_ne (ne_of_none q hn)]; exact q) fun c xs q => by rw [upd_ne (ne_of_none q hn)]; exact q
end

/-! ### the exception as a thing of the abstract heap -/
/-- made, without a dict -/
def Ex0 (e C : Addr) : HO := .ext fun h => ∃ vs sl, h.get? e = some { cls := .ref C, dict := none, data := .fields vs, slots := sl } ∧ vs[1]? = some .none
/-- .. its dict at dx -/
def ExF (e C dx : Addr) : HO := .ext fun h => ∃ vs sl, h.get? e = some { cls := .ref C, dict := some dx, data := .fields vs, slots := sl } ∧ vs[1]? = some .none
def del (H : Hp) (a : Addr) : Hp := fun b => if b = a then none else H b
theorem del_same {H : Hp} {a : Addr} : del H a a = none := by
  unfold del
  rw [if_pos rfl]
theorem del_ne {H : Hp} {a b : Addr} (h : b ≠ a) : del H a b = H b := by
  unfold del
  rw [if_neg h]
section
variable {X : Cx} {pins : List (Addr × Obj)} {σ : St} {H : Hp} {s : Shared} {h' : Heap}
theorem Inv.laid0 {a : Addr} {o : HO} {t' : Nat} (I : Inv X pins σ H s) (k : ∀ b u, s.heap.get? b = some u → h'.get? b = some u) (hp : s.heap.get? a = none) (hn : H a = none) (new : ObjOk X.prog X.w (upd H a o) h' a o) :
    Inv X pins σ (upd H a o) { s with heap := h', toks := t' } := by
  refine I.un ?_ ?_
  · exact Un.track (Un.kept k) hp hn
  · exact HOk.track (I.hok.kept k) hn new
/-- it flies: it is tracked no more -/
theorem HOk.untrack {P : Program} {w : World} {h : Heap} {a : Addr} {φ : Heap → Prop} (ok : HOk P w H h) (ha : H a = some (.ext φ)) : HOk P w (del H a) h := fun b u e => by
  have hb : b ≠ a := fun z => by
    rw [z, del_same] at e
    cases e
  rw [del_ne hb] at e
  refine (ok b u e).stay (fun _ _ _ q => q) (fun c q => ?_) fun c xs q => ?_
  · rw [del_ne (ne_of q ha (by intro z; cases z))]
    exact q
  · rw [del_ne (ne_of q ha (by intro z; cases z))]
    exact q
theorem Inv.untrack {a : Addr} {φ : Heap → Prop} (I : Inv X pins σ H s) (ha : H a = some (.ext φ)) : Inv X pins σ (del H a) s := by
  have ne : ∀ {b u}, H b = some u → u ≠ .ext φ → b ≠ a := fun q d => ne_of q ha d
  obtain ⟨hp, g, d, t, os⟩ := s
  refine I.un (t' := t) (h' := hp) ⟨fun _ _ q _ _ _ => q, fun _ o q _ _ _ => ⟨o.slots, q⟩, fun b o q n _ => ?_, fun _ o q _ => ⟨o, q⟩, fun b xs q => ?_, fun b o u q => ?_, fun b ps q => ⟨#[], ?_⟩⟩ (I.hok.untrack ha)
  · by_cases z : b = a
    · rw [z, del_same]
    · rw [del_ne z]
      exact n
  · rw [del_ne (ne q (by intro z; cases z))]
    exact q
  · rw [del_ne (ne q (by intro z; cases z))]
    exact q
  · rw [del_ne (ne q (by intro z; cases z)), q]
    simp
end

/-! ### a def whose exceptions leave it -/
section
variable {P : Program} {w : World} {K : PySem.W.Frag} {mg : Str → Option Value} {base : Heap} {N : List Str} {qual : Str} {scope : Scope} {f : Addr} {cd : Value} {A : Around} {outer : List Env} {s0 : Shared} {H0 : Hp} {E : XK}
theorem new_of {X : Cx} {pins : List (Addr × Obj)} {σ : St} {H : Hp} {s : Shared} (I : Inv X pins σ H s) (hx : X.ex = []) {a : Addr} (h : s.heap.get? a = none) : X.s_0.heap.get? a = none := by
  cases q : X.s_0.heap.get? a with
  | none => rfl
  | some o =>
    obtain ⟨o', e⟩ := I.base.there a o q (by rw [hx]; simp)
    rw [h] at e
    cases e
/-- raised here: it leaves -/
theorem raise_up {pins : List (Addr × Obj)} {σ : St} {H : Hp} {s : Shared} {ea C dx : Addr} {fs : List (Str × V)}
    (I : Inv (cxOf (CXE P w) P w K mg base N qual scope f cd A outer s0 H0 E) pins σ H s) (he : H ea = some (ExF ea C dx)) (hd : H dx = some (.xd fs)) (hn : s0.heap.get? ea = none) (hE : E (.ref C) (some dx) (del H ea)) :
    (cxOf (CXE P w) P w K mg base N qual scope f cd A outer s0 H0 E).xe (.ref ea) s := by
  obtain ⟨⟨vs, sl, h1, h2⟩, _⟩ := I.hok ea _ he
  have J := I.untrack he
  refine XB.leave_first (base := base) J.ok.frames J.stack rfl ⟨vs, sl, h1, h2⟩ fun h' T F nT N => ?_
  have nT0 : s.heap.get? T = none := Heap.get?_none_of_le nT
  refine ⟨ea, C, dx, T, del H ea, rfl, J.os, J.bare, ?_, ?_, F, hn, new_of J rfl nT0, del_same, J.hok.fresh nT, ⟨fs, ?_⟩, hE⟩
  · exact Un.noted J.base N rfl (Heap.get?_none_of_le J.ok.above) hn (fun T z => by cases z)
  · exact HOk.noted J.hok N J.stkFree del_same (fun T z => by cases z)
  · rw [del_ne (ne_of hd he (by intro z; cases z))]
    exact hd
/-- a callee's goes on to the caller -/
theorem pass_up : Passes (CXE P w) (cxOf (CXE P w) P w K mg base N qual scope f cd A outer s0 H0 E) E := by
  intro pins σ H s e s' I x
  obtain ⟨ea, C, dx, T, H', rfl, os, bare, un, hok, F, n1, n2, f1, f2, xd, hE⟩ := x
  have J := I.call' os un hok bare (fun b z => absurd z (by simp))
  refine XB.leave_next (base := base) J.ok.frames J.stack rfl F fun h' T' F' nT N => ?_
  have nT0 : s'.heap.get? T' = none := Heap.get?_none_of_le nT
  refine ⟨ea, C, dx, T', H', rfl, J.os, J.bare, ?_, ?_, F', new_of I rfl n1, new_of J rfl nT0, f1, J.hok.fresh nT, xd, hE⟩
  · exact Un.noted J.base N rfl (Heap.get?_none_of_le J.ok.above) (new_of I rfl n1) (fun T0 z => by cases z; exact new_of I rfl n2)
  · exact HOk.noted J.hok N J.stkFree f1 (fun T0 z => by cases z; exact f2)
/-- loops let it through -/
theorem pass_own : PassesOwn (model P w) (cxOf (CXE P w) P w K mg base N qual scope f cd A outer s0 H0 E).A (cxOf (CXE P w) P w K mg base N qual scope f cd A outer s0 H0 E).env (cxOf (CXE P w) P w K mg base N qual scope f cd A outer s0 H0 E).xe :=
  PassesOwn.leaving
end
section
variable {P : Program} {w : World} {K : PySem.W.Frag} {mg : Str → Option Value} {base : Heap}
/-- THE RULE for a def that may raise -/
theorem Fun.okE {x qual : Str} {st : Stmt} {f : Addr} {fd : FuncData} {N ps : List Str} {k : Nat} {sp : Sp} (F : Fun K x qual st f fd) (S : FnScope N ps (defScope st)) (len : ∀ vs H Q E, sp vs H Q E → vs.length = ps.length)
    (hbody : ∀ (cdv : Value) (A : Around) (outer : List Env) (s : Shared) (H : Hp) (vs : List V) (Q : VK) (E : XK), Room k (A.deeper (envOfC qual (defScope st) s.heap.objs.size f cdv)) → sp vs H Q E →
      ∃ t, PSs (cxOf (CXE P w) P w K mg base N qual (defScope st) f cdv A outer s H E) (defBody st) t ∧ t { nx := fun _ H' => Q .non H', rt := Q } (start N vs) H) : FnOk P w K mg base (CXE P w) (k + 1) f fd ps sp := by
  obtain ⟨oc, od, kV, doc, pm, an, cdv, ct, osl, rfl, lk, hcd⟩ := F.ex
  exact fn_of lk hcd S len fun A outer s H vs Q E hr hsp => hbody cdv A outer s H vs Q E hr hsp
end

/-! ### what of the text the class must have -/
def exIn (K : PySem.W.Frag) (C fI : Addr) (ns : List Str) : Bool := match K.lookup C with
  | some ⟨.type "type", _, .cls cd, sl⟩ => (match cd.mro, sl.toList with
    | .ref C' :: bm, [_, _, _, _, some (.builtin n), _] => C' == C && n == "ValueError.__new__" && !cd.hasDel && cd.hasDict && bm == XB.bmV && PySem.W.nsOkIn K cd.ns && PySem.W.nsIn K cd.ns "__init__" == some (some (.ref fI)) &&
      PySem.W.nsIn K cd.ns "__setattr__" == some none && PySem.W.nsIn K cd.ns "__getattribute__" == some none && PySem.W.nsIn K cd.ns "__getattr__" == some none && ns.all fun x => PySem.W.nsIn K cd.ns x == some none
    | _, _ => false)
  | _ => false
theorem ns_is {K : PySem.W.Frag} {h : Heap} {N : Addr} {mN : Str → Option Value} {n : Str} {v : Value} (X : K.In h) (G : h.Ns N mN) (e : PySem.W.nsIn K N n = some (some v)) : mN n = some v := by
  obtain ⟨o, es, ep, ho, hd, _, hf⟩ := G
  unfold PySem.W.nsIn at e
  split at e
  · rename_i c d es' n' sl q
    have z := X _ _ q
    rw [ho] at z
    cases z
    cases hd
    split at e
    · rename_i en he
      cases e
      rw [← hf]
      unfold nsFind findBy
      rw [← Array.find?_toList, he]
      rfl
    · split at e <;> cases e
  · cases e
theorem exIn_cls {K : PySem.W.Frag} {C fI : Addr} {ns : List Str} (q : exIn K C fI ns = true) {h : Heap} (X : K.In h) : XB.Cls h C fI ns := by
  unfold exIn at q
  split at q
  · rename_i dd cd sl ho
    split at q
    · rename_i C' bm k0 k1 k2 k3 n k5 hm hs
      simp only [Bool.and_eq_true, beq_iff_eq, Bool.not_eq_true'] at q
      obtain ⟨⟨⟨⟨⟨⟨⟨⟨⟨⟨rfl, rfl⟩, hdel⟩, hdict⟩, hbm⟩, hok⟩, h1⟩, h2⟩, h3⟩, h4⟩, h5⟩ := q
      obtain ⟨nm, bs, mro, nsA, qn, hd, sn, sub, ab, col, dl⟩ := cd
      dsimp only at hm hdel hdict hok h1 h2 h3 h4 h5
      subst hm hdel hdict hbm
      have hsl : sl = #[k0, k1, k2, k3, some (.builtin "ValueError.__new__"), k5] := by
        obtain ⟨l⟩ := sl
        simp only at hs
        rw [hs]
      subst hsl
      have G : h.Ns nsA (h.nsMap nsA) := .of_isNs (PySem.W.isNs_of_in X hok)
      exact ⟨nm, qn, nsA, bs, sn, sub, ab, col, dd, k0, k1, k2, k3, k5, _, X _ _ ho, G, ns_is X G h1, PySem.W.ns_none_of X G h2, PySem.W.ns_none_of X G h3, PySem.W.ns_none_of X G h4, fun x hx => PySem.W.ns_none_of X G (beq_iff_eq.mp (List.all_eq_true.mp h5 x hx))⟩
    · cases q
  · cases q
def fnCls (K : PySem.W.Frag) (f : Addr) : Bool := match K.lookup f with
  | some o => o.cls == .type "function"
  | none => false
theorem fnCls_at {K : PySem.W.Frag} {f : Addr} (q : fnCls K f = true) {h : Heap} (X : K.In h) : ∃ o, h.get? f = some o ∧ o.cls = .type "function" := by
  unfold fnCls at q
  split at q
  · rename_i o ho
    exact ⟨o, X _ _ ho, beq_iff_eq.mp q⟩
  · cases q
structure ExMk (K : PySem.W.Frag) (C fI : Addr) (ns : List Str) : Prop where
  ex : exIn K C fI ns = true
  fn : fnCls K fI = true
  kp : PySem.W.keepIn K (.ref C) = true

theorem ObjOk.there {P : Program} {w : World} {H : Hp} {h : Heap} {a : Addr} {o : HO} (x : ObjOk P w H h a o) : ∃ ob, h.get? a = some ob := by
  cases o with
  | lst xs => obtain ⟨_, _, _, _, e⟩ := x; exact ⟨_, e⟩
  | tup xs => obtain ⟨_, _, _, ob, e, _⟩ := x; exact ⟨ob, e⟩
  | dK kvs => obtain ⟨_, _, _, _, o, _, _, e, _⟩ := x; exact ⟨o, e⟩
  | dT kvs => obtain ⟨_, _, _, _, o, _, _, e, _⟩ := x; exact ⟨o, e⟩
  | set S n => obtain ⟨o, _, _, _, e, _⟩ := x; exact ⟨o, e⟩
  | ins C dx fs => obtain ⟨_, _, _, e, _⟩ := x; exact ⟨_, e⟩
  | own y => exact x
  | xd fs => obtain ⟨_, ⟨o, _, _, e, _⟩, _⟩ := x; exact ⟨o, e⟩
  | rng lo hi => obtain ⟨_, _, _, e⟩ := x; exact ⟨_, e⟩
  | frz ob u => obtain ⟨e, _⟩ := x; exact ⟨_, e⟩
  | tbl ps => exact ⟨_, (show h.get? a = some _ from x)⟩
  | met f y => exact ⟨_, (show h.get? a = some _ from x)⟩
  | ext φ => obtain ⟨_, e, _⟩ := x; exact e
theorem HOk.none_at {P : Program} {w : World} {H : Hp} {h : Heap} (x : HOk P w H h) {a : Addr} (e : h.get? a = none) : H a = none := by
  cases q : H a with
  | none => rfl
  | some o =>
    obtain ⟨ob, z⟩ := (x a o q).there
    rw [e] at z
    cases z
theorem ex0_ok {P : Program} {w : World} {H : Hp} {h : Heap} {e C : Addr} {vs : Array Value} {sl : Array (Option Value)} (a : h.get? e = some { cls := .ref C, dict := none, data := .fields vs, slots := sl }) (b : vs[1]? = some .none) : ObjOk P w H h e (Ex0 e C) :=
  ⟨⟨vs, sl, a, b⟩, ⟨_, a⟩, fun _ _ ⟨vs, sl, a, b⟩ k => ⟨vs, sl, k _ a, b⟩⟩
theorem exF_ok {P : Program} {w : World} {H : Hp} {h : Heap} {e C dx : Addr} {vs : Array Value} {sl : Array (Option Value)} (a : h.get? e = some { cls := .ref C, dict := some dx, data := .fields vs, slots := sl }) (b : vs[1]? = some .none) : ObjOk P w H h e (ExF e C dx) :=
  ⟨⟨vs, sl, a, b⟩, ⟨_, a⟩, fun _ _ ⟨vs, sl, a, b⟩ k => ⟨vs, sl, k _ a, b⟩⟩
/-! ### self.name = value, in the exception's __init__, as its first attribute -/
def sX0 (K : PySem.W.Frag) (ta tv : TE) (name : Str) : TS := fun D σ H => tv σ H fun y H1 => ta σ H1 fun x H2 => ∃ e C fI ns, x = .ref e ∧ H2 e = some (Ex0 e C) ∧ exIn K C fI ns = true ∧ name ∈ ns ∧ typeLookup (.type "ValueError") name = pure none ∧
  ∀ dx, H2 dx = none → dx ≠ e → D.nx σ (upd (upd H2 dx (.xd [(name, y)])) e (ExF e C dx))
section
variable {X : Cx} {o e value : Expr} {name : Str} {pos pos' : Pos} {ta tv : TE}
theorem ps_x0 (ha : PE X o ta) (hv : PE X value tv) (hs : swapsWith value (some (.Attribute o name pos')) pos.line X.env = pure false) : PS X (.Assign [.Attribute o name pos'] value pos) (sX0 X.K ta tv name) := by
  intro pins s σ H D I h
  refine plainObj_wpAny_Assign_Attribute (thn (hv pins s σ H _ I h) fun u s1 ⟨y, H1, I1, ry, q⟩ => thn (ha pins s1 σ H1 _ I1 q) fun ov s2 ⟨x, H2, I2, rx, e, C, fI, ns, ex, he, hx, hna, hB, q2⟩ => ?_) hs
  subst ex
  obtain rfl : ov = Value.ref e := rx
  obtain ⟨⟨vs, sl, g1, g2⟩, _⟩ := I2.hok e _ he
  obtain ⟨hp, g, d, t, os⟩ := s2
  refine XB.set_attr0 (exIn_cls hx I2.kIn) hna hB g1 fun h' tk' a1 a2 a3 => ?_
  have hdx : H2 hp.objs.size = none := I2.hok.fresh (Nat.le_refl _)
  have nde : hp.objs.size ≠ e := Nat.ne_of_gt (Heap.lt_size g1)
  refine ⟨σ, _, ?_, q2 hp.objs.size hdx nde⟩
  have ne : ∀ {b u}, H2 b = some u → u ≠ Ex0 e C → b ≠ e := fun q d => ne_of q he d
  have nd : ∀ {b u}, H2 b = some u → b ≠ hp.objs.size := fun q => ne_of_none q hdx
  have nn : ∀ {b}, H2 b = none → b ≠ e := fun q z => by
    rw [z, he] at q
    cases q
  refine I2.un (h' := h') (t' := tk') ⟨fun b o q n _ _ => a3 b o (nn n) q, fun b o q n _ _ => ⟨o.slots, a3 b o (nn n) q⟩, fun b o q n _ => ?_, fun b o q _ => ?_, fun b xs q => ?_, fun b ob u q => ?_, fun b ps q => ⟨#[], ?_⟩⟩ fun b u q => ?_
  · rw [upd_ne (nn n), upd_ne (Nat.ne_of_lt (Heap.lt_size q))]
    exact n
  · by_cases z : b = e
    · rw [z]
      exact ⟨_, a1⟩
    · exact ⟨o, a3 b o z q⟩
  · rw [upd_ne (ne q (by intro z; cases z)), upd_ne (nd q)]
    exact q
  · rw [upd_ne (ne q (by intro z; cases z)), upd_ne (nd q)]
    exact q
  · rw [upd_ne (ne q (by intro z; cases z)), upd_ne (nd q), q]
    simp
  · by_cases be : b = e
    · subst be
      rw [upd_same] at q
      cases q
      exact exF_ok a1 g2
    · rw [upd_ne be] at q
      by_cases bd : b = hp.objs.size
      · subst bd
        rw [upd_same] at q
        cases q
        refine ⟨_, a2, fun f => ?_⟩
        by_cases z : f = name
        · subst z
          rw [if_pos rfl]
          show RelO (List.lookup f [(f, y)]) (some u)
          simp [List.lookup]
          exact ry
        · rw [if_neg z]
          have zb : (f == name) = false := by simpa using z
          show RelO (List.lookup f [(name, y)]) none
          simp [List.lookup, zb]
          trivial
      · rw [upd_ne bd] at q
        refine (I2.hok b u q).stay (fun c v hc r => a3 c v ?_ r) (fun c r => ?_) fun c xs r => ?_
        · rcases hc with z | z
          · rw [z]
            exact be
          · exact ne z (by intro z; cases z)
        · rw [upd_ne (ne r (by intro z; cases z)), upd_ne (nd r)]
          exact r
        · rw [upd_ne (ne r (by intro z; cases z)), upd_ne (nd r)]
          exact r
end

/-! ### raise C(..) -/
def tRaise (C : Addr) (spI : Sp) (E : XK) (t : TA) : TS := fun _ σ H => t σ H fun vs H1 => ∀ ea, H1 ea = none → spI (.ref ea :: vs) (upd H1 ea (Ex0 ea C)) (fun v H2 => v = .non ∧ ∃ dx fs, H2 ea = some (ExF ea C dx) ∧ H2 dx = some (.xd fs) ∧ E (.ref C) (some dx) (del H2 ea)) fun _ _ _ => False
section
variable {P : Program} {w : World} {K : PySem.W.Frag} {mg : Str → Option Value} {base : Heap} {N : List Str} {qual : Str} {scope : Scope} {f : Addr} {cd : Value} {A : Around} {outer : List Env} {s0 : Shared} {H0 : Hp} {E : XK}
  {C fI : Addr} {ns psI : List Str} {fdI : FuncData} {spI : Sp} {k : Nat} {x : Str} {np cpos pos : Pos} {e : Expr} {es : List Expr} {t : TA}
theorem ps_raise (M : ExMk K C fI ns) (FI : FnOk P w K mg base CX0 k fI fdI psI spI) (hr : Room (k + 1) (A.deeper (envOfC qual scope s0.heap.objs.size f cd))) (hg : Gl (cxOf (CXE P w) P w K mg base N qual scope f cd A outer s0 H0 E) x) (hm : mg x = some (.ref C)) (hb : Binds K fdI psI [])
    (ha : PA (cxOf (CXE P w) P w K mg base N qual scope f cd A outer s0 H0 E) (e :: es) t) (hdb : (x == ("__debug__" : Str)) = false := by decide)
    (he : starEach (e :: es) (envOfC qual scope s0.heap.objs.size f cd) = (false, eval e (envOfC qual scope s0.heap.objs.size f cd)) :: starEach es (envOfC qual scope s0.heap.objs.size f cd) := by rfl) (hpl : (backTo cpos (starEach es (envOfC qual scope s0.heap.objs.size f cd))).any (·.1) = false := by rfl) (hps : psI.length ≤ 1000 := by decide) :
    PS (cxOf (CXE P w) P w K mg base N qual scope f cd A outer s0 H0 E) (.Raise (some (.Call (.Name x np) (e :: es) [] cpos)) none pos) (tRaise C spI E t) := by
  intro pins s σ H D I h
  rw [arm_exec_Raise]
  refine wpAny_bind (wpAny_standAt ?_)
  refine XB.raise_made (C := C) (fI := fI) (ns := ns) hr.hd ?_
  refine wpAny_bind (wpAny_mono (wpAny_Call_Name_kw (ld_glob I hg hm ?_ hdb)) (fun v s3 h3 => wpAny_bind (wpAny_standAt (wpAny_pure h3))) fun _ _ z => z)
  refine PySem.W.callWith_K (h₀ := base) I.ok.mod.kin M.kp (thn (ha cpos pins s σ H _ I h) fun us s1 ⟨vs, H1, I1, r, q⟩ => ⟨I1.kIn, ?_⟩) he hpl
  obtain ⟨hp, g, d, t, os⟩ := s1
  have X1 := exIn_cls M.ex I1.kIn
  obtain ⟨nm, qn, N', bs, sn, sub, ab, col, dd, k0, k1, k2, k3, k5, mN, hC, hN, h1, _⟩ := id X1.ex
  obtain ⟨oI, hoI, hcI⟩ := fnCls_at M.fn I1.kIn
  have hz : us.length ≤ sizeLine := by
    have e1 : (V.ref hp.objs.size :: vs).length = psI.length := FI.len _ _ _ _ (q hp.objs.size (I1.hok.fresh (Nat.le_refl _)))
    rw [List.length_cons, r.length] at e1
    rw [sizeLine_eq]
    omega
  show wpAny _ _ (call (.ref C) us) _ _ _
  refine wpAny_call_exc_init PySem.F.excBase_ValueError hC hN h1 hoI hcI (fun h' ea hm' => ?_) hz
  have hn : H1 ea = none := I1.hok.none_at hm'.new
  obtain ⟨tt, he1, _⟩ := hm'.there
  have I2 := I1.laid0 (o := Ex0 ea C) (t' := t) hm'.keeps hm'.new hn (ex0_ok he1 rfl)
  have sp := q ea hn
  have r2 : Vals (V.ref ea :: vs) (Value.ref ea :: us) := .cons rfl r
  have hl : (Value.ref ea :: us ++ []).length = psI.length := by
    rw [List.append_nil, ← r2.length]
    exact FI.len _ _ _ _ sp
  have hb2 := hb _ (Value.ref ea :: us) I2.kIn hl
  rw [List.append_nil] at hb2
  refine wpAny_call (codeAny_mono (FI.run _ _ _ _ ⟨Value.ref ea :: us, []⟩ (Value.ref ea :: us) (V.ref ea :: vs) _ _ (hr.make C us []) (I2.env0.make C us []) hb2 r2 sp) fun r s' hq => ?_)
  cases r with
  | error e => exact hq.elim
  | ok fl =>
    cases fl with
    | ret u =>
      obtain ⟨v, H', I3, rv, ev, dx, fs, e1, e2, e3⟩ := I2.after hq
      subst ev
      obtain ⟨⟨vs', sl', g1, g2⟩, _⟩ := I3.hok ea _ e1
      exact ⟨rv, ea, dx, vs', sl', rfl, exIn_cls M.ex I3.kIn, g1, g2, raise_up I3 e1 e2 (new_of I1 rfl hm'.new) e3⟩
    | next => exact False.elim hq
    | brk => exact False.elim hq
    | cont => exact False.elim hq
end
end L2

end

section
set_option Elab.async false
set_option linter.all false
set_option maxRecDepth 100000
set_option maxHeartbeats 1000000
/-! try: .. except C [as n]: .., and calls within an except suite. -/
namespace L2
open PySem PySem.Spec PyProof.Rows

/-! ### within a try's body, within an except suite -/
abbrev Cx.tr (X : Cx) (pl : List (Addr × Obj)) (E' : Value → Shared → Prop) : Cx := { X with xe := E', pn := X.pn ++ pl }
abbrev Cx.su (X : Cx) (e : Addr) (pl : List (Addr × Obj)) : Cx := { X with A := X.A.mark (some (.ref e)), calm := false, xe := fun _ _ => False, pn := X.pn ++ pl }
section
variable {X : Cx} {pins pl : List (Addr × Obj)} {σ : St} {H : Hp} {s : Shared} {E' : Value → Shared → Prop}
theorem Inv.into (I : Inv X pl σ H s) : Inv (X.tr pl E') [] σ H s :=
  ⟨⟨I.ok.mod, I.ok.kind, I.ok.glob, I.ok.blt, I.ok.above, I.ok.inj, I.ok.has, I.ok.cab, I.ok.hd, I.ok.frames, I.ok.stk, I.ok.exf, I.ok.bs, I.ok.bsz, I.ok.noex, I.ok.exfs, I.ok.funs, I.ok.frf⟩, I.os, I.bare, I.base, I.loc, I.cell, I.free, I.freeC,
    fun p hp => I.pin p (by rw [List.append_nil] at hp; exact hp), I.hok, I.len⟩
theorem Inv.outof (I : Inv (X.tr pl E') pins σ H s) : Inv X pl σ H s :=
  ⟨⟨I.ok.mod, I.ok.kind, I.ok.glob, I.ok.blt, I.ok.above, I.ok.inj, I.ok.has, I.ok.cab, I.ok.hd, I.ok.frames, I.ok.stk, I.ok.exf, I.ok.bs, I.ok.bsz, I.ok.noex, I.ok.exfs, I.ok.funs, I.ok.frf⟩, I.os, I.bare, I.base, I.loc, I.cell, I.free, I.freeC,
    fun p hp => I.pin p (List.mem_append_left _ hp), I.hok, I.len⟩
theorem Inv.suite (I : Inv (X.tr pl E') pins σ H s) (e : Addr) : Inv (X.su e pl) pins σ H s :=
  ⟨⟨I.ok.mod, I.ok.kind, I.ok.glob, I.ok.blt, I.ok.above, I.ok.inj, I.ok.has, I.ok.cab, fun z => Bool.noConfusion (show false = true from z), I.ok.frames, I.ok.stk, I.ok.exf, I.ok.bs, I.ok.bsz, I.ok.noex, I.ok.exfs, I.ok.funs, I.ok.frf⟩, I.os, I.bare, I.base, I.loc, I.cell, I.free, I.freeC, I.pin, I.hok, I.len⟩
/-- what the suite leaves, in the def's own context again (the def's own calm is known) -/
theorem Inv.unsuite {e : Addr} (ok : X.Ok) (I : Inv (X.su e pl) pins σ H s) : Inv X pl σ H s :=
  ⟨ok, I.os, I.bare, I.base, I.loc, I.cell, I.free, I.freeC, fun p hp => I.pin p (List.mem_append_left _ hp), I.hok, I.len⟩

end

/-! ### the rules -/
/-- except C -/
def tTry0 (len : Nat) (C : Addr) (tb : XK → TS) (ts : TS) : TS := fun D σ H =>
  tb (fun Cv odx H' => Cv = .ref C ∧ ∀ dx, odx = some dx → ∀ (σ' : St), σ'.length = len → ts D σ' H') D σ H
section
variable {X : Cx} {body suite : List Stmt} {b0 : Stmt} {cn n : Str} {np hpos pos : Pos} {C fI : Addr} {ns : List Str} {i : Nat} {tb : XK → TS} {ts : TS}
theorem ps_try0 (hx : exIn X.K C fI ns = true) (hg : Gl X cn) (hm : X.mg cn = some (.ref C)) (hst : X.stack = X.env :: X.outer) (hfr : X.env.frame = some X.env.locals)
    (hb : ∀ pl E' (E : XK), Passes (CXE X.prog X.w) (X.tr pl E') E → PSs (X.tr pl E') body (tb E)) (hs : ∀ e pl, PSs (X.su e pl) (b0 :: suite) ts) (hdb : (cn == ("__debug__" : Str)) = false := by decide) :
    PS X (.Try body [.ExceptHandler (some (.Name cn np)) none (b0 :: suite) hpos] [] [] pos) (tTry0 X.N.length C tb ts) := by
  intro pl s σ H D I h
  refine wpAny_Try_except ?_
  refine wpAny_mono (hb pl _ _ ?_ [] s σ H D (I.into (E' := fun e s1 => wpAny (model X.prog X.w) X.A (noteFrame e X.env) (fun _ s2 => wpAny (model X.prog X.w) X.A (setFlight e none) (fun _ s3 =>
    wpAny (model X.prog X.w) X.A (handleBy e X.env [.ExceptHandler (some (.Name cn np)) none (b0 :: suite) hpos]) (SP X pl D) X.xe s3) X.xe s2) X.xe s1)) h) (fun f s1 q => ?_) fun e s1 q => q
  · intro pins σ' H1 s1 e s' I1 x
    obtain ⟨ea, C', dx, T, H', rfl, os, bare, un, hok, F, n1, n2, f1, f2, ⟨fs, xd⟩, hE1, hE2⟩ := x
    cases hE1
    have J := I1.call' os un hok bare (fun b z => absurd z (by simp))
    refine XB.note_next (base := X.base) (outer := X.outer) (L := X.env.locals) (hst ▸ J.ok.frames) (hst ▸ J.stack) hfr F fun h1 T1 F1 nT1 N1 => ?_
    have N1' : XB.Noted X.stack s'.heap h1 ea (some T) := by
      rw [hst]
      exact N1
    have un1 := Un.noted2 un N1' n1 (fun T0 z => by cases z; exact n2)
    have hok1 := HOk.noted hok N1' J.stkFree f1 (fun T0 z => by cases z; exact f2)
    have J1 : Inv (X.tr pl _) pins σ' H' { s' with heap := h1 } := I1.call' (s' := { s' with heap := h1 }) os un1 hok1 bare (fun b z => absurd z (by simp))
    have hT1 : H' T1 = none := J.hok.fresh nT1
    have nT2 : s1.heap.get? T1 = none := by
      cases q : s1.heap.get? T1 with
      | none => rfl
      | some o =>
        obtain ⟨o', e'⟩ := un.there T1 o q (by simp)
        rw [Heap.get?_none_of_le nT1] at e'
        cases e'
    refine XB.caught_plain (C := C) (fI := fI) (ns := ns) ?_
    obtain ⟨vs1, sl1, g1, _⟩ := F1.ex
    refine ld_glob (X := X.su ea pl) (J1.suite ea) hg hm ⟨rfl, exIn_cls hx J1.kIn, ⟨_, g1, rfl⟩, ?_⟩ hdb
    refine XB.land_again F1 fun h2 F2 k2 => ?_
    have J2 : Inv (X.tr pl _) pins σ' H' { s' with heap := h2 } := I1.call' (s' := { s' with heap := h2 }) os (Un.turned un1 k2 nT2) (HOk.turned hok1 k2 hT1) bare (fun b z => absurd z (by simp))
    refine wpAny_mono (hs ea pl pins _ _ _ D (J2.suite ea) (hE2 dx rfl σ' J1.len)) (fun f s4 q => ?_) fun _ _ z => z
    cases f with
    | next =>
      obtain ⟨σ4, H4, I4, q4⟩ := q
      exact ⟨σ4, H4, I4.unsuite I.ok, q4⟩
    | brk =>
      obtain ⟨σ4, H4, I4, q4⟩ := q
      exact ⟨σ4, H4, I4.unsuite I.ok, q4⟩
    | cont =>
      obtain ⟨σ4, H4, I4, q4⟩ := q
      exact ⟨σ4, H4, I4.unsuite I.ok, q4⟩
    | ret u =>
      obtain ⟨v, σ4, H4, I4, rv, q4⟩ := q
      exact ⟨v, σ4, H4, I4.unsuite I.ok, rv, q4⟩
  · cases f with
    | next =>
      obtain ⟨σ4, H4, I4, q4⟩ := q
      exact wpAny_execs_nil ⟨σ4, H4, I4.outof, q4⟩
    | brk =>
      obtain ⟨σ4, H4, I4, q4⟩ := q
      exact ⟨σ4, H4, I4.outof, q4⟩
    | cont =>
      obtain ⟨σ4, H4, I4, q4⟩ := q
      exact ⟨σ4, H4, I4.outof, q4⟩
    | ret u =>
      obtain ⟨v, σ4, H4, I4, rv, q4⟩ := q
      exact ⟨v, σ4, H4, I4.outof, rv, q4⟩
end

/-! ### a def that may be called within an except suite: nothing of it asks whether one runs -/
structure RoomC (k : Nat) (A : Around) : Prop where
  dp : A.depth + 3 * k + 5 < recursionLimit
  un : A.units + 16 * k + 200 < cLine
theorem Room.c {k : Nat} {A : Around} (r : Room k A) : RoomC k A := ⟨r.dp, r.un⟩
theorem RoomC.deeper {k : Nat} {A : Around} (r : RoomC (k + 1) A) (env : Env) : RoomC k (A.deeper env) :=
  ⟨by have := r.dp; show A.depth + 1 + 3 * k + 5 < _; omega, by have := r.un; show A.units + 3 + 16 * k + 200 < _; omega⟩
structure FnOkC (P : Program) (w : World) (K : PySem.W.Frag) (mg : Str → Option Value) (base : Heap) (CX : CXT) (k : Nat) (f : Addr) (fd : FuncData) (ps : List Str) (sp : Sp) : Prop where
  len : ∀ vs H Q E, sp vs H Q E → vs.length = ps.length
  run : ∀ (A : Around) (outer : List Env) (s : Shared) (H : Hp) (args : Args) (us : List Value) (vs : List V) (Q : VK) (E : XK), RoomC k A → Env0 P w K mg base A outer s H → BindsTo s fd args (ps.zip us) → Vals vs us → sp vs H Q E →
    codeAny (model P w) A (.call (.ref f) args) (CR CX outer P w H s Q E) s
def cxOfC (CX : CXT) (P : Program) (w : World) (K : PySem.W.Frag) (mg : Str → Option Value) (base : Heap) (N : List Str) (qual : Str) (scope : Scope) (f : Addr) (cd : Value) (A : Around) (outer : List Env) (s : Shared) (H : Hp) (E : XK) : Cx :=
  { cxOf CX P w K mg base N qual scope f cd A outer s H E with calm := false }
theorem fn_ofC {CX : CXT} {P : Program} {w : World} {K : PySem.W.Frag} {mg : Str → Option Value} {base : Heap} {k : Nat} {f : Addr} {name qual : Str} {params : Arguments} {body : List Stmt} {scope : Scope} {dV kV doc pm cdv ct oc : Value} {an od : Option Addr}
    {osl : Array (Option Value)} {N ps : List Str} {sp : Sp} (lk : K.lookup f = some ⟨oc, od, .func (PySem.W.fnOf name qual params body scope dV kV doc pm an cdv ct), osl⟩) (hcd : PySem.W.codeIn K cdv qual = true) (S : FnScope N ps scope)
    (len : ∀ vs H Q E, sp vs H Q E → vs.length = ps.length)
    (hbody : ∀ (A : Around) (outer : List Env) (s : Shared) (H : Hp) (vs : List V) (Q : VK) (E : XK), RoomC k (A.deeper (envOfC qual scope s.heap.objs.size f cdv)) → sp vs H Q E →
      ∃ t, PSs (cxOfC CX P w K mg base N qual scope f cdv A outer s H E) body t ∧ t { nx := fun _ H' => Q .non H', rt := Q } (start N vs) H) :
    FnOkC P w K mg base CX (k + 1) f (PySem.W.fnOf name qual params body scope dV kV doc pm an cdv ct) ps sp := by
  refine ⟨len, fun A outer s H args us vs Q E hr e0 hb r hsp => ?_⟩
  have hl := len _ _ _ _ hsp
  have KX : K.In s.heap := e0.mod.kin.keeps fun b o e => (e0.bs b o e).1
  have lim : s.heap.NoLimit := e0.mod.nolimit.keeps fun b o e => (e0.bs b o e).1
  have hkind : ∀ y ∈ ps.zip us, scope.names.lookup y.1 = some .local ∨ (scope.names.lookup y.1 = some .cell ∧ ((cellsFrom (s.heap.objs.size + 1) scope.names []).lookup y.1).isSome = true) := fun ⟨n, v⟩ hy => by
    rcases S.par n (List.of_mem_zip hy).1 with q | q
    · exact .inl q
    · exact .inr ⟨q, PySem.W.cellsFrom_some _ _ _ (.inl q)⟩
  refine codeAny_call_function (by have := hr.dp; omega) (KX _ _ lk) rfl S.co S.gen rfl (PySem.W.codeRec_of KX hcd) (hb _ _ _ _ ?_)
  refine wpAny_newFunctionEnv_cells S.kind hkind fun env he s1 x => ?_
  subst he
  refine ⟨lim.keeps x.toInCall.keep, codeAny_func ?_⟩
  obtain ⟨t, ht, hq⟩ := hbody A outer s H vs Q E (hr.deeper _) hsp
  have e0' : Env0 P w K mg base { A with handled := none } outer s H := ⟨e0.frames, e0.mod, e0.bs, e0.bsz, e0.funs, e0.frf, e0.hok, e0.bare⟩
  have I0 : Inv (cxOf CX P w K mg base N qual scope f cdv { A with handled := none } outer s H E) [] (start N vs) H s1 := inv_start S rfl e0' hl r x
  have I : Inv (cxOfC CX P w K mg base N qual scope f cdv A outer s H E) [] (start N vs) H s1 :=
    ⟨⟨I0.ok.mod, I0.ok.kind, I0.ok.glob, I0.ok.blt, I0.ok.above, I0.ok.inj, I0.ok.has, I0.ok.cab, fun z => Bool.noConfusion (show false = true from z), Around.frames_deeper e0.frames, I0.ok.stk, I0.ok.exf, I0.ok.bs, I0.ok.bsz, I0.ok.noex, I0.ok.exfs, I0.ok.funs, I0.ok.frf⟩, I0.os, I0.bare, I0.base, I0.loc, I0.cell, I0.free, I0.freeC, I0.pin, I0.hok, I0.len⟩
  refine wpAny_mono (ht [] s1 (start N vs) H _ I hq) (fun fl s' hs => ?_) fun e s' hs => hs
  have fin : ∀ {σ' : St} {H' : Hp} {v : V} {u : Value}, Inv (cxOfC CX P w K mg base N qual scope f cdv A outer s H E) [] σ' H' s' → RelV v u → Q v H' → CE outer P w H s Q u s' :=
    fun {σ' H' v u} J rv q => ⟨v, H', J.os, J.bare, J.base, J.hok, rv, q⟩
  cases fl with
  | ret u =>
    obtain ⟨v, σ', H', J, rv, q⟩ := hs
    exact fin J rv q
  | next =>
    obtain ⟨σ', H', J, q⟩ := hs
    exact fin (v := V.non) (u := Value.none) J rfl q
  | brk =>
    obtain ⟨_, _, _, q⟩ := hs
    exact False.elim q
  | cont =>
    obtain ⟨_, _, _, q⟩ := hs
    exact False.elim q
/-- THE RULE for a def that raises nothing and may be called anywhere -/
theorem Fun.okC {P : Program} {w : World} {K : PySem.W.Frag} {mg : Str → Option Value} {base : Heap} {x qual : Str} {st : Stmt} {f : Addr} {fd : FuncData} {N ps : List Str} {k : Nat} {sp : Sp} (F : Fun K x qual st f fd) (S : FnScope N ps (defScope st)) (len : ∀ vs H Q E, sp vs H Q E → vs.length = ps.length)
    (hbody : ∀ (cdv : Value) (A : Around) (outer : List Env) (s : Shared) (H : Hp) (vs : List V) (Q : VK) (E : XK), RoomC k (A.deeper (envOfC qual (defScope st) s.heap.objs.size f cdv)) → sp vs H Q E →
      ∃ t, PSs (cxOfC CX0 P w K mg base N qual (defScope st) f cdv A outer s H E).nox (defBody st) t ∧ t { nx := fun _ H' => Q .non H', rt := Q } (start N vs) H) : FnOkC P w K mg base CX0 (k + 1) f fd ps sp := by
  obtain ⟨oc, od, kV, doc, pm, an, cdv, ct, osl, rfl, lk, hcd⟩ := F.ex
  refine fn_ofC lk hcd S len fun A outer s H vs Q E hr hsp => ?_
  obtain ⟨t, h, q⟩ := hbody cdv A outer s H vs Q E hr hsp
  exact ⟨t, h.nox, q⟩
section
variable {X : Cx} {CX : CXT} {k : Nat} {f : Addr} {fd : FuncData} {ps : List Str} {sp : Sp} {E : XK} {x : Str} {p pos : Pos} {e : Expr} {es : List Expr} {t : TA}
theorem pe_callC (F : FnOkC X.prog X.w X.K X.mg X.base CX k f fd ps sp) (hr : RoomC k X.A) (hg : Gl X x) (hm : X.mg x = some (.ref f)) (hk : PySem.W.keepIn X.K (.ref f) = true) (hb : Binds X.K fd ps []) (hx : Passes CX X E)
    (ha : PA X (e :: es) t) (hdb : (x == ("__debug__" : Str)) = false := by decide) (he : starEach (e :: es) X.env = (false, eval e X.env) :: starEach es X.env := by rfl) (hpl : (backTo pos (starEach es X.env)).any (·.1) = false := by rfl) :
    PE X (.Call (.Name x p) (e :: es) [] pos) (tCall sp [] E t) := by
  intro pins s σ H Q I h
  refine wpAny_Call_Name_kw (ld_glob I hg hm ?_ hdb)
  refine PySem.W.callWith_K (h₀ := X.base) I.ok.mod.kin hk (thn (ha pos pins s σ H _ I h) fun us s1 ⟨vs, H1, I1, r, q⟩ => ⟨I1.kIn, ?_⟩) he hpl
  have r2 : Vals (vs ++ []) (us ++ []) := by
    rw [List.append_nil, List.append_nil]
    exact r
  have hl : (us ++ []).length = ps.length := by
    rw [← r2.length]
    exact F.len _ _ _ _ q
  refine wpAny_call (codeAny_mono (F.run X.A X.stack s1 H1 ⟨us, []⟩ (us ++ []) (vs ++ []) Q E hr I1.env0 (hb s1 us I1.kIn hl) r2 q) fun r s' hq => ?_)
  cases r with
  | error e => exact hx pins σ H1 s1 e s' I1 hq
  | ok fl =>
    cases fl with
    | ret u => exact I1.after hq
    | next => exact False.elim hq
    | brk => exact False.elim hq
    | cont => exact False.elim hq
end
end L2

end

section
set_option Elab.async false
set_option maxRecDepth 100000
/-! min and max with a default; sorted of a tuple. -/
namespace ML
open PySem

section
variable {prog : Program} {w : World} {A : Around} {E : Value → Shared → Prop} {s : Shared}
end

section
variable {prog : Program} {w : World} {A : Around} {R : Result → Shared → Prop} {I S : Addr} {fp wr : List Addr} {n : Nat} {P : Nat → Value → Prop} {St : Nat → Heap → Prop} {Good : Heap → Prop} {bt : Nat → Nat → Bool} {kw : List (Str × Value)}
end
section
variable {prog : Program} {w : World} {A : Around} {E : Value → Shared → Prop} {s : Shared} {l : Addr} {its : Array Value}
end

section
variable {prog : Program} {w : World} {A : Around} {R : Result → Shared → Prop} {I S : Addr} {fp wr : List Addr} {n : Nat} {P : Nat → Value → Prop} {St : Nat → Heap → Prop} {Good : Heap → Prop} {bt : Nat → Nat → Bool} {kw : List (Str × Value)}
end
section
variable {prog : Program} {w : World} {A : Around} {E : Value → Shared → Prop} {s : Shared} {l : Addr} {its : Array Value}
end

/-! ### sorted of a tuple -/
section
open PyProof.Rows
variable {prog : Program} {w : World} {A : Around} {E : Value → Shared → Prop} {s : Shared}
end
end ML

end

section
set_option Elab.async false
set_option linter.all false
set_option maxRecDepth 100000
set_option maxHeartbeats 1000000
/-! min and max with a default, sorted of a tuple, over the hand layer. -/
namespace L2
open PySem PySem.Spec PyProof.Rows

section
variable {X : Cx} {id : String} {ks : List Str} {r : List V → List V → Hp → VK → Prop} {x : Str} {p pos : Pos} {e : Expr} {es : List Expr} {kws : List Keyword} {t tk : TA}
end
theorem ints_at {its : List Value} {ns : List Int} (h : IntsAre its ns) {i : Nat} {v : Value} (e : its.toArray[i]? = some v) : ∃ t, v = .int (ns.getD i 0) t := by
  induction h generalizing i with
  | nil => simp at e
  | cons a t h ih =>
    cases i with
    | zero =>
      simp at e
      exact ⟨t, by rw [← e]; simp⟩
    | succ i =>
      obtain ⟨t', q⟩ := ih (i := i) (by simpa using e)
      exact ⟨t', by rw [q]; simp⟩
section
variable {X : Cx}
end

/-! ### the least of a list of tuples of ints -/
section
variable {X : Cx}
end
/-! ### the rules that speak of the text's objects, where K is named (within a block or a suite) -/
section
variable {X : Cx} {K : PySem.W.Frag}
theorem ix_tupK (hK : X.K = K) : IxR X (rIxT K) := by
  subst hK
  exact ix_tup
theorem ix_listK (hK : X.K = K) : IxR X (rIxL K) := by
  subst hK
  exact ix_list
theorem pe_fldK {e : Expr} {f : Str} {pos : Pos} {ta : TE} (he : PE X e ta) (hK : X.K = K) (hb : attributeBase e f X.env (eval e X.env) = eval e X.env) : PE X (.Attribute e f pos) (tFld K ta f) := by
  subst hK
  exact pe_fld he hb
end
end L2

end

section
set_option Elab.async false
set_option linter.all false
set_option maxRecDepth 100000
set_option maxHeartbeats 1000000
/-! More rules: any over ints, the greatest of three, list(range(n)), a second attribute of an exception, tuples of the module. -/
namespace L2
open PySem PySem.Spec PyProof.Rows

/-! ### any over ints -/
theorem truth_ints {prog : Program} {w : World} {A : Around} {ns : List Int} {its : List Value} (e : IntsAre its ns) :
    TruthOf prog w A (fun i v => its.toArray[i]? = some v) (fun i => decide (ns.getD i 0 ≠ 0)) := fun i v s Q E hv hq => by
  obtain ⟨t, rfl⟩ := ints_at e hv
  have z : (ns.getD i 0 != 0) = decide (ns.getD i 0 ≠ 0) := by
    by_cases h : ns.getD i 0 = 0
    · rw [h]
      rfl
    · rw [decide_eq_true h]
      simpa using h
  have hq' : Q (ns.getD i 0 != 0) s := by
    rw [z]
    exact hq
  exact PyProof.Rows.truthy_int hq'
theorem vals_of : ∀ {xs : List V} {us : List Value}, xs.length = us.length → (∀ (i : Nat) x u, xs[i]? = some x → us[i]? = some u → RelV x u) → Vals xs us
  | [], [], _, _ => .nil
  | x :: xs, u :: us, hl, h => .cons (h 0 x u rfl rfl) (vals_of (by simpa using hl) fun i y v e1 e2 => h (i + 1) y v (by simpa using e1) (by simpa using e2))
  | [], _ :: _, hl, _ => by simp at hl
  | _ :: _, [], hl, _ => by simp at hl
theorem any_rangeI : ∀ ns : List Int, (List.range ns.length).any (fun i => decide (ns.getD i 0 ≠ 0)) = ns.any fun n => decide (n ≠ 0)
  | [] => rfl
  | n :: ns => by
    rw [List.length_cons, List.range_succ_eq_map, List.any_cons, List.any_map, List.any_cons, ← any_rangeI ns]
    all_goals rfl
section
variable {X : Cx}
def rAnyI (K : PySem.W.Frag) : List V → Hp → VK → Prop := fun vs H Q => ∃ (a : Addr) (ns : List Int), vs = [V.ref a] ∧ SqL K H a (ns.map V.int) ∧ Q (.bl (ns.any fun n => decide (n ≠ 0))) H
theorem cr_anyI (hc : X.calm = true) : CallR X (.builtin "any") (rAnyI X.K) := by
  intro pins s σ H vs us Q I r h
  obtain ⟨a, ns, rfl, hs, q⟩ := h
  obtain ⟨its, rv, hl, _⟩ := I.list hs
  rw [Vals.ref1 r]
  have hb := rv.ints
  refine call_any_walk (iter_any hl.isList fun s₂ e2 st hne => ?_)
  subst e2
  refine ⟨_, _, _, _, _, _, _, rfl, Walks.list (A := X.A.in1) (I.ok.hd hc) _ a hne its.toArray, st, truth_ints hb, fun h' tk hk => ?_⟩
  refine ⟨.bl _, H, I.kept fun b o eo => hk b o (fun hmem => ?_) (Heap.get?_push_of_some _ eo), ?_, q⟩
  · rcases List.mem_cons.mp hmem with e1 | hmem
    · exact absurd (e1 ▸ Heap.lt_size eo) (Nat.lt_irrefl _)
    · cases hmem
  · show Value.bool _ = Value.bool _
    rw [← any_rangeI, List.size_toArray, hb.length]
/-! ### the greatest of three -/
/-! ### range(n), list(range(n)) -/
def tRng (ta : TA) : TE := fun σ H Q => ta σ H fun vs H1 => ∃ j : Int, vs = [.int j] ∧ ∀ r, H1 r = none → Q (.ref r) (upd H1 r (.rng 0 j))
theorem pe_rng {a : Expr} {ta : TA} {p pos : Pos} (hg : Gl X "range") (hm : X.mg "range" = none) (ha : PA X [a] ta) (hs : starEach [a] X.env = [(false, eval a X.env)] := by rfl) : PE X (.Call (.Name "range" p) [a] [] pos) (tRng ta) := by
  intro pins s σ H Q I h
  refine Call_ (ld_blt I hg hm boot_range (PyProof.Rows.callWith_type1 (thn (ha pos pins s σ H _ I h) fun us s1 ⟨vs, H1, I1, r1, q1⟩ => ?_) hs rfl))
  obtain ⟨j, e, q⟩ := q1
  subst e
  cases r1 with
  | cons r rr =>
    cases rr
    obtain ⟨t, rfl⟩ := r
    refine call_range_1 ⟨.ref s1.heap.objs.size, _, I1.laid (fun b o e => Heap.get?_push_of_some _ e) (Nat.le_refl _) ?_, rfl, q _ (I1.hok.fresh (Nat.le_refl _))⟩
    exact ⟨_, _, _, Heap.get?_push_size _ rfl⟩
theorem call_list_rng (hc : X.calm = true) : CallR X (.type "list") (fun xs H Q => ∃ (p : Addr) (n : Nat), xs = [.ref p] ∧ H p = some (.rng 0 (n : Int)) ∧ n ≤ 100000 ∧ ∀ l, H l = none → Q (.ref l) (upd H l (.lst ((List.range n).map fun (i : Nat) => V.int (i : Int))))) := by
  intro pins s σ H xs us Q I r h
  obtain ⟨p, n, rfl, hp, hn, q⟩ := h
  obtain ⟨u, rfl, rx⟩ := vals1 r
  cases rx
  obtain ⟨t, u, v, ho⟩ := I.hok p _ hp
  refine call_list_range (n := n) (I.ok.hd hc) ho (small_one (by omega) (by omega) (by omega) (by omega)) ?_ (by omega) fun h' tk acc c kp e hacc => ?_
  · rw [rangeSize_one]
    split <;> omega
  · obtain ⟨hsz, hit⟩ := hacc
    have hv : Vals ((List.range n).map fun (i : Nat) => V.int (i : Int)) acc.toList := by
      refine vals_of (by rw [List.length_map, List.length_range, Array.length_toList, hsz]) fun i x u e1 e2 => ?_
      rw [List.getElem?_map] at e1
      obtain ⟨j, e3, rfl⟩ := Option.map_eq_some_iff.mp e1
      have e4 : j = i := by
        have hi : i < n := by
          have := (List.getElem?_eq_some_iff.mp e3).1
          rw [List.length_range] at this
          exact this
        rw [List.getElem?_range hi] at e3
        exact (Option.some.inj e3).symm
      subst e4
      obtain ⟨tt, rfl⟩ := hit j u (by rw [← Array.getElem?_toList]; exact e2)
      exact ⟨tt, by rw [Int.zero_add, Int.mul_one]⟩
    refine ⟨.ref s.heap.objs.size, _, I.laid (t' := tk) kp (Nat.le_refl _) (show ObjOk X.prog X.w _ h' _ (.lst _) from ⟨?_, acc.toList, c, hv, by simpa using e⟩), rfl, q _ (I.hok.fresh (Nat.le_refl _))⟩
    rw [List.length_map, List.length_range]
    exact Nat.le_trans hn (by decide)
end
/-! ### a second attribute of an exception -/
def sX1 (K : PySem.W.Frag) (ta tv : TE) (name : Str) : TS := fun D σ H => tv σ H fun y H1 => ta σ H1 fun x H2 => ∃ e C dx fI ns fs, x = .ref e ∧ H2 e = some (ExF e C dx) ∧ H2 dx = some (.xd fs) ∧ exIn K C fI ns = true ∧ name ∈ ns ∧ typeLookup (.type "ValueError") name = pure none ∧
  fs.length < 1000 ∧ D.nx σ (upd H2 dx (.xd (putF name y fs)))
theorem lookup_keys : ∀ {fs : List (Str × V)} {f : Str} {v : V}, fs.lookup f = some v → f ∈ fs.map (·.1)
  | [], f, v, h => by cases h
  | (g, x) :: r, f, v, h => by
    by_cases z : f = g
    · rw [z]
      exact List.mem_cons_self
    · have zb : (f == g) = false := by simpa using z
      rw [List.lookup_cons, zb] at h
      exact List.mem_cons_of_mem _ (lookup_keys h)
section
variable {X : Cx} {o e value : Expr} {name : Str} {pos pos' : Pos} {ta tv : TE}
theorem ps_x1 (ha : PE X o ta) (hv : PE X value tv) (hs : swapsWith value (some (.Attribute o name pos')) pos.line X.env = pure false) : PS X (.Assign [.Attribute o name pos'] value pos) (sX1 X.K ta tv name) := by
  intro pins s σ H D I h
  refine plainObj_wpAny_Assign_Attribute (thn (hv pins s σ H _ I h) fun u s1 ⟨y, H1, I1, ry, q⟩ => thn (ha pins s1 σ H1 _ I1 q) fun ov s2 ⟨x, H2, I2, rx, e, C, dx, fI, ns, fs, ex, he, hd, hx, hna, hB, hl, q2⟩ => ?_) hs
  subst ex
  obtain rfl : ov = Value.ref e := rx
  obtain ⟨⟨vs, sl, g1, g2⟩, _⟩ := I2.hok e _ he
  obtain ⟨mA, hns, hrel⟩ := I2.hok dx _ hd
  obtain ⟨hp, g, d, t, os⟩ := s2
  have Xc := exIn_cls hx I2.kIn
  obtain ⟨nm, qn, N, bs, sn, sub, ab, col, dd, k0, k1, k2, k3, k5, mN, hC, hN, h1, h2, h3, h4, h5⟩ := id Xc.ex
  have hde : dx ≠ e := ne_of hd he (by intro z; cases z)
  have hec : e ≠ C := fun z => by
    have hC' : hp.get? C = some { cls := .ref C, dict := some dx, data := .fields vs, slots := sl } := by
      rw [← z]
      exact z ▸ g1
    have := hC.symm.trans hC'
    cases this
  have hw : Within mA (fs.map (·.1)) := fun f hf => by
    have r := hrel f
    cases l : fs.lookup f with
    | some v => exact lookup_keys l
    | none =>
      rw [l] at r
      cases m : mA f with
      | none => exact absurd m hf
      | some v =>
        rw [m] at r
        exact r.elim
  have I0 : hp.Inst e C mA := ⟨_, g1, rfl, (by intro c z; cases z), .inr ⟨dx, rfl, hde, hns⟩⟩
  refine store_attr F.store_ValueError hC hN h2 (h5 name hna) hB hec I0 (fun h' tk' I' hk hsame => ?_) hw (by rw [List.length_map, sizeLine_eq]; omega)
  obtain ⟨o1, e1, c1, d1, s1', dd1⟩ := hsame _ g1
  have e2 : h'.get? e = some { cls := .ref C, dict := some dx, data := .fields vs, slots := sl } := by
    rw [e1]
    obtain ⟨c, di, da, ss⟩ := o1
    dsimp only at c1 d1 s1' dd1
    rw [c1, d1, s1', dd1 dx rfl]
  have hns' : h'.Ns1 dx (fun y' => if y' = name then some u else mA y') := by
    obtain ⟨o2, f1, f2, f3, f4⟩ := I'
    rw [e2] at f1
    cases f1
    rcases f4 with ⟨f5, _⟩ | ⟨d', f5, f6, f7⟩
    · cases f5
    · cases f5
      exact f7
  have a3 : ∀ b ob, b ≠ e → b ≠ dx → hp.get? b = some ob → h'.get? b = some ob := fun b ob n1 n2 q => by
    refine hk b ob n1 (fun o0 dx0 z1 z2 => ?_) q
    rw [g1] at z1
    cases z1
    cases z2
    exact n2
  refine ⟨σ, _, ?_, q2⟩
  have nn : ∀ {b}, H2 b = none → b ≠ e ∧ b ≠ dx := fun q => ⟨(fun z => by rw [z, he] at q; cases q), (fun z => by rw [z, hd] at q; cases q)⟩
  have nd : ∀ {b u'}, H2 b = some u' → u' ≠ .xd fs → b ≠ dx := fun q d => ne_of q hd d
  refine I2.un (h' := h') (t' := tk') ⟨fun b o q n _ _ => a3 b o (nn n).1 (nn n).2 q, fun b o q n _ _ => ⟨o.slots, a3 b o (nn n).1 (nn n).2 q⟩, fun b o q n _ => ?_, fun b o q _ => ?_, fun b xs q => ?_, fun b ob u q => ?_, fun b ps q => ⟨#[], ?_⟩⟩ fun b u' q => ?_
  · rw [upd_ne (nn n).2]
    exact n
  · by_cases z : b = e
    · rw [z]
      exact ⟨_, e2⟩
    · by_cases z2 : b = dx
      · rw [z2]
        obtain ⟨oo, _, _, e3, _⟩ := hns'
        exact ⟨oo, e3⟩
      · exact ⟨o, a3 b o z z2 q⟩
  · rw [upd_ne (nd q (by intro z; cases z))]
    exact q
  · rw [upd_ne (nd q (by intro z; cases z))]
    exact q
  · rw [upd_ne (nd q (by intro z; cases z)), q]
    simp
  · by_cases bd : b = dx
    · subst bd
      rw [upd_same] at q
      cases q
      refine ⟨_, hns', fun f => ?_⟩
      rw [lookup_putF]
      by_cases z : f = name
      · rw [if_pos z, if_pos z]
        exact ry
      · rw [if_neg z, if_neg z]
        exact hrel f
    · rw [upd_ne bd] at q
      by_cases be : b = e
      · subst be
        rw [he] at q
        cases q
        exact exF_ok e2 g2
      · refine (I2.hok b u' q).stay (fun c v hc r => ?_) (fun c r => ?_) fun c xs r => ?_
        · rcases hc with z | z
          · subst z
            exact a3 c v be bd r
          · exact a3 c v (ne_of z he (by intro z; cases z)) (ne_of z hd (by intro z; cases z)) r
        · rw [upd_ne (nd r (by intro z; cases z))]
          exact r
        · rw [upd_ne (nd r (by intro z; cases z))]
          exact r
end
/-! ### tuples of the module -/
def intsIn : List Value → List Int → Bool
  | .int i _ :: r, n :: ns => i == n && intsIn r ns
  | [], [] => true
  | _, _ => false
theorem intsIn_vals : ∀ {its : List Value} {ns : List Int}, intsIn its ns = true → Vals (ns.map V.int) its
  | [], [], _ => .nil
  | v :: r, n :: ns, h => by
    unfold intsIn at h
    split at h
    · rename_i e1 e2
      cases e1
      cases e2
      rw [Bool.and_eq_true, beq_iff_eq] at h
      exact .cons ⟨_, by rw [h.1]⟩ (intsIn_vals h.2)
    · rename_i e1 _
      cases e1
    · cases h
  | [], _ :: _, h => by cases h
  | _ :: _, [], h => by
    unfold intsIn at h
    split at h
    · rename_i e1
      cases e1
    · rename_i e1 _
      cases e1
    · cases h
def tupIn (K : PySem.W.Frag) (a : Addr) (ns : List Int) : Bool := match K.lookup a with
  | some ⟨.type "tuple", _, .seq its _, _⟩ => decide (its.size ≤ 1000) && intsIn its.toList ns
  | _ => false
theorem tupIn_at {K : PySem.W.Frag} {a : Addr} {ns : List Int} (h : tupIn K a ns = true) (H : Hp) : SqT K H a (ns.map V.int) := by
  unfold tupIn at h
  split at h
  · rename_i d its n sl e
    rw [Bool.and_eq_true, decide_eq_true_eq] at h
    exact .inr ⟨_, its, n, e, rfl, rfl, Nat.le_trans h.1 (by decide), intsIn_vals h.2⟩
  · cases h
def rowsIn (K : PySem.W.Frag) : List Value → List (List Int) → Bool
  | .ref b :: r, n :: ns => tupIn K b n && rowsIn K r ns
  | [], [] => true
  | _, _ => false
def tupsIn (K : PySem.W.Frag) (a : Addr) (nss : List (List Int)) : Bool := match K.lookup a with
  | some ⟨.type "tuple", _, .seq its _, _⟩ => decide (its.size ≤ 1000) && rowsIn K its.toList nss
  | _ => false
theorem rowsIn_vals {K : PySem.W.Frag} : ∀ {its : List Value} {nss : List (List Int)}, rowsIn K its nss = true → ∃ as : List Addr, Vals (as.map V.ref) its ∧ as.length = nss.length ∧ ∀ (i : Nat) b ns, as[i]? = some b → nss[i]? = some ns → tupIn K b ns = true
  | [], [], _ => ⟨[], .nil, rfl, fun i b ns e => by simp at e⟩
  | v :: r, n :: nss, h => by
    unfold rowsIn at h
    split at h
    · rename_i e1 e2
      cases e1
      cases e2
      rw [Bool.and_eq_true] at h
      obtain ⟨as, h1, h2, h3⟩ := rowsIn_vals h.2
      refine ⟨_ :: as, .cons rfl h1, by rw [List.length_cons, List.length_cons, h2], fun i b ns e1 e2 => ?_⟩
      cases i with
      | zero =>
        simp at e1 e2
        rw [← e1, ← e2]
        exact h.1
      | succ i => exact h3 i b ns (by simpa using e1) (by simpa using e2)
    · rename_i e1 _
      cases e1
    · cases h
  | [], _ :: _, h => by cases h
  | _ :: _, [], h => by
    unfold rowsIn at h
    split at h
    · rename_i e1
      cases e1
    · rename_i e1 _
      cases e1
    · cases h
/-- a global that is a tuple of ints -/
def TupG (K : PySem.W.Frag) (mg : Str → Option Value) (x : Str) (ns : List Int) : Prop := ∃ a, mg x = some (.ref a) ∧ ∀ H : Hp, SqT K H a (ns.map V.int)
/-- .. of tuples of ints -/
def TupsG (K : PySem.W.Frag) (mg : Str → Option Value) (x : Str) (nss : List (List Int)) : Prop :=
  ∃ (a : Addr) (as : List Addr), mg x = some (.ref a) ∧ (∀ H : Hp, SqT K H a (as.map V.ref)) ∧ as.length = nss.length ∧ ∀ (i : Nat) b ns, as[i]? = some b → nss[i]? = some ns → ∀ H : Hp, SqT K H b (ns.map V.int)
theorem tupG_of {K : PySem.W.Frag} {mg : Str → Option Value} {x : Str} {ns : List Int} {a : Addr} (e : mg x = some (.ref a)) (h : tupIn K a ns = true) : TupG K mg x ns := ⟨a, e, tupIn_at h⟩
theorem tupsG_of {K : PySem.W.Frag} {mg : Str → Option Value} {x : Str} {nss : List (List Int)} {a : Addr} (e : mg x = some (.ref a)) (h : tupsIn K a nss = true) : TupsG K mg x nss := by
  unfold tupsIn at h
  split at h
  · rename_i d its n sl e1
    rw [Bool.and_eq_true, decide_eq_true_eq] at h
    obtain ⟨as, h1, h2, h3⟩ := rowsIn_vals h.2
    exact ⟨a, as, e, fun H => .inr ⟨_, its, n, e1, rfl, rfl, Nat.le_trans h.1 (by decide), h1⟩, h2, fun i b ns q1 q2 H => tupIn_at (h3 i b ns q1 q2) H⟩
  · cases h
/-! ### ints in tuples compared -/
theorem dp_ints {K : PySem.W.Frag} {H : Hp} : ∀ ns : List Int, DpAll K H (ns.map V.int) (ns.map PyData.int)
  | [] => .nil
  | n :: ns => .cons (.int n) (dp_ints ns)
theorem shaped_ints (ns : List Int) : SeqAt.shaped (.tuple (ns.map PyData.int)) = true := by
  have h1 : ∀ ns : List Int, PyData.canLayAll0 (ns.map PyData.int) = true := fun ns => by
    induction ns with
    | nil => rw [List.map_nil, PyData.canLayAll0]
    | cons n ns ih => rw [List.map_cons, PyData.canLayAll0, ih, PyData.canLay0]; rfl
  have h2 : ∀ ns : List Int, PyData.depthAll (ns.map PyData.int) = 0 := fun ns => by
    induction ns with
    | nil => rw [List.map_nil, PyData.depthAll]
    | cons n ns ih => rw [List.map_cons, PyData.depthAll, ih, PyData.depth]; rfl
  unfold SeqAt.shaped
  rw [PyData.canLay0, h1, PyData.depth, h2]
  rfl
theorem eqv_ints (ns ms : List Int) : PyData.eqv (.tuple (ns.map PyData.int)) (.tuple (ms.map PyData.int)) = decide (ns = ms) := by
  rw [PyData.eqv]
  exact PySem.W.ked_eqvAll ns ms
/-! ### loops: enumerate of a list, zip of two lists, the signs of a text -/
theorem for_enum {K : PySem.W.Frag} {a : Addr} {xs : List V} {g : TG} {tb : TS} {D : Ends} {σ : St} {H : Hp} (Pv : Nat → St → Hp → Prop) (h0 : Pv 0 σ H) (hl : ∀ i σ H, i ≤ xs.length → Pv i σ H → SqL K H a xs)
    (hs : ∀ i x σ H T, xs[i]? = some x → H T = none → Pv i σ H → g (.ref T) σ (upd H T (.tup [.int (i : Int), x])) fun σ2 H2 => tb { D with nx := Pv (i + 1), ct := Pv (i + 1), bk := D.nx } σ2 H2) (hd : ∀ σ H, Pv xs.length σ H → D.nx σ H) :
    ∃ W : Nat → Nat → St → Hp → Prop, (∃ m, W 0 m σ H) ∧ ∀ i m σ H, W i m σ H →
      ((Ite K a).stop i H ∧ D.nx σ H) ∨ ((Ite K a).go i H ∧ ∃ N : St → Hp → Prop, (∀ σ' H', N σ' H' → ∃ m', m' < m ∧ W (i + 1) m' σ' H') ∧ ∀ x H', (Ite K a).yld i H x H' → g x σ H' fun σ2 H2 => tb { D with nx := N, ct := N, bk := D.nx } σ2 H2) := by
  refine ⟨fun i m σ H => m = xs.length - i ∧ i ≤ xs.length ∧ Pv i σ H, ⟨xs.length, by simp, Nat.zero_le _, h0⟩, ?_⟩
  rintro i m σ H ⟨rfl, hi, p⟩
  have q := hl i σ H hi p
  by_cases hlt : i < xs.length
  · refine .inr ⟨⟨xs, xs[i], q, by simp [hlt]⟩, Pv (i + 1), fun σ' H' p' => ⟨xs.length - (i + 1), by omega, rfl, hlt, p'⟩, fun x H' y => ?_⟩
    obtain ⟨T, x', e1, e2, e3, e4⟩ := y
    subst e1 e3
    exact hs i x' σ _ T (e4 xs q) e2 p
  · have e : i = xs.length := by omega
    subst e
    exact .inl ⟨⟨xs, q, Nat.le_refl _⟩, hd σ H p⟩
theorem get_list {X : Cx} : PGet X (rIxL X.K) := by
  intro pins s σ H x y v u Q I rx ry h
  obtain ⟨p, xs, i, z, rfl, rfl, hq, he, q⟩ := h
  cases rx
  obtain ⟨t, rfl⟩ := ry
  obtain ⟨its, r, pl, hz⟩ := I.list hq
  obtain ⟨j, h1, h2, h3, h4, h5⟩ := atI_get he
  obtain ⟨w, ew, rw'⟩ := r.get h2
  have hl := r.length
  have hn := line63
  have fin : EP X pins σ Q w s := ⟨z, H, I, rw', q⟩
  by_cases h0 : 0 ≤ i
  · have hj : i.toNat = j := by
      rw [seqIndex_of h0 h5] at h1
      exact Option.some.inj h1
    exact wpAny_getItem_list pl.isList h0 (by omega) (by rw [hj]; simpa using ew) fin
  · have hj : (i + (its.toArray.size : Int)).toNat = j := by
      rw [seqIndex_neg (by omega) h4] at h1
      rw [List.size_toArray, ← hl]
      exact Option.some.inj h1
    exact wpAny_getItem_list_neg pl.isList (by omega) (by rw [List.size_toArray] <;> omega) (by omega) (by rw [hj]; simpa using ew) fin
/-! ### list(d.values()) -/
section
variable {X : Cx}
end
end L2

end

section
set_option Elab.async false
/-! The mathematics of reading a mesh's text: the program's reading against the specification's. Plain Lean. -/
namespace MM
open Bead

/-! ### a number, figure by figure -/
/-! ### a line, number by number -/
/-! ### bytes by places -/
/-! ### the lines of a mesh -/
/-! ### reading goes forward -/
end MM

end

section
set_option Elab.async false
/-! What holds of a mesh that has been read; the first open side by counting. Plain Lean. -/
namespace MM
open Bead

/-! ### least and most -/
/-! ### sides -/
end MM

end

section
set_option Elab.async false
set_option linter.all false
/-! What the specification's spread leads to: the cells that are reached. Plain Lean. -/
namespace FM
open Bead

/-- marked -/
def Mk (s : Array Bool) (j : Nat) : Prop := s.getD j false = true
instance decMk (s : Array Bool) (j : Nat) : Decidable (Mk s j) := inferInstanceAs (Decidable (_ = true))
theorem Mk.lt {s : Array Bool} {j : Nat} (h : Mk s j) : j < s.size := by
  unfold Mk at h
  by_cases z : j < s.size
  · exact z
  · rw [Array.getD_eq_getD_getElem?, Array.getElem?_eq_none (by omega)] at h
    cases h
theorem unmarked {s : Array Bool} {j : Nat} : s.getD j true = false ↔ j < s.size ∧ ¬ Mk s j := by
  unfold Mk
  by_cases z : j < s.size
  · rw [Array.getD_eq_getD_getElem?, Array.getD_eq_getD_getElem?, Array.getElem?_eq_getElem z]
    simp [z]
  · rw [Array.getD_eq_getD_getElem?, Array.getElem?_eq_none (by omega)]
    simp [z]
theorem mk_set {s : Array Bool} {i j : Nat} : Mk (s.setIfInBounds i true) j ↔ Mk s j ∨ (j = i ∧ i < s.size) := by
  unfold Mk
  rw [Array.getD_eq_getD_getElem?, Array.getD_eq_getD_getElem?, Array.getElem?_setIfInBounds]
  by_cases e : i = j
  · subst e
    by_cases z : i < s.size
    · simp [z]
    · simp [z]
  · rw [if_neg e]
    constructor
    · intro h
      exact .inl h
    · rintro (h | ⟨h, _⟩)
      · exact h
      · exact absurd h.symm e
/-- one candidate -/
def st (ok : Nat → Bool) (z : List Nat × Array Bool) (j : Nat) : List Nat × Array Bool := if ok j = true ∧ z.2.getD j true = false then (j :: z.1, z.2.setIfInBounds j true) else z
/-- what some candidates do -/
structure Did (ok : Nat → Bool) (L : List Nat) (z z' : List Nat × Array Bool) : Prop where
  size : z'.2.size = z.2.size
  up : ∀ j, Mk z.2 j → Mk z'.2 j
  only : ∀ j, Mk z'.2 j → Mk z.2 j ∨ (j ∈ L ∧ ok j = true)
  all : ∀ j ∈ L, ok j = true → j < z.2.size → Mk z'.2 j
  new : ∀ j, Mk z'.2 j → Mk z.2 j ∨ j ∈ z'.1
  kept : ∀ j ∈ z.1, j ∈ z'.1
  from_ : ∀ j ∈ z'.1, j ∈ z.1 ∨ (Mk z'.2 j ∧ ¬ Mk z.2 j)
theorem did (ok : Nat → Bool) : ∀ (L : List Nat) (z : List Nat × Array Bool), Did ok L z (L.foldl (st ok) z)
  | [], z => ⟨rfl, fun _ h => h, fun _ h => .inl h, (fun j hj => by cases hj), fun _ h => .inl h, fun _ h => h, fun _ h => .inl h⟩
  | j :: L, z => by
    rw [List.foldl_cons]
    have ih := did ok L (st ok z j)
    unfold st at ih ⊢
    by_cases c : ok j = true ∧ z.2.getD j true = false
    · rw [if_pos c] at ih ⊢
      obtain ⟨hl, hm⟩ := unmarked.mp c.2
      have up1 : ∀ i, Mk z.2 i → Mk (z.2.setIfInBounds j true) i := fun i h => mk_set.mpr (.inl h)
      have self : Mk (z.2.setIfInBounds j true) j := mk_set.mpr (.inr ⟨rfl, hl⟩)
      refine ⟨ih.size.trans (Array.size_setIfInBounds ..), fun i h => ih.up i (up1 i h), fun i h => ?_, fun i hi ho hs => ?_, fun i h => ?_, fun i h => ih.kept i (List.mem_cons_of_mem _ h), fun i h => ?_⟩
      · rcases ih.only i h with h | ⟨h1, h2⟩
        · rcases mk_set.mp h with h | ⟨h, _⟩
          · exact .inl h
          · rw [h]
            exact .inr ⟨List.mem_cons_self, c.1⟩
        · exact .inr ⟨List.mem_cons_of_mem _ h1, h2⟩
      · rcases List.mem_cons.mp hi with e | hi
        · rw [e]
          exact ih.up j self
        · exact ih.all i hi ho (by rw [Array.size_setIfInBounds]; exact hs)
      · rcases ih.new i h with h | h
        · rcases mk_set.mp h with h | ⟨h, _⟩
          · exact .inl h
          · rw [h]
            exact .inr (ih.kept j List.mem_cons_self)
        · exact .inr h
      · rcases ih.from_ i h with h | ⟨h1, h2⟩
        · rcases List.mem_cons.mp h with e | h
          · rw [e]
            exact .inr ⟨ih.up j self, hm⟩
          · exact .inl h
        · exact .inr ⟨h1, fun z => h2 (up1 i z)⟩
    · rw [if_neg c] at ih ⊢
      refine ⟨ih.size, ih.up, fun i h => ?_, fun i hi ho hs => ?_, ih.new, ih.kept, ih.from_⟩
      · rcases ih.only i h with h | ⟨h1, h2⟩
        · exact .inl h
        · exact .inr ⟨List.mem_cons_of_mem _ h1, h2⟩
      · rcases List.mem_cons.mp hi with e | hi
        · rw [e] at ho hs ⊢
          refine ih.up j ?_
          by_cases m : Mk z.2 j
          · exact m
          · exact absurd ⟨ho, unmarked.mpr ⟨hs, m⟩⟩ c
        · exact ih.all i hi ho hs

/-- the cells that steps over ok cells lead to, from those of S on -/
inductive Reach (g : Grid) (ok : Nat → Bool) (S : Nat → Prop) : Nat → Prop where
  | base {i : Nat} : S i → Reach g ok S i
  | step {i j : Nat} : Reach g ok S i → j ∈ g.neighbours i → ok j = true → Reach g ok S j

/-! ### neighbours -/
theorem count_pos_dims {g : Grid} {i : Nat} (h : i < g.count) : 0 < g.wide ∧ 0 < g.deep ∧ 0 < g.high := by
  unfold Grid.count at h
  refine ⟨?_, ?_, ?_⟩
  · rcases Nat.eq_zero_or_pos g.wide with z | z
    · rw [z] at h; simp at h
    · exact z
  · rcases Nat.eq_zero_or_pos g.deep with z | z
    · rw [z] at h; simp at h
    · exact z
  · rcases Nat.eq_zero_or_pos g.high with z | z
    · rw [z] at h; simp at h
    · exact z
theorem col_lt {g : Grid} {i : Nat} (h : i < g.count) : g.colOf i < g.wide := Nat.mod_lt _ (count_pos_dims h).1
theorem row_lt {g : Grid} {i : Nat} (h : i < g.count) : g.rowOf i < g.deep := Nat.mod_lt _ (count_pos_dims h).2.1
theorem layer_lt {g : Grid} {i : Nat} (h : i < g.count) : g.layerOf i < g.high := by
  unfold Grid.layerOf
  have p := count_pos_dims h
  rw [Nat.div_div_eq_div_mul]
  refine Nat.div_lt_of_lt_mul ?_
  have : g.wide * g.deep * g.high = g.count := rfl
  rw [this]
  exact h
theorem num_lt {g : Grid} {x y z : Nat} (hx : x < g.wide) (hy : y < g.deep) (hz : z < g.high) : g.num x y z < g.count := by
  unfold Grid.num Grid.count
  have h1 : z * g.deep + y + 1 ≤ g.high * g.deep := by
    have : z * g.deep + g.deep ≤ g.high * g.deep := by
      rw [← Nat.succ_mul]
      exact Nat.mul_le_mul_right _ hz
    omega
  have h2 : (z * g.deep + y + 1) * g.wide ≤ g.high * g.deep * g.wide := Nat.mul_le_mul_right _ h1
  rw [Nat.succ_mul] at h2
  have h3 : g.high * g.deep * g.wide = g.wide * g.deep * g.high := by
    rw [Nat.mul_comm (g.high * g.deep), Nat.mul_comm g.high, Nat.mul_assoc]
  omega
theorem nb_lt {g : Grid} {i j : Nat} (hi : i < g.count) (h : j ∈ g.neighbours i) : j < g.count := by
  have h1 := col_lt hi
  have h2 := row_lt hi
  have h3 := layer_lt hi
  unfold Grid.neighbours at h
  simp only [List.mem_append] at h
  rcases h with h | h | h | h | h | h <;> split at h <;> simp only [List.mem_cons, List.not_mem_nil, or_false] at h <;> rw [h] <;> apply num_lt <;> omega

/-! ### the rounds -/
def marks (s : Array Bool) : Nat := (List.range s.size).countP fun j => decide (Mk s j)
theorem countP_lt {p q : Nat → Bool} {l : List Nat} (h : ∀ x ∈ l, p x = true → q x = true) {a : Nat} (ha : a ∈ l) (h1 : p a = false) (h2 : q a = true) : l.countP p < l.countP q := by
  induction l with
  | nil => cases ha
  | cons x l ih =>
    have le : l.countP p ≤ l.countP q := List.countP_mono_left fun y hy => h y (List.mem_cons_of_mem _ hy)
    rw [List.countP_cons, List.countP_cons]
    rcases List.mem_cons.mp ha with e | ha
    · subst e
      simp only [h1, h2, Bool.false_eq_true, if_false, if_true]
      omega
    · have lt := ih (fun y hy => h y (List.mem_cons_of_mem _ hy)) ha
      by_cases hx : p x = true
      · rw [if_pos hx, if_pos (h x List.mem_cons_self hx)]
        omega
      · rw [if_neg hx]
        split <;> omega
theorem marks_le (s : Array Bool) : marks s ≤ s.size := by
  unfold marks
  exact Nat.le_trans (List.countP_le_length) (by rw [List.length_range]; exact Nat.le_refl _)
theorem marks_lt {s s' : Array Bool} (hs : s'.size = s.size) (up : ∀ j, Mk s j → Mk s' j) {a : Nat} (h1 : Mk s' a) (h2 : ¬ Mk s a) : marks s < marks s' := by
  unfold marks
  rw [hs]
  refine countP_lt (fun x _ h => ?_) (a := a) (List.mem_range.mpr (hs ▸ h1.lt)) (by simp [h2]) (by simp [h1])
  simp only [decide_eq_true_eq] at h ⊢
  exact up x h
/-- what is marked is reached; behind the front l all is closed -/
structure Front (g : Grid) (ok : Nat → Bool) (S : Nat → Prop) (l : List Nat) (s : Array Bool) : Prop where
  size : s.size = g.count
  sound : ∀ j, Mk s j → Reach g ok S j
  start : ∀ j, S j → j < g.count → Mk s j
  front : ∀ j ∈ l, Mk s j
  closed : ∀ i j, Mk s i → i ∉ l → j ∈ g.neighbours i → ok j = true → Mk s j
theorem fold_flat {α : Type} (g : Nat → List Nat) (f : α → Nat → α) : ∀ (l : List Nat) (z : α), l.foldl (fun z i => (g i).foldl f z) z = (l.flatMap g).foldl f z
  | [], _ => rfl
  | i :: l, z => by
    rw [List.foldl_cons, List.flatMap_cons, List.foldl_append, fold_flat g f l]
theorem flood_done (g : Grid) (ok : Nat → Bool) (S : Nat → Prop) : ∀ (f : Nat) (l : List Nat) (s : Array Bool), Front g ok S l s → g.count < f + marks s → Front g ok S [] (g.flood ok f l s)
  | 0, l, s, F, h => by
    have := marks_le s
    rw [F.size] at this
    omega
  | f + 1, l, s, F, h => by
    have e : g.flood ok (f + 1) l s = (let x := (l.flatMap g.neighbours).foldl (st ok) ([], s); if x.1 = [] then x.2 else g.flood ok f x.1 x.2) := by
      show (let x := l.foldl (fun (z : List Nat × Array Bool) (i : Nat) => (g.neighbours i).foldl (st ok) z) ([], s); if x.1 = [] then x.2 else g.flood ok f x.1 x.2) = _
      rw [fold_flat]
    rw [e]
    have D := did ok (l.flatMap g.neighbours) ([], s)
    generalize (l.flatMap g.neighbours).foldl (st ok) ([], s) = x at D
    dsimp only
    have F' : Front g ok S x.1 x.2 := by
      refine ⟨D.size.trans F.size, fun j hj => ?_, fun j h1 h2 => D.up j (F.start j h1 h2), fun j hj => ?_, fun i j hi hn hj ho => ?_⟩
      · rcases D.only j hj with hj | ⟨hj, ho⟩
        · exact F.sound j hj
        · obtain ⟨i, hi, hij⟩ := List.mem_flatMap.mp hj
          exact .step (F.sound i (F.front i hi)) hij ho
      · rcases D.from_ j hj with hj | hj
        · cases hj
        · exact hj.1
      · have hi' : Mk s i := (D.new i hi).resolve_right hn
        have hji : j < g.count := nb_lt (F.size ▸ hi'.lt) hj
        by_cases hl : i ∈ l
        · exact D.all j (List.mem_flatMap.mpr ⟨i, hl, hj⟩) ho (by rw [F.size]; exact hji)
        · exact D.up j (F.closed i j hi' hl hj ho)
    by_cases z : x.1 = []
    · rw [if_pos z]
      rw [z] at F'
      exact F'
    · rw [if_neg z]
      obtain ⟨a, ha⟩ : ∃ a, a ∈ x.1 := List.exists_mem_of_ne_nil _ z
      have hn : Mk x.2 a ∧ ¬ Mk s a := (D.from_ a ha).resolve_left (by intro q; cases q)
      refine flood_done g ok S f x.1 x.2 F' ?_
      have q : marks s < marks x.2 := marks_lt D.size D.up hn.1 hn.2
      omega
theorem start_marks : ∀ (l : List Nat) (s : Array Bool), (l.foldl (fun (s : Array Bool) (i : Nat) => s.setIfInBounds i true) s).size = s.size ∧ ∀ j, Mk (l.foldl (fun (s : Array Bool) (i : Nat) => s.setIfInBounds i true) s) j ↔ Mk s j ∨ (j ∈ l ∧ j < s.size)
  | [], s => ⟨rfl, fun j => by simp⟩
  | i :: l, s => by
    obtain ⟨h1, h2⟩ := start_marks l (s.setIfInBounds i true)
    rw [List.foldl_cons]
    rw [Array.size_setIfInBounds] at h1 h2
    refine ⟨h1, fun j => ?_⟩
    rw [h2 j, mk_set]
    constructor
    · rintro ((h | ⟨h, hl⟩) | ⟨h, hl⟩)
      · exact .inl h
      · rw [h]
        exact .inr ⟨List.mem_cons_self, hl⟩
      · exact .inr ⟨List.mem_cons_of_mem _ h, hl⟩
    · rintro (h | ⟨h, hl⟩)
      · exact .inl (.inl h)
      · rcases List.mem_cons.mp h with h | h
        · rw [h] at hl ⊢
          exact .inl (.inr ⟨rfl, hl⟩)
        · exact .inr ⟨h, hl⟩
theorem none_marked (n j : Nat) : ¬ Mk ((List.replicate n false).toArray) j := by
  unfold Mk
  rw [Array.getD_eq_getD_getElem?, List.getElem?_toArray, List.getElem?_replicate]
  split <;> simp
/-- THE SPREAD: what is reached -/
theorem spread_iff (g : Grid) (ok : Nat → Bool) (l : List Nat) (hl : ∀ i ∈ l, i < g.count) (j : Nat) : Mk (g.spread ok l) j ↔ Reach g ok (· ∈ l) j := by
  obtain ⟨h1, h2⟩ := start_marks l ((List.replicate g.count false).toArray)
  have sz : ((List.replicate g.count false).toArray).size = g.count := by simp
  have F0 : Front g ok (· ∈ l) l (l.foldl (fun (s : Array Bool) (i : Nat) => s.setIfInBounds i true) ((List.replicate g.count false).toArray)) := by
    refine ⟨h1.trans sz, fun j hj => ?_, fun j hj hc => (h2 j).mpr (.inr ⟨hj, sz.symm ▸ hc⟩), fun j hj => (h2 j).mpr (.inr ⟨hj, sz.symm ▸ hl j hj⟩), fun i j hi hn => ?_⟩
    · rcases (h2 j).mp hj with h | h
      · exact absurd h (none_marked _ _)
      · exact .base h.1
    · rcases (h2 i).mp hi with h | h
      · exact absurd h (none_marked _ _)
      · exact absurd h.1 hn
  have F := flood_done g ok (· ∈ l) (g.count + 1) _ _ F0 (by omega)
  constructor
  · exact F.sound j
  · intro r
    induction r with
    | base h => exact F.start _ h (hl _ h)
    | step _ hn ho ih => exact F.closed _ _ ih (by intro z; cases z) hn ho
end FM

end

section
set_option Elab.async false
set_option linter.all false
/-! Pieces by their least cells. Plain Lean. -/
namespace FM
open Bead

/-! ### from one cell to another -/
abbrev To (g : Grid) (ok : Nat → Bool) (i j : Nat) : Prop := Reach g ok (· ∈ [i]) j
theorem To.refl {g : Grid} {ok : Nat → Bool} (i : Nat) : To g ok i i := .base (List.mem_singleton.mpr rfl)
/-! ### pieces -/
end FM

end

section
set_option Elab.async false
set_option linter.all false
/-! A body's bytes, judged and told. Plain Lean. -/
namespace BM
open Bead

theorem bits_len (b : Bytes) : (bitsOf b).length = 8 * b.length := by
  unfold bitsOf
  induction b with
  | nil => rfl
  | cons c b ih =>
    rw [List.flatMap_cons, List.length_append, ih, List.length_map, List.length_range, List.length_cons]
    omega
theorem bits_at : ∀ (b : Bytes) (i : Nat), i < 8 * b.length → (bitsOf b)[i]? = some ((b.getD (i / 8) 0).toNat.testBit (i % 8))
  | [], i, h => by simp at h
  | c :: b, i, h => by
    have e : bitsOf (c :: b) = (List.range 8).map (fun (i : Nat) => c.toNat.testBit i) ++ bitsOf b := by
      unfold bitsOf
      rw [List.flatMap_cons]
    rw [e]
    by_cases hi : i < 8
    · rw [List.getElem?_append_left (by simpa using hi), List.getElem?_map, List.getElem?_range hi, Nat.div_eq_of_lt hi, Nat.mod_eq_of_lt hi]
      rfl
    · rw [List.getElem?_append_right (by simpa using hi), List.length_map, List.length_range, bits_at b (i - 8) (by rw [List.length_cons] at h; omega)]
      obtain ⟨k, rfl⟩ : ∃ k, i = k + 8 := ⟨i - 8, by omega⟩
      rw [Nat.add_sub_cancel, Nat.add_div_right _ (by omega), Nat.add_mod_right]
      rfl
/-- a body read from bytes -/
structure Good (b : Bytes) (B : Body) : Prop where
  grid : B.grid = gridAt b
  w1 : 1 ≤ B.grid.wide
  w2 : B.grid.wide ≤ 12
  d1 : 1 ≤ B.grid.deep
  d2 : B.grid.deep ≤ 12
  h1 : 1 ≤ B.grid.high
  h2 : B.grid.high ≤ 12
  len : b.length = 7 + (B.grid.count + 7) / 8
  size : B.cells.size = B.grid.count
  at_ : ∀ i, i < B.grid.count → B.of_ i = (b.getD (7 + i / 8) 0).toNat.testBit (i % 8)
theorem grid_none {g : Grid} (h : gridFault g = none) : 1 ≤ g.wide ∧ g.wide ≤ 12 ∧ 1 ≤ g.deep ∧ g.deep ≤ 12 ∧ 1 ≤ g.high ∧ g.high ≤ 12 := by
  unfold gridFault SIDE at h
  split at h
  · cases h
  · split at h
    · cases h
    · split at h
      · cases h
      · omega
theorem getD_drop (b : Bytes) (n i : Nat) : (b.drop n).getD i 0 = b.getD (n + i) 0 := by
  rw [List.getD_eq_getElem?_getD, List.getD_eq_getElem?_getD, List.getElem?_drop]
theorem judge_good {b : Bytes} {B : Body} (h : judgeBody b = .ok B) : Good b B := by
  unfold judgeBody at h
  split at h
  · cases h
  · rename_i h0
    cases hg : gridFault (gridAt b) with
    | some p =>
      rw [hg] at h
      cases h
    | none =>
      rw [hg] at h
      dsimp only at h
      split at h
      · cases h
      · rename_i hl
        split at h
        · cases h
        · rename_i hb
          have hl' : b.length = 7 + ((gridAt b).count + 7) / 8 := Decidable.not_not.mp hl
          have e : B = ⟨gridAt b, ((bitsOf (b.drop 7)).take (gridAt b).count).toArray⟩ := by
            injection h with h
            exact h.symm
          subst e
          obtain ⟨a1, a2, a3, a4, a5, a6⟩ := grid_none hg
          have ld : (b.drop 7).length = ((gridAt b).count + 7) / 8 := by
            rw [List.length_drop]
            omega
          refine ⟨rfl, a1, a2, a3, a4, a5, a6, hl', ?_, fun i hi => ?_⟩
          · show ((bitsOf (b.drop 7)).take (gridAt b).count).toArray.size = (gridAt b).count
            rw [List.size_toArray, List.length_take, bits_len, ld]
            omega
          · have hi' : i < (gridAt b).count := hi
            show ((bitsOf (b.drop 7)).take (gridAt b).count).toArray.getD i false = _
            rw [Array.getD_eq_getD_getElem?, List.getElem?_toArray, List.getElem?_take, if_pos hi', bits_at _ _ (by rw [ld]; omega), getD_drop]
            rfl
/-- bits' worth -/
def worth : List Bool → Nat := fun l => l.foldr (fun (x : Bool) (n : Nat) => 2 * n + (if x = true then 1 else 0)) 0
theorem worth_cons (x : Bool) (l : List Bool) : worth (x :: l) = 2 * worth l + (if x = true then 1 else 0) := rfl
theorem worth_lt : ∀ l : List Bool, worth l < 2 ^ l.length
  | [] => by decide
  | x :: l => by
    have ih := worth_lt l
    rw [worth_cons, List.length_cons, Nat.pow_succ]
    split <;> omega
theorem byte_worth {l : List Bool} (h : l.length ≤ 8) : (bitsByte l).toNat = worth l := by
  have h1 := worth_lt l
  have h2 : 2 ^ l.length ≤ 2 ^ 8 := Nat.pow_le_pow_right (by decide) h
  show (UInt8.ofNat (worth l)).toNat = worth l
  exact UInt8.toNat_ofNat_of_lt' (by show worth l < 256; omega)
theorem worth_snoc : ∀ (l : List Bool) (x : Bool), worth (l ++ [x]) = worth l + (if x = true then 2 ^ l.length else 0)
  | [], x => by cases x <;> rfl
  | y :: l, x => by
    rw [List.cons_append, worth_cons, worth_cons, worth_snoc l x, List.length_cons, Nat.pow_succ]
    cases x
    · simp only [Bool.false_eq_true, if_false]
      omega
    · simp only [if_true]
      omega
theorem bytes_len (l : List Bool) : (bitsBytes l).length = (l.length + 7) / 8 := by
  unfold bitsBytes
  rw [List.length_map, List.length_range]
/-! ### filled -/
theorem filled_at (B : Body) {i : Nat} (h : i < B.grid.count) : B.filled.of_ i = true ↔ ¬ FM.Reach B.grid (fun i => !B.of_ i) (fun k => k < B.grid.count ∧ B.of_ k = false ∧ B.grid.edge k = true) i := by
  have e : B.filled.of_ i = !(B.grid.spread (fun (i : Nat) => !B.of_ i) ((List.range B.grid.count).filter fun (i : Nat) => !B.of_ i && B.grid.edge i)).getD i false := by
    show ((List.range B.grid.count).map _).toArray.getD i false = _
    rw [Array.getD_eq_getD_getElem?, List.getElem?_toArray, List.getElem?_map, List.getElem?_range h]
    rfl
  have s := FM.spread_iff B.grid (fun (i : Nat) => !B.of_ i) ((List.range B.grid.count).filter fun (i : Nat) => !B.of_ i && B.grid.edge i) (fun k hk => List.mem_range.mp (List.mem_filter.mp hk).1) i
  have m : (fun k => k ∈ (List.range B.grid.count).filter fun (i : Nat) => !B.of_ i && B.grid.edge i) = fun k => k < B.grid.count ∧ B.of_ k = false ∧ B.grid.edge k = true := by
    funext k
    rw [List.mem_filter, List.mem_range, Bool.and_eq_true, Bool.not_eq_true']
  rw [m] at s
  rw [e, ← s]
  show (!_) = true ↔ ¬ (_ = true)
  cases (B.grid.spread (fun (i : Nat) => !B.of_ i) ((List.range B.grid.count).filter fun (i : Nat) => !B.of_ i && B.grid.edge i)).getD i false <;> simp
end BM

end

section
set_option Elab.async false
set_option linter.all false
/-! Near by q: grown and shrunk; numbers in tens. Plain Lean. -/
namespace BM
open Bead

/-! ### numbers in tens -/
end BM

end

section
set_option Elab.async false
set_option linter.all false
/-! A body's bytes as the program reads and packs them. Plain Lean. -/
namespace BM
open Bead

def sideB (n : Nat) : Bool := decide (1 ≤ n) && decide (n ≤ 12)
theorem fault_at {b : Bytes} {i : Nat} (hi : i < 3) (h : ∀ j, j < i → sideB (b.getD (4 + j) 0).toNat = true) (hn : sideB (b.getD (4 + i) 0).toNat = false) : gridFault (gridAt b) = some (4 + i) := by
  unfold gridFault gridAt SIDE
  dsimp only
  match i, hi with
  | 0, _ =>
    have hn' : sideB (b.getD 4 0).toNat = false := hn
    unfold sideB at hn'
    rw [Bool.and_eq_false_iff, decide_eq_false_iff_not, decide_eq_false_iff_not] at hn'
    rw [if_pos (by omega)]
  | 1, _ =>
    have h0 : sideB (b.getD 4 0).toNat = true := h 0 (by omega)
    have hn' : sideB (b.getD 5 0).toNat = false := hn
    unfold sideB at hn' h0
    rw [Bool.and_eq_false_iff, decide_eq_false_iff_not, decide_eq_false_iff_not] at hn'
    rw [Bool.and_eq_true, decide_eq_true_eq, decide_eq_true_eq] at h0
    rw [if_neg (by omega), if_pos (by omega)]
  | 2, _ =>
    have h0 : sideB (b.getD 4 0).toNat = true := h 0 (by omega)
    have h1 : sideB (b.getD 5 0).toNat = true := h 1 (by omega)
    have hn' : sideB (b.getD 6 0).toNat = false := hn
    unfold sideB at hn' h0 h1
    rw [Bool.and_eq_false_iff, decide_eq_false_iff_not, decide_eq_false_iff_not] at hn'
    rw [Bool.and_eq_true, decide_eq_true_eq, decide_eq_true_eq] at h0 h1
    rw [if_neg (by omega), if_neg (by omega), if_pos (by omega)]
theorem fault_none {b : Bytes} (h : ∀ j, j < 3 → sideB (b.getD (4 + j) 0).toNat = true) : gridFault (gridAt b) = none := by
  unfold gridFault gridAt SIDE
  dsimp only
  have h0 : sideB (b.getD 4 0).toNat = true := h 0 (by omega)
  have h1 : sideB (b.getD 5 0).toNat = true := h 1 (by omega)
  have h2 : sideB (b.getD 6 0).toNat = true := h 2 (by omega)
  unfold sideB at h0 h1 h2
  rw [Bool.and_eq_true, decide_eq_true_eq, decide_eq_true_eq] at h0 h1 h2
  rw [if_neg (by omega), if_neg (by omega), if_neg (by omega)]
/-- the grid that bytes begin with -/
def readGrid (b : Bytes) : Except Fault Grid := if b.length < 7 ∨ b.take 4 ≠ BODY then .error (1, 0) else match gridFault (gridAt b) with
  | some p => .error (2, p)
  | none => if b.length ≠ 7 + ((gridAt b).count + 7) / 8 then .error (1, 4) else .ok (gridAt b)
theorem judge_split (b : Bytes) : judgeBody b = match readGrid b with
    | .error e => .error e
    | .ok g => if ((bitsOf (b.drop 7)).drop g.count).any (fun x => x) = true then .error (3, b.length - 1) else .ok ⟨g, ((bitsOf (b.drop 7)).take g.count).toArray⟩ := by
  unfold judgeBody readGrid
  split
  · rfl
  · cases gridFault (gridAt b) with
    | some p => rfl
    | none =>
      dsimp only
      split <;> rfl
structure GridOk (g : Grid) : Prop where
  w1 : 1 ≤ g.wide
  w2 : g.wide ≤ 12
  d1 : 1 ≤ g.deep
  d2 : g.deep ≤ 12
  h1 : 1 ≤ g.high
  h2 : g.high ≤ 12
theorem GridOk.count {g : Grid} (h : GridOk g) : g.count ≤ 1728 := by
  unfold Grid.count
  have a : g.wide * g.deep ≤ 12 * 12 := Nat.mul_le_mul h.w2 h.d2
  have b : g.wide * g.deep * g.high ≤ 12 * 12 * 12 := Nat.mul_le_mul a h.h2
  omega
theorem read_grid_ok {b : Bytes} {g : Grid} (h : readGrid b = .ok g) : GridOk g ∧ b.length = 7 + (g.count + 7) / 8 := by
  unfold readGrid at h
  split at h
  · cases h
  · cases hg : gridFault (gridAt b) with
    | some p =>
      rw [hg] at h
      cases h
    | none =>
      rw [hg] at h
      dsimp only at h
      split at h
      · cases h
      · rename_i hl
        cases h
        obtain ⟨a1, a2, a3, a4, a5, a6⟩ := grid_none hg
        exact ⟨⟨a1, a2, a3, a4, a5, a6⟩, Decidable.not_not.mp hl⟩
theorem Good.ok {b : Bytes} {B : Body} (h : Good b B) : GridOk B.grid := ⟨h.w1, h.w2, h.d1, h.d2, h.h1, h.h2⟩
/-- a cell's mark -/
def mI (b : Bool) : Int := if b = true then 1 else 0
theorem bit_int (n k : Nat) : ((n : Int) / 2 ^ k) % 2 = mI (n.testBit k) := by
  have e : ((n : Int) / 2 ^ k) % 2 = ((n / 2 ^ k % 2 : Nat) : Int) := by
    rw [Int.natCast_emod, Int.natCast_ediv, Int.natCast_pow]
    rfl
  rw [e, Nat.testBit_eq_decide_div_mod_eq]
  unfold mI
  rcases Nat.mod_two_eq_zero_or_one (n / 2 ^ k) with h | h
  · rw [h]
    rfl
  · rw [h]
    rfl
/-! ### packed -/
def pk (l : List Bool) (i : Nat) : List Nat := (List.range ((l.length + 7) / 8)).map fun k => worth (((l.take i).drop (8 * k)).take 8)
theorem pk_len (l : List Bool) (i : Nat) : (pk l i).length = (l.length + 7) / 8 := by
  unfold pk
  rw [List.length_map, List.length_range]
theorem pk_zero (l : List Bool) : pk l 0 = List.replicate ((l.length + 7) / 8) 0 := by
  rw [List.eq_replicate_iff]
  refine ⟨pk_len l 0, fun x hx => ?_⟩
  obtain ⟨k, _, rfl⟩ := List.mem_map.mp hx
  rw [List.take_zero, List.drop_nil, List.take_nil]
  rfl
theorem pk_at {l : List Bool} {i k : Nat} (h : k < (l.length + 7) / 8) : (pk l i)[k]? = some (worth (((l.take i).drop (8 * k)).take 8)) := by
  unfold pk
  rw [List.getElem?_map, List.getElem?_range h]
  rfl
theorem pk_step {l : List Bool} {i : Nat} {b : Bool} (h : l[i]? = some b) : ∃ v, (pk l i)[i / 8]? = some v ∧ pk l (i + 1) = (pk l i).set (i / 8) (v + if b = true then 2 ^ (i % 8) else 0) := by
  have hi : i < l.length := (List.getElem?_eq_some_iff.mp h).1
  have hk : i / 8 < (l.length + 7) / 8 := by omega
  refine ⟨_, pk_at hk, ?_⟩
  apply List.ext_getElem?
  intro k
  rw [List.getElem?_set]
  by_cases hk2 : k < (l.length + 7) / 8
  · rw [pk_at hk2, show l.take (i + 1) = l.take i ++ [b] by rw [List.take_add_one, h]; rfl]
    by_cases e : i / 8 = k
    · rw [if_pos e, if_pos (by rw [pk_len]; exact hk)]
      subst e
      congr 1
      have hl : (l.take i).length = i := by
        rw [List.length_take]
        omega
      rw [List.drop_append_of_le_length (by omega)]
      have hd : ((l.take i).drop (8 * (i / 8))).length = i % 8 := by
        rw [List.length_drop, hl]
        omega
      generalize (l.take i).drop (8 * (i / 8)) = m at hd ⊢
      rw [List.take_of_length_le (by rw [List.length_append, hd]; show i % 8 + 1 ≤ 8; omega), List.take_of_length_le (show m.length ≤ 8 by rw [hd]; omega)]
      show worth (_ ++ [b]) = _
      rw [worth_snoc, hd]
    · rw [if_neg e, pk_at hk2]
      congr 2
      by_cases c : 8 * k ≤ i
      · have hl : (l.take i).length = i := by
          rw [List.length_take]
          omega
        rw [List.drop_append_of_le_length (by omega)]
        have hd : ((l.take i).drop (8 * k)).length = i - 8 * k := by
          rw [List.length_drop, hl]
        rw [List.take_append_of_le_length (by rw [hd]; omega)]
      · have hl : (l.take i).length = i := by
          rw [List.length_take]
          omega
        rw [List.drop_eq_nil_of_le (by rw [List.length_append, hl]; show i + 1 ≤ 8 * k; omega), List.drop_eq_nil_of_le (by rw [hl]; omega)]
  · have e1 : (pk l (i + 1))[k]? = none := List.getElem?_eq_none (by rw [pk_len]; omega)
    have e2 : (pk l i)[k]? = none := List.getElem?_eq_none (by rw [pk_len]; omega)
    rw [e1, if_neg (by omega), e2]
theorem pk_all (l : List Bool) : pk l l.length = (bitsBytes l).map fun c => c.toNat := by
  unfold pk bitsBytes
  rw [List.map_map]
  refine List.map_congr_left fun k _ => ?_
  rw [List.take_length]
  show _ = (bitsByte _).toNat
  rw [byte_worth (by rw [List.length_take]; omega)]
theorem body_bytes {B : Body} (h : GridOk B.grid) : B.bytes.map (fun c => c.toNat) = ([66, 68, 66, 49] ++ [B.grid.wide, B.grid.deep, B.grid.high]) ++ pk B.cells.toList B.cells.toList.length := by
  unfold Body.bytes Grid.bytes BODY
  rw [List.map_append, List.map_append, ← pk_all, ← List.append_assoc]
  congr 1
  have a := h.w2
  have b := h.d2
  have c := h.h2
  show ([66, 68, 66, 49] : List Nat) ++ [(UInt8.ofNat B.grid.wide).toNat, (UInt8.ofNat B.grid.deep).toNat, (UInt8.ofNat B.grid.high).toNat] = _
  rw [UInt8.toNat_ofNat_of_lt' (by show _ < 256; omega), UInt8.toNat_ofNat_of_lt' (by show _ < 256; omega), UInt8.toNat_ofNat_of_lt' (by show _ < 256; omega)]
theorem bytes_size {B : Body} (hs : B.cells.size = B.grid.count) (h : GridOk B.grid) : B.bytes.length ≤ 223 := by
  unfold Body.bytes Grid.bytes BODY
  have e : B.cells.toList.length = B.grid.count := by rw [Array.length_toList, hs]
  rw [List.length_append, List.length_append, bytes_len, e]
  have := h.count
  show 4 + (3 + _) ≤ 223
  omega
/-! ### places as whole numbers -/
def hasI (g : Grid) (x y z : Int) : Bool := (decide (0 ≤ x) && decide (x < (g.wide : Int))) && ((decide (0 ≤ y) && decide (y < (g.deep : Int))) && (decide (0 ≤ z) && decide (z < (g.high : Int))))
theorem hasI_iff {g : Grid} {x y z : Int} (h : hasI g x y z = true) : ∃ a b c : Nat, x = (a : Int) ∧ y = (b : Int) ∧ z = (c : Int) ∧ a < g.wide ∧ b < g.deep ∧ c < g.high := by
  unfold hasI at h
  simp only [Bool.and_eq_true, decide_eq_true_eq] at h
  exact ⟨x.toNat, y.toNat, z.toNat, by omega, by omega, by omega, by omega, by omega, by omega⟩
theorem num_int (g : Grid) (x y z : Nat) : ((z : Int) * (g.deep : Int) + (y : Int)) * (g.wide : Int) + (x : Int) = ((g.num x y z : Nat) : Int) := by
  unfold Grid.num
  push_cast
  rfl
theorem of_cells {B : Body} {i : Nat} (hs : B.cells.size = B.grid.count) (h : i < B.grid.count) : B.cells.toList[i]? = some (B.of_ i) := by
  unfold Body.of_
  rw [Array.getElem?_toList, Array.getElem?_eq_getElem (by omega), Array.getD_eq_getD_getElem?, Array.getElem?_eq_getElem (by omega)]
  rfl
end BM
namespace BM
open Bead
end BM

end

section
set_option Elab.async false
set_option linter.all false
/-! Drawings of layers. Plain Lean. -/
namespace BM
open Bead
end BM

end

section
set_option Elab.async false
set_option linter.all false
/-! Bodies grown and shrunk, as the program finds them: over the places of and round a layer. Plain Lean. -/
namespace BM
open Bead
end BM

end

section
set_option Elab.async false
set_option linter.all false
/-! Regions as the program finds them, and what they are. Plain Lean. -/
namespace RM
open Bead FM
def keys (fs : List (Nat × Nat)) : List Nat := fs.map (·.1)
/-- what spread adds to fs from s on -/
structure Spread (g : Grid) (ok : Nat → Bool) (fs : List (Nat × Nat)) (s : Nat) (N : List Nat) : Prop where
  has : s ∈ N
  nd : N.Nodup
  new : ∀ j ∈ N, j ∉ keys fs
  to : ∀ j ∈ N, To g ok s j
  shut : ∀ i ∈ N, ∀ j ∈ g.neighbours i, ok j = true → j ∈ N ∨ j ∈ keys fs
def tag (N : List Nat) (c : Nat) : List (Nat × Nat) := N.map fun j => (j, c)
inductive Regs (g : Grid) (ok : Nat → Bool) : List Nat → List (Nat × Nat) → Nat → Prop where
  | nil : Regs g ok [] [] 0
  | skip {L : List Nat} {fs : List (Nat × Nat)} {c s : Nat} : Regs g ok L fs c → (ok s = false ∨ s ∈ keys fs) → Regs g ok (L ++ [s]) fs c
  | add {L : List Nat} {fs : List (Nat × Nat)} {c s : Nat} {N : List Nat} : Regs g ok L fs c → ok s = true → s ∉ keys fs → Spread g ok fs s N → Regs g ok (L ++ [s]) (fs ++ tag N c) (c + 1)
theorem keys_append (a b : List (Nat × Nat)) : keys (a ++ b) = keys a ++ keys b := List.map_append
theorem keys_tag (N : List Nat) (c : Nat) : keys (tag N c) = N := by
  unfold keys tag
  rw [List.map_map]
  exact List.map_id' N
theorem Regs.shut {g : Grid} {ok : Nat → Bool} {L : List Nat} {fs : List (Nat × Nat)} {c : Nat} (h : Regs g ok L fs c) : ∀ i ∈ keys fs, ∀ j ∈ g.neighbours i, ok j = true → j ∈ keys fs := by
  induction h with
  | nil => intro i hi; cases hi
  | skip _ _ ih => exact ih
  | add _ _ _ S ih =>
    intro i hi j hj ho
    rw [keys_append, keys_tag] at hi ⊢
    rcases List.mem_append.mp hi with z | z
    · exact List.mem_append_left _ (ih i z j hj ho)
    · rcases S.shut i z j hj ho with y | y
      · exact List.mem_append_right _ y
      · exact List.mem_append_left _ y
theorem Regs.starts {g : Grid} {ok : Nat → Bool} {L : List Nat} {fs : List (Nat × Nat)} {c : Nat} (h : Regs g ok L fs c) : ∀ k ∈ L, ok k = true → k ∈ keys fs := by
  induction h with
  | nil => intro k hk; cases hk
  | skip _ z ih =>
    intro k hk ho
    rcases List.mem_append.mp hk with y | y
    · exact ih k y ho
    · rw [List.mem_singleton.mp y] at ho ⊢
      rcases z with z | z
      · rw [z] at ho
        cases ho
      · exact z
  | add _ _ _ S ih =>
    intro k hk ho
    rw [keys_append, keys_tag]
    rcases List.mem_append.mp hk with y | y
    · exact List.mem_append_left _ (ih k y ho)
    · rw [List.mem_singleton.mp y]
      exact List.mem_append_right _ S.has
theorem to_reach {g : Grid} {ok : Nat → Bool} {S : Nat → Prop} {k j : Nat} (hk : S k) (h : To g ok k j) : Reach g ok S j := by
  induction h with
  | base z =>
    rw [List.mem_singleton.mp z]
    exact .base hk
  | step _ h1 h2 ih => exact .step ih h1 h2
theorem Regs.sound {g : Grid} {ok : Nat → Bool} {L : List Nat} {fs : List (Nat × Nat)} {c : Nat} (h : Regs g ok L fs c) : ∀ j ∈ keys fs, ∃ k, k ∈ L ∧ ok k = true ∧ To g ok k j := by
  induction h with
  | nil => intro j hj; cases hj
  | skip _ _ ih =>
    intro j hj
    obtain ⟨k, a, b, d⟩ := ih j hj
    exact ⟨k, List.mem_append_left _ a, b, d⟩
  | add _ ho _ S ih =>
    intro j hj
    rw [keys_append, keys_tag] at hj
    rcases List.mem_append.mp hj with z | z
    · obtain ⟨k, a, b, d⟩ := ih j z
      exact ⟨k, List.mem_append_left _ a, b, d⟩
    · exact ⟨_, List.mem_append_right _ (List.mem_singleton.mpr rfl), ho, S.to j z⟩
theorem Regs.all {g : Grid} {ok : Nat → Bool} {L : List Nat} {fs : List (Nat × Nat)} {c : Nat} (h : Regs g ok L fs c) {j : Nat} (r : Reach g ok (fun k => k ∈ L ∧ ok k = true) j) : j ∈ keys fs := by
  induction r with
  | base z => exact h.starts _ z.1 z.2
  | step _ h1 h2 ih => exact h.shut _ ih _ h1 h2
theorem Regs.iff {g : Grid} {ok : Nat → Bool} {L : List Nat} {fs : List (Nat × Nat)} {c : Nat} (h : Regs g ok L fs c) (j : Nat) : j ∈ keys fs ↔ Reach g ok (fun k => k ∈ L ∧ ok k = true) j := by
  constructor
  · intro z
    obtain ⟨k, a, b, d⟩ := h.sound j z
    exact to_reach (S := fun k => k ∈ L ∧ ok k = true) ⟨a, b⟩ d
  · exact h.all
/-! ### pieces -/
theorem lookup_none {fs : List (Nat × Nat)} {j : Nat} (h : j ∉ keys fs) : fs.lookup j = none := by
  rw [List.lookup_eq_none_iff]
  intro p hp
  have : ¬ j = p.1 := fun z => h (z ▸ List.mem_map.mpr ⟨p, hp, rfl⟩)
  simpa using this
/-! ### neighbours as the program finds them -/
def stepsL : List (Int × Int × Int) := [(1, 0, 0), (-1, 0, 0), (0, 1, 0), (0, -1, 0), (0, 0, 1), (0, 0, -1)]
def places (g : Grid) (i : Nat) : List (Int × Int × Int) := stepsL.map fun s => ((g.colOf i : Int) + s.1, (g.rowOf i : Int) + s.2.1, (g.layerOf i : Int) + s.2.2)
def inG (g : Grid) (p : Int × Int × Int) : Bool := BM.hasI g p.1 p.2.1 p.2.2
def numP (g : Grid) (p : Int × Int × Int) : Nat := g.num p.1.toNat p.2.1.toNat p.2.2.toNat
def nbP (g : Grid) (i : Nat) : List Nat := ((places g i).filter (inG g)).map (numP g)
theorem mem_nbP {g : Grid} {i j : Nat} (h : i < g.count) : j ∈ nbP g i ↔ j ∈ g.neighbours i := by
  have hx := col_lt h
  have hy := row_lt h
  have hz := layer_lt h
  generalize hX : g.colOf i = x at *
  generalize hY : g.rowOf i = y at *
  generalize hZ : g.layerOf i = z at *
  have hin : ∀ p : Int × Int × Int, inG g p = true ↔ (0 ≤ p.1 ∧ p.1 < (g.wide : Int)) ∧ (0 ≤ p.2.1 ∧ p.2.1 < (g.deep : Int)) ∧ (0 ≤ p.2.2 ∧ p.2.2 < (g.high : Int)) := fun p => by
    unfold inG BM.hasI
    simp only [Bool.and_eq_true, decide_eq_true_eq]
  unfold nbP
  rw [List.mem_map]
  constructor
  · rintro ⟨p, hp, rfl⟩
    obtain ⟨hp1, hp2⟩ := List.mem_filter.mp hp
    rw [hin] at hp2
    unfold places stepsL at hp1
    rw [hX, hY, hZ] at hp1
    simp only [List.map_cons, List.map_nil, List.mem_cons, List.not_mem_nil, or_false] at hp1
    unfold Grid.neighbours numP
    rw [hX, hY, hZ]
    simp only [List.mem_append]
    rcases hp1 with rfl | rfl | rfl | rfl | rfl | rfl
    · refine .inr (.inl ?_)
      dsimp only at hp2
      rw [if_pos (by omega), List.mem_singleton]
      congr 1 <;> dsimp only <;> omega
    · refine .inl ?_
      dsimp only at hp2
      rw [if_pos (by omega), List.mem_singleton]
      congr 1 <;> dsimp only <;> omega
    · refine .inr (.inr (.inr (.inl ?_)))
      dsimp only at hp2
      rw [if_pos (by omega), List.mem_singleton]
      congr 1 <;> dsimp only <;> omega
    · refine .inr (.inr (.inl ?_))
      dsimp only at hp2
      rw [if_pos (by omega), List.mem_singleton]
      congr 1 <;> dsimp only <;> omega
    · refine .inr (.inr (.inr (.inr (.inr ?_))))
      dsimp only at hp2
      rw [if_pos (by omega), List.mem_singleton]
      congr 1 <;> dsimp only <;> omega
    · refine .inr (.inr (.inr (.inr (.inl ?_))))
      dsimp only at hp2
      rw [if_pos (by omega), List.mem_singleton]
      congr 1 <;> dsimp only <;> omega
  · intro hj
    unfold Grid.neighbours at hj
    rw [hX, hY, hZ] at hj
    simp only [List.mem_append] at hj
    have pk : ∀ s ∈ stepsL, inG g ((x : Int) + s.1, (y : Int) + s.2.1, (z : Int) + s.2.2) = true → ((x : Int) + s.1, (y : Int) + s.2.1, (z : Int) + s.2.2) ∈ (places g i).filter (inG g) := fun s hs hi => by
      refine List.mem_filter.mpr ⟨?_, hi⟩
      unfold places
      rw [hX, hY, hZ]
      exact List.mem_map.mpr ⟨s, hs, rfl⟩
    rcases hj with hj | hj | hj | hj | hj | hj
    · split at hj
      · rw [List.mem_singleton.mp hj]
        refine ⟨_, pk (-1, 0, 0) (by decide) ((hin _).mpr (by dsimp only; omega)), ?_⟩
        unfold numP
        congr 1 <;> dsimp only <;> omega
      · cases hj
    · split at hj
      · rw [List.mem_singleton.mp hj]
        refine ⟨_, pk (1, 0, 0) (by decide) ((hin _).mpr (by dsimp only; omega)), ?_⟩
        unfold numP
        congr 1 <;> dsimp only <;> omega
      · cases hj
    · split at hj
      · rw [List.mem_singleton.mp hj]
        refine ⟨_, pk (0, -1, 0) (by decide) ((hin _).mpr (by dsimp only; omega)), ?_⟩
        unfold numP
        congr 1 <;> dsimp only <;> omega
      · cases hj
    · split at hj
      · rw [List.mem_singleton.mp hj]
        refine ⟨_, pk (0, 1, 0) (by decide) ((hin _).mpr (by dsimp only; omega)), ?_⟩
        unfold numP
        congr 1 <;> dsimp only <;> omega
      · cases hj
    · split at hj
      · rw [List.mem_singleton.mp hj]
        refine ⟨_, pk (0, 0, -1) (by decide) ((hin _).mpr (by dsimp only; omega)), ?_⟩
        unfold numP
        congr 1 <;> dsimp only <;> omega
      · cases hj
    · split at hj
      · rw [List.mem_singleton.mp hj]
        refine ⟨_, pk (0, 0, 1) (by decide) ((hin _).mpr (by dsimp only; omega)), ?_⟩
        unfold numP
        congr 1 <;> dsimp only <;> omega
      · cases hj
end RM
namespace RM
open Bead FM
/-- under way: N is found, W waits -/
structure Go (g : Grid) (ok : Nat → Bool) (fs : List (Nat × Nat)) (s : Nat) (N W : List Nat) : Prop where
  has : s ∈ N
  nd : N.Nodup
  new : ∀ j ∈ N, j ∉ keys fs
  to : ∀ j ∈ N, To g ok s j
  lt : ∀ j ∈ N, j < g.count
  sub : ∀ j ∈ W, j ∈ N
  shut : ∀ i ∈ N, i ∉ W → ∀ j ∈ g.neighbours i, ok j = true → j ∈ N ∨ j ∈ keys fs
/-- .. of n's neighbours those of L are looked at -/
structure Gw (g : Grid) (ok : Nat → Bool) (fs : List (Nat × Nat)) (s : Nat) (N W : List Nat) (n : Nat) (L : List Nat) : Prop where
  has : s ∈ N
  nd : N.Nodup
  new : ∀ j ∈ N, j ∉ keys fs
  to : ∀ j ∈ N, To g ok s j
  lt : ∀ j ∈ N, j < g.count
  sub : ∀ j ∈ W, j ∈ N
  shut : ∀ i ∈ N, i ∉ W → i ≠ n → ∀ j ∈ g.neighbours i, ok j = true → j ∈ N ∨ j ∈ keys fs
  part : ∀ j ∈ L, ok j = true → j ∈ N ∨ j ∈ keys fs
  at_ : n ∈ N
theorem Go.start {g : Grid} {ok : Nat → Bool} {fs : List (Nat × Nat)} {s : Nat} (h : s ∉ keys fs) (hs : s < g.count) : Go g ok fs s [s] [s] :=
  ⟨List.mem_singleton.mpr rfl, by simp, (fun j hj => by rw [List.mem_singleton.mp hj]; exact h), (fun j hj => by rw [List.mem_singleton.mp hj]; exact To.refl s), (fun j hj => by rw [List.mem_singleton.mp hj]; exact hs), fun _ hj => hj, fun i hi hn => absurd hi hn⟩
theorem Go.pop {g : Grid} {ok : Nat → Bool} {fs : List (Nat × Nat)} {s n : Nat} {N W : List Nat} (h : Go g ok fs s N (W ++ [n])) : Gw g ok fs s N W n [] :=
  ⟨h.has, h.nd, h.new, h.to, h.lt, fun j hj => h.sub j (List.mem_append_left _ hj), fun i hi hw hn => h.shut i hi fun z => (List.mem_append.mp z).elim hw fun z => hn (List.mem_singleton.mp z), (fun j hj => by cases hj), h.sub n (List.mem_append_right _ (List.mem_singleton.mpr rfl))⟩
theorem Gw.skip {g : Grid} {ok : Nat → Bool} {fs : List (Nat × Nat)} {s n j : Nat} {N W L : List Nat} (h : Gw g ok fs s N W n L) (hj : ok j = false ∨ j ∈ N ∨ j ∈ keys fs) : Gw g ok fs s N W n (L ++ [j]) :=
  ⟨h.has, h.nd, h.new, h.to, h.lt, h.sub, h.shut, (fun i hi ho => (List.mem_append.mp hi).elim (fun z => h.part i z ho) fun z => by
    rw [List.mem_singleton.mp z] at ho ⊢
    rcases hj with y | y
    · rw [y] at ho
      cases ho
    · exact y), h.at_⟩
theorem Gw.push {g : Grid} {ok : Nat → Bool} {fs : List (Nat × Nat)} {s n j : Nat} {N W L : List Nat} (h : Gw g ok fs s N W n L) (ho : ok j = true) (hN : j ∉ N) (hf : j ∉ keys fs) (hj : j ∈ g.neighbours n) : Gw g ok fs s (N ++ [j]) (W ++ [j]) n (L ++ [j]) := by
  have up : ∀ {i : Nat}, i ∈ N ∨ i ∈ keys fs → i ∈ N ++ [j] ∨ i ∈ keys fs := fun z => z.elim (fun y => .inl (List.mem_append_left _ y)) .inr
  have hjj : j ∈ N ++ [j] := List.mem_append_right _ (List.mem_singleton.mpr rfl)
  refine ⟨List.mem_append_left _ h.has, ?_, fun i hi => ?_, fun i hi => ?_, fun i hi => ?_, fun i hi => ?_, fun i hi hw hn k hk hok => ?_, fun i hi hok => ?_, List.mem_append_left _ h.at_⟩
  · rw [List.nodup_append]
    refine ⟨h.nd, by simp, fun a ha b hb z => hN ?_⟩
    rw [List.mem_singleton.mp hb] at z
    exact z ▸ ha
  · rcases List.mem_append.mp hi with z | z
    · exact h.new i z
    · rw [List.mem_singleton.mp z]
      exact hf
  · rcases List.mem_append.mp hi with z | z
    · exact h.to i z
    · rw [List.mem_singleton.mp z]
      exact .step (h.to n h.at_) hj ho
  · rcases List.mem_append.mp hi with z | z
    · exact h.lt i z
    · rw [List.mem_singleton.mp z]
      exact nb_lt (h.lt n h.at_) hj
  · rcases List.mem_append.mp hi with z | z
    · exact List.mem_append_left _ (h.sub i z)
    · rw [List.mem_singleton.mp z]
      exact hjj
  · rcases List.mem_append.mp hi with z | z
    · exact up (h.shut i z (fun y => hw (List.mem_append_left _ y)) hn k hk hok)
    · exact absurd (List.mem_append_right _ z) hw
  · rcases List.mem_append.mp hi with z | z
    · exact up (h.part i z hok)
    · rw [List.mem_singleton.mp z]
      exact .inl hjj
theorem Gw.done {g : Grid} {ok : Nat → Bool} {fs : List (Nat × Nat)} {s n : Nat} {N W L : List Nat} (h : Gw g ok fs s N W n L) (hL : ∀ j ∈ g.neighbours n, j ∈ L) : Go g ok fs s N W :=
  ⟨h.has, h.nd, h.new, h.to, h.lt, h.sub, fun i hi hw j hj ho => by
    by_cases e : i = n
    · exact h.part j (hL j (e ▸ hj)) ho
    · exact h.shut i hi hw e j hj ho⟩
theorem Go.spread {g : Grid} {ok : Nat → Bool} {fs : List (Nat × Nat)} {s : Nat} {N : List Nat} (h : Go g ok fs s N []) : Spread g ok fs s N :=
  ⟨h.has, h.nd, h.new, h.to, fun i hi => h.shut i hi (by intro z; cases z)⟩
/-- what is found are cells, each once -/
structure FsOk (g : Grid) (fs : List (Nat × Nat)) : Prop where
  nd : (keys fs).Nodup
  lt : ∀ j ∈ keys fs, j < g.count
theorem nodup_len : ∀ {l : List Nat} {n : Nat}, l.Nodup → (∀ j ∈ l, j < n) → l.length ≤ n := by
  intro l n h1 h2
  have := h1.length_le_of_subset (l₂ := List.range n) fun j hj => List.mem_range.mpr (h2 j hj)
  rwa [List.length_range] at this
theorem FsOk.len {g : Grid} {fs : List (Nat × Nat)} (h : FsOk g fs) : fs.length ≤ g.count := by
  have := nodup_len h.nd h.lt
  unfold keys at this
  rwa [List.length_map] at this
theorem FsOk.tag {g : Grid} {fs : List (Nat × Nat)} {N : List Nat} {c : Nat} (h : FsOk g fs) (nd : N.Nodup) (new : ∀ j ∈ N, j ∉ keys fs) (lt : ∀ j ∈ N, j < g.count) : FsOk g (fs ++ tag N c) := by
  refine ⟨?_, fun j hj => ?_⟩
  · rw [keys_append, keys_tag, List.nodup_append]
    exact ⟨h.nd, nd, fun a ha b hb z => new b hb (z ▸ ha)⟩
  · rw [keys_append, keys_tag] at hj
    exact (List.mem_append.mp hj).elim (h.lt j) (lt j)
theorem tag_snoc (N : List Nat) (j c : Nat) : tag (N ++ [j]) c = tag N c ++ [(j, c)] := by
  unfold tag
  rw [List.map_append]
  rfl
end RM
namespace RM
open Bead FM
theorem reach_congr {g : Grid} {ok ok' : Nat → Bool} {S S' : Nat → Prop} (hS : ∀ k, S k → S' k) (hlt : ∀ k, S k → k < g.count) (ho : ∀ k, k < g.count → ok k = true → ok' k = true) {j : Nat} (h : Reach g ok S j) : j < g.count ∧ Reach g ok' S' j := by
  induction h with
  | base z => exact ⟨hlt _ z, .base (hS _ z)⟩
  | step _ h1 h2 ih =>
    have hl := nb_lt ih.1 h1
    exact ⟨hl, .step ih.2 h1 (ho _ hl h2)⟩
theorem filled_keys {B : Body} {ms : List Bool} {L : List Nat} {fs : List (Nat × Nat)} {c : Nat} (hm : ∀ j, j < B.grid.count → ms.getD j false = !B.of_ j) (hL : ∀ k, k ∈ L ↔ k < B.grid.count ∧ B.grid.edge k = true) (R : Regs B.grid (fun j => ms.getD j false) L fs c) {i : Nat} (hi : i < B.grid.count) :
    B.filled.of_ i = true ↔ i ∉ keys fs := by
  rw [BM.filled_at B hi, R.iff]
  have a : ∀ j, j < B.grid.count → (ms.getD j false = true ↔ (!B.of_ j) = true) := fun j hj => by rw [hm j hj]
  constructor
  · intro h z
    refine h (reach_congr (S := fun k => k ∈ L ∧ ms.getD k false = true) (fun k hk => ?_) (fun k hk => ((hL k).mp hk.1).1) (fun k hk => (a k hk).mp) z).2
    have q := (hL k).mp hk.1
    exact ⟨q.1, by simpa using (a k q.1).mp hk.2, q.2⟩
  · intro h z
    refine h (reach_congr (S := fun k => k < B.grid.count ∧ B.of_ k = false ∧ B.grid.edge k = true) (ok := fun i => !B.of_ i) (fun k hk => ?_) (fun k hk => hk.1) (fun k hk => (a k hk).mpr) z).2
    exact ⟨(hL k).mpr ⟨hk.1, hk.2.2⟩, (a k hk.1).mpr (by rw [hk.2.1]; rfl)⟩
theorem filled_size (B : Body) : B.filled.cells.size = B.filled.grid.count := by
  show ((List.range B.grid.count).map _).toArray.size = B.grid.count
  rw [List.size_toArray, List.length_map, List.length_range]
end RM

end

section
set_option Elab.async false
set_option linter.all false
set_option maxRecDepth 100000
set_option maxHeartbeats 2000000
namespace MP
open PySem PySem.Spec PyProof.Rows L2
open Bead (Bytes In isDigit)
/-! ### the text by places -/
def top (i : Nat) : Stmt := PySem.Challenge.pw_beadbodies_s14_filled.main.body.getD i (.Pass ⟨0, 0, 0, 0⟩)
abbrev sBF_init : Stmt := inClass (top 8) 0
abbrev sG_init : Stmt := inClass (top 9) 0
abbrev sCc : Stmt := inClass (top 9) 1
abbrev sCn : Stmt := inClass (top 9) 2
abbrev sCp : Stmt := inClass (top 9) 3
abbrev sHc : Stmt := inClass (top 9) 4
abbrev sB_init : Stmt := inClass (top 10) 0
abbrev sMa : Stmt := inClass (top 10) 1
abbrev s_wall : Stmt := top 0
abbrev sIs : Stmt := top 11
abbrev sBb : Stmt := top 12
abbrev sRg : Stmt := top 13
abbrev sRb : Stmt := top 14
abbrev sBy : Stmt := top 15
abbrev sneighbours : Stmt := top 18
abbrev sspread : Stmt := top 19
abbrev sregions_from : Stmt := top 20
abbrev sis_at_border : Stmt := top 21
abbrev sfilled_body : Stmt := top 22
abbrev sAns : Stmt := top 27
abbrev sRef : Stmt := top 28
abbrev sTel : Stmt := top 29
abbrev sBo : Stmt := top 30
abbrev sfilled : Stmt := top 31
/-- the addresses: classes, functions -/
structure Adr where
  cBF : Addr
  fBF : Addr
  cG : Addr
  fG : Addr
  fCc : Addr
  fCn : Addr
  fCp : Addr
  fHc : Addr
  cB : Addr
  fB : Addr
  fMa : Addr
  f_wall : Addr
  fIs : Addr
  fBb : Addr
  fRg : Addr
  fRb : Addr
  fBy : Addr
  fneighbours : Addr
  fspread : Addr
  fregions_from : Addr
  fis_at_border : Addr
  ffilled_body : Addr
  fAns : Addr
  fRef : Addr
  fTel : Addr
  fBo : Addr
  ffilled : Addr
/-- a def of the text -/
def FB (K : PySem.W.Frag) (x qual : Str) (st : Stmt) (f : Addr) (ps : List Str) : Prop := ∃ fd, Fun K x qual st f fd ∧ Binds K fd ps []
/-- a global that is a number -/
def NumIs (mg : Str → Option Value) (x : Str) (z : Int) : Prop := ∃ t, mg x = some (.int z t)
structure Txt (K : PySem.W.Frag) (mg : Str → Option Value) (A : Adr) : Prop where
  exBF : ExMk K A.cBF A.fBF ["kind", "place"]
  gBF : mg "BodyFault" = some (.ref A.cBF)
  bBF : FB K "__init__" "BodyFault.__init__" sBF_init A.fBF ["self", "kind", "place"]
  cG : Cls K A.cG
  mkG : Mk K A.cG A.fG
  nGw : NoAttr K A.cG "wide"
  nGd : NoAttr K A.cG "deep"
  nGh : NoAttr K A.cG "high"
  gG : mg "Grid" = some (.ref A.cG)
  bG : FB K "__init__" "Grid.__init__" sG_init A.fG ["self", "wide", "deep", "high"]
  mCc : Meth K A.cG "cell_count" A.fCc
  bCc : FB K "cell_count" "Grid.cell_count" sCc A.fCc ["self"]
  mCn : Meth K A.cG "cell_number" A.fCn
  bCn : FB K "cell_number" "Grid.cell_number" sCn A.fCn ["self", "x", "y", "z"]
  mCp : Meth K A.cG "cell_place" A.fCp
  bCp : FB K "cell_place" "Grid.cell_place" sCp A.fCp ["self", "number"]
  mHc : Meth K A.cG "has_cell" A.fHc
  bHc : FB K "has_cell" "Grid.has_cell" sHc A.fHc ["self", "x", "y", "z"]
  cB : Cls K A.cB
  mkB : Mk K A.cB A.fB
  nBg : NoAttr K A.cB "grid"
  nBm : NoAttr K A.cB "marks"
  gB : mg "Body" = some (.ref A.cB)
  bB : FB K "__init__" "Body.__init__" sB_init A.fB ["self", "grid", "marks"]
  mMa : Meth K A.cB "mark_at" A.fMa
  bMa : FB K "mark_at" "Body.mark_at" sMa A.fMa ["self", "x", "y", "z"]
  g_wall : mg "_wall" = some (.ref A.f_wall)
  b_wall : FB K "_wall" "_wall" s_wall A.f_wall ["k"]
  gIs : mg "is_side" = some (.ref A.fIs)
  bIs : FB K "is_side" "is_side" sIs A.fIs ["number"]
  gBb : mg "bit_bytes" = some (.ref A.fBb)
  bBb : FB K "bit_bytes" "bit_bytes" sBb A.fBb ["count"]
  gRg : mg "read_grid" = some (.ref A.fRg)
  bRg : FB K "read_grid" "read_grid" sRg A.fRg ["b"]
  gRb : mg "read_body" = some (.ref A.fRb)
  bRb : FB K "read_body" "read_body" sRb A.fRb ["b"]
  gBy : mg "bytes_of" = some (.ref A.fBy)
  bBy : FB K "bytes_of" "bytes_of" sBy A.fBy ["body"]
  gneighbours : mg "neighbours" = some (.ref A.fneighbours)
  bneighbours : FB K "neighbours" "neighbours" sneighbours A.fneighbours ["grid", "number"]
  gspread : mg "spread" = some (.ref A.fspread)
  bspread : FB K "spread" "spread" sspread A.fspread ["grid", "passable", "start", "region", "found"]
  gregions_from : mg "regions_from" = some (.ref A.fregions_from)
  bregions_from : FB K "regions_from" "regions_from" sregions_from A.fregions_from ["grid", "passable", "starts"]
  gis_at_border : mg "is_at_border" = some (.ref A.fis_at_border)
  bis_at_border : FB K "is_at_border" "is_at_border" sis_at_border A.fis_at_border ["grid", "number"]
  gfilled_body : mg "filled_body" = some (.ref A.ffilled_body)
  bfilled_body : FB K "filled_body" "filled_body" sfilled_body A.ffilled_body ["body"]
  gAns : mg "answer" = some (.ref A.fAns)
  bAns : FB K "answer" "answer" sAns A.fAns ["number", "told", "numbers"]
  gRef : mg "refusal" = some (.ref A.fRef)
  bRef : FB K "refusal" "refusal" sRef A.fRef ["number"]
  gTel : mg "telling" = some (.ref A.fTel)
  bTel : FB K "telling" "telling" sTel A.fTel ["told"]
  gBo : mg "body_of" = some (.ref A.fBo)
  bBo : FB K "body_of" "body_of" sBo A.fBo ["b"]
  gfilled : mg "filled" = some (.ref A.ffilled)
  bfilled : FB K "filled" "filled" sfilled A.ffilled ["b"]
  n12 : NumIs mg "GREATEST_SIDE" 12
  n7 : NumIs mg "HEAD" 7
  nWF : NumIs mg "WRONG_FRAME" 1
  nWS : NumIs mg "WRONG_SIDE" 2
  nWB : NumIs mg "WRONG_BIT" 3
  nMB : NumIs mg "MOST_BYTES" 16384
  nTL : NumIs mg "TOO_LONG" (-2)
  nNS : NumIs mg "NONE_SUCH" (-6)
  any : mg "any" = none
  enumerate : mg "enumerate" = none
  len : mg "len" = none
  «list» : mg "list" = none
  range : mg "range" = none
  tuple : mg "tuple" = none
  t_MARK : TupG K mg "MARK" [66, 68, 66, 49]
  t_STEPS : TupsG K mg "STEPS" [[1, 0, 0], [-1, 0, 0], [0, 1, 0], [0, -1, 0], [0, 0, 1], [0, 0, -1]]
/- not told of: MARK, STEPS -/
/-! ### common -/
def bV (c : UInt8) : V := .int (c.toNat : Int)
def nV (n : Nat) : V := .int (n : Int)
theorem yesT {σ : L2.St} {H : Hp} {A B : Hp → Prop} (h : A H) : tYes σ H (fun b H3 => if b = true then A H3 else B H3) := by
  show (if true = true then A H else B H)
  rw [if_pos rfl]
  exact h
theorem blkOk_at {X : Cx} {N : List Str} {sc scope : Scope} {own : List (Str × Nat)} (h : blkC N sc scope own = true) (hN : X.N = N := by rfl) (hs : X.env.scope = sc := by rfl) : BlkOk X.N X.env.scope scope own := by
  rw [hN, hs]
  exact blkOk_by h
theorem pe_num {X : Cx} {x : Str} {z : Int} {pos : Pos} (hg : Gl X x) (n : NumIs X.mg x z) (hd : (x == ("__debug__" : Str)) = false := by decide) : PE X (.Name x pos) (tC (.int z)) := by
  obtain ⟨t, e⟩ := n
  exact pe_glob hg e ⟨t, rfl⟩ hd
theorem pe_gref {X : Cx} {x : Str} {a : Addr} {pos : Pos} (hg : Gl X x) (hm : X.mg x = some (.ref a)) (hd : (x == ("__debug__" : Str)) = false := by decide) : PE X (.Name x pos) (tC (.ref a)) := pe_glob (v := .ref a) hg hm (show L2.RelV (.ref a) (.ref a) from rfl) hd
/-- all that was tracked but the object at r is as it was -/
def Keep (r : Addr) (H H' : Hp) : Prop := ∀ b o, H b = some o → b ≠ r → H' b = some o
theorem noPlace : typeLookup (.type "ValueError") "place" = pure none := by
  rw [typeLookup_type, builtinLookup_eq_fast]
  kernel_rfl
theorem u8_eq {c d : UInt8} : ((c.toNat : Int) = (d.toNat : Int)) ↔ c = d := by
  constructor
  · intro h
    exact UInt8.toNat_inj.mp (by omega)
  · rintro rfl
    rfl
theorem in_nats (v : Nat) : ∀ ts : List Nat, inV (.int (v : Int)) (ts.map nV) = ts.contains v
  | [] => rfl
  | t :: ts => by
    have ih := in_nats v ts
    unfold inV at ih ⊢
    rw [List.map_cons, List.any_cons, ih, List.contains_cons]
    congr 1
    show (((t : Int) == (v : Int)) : Bool) = (v == t)
    rw [Bool.eq_iff_iff, beq_iff_eq, beq_iff_eq]
    omega
theorem flat_nats : ∀ ts : List Nat, (ts.map nV).all flatV = true
  | [] => rfl
  | t :: ts => by
    rw [List.map_cons, List.all_cons, flat_nats ts]
    rfl
theorem line_at {n : Nat} (h : n ≤ 300000) : n ≤ sizeLine := Nat.le_trans h (by decide)
section
variable {P : Program} {w : World} {K : PySem.W.Frag} {mg : Str → Option Value} {base : Heap} {A : Adr}
/-! ### answer, refusal -/
def spAns : Sp := fun vs H Q _ => ∃ (n : Int) (a b : Addr) (xs ys : List V), vs = [.int n, .ref a, .ref b] ∧ H a = some (.lst xs) ∧ H b = some (.lst ys) ∧ xs.length ≤ 100000 ∧ ys.length ≤ 100000 ∧
  ∀ (H' : Hp) (p : Addr), H' p = some (.lst (([.int n, .int (xs.length : Int)] ++ xs ++ [.int (ys.length : Int)]) ++ ys)) → Q (.ref p) H'
theorem scAns : FnScope ["number", "told", "numbers"] ["number", "told", "numbers"] (defScope sAns) := ⟨rfl, rfl, rfl, by decide +kernel, rfl, by decide +kernel, by decide +kernel⟩
theorem ok_ans (T : Txt K mg A) : ∃ fd, FnOkC P w K mg base CX0 1 A.fAns fd ["number", "told", "numbers"] spAns ∧ Binds K fd ["number", "told", "numbers"] [] ∧ PySem.W.keepIn K (.ref A.fAns) = true := by
  obtain ⟨fd, F, b⟩ := T.bAns
  refine ⟨fd, F.okC scAns (fun vs H Q E h => ?_) (fun cdv A' outer s H vs Q E hr h => ?_), b, F.kp⟩
  · obtain ⟨n, a, b, xs, ys, rfl, _⟩ := h
    rfl
  · obtain ⟨n, a, b, xs, ys, rfl, ha, hb, hx, hy, k⟩ := h
    refine ⟨_, pss_one (ps_ret (pe_op op_cat (pe_op op_cat (pe_op op_cat (pe_lst (pa_cons (pv 0) (pa_cons (pe_callB call_len_seq (by rfl) T.len PySem.boot_len (pa_cons (pv 1) pa_nil)) pa_nil))) (pv 1))
      (pe_lst (pa_cons (pe_callB call_len_seq (by rfl) T.len PySem.boot_len (pa_cons (pv 2) pa_nil)) pa_nil))) (pv 2))), ?_⟩
    refine ⟨_, rfl, _, rfl, a, _, rfl, .inl (SqL.of ha), (by show 2 ≤ sizeLine; decide), fun l1 n1 => ?_⟩
    have a1 : upd H l1 (.lst [.int n, .int (xs.length : Int)]) a = some (.lst xs) := by rw [upd_ne (ne_of_none ha n1)]; exact ha
    have b1 : upd H l1 (.lst [.int n, .int (xs.length : Int)]) b = some (.lst ys) := by rw [upd_ne (ne_of_none hb n1)]; exact hb
    refine ⟨_, rfl, l1, a, _, _, rfl, rfl, upd_same, a1, line_at (by simp only [List.length_cons, List.length_nil]; omega), fun l2 n2 => ?_⟩
    have b2 := (upd_ne (ne_of_none b1 n2) (o := HO.lst ([.int n, .int (xs.length : Int)] ++ xs))).trans b1
    refine ⟨_, rfl, b, _, rfl, .inl (SqL.of b2), (by show 1 ≤ sizeLine; decide), fun l3 n3 => ?_⟩
    have b3 := (upd_ne (ne_of_none b2 n3) (o := HO.lst [.int (ys.length : Int)])).trans b2
    have c3 : upd (upd (upd H l1 (.lst [.int n, .int (xs.length : Int)])) l2 (.lst ([.int n, .int (xs.length : Int)] ++ xs))) l3 (.lst [.int (ys.length : Int)]) l2 = some (.lst ([.int n, .int (xs.length : Int)] ++ xs)) := by
      rw [upd_ne (ne_of_none (upd_same : upd (upd H l1 (.lst [.int n, .int (xs.length : Int)])) l2 (.lst ([.int n, .int (xs.length : Int)] ++ xs)) l2 = _) n3)]
      exact upd_same
    refine ⟨l2, l3, _, _, rfl, rfl, c3, upd_same, line_at (by simp only [List.length_cons, List.length_nil, List.length_append]; omega), fun l4 n4 => ?_⟩
    have b4 := (upd_ne (ne_of_none b3 n4) (o := HO.lst ([.int n, .int (xs.length : Int)] ++ xs ++ [.int (ys.length : Int)]))).trans b3
    refine ⟨_, rfl, l4, b, _, _, rfl, rfl, upd_same, b4, line_at (by simp only [List.length_cons, List.length_nil, List.length_append]; omega), fun l5 n5 => ?_⟩
    exact k _ l5 upd_same
def spRef : Sp := fun vs H Q _ => ∃ n : Int, vs = [.int n] ∧ ∀ (H' : Hp) (p : Addr), H' p = some (.lst [.int n, .int 0, .int 0]) → Q (.ref p) H'
theorem scRef : FnScope ["number"] ["number"] (defScope sRef) := ⟨rfl, rfl, rfl, by decide +kernel, rfl, by decide +kernel, by decide +kernel⟩
theorem ok_ref (T : Txt K mg A) : ∃ fd, FnOkC P w K mg base CX0 2 A.fRef fd ["number"] spRef ∧ Binds K fd ["number"] [] ∧ PySem.W.keepIn K (.ref A.fRef) = true := by
  obtain ⟨fd, F, b⟩ := T.bRef
  obtain ⟨fdA, GA, bA, kA⟩ := ok_ans (P := P) (w := w) (base := base) T
  refine ⟨fd, F.okC scRef (fun vs H Q E h => ?_) (fun cdv A' outer s H vs Q E hr h => ?_), b, F.kp⟩
  · obtain ⟨n, rfl, _⟩ := h
    rfl
  · obtain ⟨n, rfl, k⟩ := h
    refine ⟨_, pss_one (ps_ret (pe_callC GA hr (by rfl) T.gAns kA bA pass0 (pa_cons (pv 0) (pa_cons (pe_lst pa_nil) (pa_cons (pe_lst pa_nil) pa_nil))))), ?_⟩
    refine ⟨_, rfl, Nat.zero_le _, fun l1 n1 => ⟨Nat.zero_le _, fun l2 n2 => ?_⟩⟩
    have a1 : upd (upd H l1 (.lst [])) l2 (.lst []) l1 = some (.lst []) := by
      rw [upd_ne (ne_of_none (upd_same : upd H l1 (.lst []) l1 = _) n2)]
      exact upd_same
    exact ⟨n, l1, l2, [], [], rfl, a1, upd_same, Nat.zero_le _, Nat.zero_le _, fun H' p hp => k H' p hp⟩
end
/-! ### a body's data -/
def gf (g : Bead.Grid) : List (Str × V) := putF "high" (nV g.high) (putF "deep" (nV g.deep) (putF "wide" (nV g.wide) []))
theorem gf_w (g : Bead.Grid) : (gf g).lookup ("wide" : Str) = some (nV g.wide) := by
  unfold gf
  rw [lookup_putF, if_neg (by decide +kernel), lookup_putF, if_neg (by decide +kernel), lookup_putF, if_pos rfl]
theorem gf_d (g : Bead.Grid) : (gf g).lookup ("deep" : Str) = some (nV g.deep) := by
  unfold gf
  rw [lookup_putF, if_neg (by decide +kernel), lookup_putF, if_pos rfl]
theorem gf_h (g : Bead.Grid) : (gf g).lookup ("high" : Str) = some (nV g.high) := by
  unfold gf
  rw [lookup_putF, if_pos rfl]
theorem gf_no (g : Bead.Grid) {m : Str} (h1 : ¬ m = "high") (h2 : ¬ m = "deep") (h3 : ¬ m = "wide") : (gf g).lookup m = none := by
  unfold gf
  rw [lookup_putF, if_neg h1, lookup_putF, if_neg h2, lookup_putF, if_neg h3]
  all_goals rfl
def bf (x l : Addr) : List (Str × V) := putF "marks" (.ref l) (putF "grid" (.ref x) [])
theorem bf_g (x l : Addr) : (bf x l).lookup ("grid" : Str) = some (.ref x) := by
  unfold bf
  rw [lookup_putF, if_neg (by decide +kernel), lookup_putF, if_pos rfl]
theorem bf_m (x l : Addr) : (bf x l).lookup ("marks" : Str) = some (.ref l) := by
  unfold bf
  rw [lookup_putF, if_pos rfl]
def mV (b : Bool) : V := .int (BM.mI b)
def GridAt (A : Adr) (H : Hp) (x : Addr) (g : Bead.Grid) : Prop := ∃ dx, H x = some (.ins A.cG dx (gf g))
structure BodyOf (A : Adr) (H : Hp) (m dm x dx l : Addr) (B : Bead.Body) : Prop where
  ins : H m = some (.ins A.cB dm (bf x l))
  g : H x = some (.ins A.cG dx (gf B.grid))
  l : H l = some (.lst (B.cells.toList.map mV))
theorem BodyOf.same {A : Adr} {H H' : Hp} {m dm x dx l : Addr} {B : Bead.Body} (h : BodyOf A H m dm x dx l B) (k : Same H H') : BodyOf A H' m dm x dx l B := ⟨k _ _ h.ins, k _ _ h.g, k _ _ h.l⟩
def BodyAt (A : Adr) (H : Hp) (m : Addr) (B : Bead.Body) : Prop := ∃ dm x dx l, BodyOf A H m dm x dx l B
theorem Same.new {H : Hp} {l : Addr} {o : HO} (h : H l = none) : Same H (upd H l o) := fun b u q => by
  rw [upd_ne (ne_of_none q h)]
  exact q
theorem cut_to (xs : List V) (k : Nat) : cutV xs none (some (k : Int)) = xs.take k := by
  unfold cutV
  rw [HT.sIx_nat, HT.sIx_none, List.drop_zero, Nat.sub_zero, List.take_eq_take_iff]
  omega
theorem cut_from (xs : List V) (k : Nat) : cutV xs (some (k : Int)) none = xs.drop k := by
  unfold cutV
  rw [HT.sIx_nat, HT.sIx_none]
  by_cases h : k ≤ xs.length
  · rw [Nat.min_eq_left h]
    exact List.take_of_length_le (by rw [List.length_drop]; exact Nat.le_refl _)
  · rw [Nat.min_eq_right (by omega), Nat.sub_self, List.take_zero, List.drop_eq_nil_of_le (by omega)]
theorem at_b {B : Bytes} {i : Nat} (h : i < B.length) : (B.map bV)[i]? = some (bV (B.getD i 0)) := by
  rw [List.getElem?_map, List.getD_eq_getElem?_getD, List.getElem?_eq_getElem h]
  rfl
def byts (B : Bytes) : List Int := B.map fun c => (c.toNat : Int)
theorem byts_v (B : Bytes) : B.map bV = (byts B).map V.int := by
  unfold byts
  rw [List.map_map]
  rfl
theorem byts_inj : ∀ {B C : Bytes}, byts B = byts C → B = C
  | [], [], _ => rfl
  | b :: B, c :: C, h => by
    unfold byts at h
    rw [List.map_cons, List.map_cons, List.cons.injEq] at h
    rw [u8_eq.mp h.1, byts_inj (B := B) (C := C) h.2]
  | [], _ :: _, h => by cases h
  | _ :: _, [], h => by cases h
theorem side_int (n : Nat) : (decide ((1 : Int) ≤ (n : Int)) && decide ((n : Int) ≤ 12)) = BM.sideB n := by
  unfold BM.sideB
  rw [show decide ((1 : Int) ≤ (n : Int)) = decide (1 ≤ n) by rw [decide_eq_decide]; omega, show decide ((n : Int) ≤ 12) = decide (n ≤ 12) by rw [decide_eq_decide]; omega]
/-- what is wanted where BodyFault(k, p) is raised -/
def ExB (A : Adr) (H : Hp) (E : XK) (k p : Nat) : Prop := ∀ (dx : Addr) (H' : Hp), H' dx = some (.xd [("kind", .int (k : Int)), ("place", .int (p : Int))]) → Same H H' → E (.ref A.cBF) (some dx) H'
section
variable {P : Program} {w : World} {K : PySem.W.Frag} {mg : Str → Option Value} {base : Heap} {A : Adr}
theorem noKind : typeLookup (.type "ValueError") "kind" = pure none := by
  rw [typeLookup_type, builtinLookup_eq_fast]
  kernel_rfl
/-! ### BodyFault.__init__ -/
def spBI (A : Adr) : Sp := fun vs H Q _ => ∃ (e : Addr) (z y : Nat), vs = [.ref e, .int (z : Int), .int (y : Int)] ∧ H e = some (Ex0 e A.cBF) ∧
  ∀ (dx : Addr) (H' : Hp), H' e = some (ExF e A.cBF dx) → H' dx = some (.xd [("kind", .int (z : Int)), ("place", .int (y : Int))]) → dx ≠ e → Keep e H H' → Q .non H'
theorem scBI : FnScope ["self", "kind", "place"] ["self", "kind", "place"] (defScope sBF_init) := ⟨rfl, rfl, rfl, by decide +kernel, rfl, by decide +kernel, by decide +kernel⟩
theorem ok_bi (T : Txt K mg A) : ∃ fd, FnOk P w K mg base CX0 1 A.fBF fd ["self", "kind", "place"] (spBI A) ∧ Binds K fd ["self", "kind", "place"] [] := by
  obtain ⟨fd, F, b⟩ := T.bBF
  refine ⟨fd, F.ok scBI (fun vs H Q E h => ?_) (fun cdv A' outer s H vs Q E hr h => ?_), b⟩
  · obtain ⟨e, z, y, rfl, _⟩ := h
    rfl
  · obtain ⟨e, z, y, rfl, he, k⟩ := h
    refine ⟨_, pss_cons (ps_x0 (pv 0) (pv 1) rfl) (pss_one (ps_x1 (pv 0) (pv 2) rfl)), ?_⟩
    refine ⟨_, rfl, _, rfl, e, A.cBF, A.fBF, ["kind", "place"], rfl, he, T.exBF.ex, List.mem_cons_self, noKind, fun dx nd ne => ?_⟩
    refine ⟨_, rfl, _, rfl, e, A.cBF, dx, A.fBF, ["kind", "place"], [("kind", .int (z : Int))], rfl, upd_same, ((upd_ne ne).trans upd_same), T.exBF.ex, List.mem_cons_of_mem _ (List.mem_singleton.mpr rfl), noPlace, (by show 1 < 1000; decide), ?_⟩
    refine k dx _ ?_ ?_ ne fun b o q nb => ?_
    · rw [upd_ne (Ne.symm ne), upd_same]
    · rw [upd_same]
      show some (HO.xd (if ("kind" : Str) = "place" then _ else _)) = _
      rw [if_neg (by decide +kernel)]
      rfl
    · have nb2 : b ≠ dx := ne_of_none q nd
      rw [upd_ne nb2, upd_ne nb, upd_ne nb2]
      exact q
theorem raisedB {E : XK} {k p : Nat} {H0 H : Hp} (h : ExB A H0 E k p) (s : Same H0 H) (ea : Addr) (ne : H ea = none) : spBI A [.ref ea, .int (k : Int), .int (p : Int)] (upd H ea (Ex0 ea A.cBF))
    (fun v H2 => v = .non ∧ ∃ dx fs, H2 ea = some (ExF ea A.cBF dx) ∧ H2 dx = some (.xd fs) ∧ E (.ref A.cBF) (some dx) (del H2 ea)) (fun _ _ _ => False) :=
  ⟨ea, k, p, rfl, upd_same, fun dx' H' e1 e2 n kp => ⟨rfl, dx', _, e1, e2, h dx' _ (by rw [del_ne n]; exact e2) fun b o q => by
    have q1 := s _ _ q
    have nb : b ≠ ea := ne_of_none q1 ne
    rw [del_ne nb]
    exact kp b o (by rw [upd_ne nb]; exact q1) nb⟩⟩
/-! ### Grid.__init__, Body.__init__ -/
def spGI (A : Adr) : Sp := fun vs H Q _ => ∃ (x dx : Addr) (g : Bead.Grid), vs = [.ref x, nV g.wide, nV g.deep, nV g.high] ∧ H x = some (.ins A.cG dx []) ∧ ∀ H' : Hp, H' x = some (.ins A.cG dx (gf g)) → Keep x H H' → Q .non H'
theorem scGI : FnScope ["self", "wide", "deep", "high"] ["self", "wide", "deep", "high"] (defScope sG_init) := ⟨rfl, rfl, rfl, by decide +kernel, rfl, by decide +kernel, by decide +kernel⟩
theorem ok_gi (T : Txt K mg A) : ∃ fd, FnOk P w K mg base CX0 1 A.fG fd ["self", "wide", "deep", "high"] (spGI A) ∧ Binds K fd ["self", "wide", "deep", "high"] [] := by
  obtain ⟨fd, F, b⟩ := T.bG
  refine ⟨fd, F.ok scGI (fun vs H Q E h => ?_) (fun cdv A' outer s H vs Q E hr h => ?_), b⟩
  · obtain ⟨x, dx, g, rfl, _⟩ := h
    rfl
  · obtain ⟨x, dx, g, rfl, hx, k⟩ := h
    refine ⟨_, pss_cons (ps_fld (pv 0) (pv 1) rfl) (pss_cons (ps_fld (pv 0) (pv 2) rfl) (pss_one (ps_fld (pv 0) (pv 3) rfl))), ?_⟩
    refine ⟨_, rfl, _, rfl, x, A.cG, dx, [], rfl, hx, T.cG, T.nGw, (by show 0 < 1000; decide), ?_⟩
    refine ⟨_, rfl, _, rfl, x, A.cG, dx, _, rfl, upd_same, T.cG, T.nGd, (by show 1 < 1000; decide), ?_⟩
    refine ⟨_, rfl, _, rfl, x, A.cG, dx, _, rfl, upd_same, T.cG, T.nGh, (by show 2 < 1000; decide), ?_⟩
    exact k _ upd_same fun b o e hb => by rw [upd_ne hb, upd_ne hb, upd_ne hb]; exact e
def spBdI (A : Adr) : Sp := fun vs H Q _ => ∃ (x dx c t : Addr), vs = [.ref x, .ref c, .ref t] ∧ H x = some (.ins A.cB dx []) ∧ ∀ H' : Hp, H' x = some (.ins A.cB dx (bf c t)) → Keep x H H' → Q .non H'
theorem scBdI : FnScope ["self", "grid", "marks"] ["self", "grid", "marks"] (defScope sB_init) := ⟨rfl, rfl, rfl, by decide +kernel, rfl, by decide +kernel, by decide +kernel⟩
theorem ok_bdi (T : Txt K mg A) : ∃ fd, FnOk P w K mg base CX0 1 A.fB fd ["self", "grid", "marks"] (spBdI A) ∧ Binds K fd ["self", "grid", "marks"] [] := by
  obtain ⟨fd, F, b⟩ := T.bB
  refine ⟨fd, F.ok scBdI (fun vs H Q E h => ?_) (fun cdv A' outer s H vs Q E hr h => ?_), b⟩
  · obtain ⟨x, dx, c, t, rfl, _⟩ := h
    rfl
  · obtain ⟨x, dx, c, t, rfl, hx, k⟩ := h
    refine ⟨_, pss_cons (ps_fld (pv 0) (pv 1) rfl) (pss_one (ps_fld (pv 0) (pv 2) rfl)), ?_⟩
    refine ⟨_, rfl, _, rfl, x, A.cB, dx, [], rfl, hx, T.cB, T.nBg, (by show 0 < 1000; decide), ?_⟩
    refine ⟨_, rfl, _, rfl, x, A.cB, dx, _, rfl, upd_same, T.cB, T.nBm, (by show 1 < 1000; decide), ?_⟩
    exact k _ upd_same fun b o e hb => by rw [upd_ne hb, upd_ne hb]; exact e
/-! ### cell_count, is_side, bit_bytes -/
def spCc (A : Adr) : Sp := fun vs H Q _ => ∃ (x : Addr) (g : Bead.Grid), vs = [.ref x] ∧ GridAt A H x g ∧ BM.GridOk g ∧ Q (.int (g.count : Int)) H
theorem scCc : FnScope ["self"] ["self"] (defScope sCc) := ⟨rfl, rfl, rfl, by decide +kernel, rfl, by decide +kernel, by decide +kernel⟩
theorem ok_cc (T : Txt K mg A) : ∃ fd, FnOk P w K mg base CX0 1 A.fCc fd ["self"] (spCc A) ∧ Binds K fd ["self"] [] := by
  obtain ⟨fd, F, b⟩ := T.bCc
  refine ⟨fd, F.ok scCc (fun vs H Q E h => ?_) (fun cdv A' outer s H vs Q E hr h => ?_), b⟩
  · obtain ⟨x, g, rfl, _⟩ := h
    rfl
  · obtain ⟨x, g, rfl, ⟨dx, hx⟩, ok, k⟩ := h
    have h1 := ok.w2
    have h2 := ok.h2
    refine ⟨_, pss_one (ps_ret (pe_op op_mul (pe_op op_mul (pe_fld (pv 0) rfl) (pe_fld (pv 0) rfl)) (pe_fld (pv 0) rfl))), ?_⟩
    refine ⟨_, rfl, x, A.cG, dx, _, _, rfl, hx, T.cG, T.nGw, gf_w g, _, rfl, x, A.cG, dx, _, _, rfl, hx, T.cG, T.nGd, gf_d g, _, _, rfl, rfl, .inl ⟨by omega, by omega⟩, _, rfl, x, A.cG, dx, _, _, rfl, hx, T.cG, T.nGh, gf_h g, _, _, rfl, rfl, .inr ⟨by omega, by omega⟩, ?_⟩
    have e : (g.wide : Int) * (g.deep : Int) * (g.high : Int) = ((g.count : Nat) : Int) := by
      unfold Bead.Grid.count
      push_cast
      rfl
    dsimp only
    rw [e]
    exact k
def spIs : Sp := fun vs H Q _ => ∃ n : Int, vs = [.int n] ∧ Q (.bl (decide (1 ≤ n) && decide (n ≤ 12))) H
theorem scIs : FnScope ["number"] ["number"] (defScope sIs) := ⟨rfl, rfl, rfl, by decide +kernel, rfl, by decide +kernel, by decide +kernel⟩
theorem ok_is (T : Txt K mg A) : ∃ fd, FnOk P w K mg base CX0 1 A.fIs fd ["number"] spIs ∧ Binds K fd ["number"] [] ∧ PySem.W.keepIn K (.ref A.fIs) = true := by
  obtain ⟨fd, F, b⟩ := T.bIs
  refine ⟨fd, F.ok scIs (fun vs H Q E h => ?_) (fun cdv A' outer s H vs Q E hr h => ?_), b, F.kp⟩
  · obtain ⟨n, rfl, _⟩ := h
    rfl
  · obtain ⟨n, rfl, k⟩ := h
    refine ⟨_, pss_one (ps_ret (pe_chain op_le op_le pe_int (pv 0) (pe_num (by rfl) T.n12))), ?_⟩
    refine ⟨_, rfl, _, _, rfl, rfl, _, rfl, ?_⟩
    by_cases e1 : (1 : Int) ≤ n
    · rw [decide_eq_true e1] at k ⊢
      refine iteT ?_
      refine ⟨_, _, rfl, rfl, ?_⟩
      rw [Bool.true_and] at k
      exact k
    · rw [decide_eq_false e1] at k ⊢
      refine iteF ?_
      exact k
def spBb : Sp := fun vs H Q _ => ∃ n : Nat, vs = [.int (n : Int)] ∧ Q (.int (((n + 7) / 8 : Nat) : Int)) H
theorem scBb : FnScope ["count"] ["count"] (defScope sBb) := ⟨rfl, rfl, rfl, by decide +kernel, rfl, by decide +kernel, by decide +kernel⟩
theorem ok_bb (T : Txt K mg A) : ∃ fd, FnOk P w K mg base CX0 1 A.fBb fd ["count"] spBb ∧ Binds K fd ["count"] [] ∧ PySem.W.keepIn K (.ref A.fBb) = true := by
  obtain ⟨fd, F, b⟩ := T.bBb
  refine ⟨fd, F.ok scBb (fun vs H Q E h => ?_) (fun cdv A' outer s H vs Q E hr h => ?_), b, F.kp⟩
  · obtain ⟨n, rfl, _⟩ := h
    rfl
  · obtain ⟨n, rfl, k⟩ := h
    refine ⟨_, pss_one (ps_ret (pe_op op_fdiv (pe_op op_add (pv 0) pe_int) pe_int)), ?_⟩
    refine ⟨_, rfl, _, _, rfl, rfl, _, _, rfl, rfl, ⟨by decide, by decide⟩, ?_⟩
    dsimp only
    rw [show ((n : Int) + 7) / 8 = (((n + 7) / 8 : Nat) : Int) by omega]
    exact k
/-! ### read_grid -/
def spRg (A : Adr) (K : PySem.W.Frag) : Sp := fun vs H Q E => ∃ (a : Addr) (B : Bytes), vs = [.ref a] ∧ SqL K H a (B.map bV) ∧
  (∀ g, BM.readGrid B = .ok g → ∀ (H' : Hp) (x : Addr), GridAt A H' x g → Same H H' → Q (.ref x) H') ∧ (∀ e, BM.readGrid B = .error e → ExB A H E e.1 e.2)
theorem scRg : FnScope ["b", "place", "grid"] ["b"] (defScope sRg) := ⟨rfl, rfl, rfl, by decide +kernel, rfl, by decide +kernel, by decide +kernel⟩
theorem ok_rg (T : Txt K mg A) : ∃ fd, FnOk P w K mg base (CXE P w) 3 A.fRg fd ["b"] (spRg A K) ∧ Binds K fd ["b"] [] ∧ PySem.W.keepIn K (.ref A.fRg) = true := by
  obtain ⟨fd, F, b⟩ := T.bRg
  obtain ⟨fdX, GX, bX⟩ := ok_bi (P := P) (w := w) (base := base) T
  obtain ⟨fdG, GG, bG⟩ := ok_gi (P := P) (w := w) (base := base) T
  obtain ⟨fdC, GC, bC⟩ := ok_cc (P := P) (w := w) (base := base) T
  obtain ⟨fdI, GI, bI, kI⟩ := ok_is (P := P) (w := w) (base := base) T
  obtain ⟨fdB, GB, bB, kB⟩ := ok_bb (P := P) (w := w) (base := base) T
  obtain ⟨aM, gM, sM⟩ := T.t_MARK
  refine ⟨fd, F.okE scRg (fun vs H Q E h => ?_) (fun cdv A' outer s H vs Q E hr h => ?_), b, F.kp⟩
  · obtain ⟨a, B, rfl, _⟩ := h
    rfl
  · obtain ⟨a, B, rfl, hs, k1, k2⟩ := h
    have hr1 := hr.mono (show 1 ≤ 2 by decide)
    have hu := hr.units
    refine ⟨_, pss_cons (ps_if (pw_or (pt_cmpR op_lt (pe_callB call_len_seq (by rfl) T.len PySem.boot_len (pa_cons (pv 0) pa_nil)) (pe_num (by rfl) T.n7) (nomark _)) (pw_or1 (pt_cmpR (op_neD hu) (pe_callTy call_tuple_of (by rfl) T.tuple boot_tuple (pa_cons (pe_slice sl_list (pv 0) po_none (po_some (pe_callB call_len_seq (by rfl) T.len PySem.boot_len (pa_cons (pe_gref (by rfl) gM) pa_nil)))) pa_nil)) (pe_gref (by rfl) gM) (nomark _)))).pt
        (pss_one (ps_raise T.exBF GX hr (by rfl) T.gBF bX (pa_cons (pe_num (by rfl) T.nWF) (pa_cons pe_int pa_nil)))) pss_nil)
      (pss_cons (ps_for pass_own rfl (pi_range2 (by rfl) T.range (pa_cons (pe_callB call_len_seq (by rfl) T.len PySem.boot_len (pa_cons (pe_gref (by rfl) gM) pa_nil)) (pa_cons (pe_num (by rfl) T.n7) pa_nil))) (pg_name (i := 1) scRg.nd rfl (Or.inl rfl))
        (pss_one (ps_if (pt_not (pt_val (pe_call GI hr1 (by rfl) T.gIs kI bI .nil pass0 (pa_cons (pe_ix ix_list (pv 0) (pv 1) (fun _ _ => rfl)) pa_nil)))) (pss_one (ps_raise T.exBF GX hr (by rfl) T.gBF bX (pa_cons (pe_num (by rfl) T.nWS) (pa_cons (pv 1) pa_nil)))) pss_nil)))
      (pss_cons (ps_set (i := 2) scRg.nd rfl (Or.inl rfl) (pe_make T.mkG GG hr (by rfl) T.gG bG .nil pass0 (pa_cons (pe_ix ix_list (pv 0) pe_int (fun _ _ => rfl)) (pa_cons (pe_ix ix_list (pv 0) pe_int (fun _ _ => rfl)) (pa_cons (pe_ix ix_list (pv 0) pe_int (fun _ _ => rfl)) pa_nil)))))
      (pss_cons (ps_if (pt_cmpR op_ne (pe_callB call_len_seq (by rfl) T.len PySem.boot_len (pa_cons (pv 0) pa_nil)) (pe_op op_add (pe_num (by rfl) T.n7) (pe_call GB hr1 (by rfl) T.gBb kB bB .nil pass0 (pa_cons (pe_meth0 (pv 2) T.cG T.mCc GC hr1 bC .nil pass0) pa_nil))) (nomark _))
        (pss_one (ps_raise T.exBF GX hr (by rfl) T.gBF bX (pa_cons (pe_num (by rfl) T.nWF) (pa_cons (pe_callB call_len_seq (by rfl) T.len PySem.boot_len (pa_cons (pe_gref (by rfl) gM) pa_nil)) pa_nil)))) pss_nil)
      (pss_one (ps_ret (pv 2)))))), ?_⟩
    have bad : (B.length < 7 ∨ B.take 4 ≠ Bead.BODY) → ExB A H E 1 0 := fun z => k2 (1, 0) (by unfold BM.readGrid; rw [if_pos z])
    refine ⟨_, rfl, a, _, rfl, .inl hs, _, _, rfl, rfl, _, rfl, ?_⟩
    rw [List.length_map]
    by_cases h7 : B.length < 7
    · rw [decide_eq_true (show (B.length : Int) < 7 by omega)]; refine iteT ?_
      refine iteT ?_
      exact fun ea ne => raisedB (bad (.inl h7)) (Same.refl H) ea ne
    · rw [decide_eq_false (show ¬ (B.length : Int) < 7 by omega)]; refine iteF ?_
      have ecut : cutV (B.map bV) none (some ((((([66, 68, 66, 49] : List Int).map V.int).length : Nat)) : Int)) = (byts (B.take 4)).map V.int := by
        rw [cut_to, ← List.map_take]
        exact byts_v _
      refine ⟨_, rfl, aM, _, rfl, .inr (sM _), _, rfl, a, _, rfl, hs, fun p1 n1 => ?_⟩
      have hp1 : upd H p1 (.lst (cutV (B.map bV) none (some ((((([66, 68, 66, 49] : List Int).map V.int).length : Nat)) : Int)))) p1 = some (.lst ((byts (B.take 4)).map V.int)) := upd_same.trans (congrArg (fun q => some (HO.lst q)) ecut)
      refine ⟨p1, _, rfl, .inl ⟨SqL.of hp1, fun t1 m1 => ?_⟩⟩
      have s1 : Same H (upd (upd H p1 (.lst (cutV (B.map bV) none (some ((((([66, 68, 66, 49] : List Int).map V.int).length : Nat)) : Int))))) t1 (.tup ((byts (B.take 4)).map V.int))) := (Same.new n1).trans (Same.new m1)
      refine ⟨_, _, .tup (SqT.of upd_same) (dp_ints _), .tup (sM _) (dp_ints _), shaped_ints _, shaped_ints _, _, rfl, ?_⟩
      rw [eqv_ints]
      generalize upd (upd H p1 (.lst (cutV (B.map bV) none (some ((((([66, 68, 66, 49] : List Int).map V.int).length : Nat)) : Int))))) t1 (.tup ((byts (B.take 4)).map V.int)) = H1 at s1
      by_cases hm : B.take 4 = Bead.BODY
      · rw [decide_eq_true (show byts (B.take 4) = [66, 68, 66, 49] by rw [hm]; rfl)]
        refine iteF ?_
        refine ⟨aM, _, rfl, .inr (sM _), _, _, rfl, ⟨by decide, by decide, by decide, by decide⟩, for_range (lo := 4) (n := 3) (fun i σ H' => ∃ v1, σ = [some (.ref a), v1, none] ∧ H' = H1 ∧ ∀ j, j < i → BM.sideB (B.getD (4 + j) 0).toNat = true) ⟨none, rfl, rfl, fun j hj => by omega⟩ ?_ ?_⟩
        · rintro i σ H' hi ⟨v1, rfl, rfl, hall⟩
          have e4 : (4 : Int) + (i : Int) = ((4 + i : Nat) : Int) := by omega
          rw [e4]
          refine ⟨_, rfl, _, rfl, a, _, _, bV (B.getD (4 + i) 0), rfl, rfl, s1.seq hs, atI_nat (at_b (by omega)), _, rfl, _, rfl, ?_⟩
          rw [side_int]
          cases hsd : BM.sideB (B.getD (4 + i) 0).toNat with
          | false =>
            refine iteT ?_
            refine ⟨_, rfl, ?_⟩
            refine fun ea ne => raisedB (k := 2) (k2 (2, 4 + i) ?_) s1 ea ne
            unfold BM.readGrid
            rw [if_neg (fun z => z.elim h7 fun z => z hm), BM.fault_at hi hall hsd]
          | true =>
            refine iteF ?_
            refine ⟨_, rfl, rfl, fun j hj => ?_⟩
            by_cases z : j = i
            · rw [z]
              exact hsd
            · exact hall j (by omega)
        · rintro σ H' ⟨v1, rfl, rfl, hall⟩
          have hg0 := BM.fault_none hall
          obtain ⟨a1, a2, a3, a4, a5, a6⟩ := BM.grid_none hg0
          have gok : BM.GridOk (Bead.gridAt B) := ⟨a1, a2, a3, a4, a5, a6⟩
          have hs1 := s1.seq hs
          refine ⟨_, rfl, a, _, _, bV (B.getD 4 0), rfl, rfl, hs1, atI_nat (j := 4) (at_b (by omega)), _, rfl, a, _, _, bV (B.getD 5 0), rfl, rfl, hs1, atI_nat (j := 5) (at_b (by omega)), _, rfl, a, _, _, bV (B.getD 6 0), rfl, rfl, hs1, atI_nat (j := 6) (at_b (by omega)), ?_⟩
          intro x dx nx ndx nex
          refine ⟨x, dx, Bead.gridAt B, rfl, upd_same, fun H2 i2 kp2 => ⟨rfl, ?_⟩⟩
          have s2 : Same H' H2 := Same.made nx ndx kp2
          refine ⟨_, rfl, a, _, rfl, .inl (s2.seq hs1), _, rfl, x, dx, _, rfl, i2, gf_no _ (by decide +kernel) (by decide +kernel) (by decide +kernel), x, Bead.gridAt B, rfl, ⟨dx, i2⟩, gok, _, rfl, _, _, rfl, rfl, rfl, _, rfl, ?_⟩
          have rg : BM.readGrid B = if B.length ≠ 7 + ((Bead.gridAt B).count + 7) / 8 then .error (1, 4) else .ok (Bead.gridAt B) := by
            unfold BM.readGrid
            rw [if_neg (fun z => z.elim h7 fun z => z hm), hg0]
          by_cases hl : B.length = 7 + ((Bead.gridAt B).count + 7) / 8
          · have e : V.int (((B.map bV).length : Nat) : Int) = V.int (7 + ((((Bead.gridAt B).count + 7) / 8 : Nat) : Int)) := by
              rw [List.length_map]
              congr 1
              omega
            rw [decide_eq_true e]; refine iteF ?_
            refine ⟨_, rfl, ?_⟩
            rw [if_neg (fun z => z hl)] at rg
            exact k1 _ rg H2 x ⟨dx, i2⟩ (s1.trans s2)
          · have e : ¬ V.int (((B.map bV).length : Nat) : Int) = V.int (7 + ((((Bead.gridAt B).count + 7) / 8 : Nat) : Int)) := fun z => by
              rw [List.length_map] at z
              injection z with z
              omega
            rw [decide_eq_false e]; refine iteT ?_
            rw [if_pos hl] at rg
            refine ⟨aM, _, rfl, .inr (sM _), ?_⟩
            exact fun ea ne => raisedB (k := 1) (p := 4) (k2 (1, 4) rg) (s1.trans s2) ea ne
      · rw [decide_eq_false (show ¬ byts (B.take 4) = [66, 68, 66, 49] from fun z => hm (byts_inj (C := Bead.BODY) z))]
        refine iteT ?_
        exact fun ea ne => raisedB (bad (.inr hm)) s1 ea ne
/-! ### read_body -/
def bI (B : Bytes) : List Int := (Bead.bitsOf (B.drop 7)).map BM.mI
theorem bI_len (B : Bytes) : (bI B).length = 8 * (B.length - 7) := by
  unfold bI
  rw [List.length_map, BM.bits_len, List.length_drop]
theorem bI_at {B : Bytes} {i : Nat} (h : i < 8 * (B.length - 7)) : (bI B)[i]? = some (BM.mI ((B.getD (7 + i / 8) 0).toNat.testBit (i % 8))) := by
  unfold bI
  rw [List.getElem?_map, BM.bits_at _ _ (by rw [List.length_drop]; exact h), BM.getD_drop]
  rfl
theorem mI_any (l : List Bool) : ((l.map BM.mI).any fun n => decide (n ≠ 0)) = l.any fun x => x := by
  rw [List.any_map]
  congr 1
  funext b
  cases b <;> rfl
theorem mV_ints (l : List Bool) : l.map mV = (l.map BM.mI).map V.int := by
  rw [List.map_map]
  rfl
def spRb (A : Adr) (K : PySem.W.Frag) : Sp := fun vs H Q E => ∃ (a : Addr) (B : Bytes), vs = [.ref a] ∧ SqL K H a (B.map bV) ∧
  (∀ b, Bead.judgeBody B = .ok b → ∀ (H' : Hp) (m : Addr), BodyAt A H' m b → Same H H' → Q (.ref m) H') ∧ (∀ e, Bead.judgeBody B = .error e → ExB A H E e.1 e.2)
theorem scRb : FnScope ["b", "grid", "bits", "k"] ["b"] (defScope sRb) := ⟨rfl, rfl, rfl, by decide +kernel, rfl, by decide +kernel, by decide +kernel⟩
theorem ok_rb (T : Txt K mg A) : ∃ fd, FnOk P w K mg base (CXE P w) 4 A.fRb fd ["b"] (spRb A K) ∧ Binds K fd ["b"] [] ∧ PySem.W.keepIn K (.ref A.fRb) = true := by
  obtain ⟨fd, F, b⟩ := T.bRb
  obtain ⟨fdX, GX, bX⟩ := ok_bi (P := P) (w := w) (base := base) T
  obtain ⟨fdD, GD, bD⟩ := ok_bdi (P := P) (w := w) (base := base) T
  obtain ⟨fdC, GC, bC⟩ := ok_cc (P := P) (w := w) (base := base) T
  obtain ⟨fdB, GB, bB, kB⟩ := ok_bb (P := P) (w := w) (base := base) T
  obtain ⟨fdG, GG, bG, kG⟩ := ok_rg (P := P) (w := w) (base := base) T
  refine ⟨fd, F.okE scRb (fun vs H Q E h => ?_) (fun cdv A' outer s H vs Q E hr h => ?_), b, F.kp⟩
  · obtain ⟨a, B, rfl, _⟩ := h
    rfl
  · obtain ⟨a, B, rfl, hs, k1, k2⟩ := h
    have hr1 := hr.mono (show 1 ≤ 3 by decide)
    have hr2 := hr.mono (show 2 ≤ 3 by decide)
    refine ⟨_, pss_cons (ps_set (i := 1) scRb.nd rfl (Or.inl rfl) (pe_call GG hr (by rfl) T.gRg kG bG .nil pass_up (pa_cons (pv 0) pa_nil)))
      (pss_cons (ps_setLc (own := [("k", 3)]) (i := 2) rfl scRb.nd rfl rfl (sw_true rfl rfl (by rfl) (by decide +kernel)) (pi_range1 (by rfl) T.range (pa_cons (pe_op op_mul pe_int (pe_call GB hr1 (by rfl) T.gBb kB bB .nil pass0 (pa_cons (pe_meth0 (pv 1) T.cG T.mCc GC hr1 bC .nil pass0) pa_nil))) pa_nil)) (blkOk_at (N := ["b", "grid", "bits", "k"]) (sc := defScope sRb) (by decide +kernel)) (fun _ _ _ _ _ => pg_name (i := 3) scRb.nd rfl (Or.inl rfl)) (fun _ _ _ _ _ => pts_nil)
        (fun _ _ _ _ _ => (pe_op op_and (pe_op op_shr (pe_ix (ix_listK (K := K) rfl) (pv 0) (pe_op op_add (pe_num (by rfl) T.n7) (pe_op op_fdiv (pv 3) pe_int)) (fun _ _ => rfl)) (pe_op op_mod (pv 3) pe_int)) pe_int)))
      (pss_cons (ps_if (pt_val (pe_callB (cr_anyI rfl) (by rfl) T.any boot_any (pa_cons (pe_slice sl_list (pv 2) (po_some (pe_meth0 (pv 1) T.cG T.mCc GC hr1 bC .nil pass0)) po_none) pa_nil)))
        (pss_one (ps_raise T.exBF GX hr2 (by rfl) T.gBF bX (pa_cons (pe_num (by rfl) T.nWB) (pa_cons (pe_op op_sub (pe_callB call_len_seq (by rfl) T.len PySem.boot_len (pa_cons (pv 0) pa_nil)) pe_int) pa_nil)))) pss_nil)
      (pss_one (ps_ret (pe_make T.mkB GD hr2 (by rfl) T.gB bD .nil pass0 (pa_cons (pv 1) (pa_cons (pe_slice sl_list (pv 2) po_none (po_some (pe_meth0 (pv 1) T.cG T.mCc GC hr1 bC .nil pass0))) pa_nil))))))), ?_⟩
    have js := BM.judge_split B
    refine ⟨_, rfl, a, B, rfl, hs, fun g eg H1 x hx s1 => ?_, fun e ee dx' H' q1 q2 => k2 e (by rw [js, ee]) dx' H' q1 q2⟩
    rw [eg] at js
    dsimp only at js
    obtain ⟨gok, hlen⟩ := BM.read_grid_ok eg
    obtain ⟨dx, hx⟩ := hx
    have hcnt := gok.count
    have hno : (gf g).lookup ("cell_count" : Str) = none := gf_no g (by decide +kernel) (by decide +kernel) (by decide +kernel)
    have hm : B.length - 7 = (g.count + 7) / 8 := by omega
    refine ⟨_, rfl, x, dx, _, rfl, hx, hno, x, g, rfl, ⟨dx, hx⟩, gok, _, rfl, _, _, rfl, rfl, .inl ⟨by decide, by decide⟩, ((8 * ((g.count + 7) / 8) : Nat) : Int), ?_, by omega, by omega, fun D hD => lc_range (n := 8 * ((g.count + 7) / 8)) (fun i H' => H' D = some (.lst (((bI B).take i).map V.int)) ∧ Same H1 H') ?_ ?_ ?_⟩
    · show [V.int (8 * (((g.count + 7) / 8 : Nat) : Int))] = _
      rw [show (8 : Int) * (((g.count + 7) / 8 : Nat) : Int) = ((8 * ((g.count + 7) / 8) : Nat) : Int) by omega]
    · exact ⟨upd_same, Same.new hD⟩
    · rintro i H' hi ⟨p1, p2⟩
      have hb := bI_at (B := B) (i := i) (by rw [hm]; exact hi)
      refine ⟨rfl, yesT ?_⟩
      have e0 : (0 : Int) + (i : Int) = (i : Int) := Int.zero_add _
      rw [e0]
      have e1 : (7 : Int) + (i : Int) / 8 = ((7 + i / 8 : Nat) : Int) := by omega
      have e2 : ((i : Int) % 8).toNat = i % 8 := by omega
      refine ⟨_, rfl, _, rfl, _, _, rfl, rfl, ⟨by decide, by decide⟩, _, _, rfl, rfl, a, _, _, bV (B.getD (7 + i / 8) 0), rfl, rfl, (s1.trans p2).seq hs, ?_, _, rfl, _, _, rfl, rfl, (by show (0 : Int) < 8; decide), _, _, rfl, rfl, ?_, _, _, rfl, rfl, ?_⟩
      · rw [e1]
        exact atI_nat (at_b (by omega))
      · show (0 : Int) ≤ (i : Int) % 8
        omega
      · refine ⟨_, p1, ?_, ?_, fun b o q => ?_⟩
        · rw [List.length_map, List.length_take]
          exact Nat.lt_of_le_of_lt (Nat.min_le_left _ _) (Nat.lt_of_lt_of_le hi (Nat.le_trans (by omega : _ ≤ 100000) (by decide)))
        · rw [upd_same, List.take_add_one, hb, List.map_append]
          dsimp only
          rw [PyProof.Rows.bitAnd_m1, e2, BM.bit_int]
          rfl
        · rw [upd_ne (ne_of_none q hD)]
          exact p2 _ _ q
    · rintro H2 ⟨p1, p2⟩
      rw [List.take_of_length_le (by rw [bI_len, hm]; exact Nat.le_refl _)] at p1
      have hx2 := p2 _ _ hx
      refine ⟨_, rfl, _, rfl, x, dx, _, rfl, hx2, hno, x, g, rfl, ⟨dx, hx2⟩, gok, _, rfl, D, _, rfl, SqL.of p1, fun q1 n1 => ?_⟩
      rw [cut_from, ← List.map_drop]
      refine ⟨q1, (bI B).drop g.count, rfl, SqL.of upd_same, _, rfl, ?_⟩
      have ea : ((bI B).drop g.count).any (fun n => decide (n ≠ 0)) = ((Bead.bitsOf (B.drop 7)).drop g.count).any fun x => x := by
        unfold bI
        rw [← List.map_drop, mI_any]
      rw [ea]
      have s3 := Same.new (o := HO.lst (((bI B).drop g.count).map V.int)) n1
      cases hz : ((Bead.bitsOf (B.drop 7)).drop g.count).any fun x => x with
      | true =>
        rw [if_pos hz] at js
        refine iteT ?_
        refine ⟨_, rfl, a, _, rfl, .inl ((s1.trans (p2.trans s3)).seq hs), _, _, rfl, rfl, ?_⟩
        dsimp only
        rw [List.length_map, show (B.length : Int) - 1 = ((B.length - 1 : Nat) : Int) by omega]
        exact fun ea ne => raisedB (k := 3) (k2 (3, B.length - 1) js) (s1.trans (p2.trans s3)) ea ne
      | false =>
        rw [if_neg (by rw [hz]; exact Bool.false_ne_true)] at js
        refine iteF ?_
        have hx3 := s3 _ _ hx2
        refine ⟨_, rfl, _, rfl, _, rfl, x, dx, _, rfl, hx3, hno, x, g, rfl, ⟨dx, hx3⟩, gok, _, rfl, D, _, rfl, SqL.of (s3 _ _ p1), fun q2 n2 => ?_⟩
        rw [cut_to, ← List.map_take]
        intro m dm nm ndm nem
        refine ⟨m, dm, x, q2, rfl, upd_same, fun H4 i4 kp4 => ⟨rfl, ?_⟩⟩
        have s4 := Same.made nm ndm kp4
        have s5 := Same.new (o := HO.lst (((bI B).take g.count).map V.int)) n2
        refine k1 _ js H4 m ⟨dm, x, dx, q2, i4, s4 _ _ (s5 _ _ hx3), ?_⟩ (s1.trans (p2.trans (s3.trans (s5.trans s4))))
        refine s4 _ _ (upd_same.trans ?_)
        unfold bI
        rw [← List.map_take]
        show _ = some (HO.lst (((Bead.bitsOf (B.drop 7)).take g.count).toArray.toList.map mV))
        rw [mV_ints]
end
end MP

end

section
set_option Elab.async false
set_option linter.all false
set_option maxRecDepth 100000
set_option maxHeartbeats 2000000
namespace MP
open PySem PySem.Spec PyProof.Rows L2
open Bead (Bytes In isDigit)
/-! ### what is due -/
/-- what is due -/
def due (c : Bodies.Call) : List Int := BodiesNeutral.numbersOf (Bodies.answer c)
theorem looked_short {B : Bytes} (h : ¬ 16384 < B.length) (a : Bodies.Answer) : Bodies.looked [B] a = a := by
  unfold Bodies.looked
  rw [if_neg]
  rw [List.any_cons, decide_eq_false (show ¬ Bead.LOOKED < B.length from h)]
  decide
theorem looked_long {B : Bytes} (h : 16384 < B.length) (a : Bodies.Answer) : Bodies.looked [B] a = Bead.says (-2) := by
  unfold Bodies.looked
  rw [if_pos]
  rw [List.any_cons, decide_eq_true (show Bead.LOOKED < B.length from h)]
  rfl
theorem says_is (z : Int) : (BodiesNeutral.numbersOf (Bead.says z)).map V.int = [.int z, .int 0, .int 0] := rfl
theorem boot_lst : bootBuiltins "list" = some (.type "list") := by decide +kernel
/-! ### the request -/
theorem text_back : ∀ {ns : List Int}, ns.all (PySem.W.Codec.inInt 0 255) = true → ns.map V.int = (BodiesNeutral.text ns).map bV
  | [], _ => rfl
  | n :: ns, h => by
    rw [List.all_cons, Bool.and_eq_true] at h
    have ih := text_back h.2
    have h1 : 0 ≤ n ∧ n ≤ 255 := PySem.W.Codec.inInt_iff.mp h.1
    show V.int n :: ns.map V.int = bV (UInt8.ofNat n.toNat) :: (BodiesNeutral.text ns).map bV
    rw [ih]
    congr 1
    show V.int n = V.int (((UInt8.ofNat n.toNat).toNat : Nat) : Int)
    rw [UInt8.toNat_ofNat_of_lt' (by show n.toNat < 256; omega)]
    congr 1
    omega
/-! ### body_of -/
def spBo (A : Adr) (K : PySem.W.Frag) : Sp := fun vs H Q _ => ∃ (a : Addr) (B : Bytes), vs = [.ref a] ∧ SqL K H a (B.map bV) ∧
  (∀ b, Bead.judgeBody B = .ok b → ∀ (H' : Hp) (m : Addr), BodyAt A H' m b → Same H H' → Q (.ref m) H') ∧ (∀ e, Bead.judgeBody B = .error e → ∀ H' : Hp, Same H H' → Q .non H')
section
variable {P : Program} {w : World} {K : PySem.W.Frag} {mg : Str → Option Value} {base : Heap} {A : Adr}
theorem scBo : FnScope ["b"] ["b"] (defScope sBo) := ⟨rfl, rfl, rfl, by decide +kernel, rfl, by decide +kernel, by decide +kernel⟩
theorem ok_bo (T : Txt K mg A) : ∃ fd, FnOk P w K mg base CX0 5 A.fBo fd ["b"] (spBo A K) ∧ Binds K fd ["b"] [] ∧ PySem.W.keepIn K (.ref A.fBo) = true := by
  obtain ⟨fd, F, b⟩ := T.bBo
  obtain ⟨fdM, GM, bM, kM⟩ := ok_rb (P := P) (w := w) (base := base) T
  refine ⟨fd, F.ok scBo (fun vs H Q E h => ?_) (fun cdv A' outer s H vs Q E hr h => ?_), b, F.kp⟩
  · obtain ⟨a, B, rfl, _⟩ := h
    rfl
  · obtain ⟨a, B, rfl, hs, k1, k2⟩ := h
    refine ⟨_, pss_one (ps_try0 T.exBF.ex (by rfl) T.gBF rfl rfl
      (fun pl E' E hx => pss_one (ps_ret (pe_call GM hr (by rfl) T.gRb kM bM .nil hx (pa_cons (pv 0) pa_nil))))
      (fun e pl => pss_one (ps_ret pe_non))), ?_⟩
    exact ⟨_, rfl, a, B, rfl, hs, fun b e H1 m M s1 => k1 b e H1 m M s1, fun f e dx H1 h1 s1 => ⟨rfl, fun dx' ed σ' hσ => k2 f e H1 s1⟩⟩
/-! ### what is due of bodies -/
theorem of_body {B : Bytes} {b : Bead.Body} (e : Bead.judgeBody B = .ok b) (f : Bead.Body → Bodies.Answer) : Bodies.ofBody B f = f b := by
  unfold Bodies.ofBody
  rw [e]
theorem of_none {B : Bytes} {e : Bead.Fault} (h : Bead.judgeBody B = .error e) (f : Bead.Body → Bodies.Answer) : Bodies.ofBody B f = Bead.says (-6) := by
  unfold Bodies.ofBody
  rw [h]
end
/-! ### telling -/
section
variable {P : Program} {w : World} {K : PySem.W.Frag} {mg : Str → Option Value} {base : Heap} {A : Adr}
def spTel : Sp := fun vs H Q _ => ∃ (a : Addr) (xs : List V), vs = [.ref a] ∧ H a = some (.lst xs) ∧ xs.length ≤ 100000 ∧
  ∀ (H' : Hp) (p : Addr), H' p = some (.lst (([.int (xs.length : Int), .int (xs.length : Int)] ++ xs ++ [.int 0]) ++ [])) → Q (.ref p) H'
theorem scTel : FnScope ["told"] ["told"] (defScope sTel) := ⟨rfl, rfl, rfl, by decide +kernel, rfl, by decide +kernel, by decide +kernel⟩
theorem ok_tel (T : Txt K mg A) : ∃ fd, FnOk P w K mg base CX0 2 A.fTel fd ["told"] spTel ∧ Binds K fd ["told"] [] ∧ PySem.W.keepIn K (.ref A.fTel) = true := by
  obtain ⟨fd, F, b⟩ := T.bTel
  obtain ⟨fdA, GA, bA, kA⟩ := ok_ans (P := P) (w := w) (base := base) T
  refine ⟨fd, F.ok scTel (fun vs H Q E h => ?_) (fun cdv A' outer s H vs Q E hr h => ?_), b, F.kp⟩
  · obtain ⟨a, xs, rfl, _⟩ := h
    rfl
  · obtain ⟨a, xs, rfl, ha, hx, k⟩ := h
    refine ⟨_, pss_one (ps_ret (pe_callC GA hr.c (by rfl) T.gAns kA bA pass0 (pa_cons (pe_callB call_len_seq (by rfl) T.len PySem.boot_len (pa_cons (pv 0) pa_nil)) (pa_cons (pv 0) (pa_cons (pe_lst pa_nil) pa_nil))))), ?_⟩
    refine ⟨_, rfl, a, _, rfl, .inl (SqL.of ha), _, rfl, Nat.zero_le _, fun l1 n1 => ?_⟩
    refine ⟨_, a, l1, xs, [], rfl, ?_, upd_same, hx, Nat.zero_le _, fun H' p hp => k H' p hp⟩
    rw [upd_ne (ne_of_none ha n1)]
    exact ha
end
theorem gives_is (l : Bytes) : (BodiesNeutral.numbersOf (Bead.gives l)).map V.int = ([.int ((l.map bV).length : Int), .int ((l.map bV).length : Int)] ++ l.map bV ++ [.int 0]) ++ [] := by
  show V.int ((l.length : Nat) : Int) :: V.int ((l.length : Nat) : Int) :: ((l.map fun (c : UInt8) => ((c.toNat : Nat) : Int)) ++ (0 :: [])).map V.int = _
  rw [List.length_map, List.map_append, List.map_map, List.append_nil]
  rfl
/-! ### bytes_of -/
theorem bv_nats (l : Bytes) : l.map bV = (l.map fun c => c.toNat).map nV := by
  rw [List.map_map]
  rfl
section
variable {P : Program} {w : World} {K : PySem.W.Frag} {mg : Str → Option Value} {base : Heap} {A : Adr}
def spBy (A : Adr) : Sp := fun vs H Q _ => ∃ (m : Addr) (B : Bead.Body), vs = [.ref m] ∧ BodyAt A H m B ∧ BM.GridOk B.grid ∧ B.cells.size = B.grid.count ∧
  ∀ (H' : Hp) (p : Addr), H' p = some (.lst (B.bytes.map bV)) → Same H H' → Q (.ref p) H'
theorem scBy : FnScope ["body", "packed", "number", "mark"] ["body"] (defScope sBy) := ⟨rfl, rfl, rfl, by decide +kernel, rfl, by decide +kernel, by decide +kernel⟩
theorem ok_by (T : Txt K mg A) : ∃ fd, FnOk P w K mg base CX0 2 A.fBy fd ["body"] (spBy A) ∧ Binds K fd ["body"] [] ∧ PySem.W.keepIn K (.ref A.fBy) = true := by
  obtain ⟨fd, F, b⟩ := T.bBy
  obtain ⟨fdC, GC, bC⟩ := ok_cc (P := P) (w := w) (base := base) T
  obtain ⟨fdB, GB, bB, kB⟩ := ok_bb (P := P) (w := w) (base := base) T
  obtain ⟨aM, gM, sM⟩ := T.t_MARK
  refine ⟨fd, F.ok scBy (fun vs H Q E h => ?_) (fun cdv A' outer s H vs Q E hr h => ?_), b, F.kp⟩
  · obtain ⟨m, B, rfl, _⟩ := h
    rfl
  · obtain ⟨m, B, rfl, ⟨dm, x, dx, l, M⟩, gok, hsz, k⟩ := h
    refine ⟨_, pss_cons (ps_set (i := 1) scBy.nd rfl (Or.inl rfl) (pe_op op_rep (pe_lst (pa_cons pe_int pa_nil)) (pe_call GB hr (by rfl) T.gBb kB bB .nil pass0 (pa_cons (pe_meth0 (pe_fld (pv 0) rfl) T.cG T.mCc GC hr bC .nil pass0) pa_nil))))
      (pss_cons (ps_for PassesOwn.never rfl (pi_enum (by rfl) T.enumerate (pa_cons (pe_fld (pv 0) rfl) pa_nil)) (pg_tup rfl (pgs_cons (pg_name (i := 2) scBy.nd rfl (Or.inl rfl)) (pgs_cons (pg_name (i := 3) scBy.nd rfl (Or.inl rfl)) pgs_nil)))
        (pss_one (ps_augS (pv 1) (pe_op op_fdiv (pv 2) pe_int) get_list (pe_op op_shl (pv 3) (pe_op op_mod (pv 2) pe_int)) ip_add set_list)))
      (pss_one (ps_ret (pe_op op_cat (pe_op op_cat (pe_callTy call_list_of (by rfl) T.list boot_lst (pa_cons (pe_gref (by rfl) gM) pa_nil)) (pe_lst (pa_cons (pe_fld (pe_fld (pv 0) rfl) rfl) (pa_cons (pe_fld (pe_fld (pv 0) rfl) rfl) (pa_cons (pe_fld (pe_fld (pv 0) rfl) rfl) pa_nil))))) (pv 1))))), ?_⟩
    have hno : (gf B.grid).lookup ("cell_count" : Str) = none := gf_no _ (by decide +kernel) (by decide +kernel) (by decide +kernel)
    have hcnt := gok.count
    have hlen : B.cells.toList.length = B.grid.count := by rw [Array.length_toList, hsz]
    refine ⟨(by show 1 ≤ sizeLine; decide), fun l1 n1 => ?_⟩
    have s1 := Same.new (o := HO.lst [.int 0]) n1
    have M1 := M.same s1
    refine ⟨_, rfl, m, A.cB, dm, _, _, rfl, M1.ins, T.cB, T.nBg, bf_g x l, x, dx, _, rfl, M1.g, hno, x, B.grid, rfl, ⟨dx, M1.g⟩, gok, _, rfl, ?_⟩
    refine ⟨l1, _, [.int 0], rfl, rfl, upd_same, by omega, by omega, ?_, fun p np => ?_⟩
    · show 1 * _ ≤ sizeLine
      rw [Nat.one_mul, Int.toNat_natCast]
      exact Nat.le_trans (by omega : _ ≤ 100000) (by decide)
    have e0 : (List.replicate (((B.grid.count + 7) / 8 : Nat) : Int).toNat [V.int 0]).flatten = (BM.pk B.cells.toList 0).map nV := by
      rw [Int.toNat_natCast, BM.pk_zero, hlen, List.map_replicate]
      generalize (B.grid.count + 7) / 8 = n
      induction n with
      | zero => rfl
      | succ n ih =>
        rw [List.replicate_succ, List.flatten_cons, ih, List.replicate_succ]
        rfl
    rw [e0]
    have s2 := Same.new (o := HO.lst ((BM.pk B.cells.toList 0).map nV)) np
    have M2 := M1.same s2
    have nml : p ≠ m := Ne.symm (ne_of_none M1.ins np)
    have nxl : p ≠ x := Ne.symm (ne_of_none M1.g np)
    have nll : p ≠ l := Ne.symm (ne_of_none M1.l np)
    have keepB : ∀ {H' : Hp}, (∀ b o, H b = some o → H' b = some o) → BodyOf A H' m dm x dx l B := fun k => ⟨k _ _ M.ins, k _ _ M.g, k _ _ M.l⟩
    refine ⟨_, rfl, m, A.cB, dm, _, _, rfl, M2.ins, T.cB, T.nBm, bf_m x l, l, _, rfl, SqL.of M2.l, for_enum (K := K) (a := l) (xs := B.cells.toList.map mV)
      (fun i σ H' => ∃ v2 v3, σ = [some (.ref m), some (.ref p), v2, v3] ∧ H' p = some (.lst ((BM.pk B.cells.toList i).map nV)) ∧ Same H H') ⟨none, none, rfl, upd_same, s1.trans s2⟩ ?_ ?_ ?_⟩
    · rintro i σ H' _ ⟨_, _, _, _, k3⟩
      exact SqL.of (keepB k3).l
    · rintro i y σ H' t hy nt ⟨v2, v3, rfl, hp, k3⟩
      rw [List.getElem?_map] at hy
      obtain ⟨c, hc, rfl⟩ := Option.map_eq_some_iff.mp hy
      obtain ⟨v, hv, est⟩ := BM.pk_step hc
      have hi : i < B.grid.count := by
        rw [← hlen]
        exact (List.getElem?_eq_some_iff.mp hc).1
      have hp' : upd H' t (.tup [.int (i : Int), mV c]) p = some (.lst ((BM.pk B.cells.toList i).map nV)) := by
        rw [upd_ne (ne_of_none hp nt)]
        exact hp
      refine ⟨t, _, rfl, SqT.of upd_same, rfl, _, _, rfl, _, _, rfl, rfl, ?_⟩
      have hix : (i : Int) / 8 = ((i / 8 : Nat) : Int) := by omega
      refine ⟨_, rfl, _, rfl, _, _, rfl, rfl, ⟨by decide, by decide⟩, p, _, _, nV v, rfl, rfl, SqL.of hp', ?_, _, rfl, _, rfl, _, _, rfl, rfl, (by show (0 : Int) < 8; decide), _, _, rfl, rfl, ⟨?_, ?_, ?_⟩, _, _, rfl, rfl, p, _, _, i / 8, rfl, rfl, hp', ?_, ?_⟩
      · rw [hix]
        exact atI_nat (by rw [List.getElem?_map, hv]; rfl)
      · show (0 : Int) ≤ (i : Int) % 8
        omega
      · show (i : Int) % 8 ≤ 1000000
        omega
      · unfold BM.mI
        split <;> decide
      · show ixN _ ((i : Int) / 8) = _
        rw [hix]
        unfold ixN
        have hlt : i / 8 < ((BM.pk B.cells.toList i).map nV).length := by
          rw [List.length_map]
          exact (List.getElem?_eq_some_iff.mp hv).1
        rw [if_pos (by omega), if_pos (by omega)]
        rfl
      · refine ⟨_, _, rfl, ?_, fun b o q => ?_⟩
        · rw [upd_same, est, List.map_set]
          have e9 : ((i : Int) % 8).toNat = i % 8 := by omega
          have e8 : (v : Int) + BM.mI c * 2 ^ ((i : Int) % 8).toNat = ((v + (if c = true then 2 ^ (i % 8) else 0) : Nat) : Int) := by
            rw [e9]
            unfold BM.mI
            cases c
            · simp
            · simp
          show some (HO.lst (List.set _ _ (V.int ((v : Int) + BM.mI c * 2 ^ ((i : Int) % 8).toNat)))) = _
          rw [e8]
          rfl
        · have q2 := k3 _ _ q
          have nbp : b ≠ p := fun z => by
            have q3 := s1 _ _ q
            rw [z, np] at q3
            cases q3
          rw [upd_ne nbp, upd_ne (ne_of_none q2 nt)]
          exact q2
    · rintro σ H3 ⟨v2, v3, rfl, hp, k3⟩
      rw [List.length_map] at hp
      have M3 := keepB k3
      refine ⟨aM, _, rfl, .inr (sM _), fun q1 n1' => ?_⟩
      have t1 := Same.new (o := HO.lst ([66, 68, 66, 49].map V.int)) n1'
      have M4 := M3.same t1
      refine ⟨_, rfl, m, A.cB, dm, _, _, rfl, M4.ins, T.cB, T.nBg, bf_g x l, x, A.cG, dx, _, _, rfl, M4.g, T.cG, T.nGw, gf_w _, _, rfl, m, A.cB, dm, _, _, rfl, M4.ins, T.cB, T.nBg, bf_g x l, x, A.cG, dx, _, _, rfl, M4.g, T.cG, T.nGd, gf_d _,
        _, rfl, m, A.cB, dm, _, _, rfl, M4.ins, T.cB, T.nBg, bf_g x l, x, A.cG, dx, _, _, rfl, M4.g, T.cG, T.nGh, gf_h _, (by show 3 ≤ sizeLine; decide), fun q2 n2' => ?_⟩
      have t2 := Same.new (o := HO.lst [nV B.grid.wide, nV B.grid.deep, nV B.grid.high]) n2'
      refine ⟨q1, q2, _, _, rfl, rfl, t2 _ _ upd_same, upd_same, (by show 4 + 3 ≤ sizeLine; decide), fun q3 n3' => ?_⟩
      have t3 := Same.new (o := HO.lst ([66, 68, 66, 49].map V.int ++ [nV B.grid.wide, nV B.grid.deep, nV B.grid.high])) n3'
      refine ⟨_, rfl, q3, p, _, _, rfl, rfl, upd_same, t3 _ _ (t2 _ _ (t1 _ _ hp)), ?_, fun q4 n4' => ?_⟩
      · rw [List.length_map, BM.pk_len, hlen]
        exact line_at (by show 7 + _ ≤ _; omega)
      · refine k _ q4 ?_ fun b o q => ?_
        · rw [upd_same, bv_nats, BM.body_bytes gok, List.map_append]
          rfl
        · have q5 := t3 _ _ (t2 _ _ (t1 _ _ (k3 _ _ q)))
          rw [upd_ne (ne_of_none q5 n4')]
          exact q5
end
/-! ### cell_number -/
section
variable {P : Program} {w : World} {K : PySem.W.Frag} {mg : Str → Option Value} {base : Heap} {A : Adr}
def spCn (A : Adr) : Sp := fun vs H Q _ => ∃ (x : Addr) (g : Bead.Grid) (a b c : Nat), vs = [.ref x, .int (a : Int), .int (b : Int), .int (c : Int)] ∧ GridAt A H x g ∧ BM.GridOk g ∧ Q (.int (g.num a b c : Int)) H
theorem scCn : FnScope ["self", "x", "y", "z"] ["self", "x", "y", "z"] (defScope sCn) := ⟨rfl, rfl, rfl, by decide +kernel, rfl, by decide +kernel, by decide +kernel⟩
theorem ok_cn (T : Txt K mg A) : ∃ fd, FnOk P w K mg base CX0 1 A.fCn fd ["self", "x", "y", "z"] (spCn A) ∧ Binds K fd ["self", "x", "y", "z"] [] := by
  obtain ⟨fd, F, b⟩ := T.bCn
  refine ⟨fd, F.ok scCn (fun vs H Q E h => ?_) (fun cdv A' outer s H vs Q E hr h => ?_), b⟩
  · obtain ⟨x, g, a, b, c, rfl, _⟩ := h
    rfl
  · obtain ⟨x, g, a, b, c, rfl, ⟨dx, hx⟩, ok, k⟩ := h
    have h1 := ok.w2
    have h2 := ok.d2
    refine ⟨_, pss_one (ps_ret (pe_op op_add (pe_op op_mul (pe_op op_add (pe_op op_mul (pv 3) (pe_fld (pv 0) rfl)) (pv 2)) (pe_fld (pv 0) rfl)) (pv 1))), ?_⟩
    refine ⟨_, rfl, _, rfl, x, A.cG, dx, _, _, rfl, hx, T.cG, T.nGd, gf_d g, _, _, rfl, rfl, .inr ⟨by omega, by omega⟩, _, rfl, _, _, rfl, rfl, _, rfl, x, A.cG, dx, _, _, rfl, hx, T.cG, T.nGw, gf_w g, _, _, rfl, rfl, .inr ⟨by omega, by omega⟩, _, rfl, _, _, rfl, rfl, ?_⟩
    dsimp only
    rw [BM.num_int]
    exact k
end
/-! ### has_cell -/
theorem chain_ab {ta tb tc : TE} {σ : L2.St} {H : Hp} {Q : VK} {u v z : Int} (ha : ∀ R : VK, R (.int u) H → ta σ H R) (hb : ∀ R : VK, R (.int v) H → tb σ H R) (hc : ∀ R : VK, R (.int z) H → tc σ H R) (h : Q (.bl (decide (u ≤ v) && decide (v < z))) H) :
    tChain (rI0 fun i j => .bl (decide (i ≤ j))) (rI0 fun i j => .bl (decide (i < j))) ta tb tc σ H Q := by
  refine ha _ (hb _ ⟨u, v, rfl, rfl, _, rfl, ?_⟩)
  by_cases e : u ≤ v
  · rw [decide_eq_true e] at h ⊢
    refine iteT (hc _ ⟨v, z, rfl, rfl, ?_⟩)
    rw [Bool.true_and] at h
    exact h
  · rw [decide_eq_false e] at h ⊢
    exact iteF h
section
variable {P : Program} {w : World} {K : PySem.W.Frag} {mg : Str → Option Value} {base : Heap} {A : Adr}
def spHc (A : Adr) : Sp := fun vs H Q _ => ∃ (x : Addr) (g : Bead.Grid) (a b c : Int), vs = [.ref x, .int a, .int b, .int c] ∧ GridAt A H x g ∧ Q (.bl (BM.hasI g a b c)) H
theorem scHc : FnScope ["self", "x", "y", "z"] ["self", "x", "y", "z"] (defScope sHc) := ⟨rfl, rfl, rfl, by decide +kernel, rfl, by decide +kernel, by decide +kernel⟩
theorem ok_hc (T : Txt K mg A) : ∃ fd, FnOk P w K mg base CX0 1 A.fHc fd ["self", "x", "y", "z"] (spHc A) ∧ Binds K fd ["self", "x", "y", "z"] [] := by
  obtain ⟨fd, F, b⟩ := T.bHc
  refine ⟨fd, F.ok scHc (fun vs H Q E h => ?_) (fun cdv A' outer s H vs Q E hr h => ?_), b⟩
  · obtain ⟨x, g, a, b, c, rfl, _⟩ := h
    rfl
  · obtain ⟨x, g, a, b, c, rfl, ⟨dx, hx⟩, k⟩ := h
    refine ⟨_, pss_one (ps_ret (pe_and (pe_chain op_le op_lt pe_int (pv 1) (pe_fld (pv 0) rfl)) (pe_and (pe_chain op_le op_lt pe_int (pv 2) (pe_fld (pv 0) rfl)) (pe_one (pe_chain op_le op_lt pe_int (pv 3) (pe_fld (pv 0) rfl)))))), ?_⟩
    unfold BM.hasI at k
    refine chain_ab (fun R r => r) (fun R r => ⟨_, rfl, r⟩) (fun R r => ⟨_, rfl, x, A.cG, dx, _, _, rfl, hx, T.cG, T.nGw, gf_w g, r⟩) ⟨_, rfl, ?_⟩
    generalize (decide (0 ≤ a) && decide (a < (g.wide : Int))) = c1 at k ⊢
    cases c1 with
    | false => exact iteF k
    | true =>
      refine iteT ?_
      refine chain_ab (fun R r => r) (fun R r => ⟨_, rfl, r⟩) (fun R r => ⟨_, rfl, x, A.cG, dx, _, _, rfl, hx, T.cG, T.nGd, gf_d g, r⟩) ⟨_, rfl, ?_⟩
      generalize (decide (0 ≤ b) && decide (b < (g.deep : Int))) = c2 at k ⊢
      cases c2 with
      | false => exact iteF k
      | true =>
        refine iteT ?_
        refine chain_ab (fun R r => r) (fun R r => ⟨_, rfl, r⟩) (fun R r => ⟨_, rfl, x, A.cG, dx, _, _, rfl, hx, T.cG, T.nGh, gf_h g, r⟩) ?_
        rw [Bool.true_and, Bool.true_and] at k
        exact k
end
/-! ### cell_place -/
section
variable {P : Program} {w : World} {K : PySem.W.Frag} {mg : Str → Option Value} {base : Heap} {A : Adr}
def row3 (g : Bead.Grid) (i : Nat) : List V := [nV (g.colOf i), nV (g.rowOf i), nV (g.layerOf i)]
def spCp (A : Adr) : Sp := fun vs H Q _ => ∃ (x : Addr) (g : Bead.Grid) (i : Nat), vs = [.ref x, .int (i : Int)] ∧ GridAt A H x g ∧ BM.GridOk g ∧ ∀ (H' : Hp) (t : Addr), H' t = some (.tup (row3 g i)) → Same H H' → Q (.ref t) H'
theorem scCp : FnScope ["self", "number", "row"] ["self", "number"] (defScope sCp) := ⟨rfl, rfl, rfl, by decide +kernel, rfl, by decide +kernel, by decide +kernel⟩
theorem ok_cp (T : Txt K mg A) : ∃ fd, FnOk P w K mg base CX0 1 A.fCp fd ["self", "number"] (spCp A) ∧ Binds K fd ["self", "number"] [] := by
  obtain ⟨fd, F, b⟩ := T.bCp
  refine ⟨fd, F.ok scCp (fun vs H Q E h => ?_) (fun cdv A' outer s H vs Q E hr h => ?_), b⟩
  · obtain ⟨x, g, i, rfl, _⟩ := h
    rfl
  · obtain ⟨x, g, i, rfl, ⟨dx, hx⟩, ok, k⟩ := h
    have h1 := ok.w2
    have h2 := ok.d2
    have h3 := ok.w1
    have h4 := ok.d1
    refine ⟨_, pss_cons (ps_set (i := 2) scCp.nd rfl (Or.inl rfl) (pe_op op_fdiv (pv 1) (pe_fld (pv 0) rfl)))
      (pss_one (ps_ret (pe_tup (pa_cons (pe_op op_mod (pv 1) (pe_fld (pv 0) rfl)) (pa_cons (pe_op op_mod (pv 2) (pe_fld (pv 0) rfl)) (pa_cons (pe_op op_fdiv (pv 2) (pe_fld (pv 0) rfl)) pa_nil)))))), ?_⟩
    refine ⟨_, rfl, _, rfl, x, A.cG, dx, _, _, rfl, hx, T.cG, T.nGw, gf_w g, _, _, rfl, rfl, ⟨by omega, by omega⟩, ?_⟩
    refine ⟨_, rfl, _, rfl, x, A.cG, dx, _, _, rfl, hx, T.cG, T.nGw, gf_w g, _, _, rfl, rfl, by omega, _, rfl, _, rfl, x, A.cG, dx, _, _, rfl, hx, T.cG, T.nGd, gf_d g, _, _, rfl, rfl, by omega, _, rfl, _, rfl, x, A.cG, dx, _, _, rfl, hx, T.cG, T.nGd, gf_d g, _, _, rfl, rfl, ⟨by omega, by omega⟩, (by show 3 ≤ sizeLine; decide), fun t nt => ?_⟩
    have e1 : (i : Int) % (g.wide : Int) = ((g.colOf i : Nat) : Int) := by
      unfold Bead.Grid.colOf
      rw [Int.natCast_emod]
    have e2 : (i : Int) / (g.wide : Int) % (g.deep : Int) = ((g.rowOf i : Nat) : Int) := by
      unfold Bead.Grid.rowOf
      rw [Int.natCast_emod, Int.natCast_ediv]
    have e3 : (i : Int) / (g.wide : Int) / (g.deep : Int) = ((g.layerOf i : Nat) : Int) := by
      unfold Bead.Grid.layerOf
      rw [Int.natCast_ediv, Int.natCast_ediv]
    refine k _ t ?_ (Same.new nt)
    rw [upd_same]
    show some (HO.tup [V.int ((i : Int) % (g.wide : Int)), V.int ((i : Int) / (g.wide : Int) % (g.deep : Int)), V.int ((i : Int) / (g.wide : Int) / (g.deep : Int))]) = _
    rw [e1, e2, e3]
    rfl
end
/-! ### tuples in lists -/
def RowsAt (H : Hp) (as : List Addr) (rows : List (List V)) : Prop := as.length = rows.length ∧ ∀ (i : Nat) a r, as[i]? = some a → rows[i]? = some r → H a = some (.tup r)
theorem RowsAt.nil {H : Hp} : RowsAt H [] [] := ⟨rfl, fun i a r e => by simp at e⟩
theorem RowsAt.mono {H H' : Hp} {as : List Addr} {rows : List (List V)} (h : RowsAt H as rows) (k : ∀ b ys, H b = some (.tup ys) → H' b = some (.tup ys)) : RowsAt H' as rows := ⟨h.1, fun i a r e1 e2 => k _ _ (h.2 i a r e1 e2)⟩
theorem RowsAt.same {H H' : Hp} {as : List Addr} {rows : List (List V)} (h : RowsAt H as rows) (k : Same H H') : RowsAt H' as rows := h.mono fun _ _ e => k _ _ e
theorem RowsAt.append {H : Hp} {as bs : List Addr} {rows more : List (List V)} (h : RowsAt H as rows) (h' : RowsAt H bs more) : RowsAt H (as ++ bs) (rows ++ more) := by
  refine ⟨by rw [List.length_append, List.length_append, h.1, h'.1], fun i a r e1 e2 => ?_⟩
  by_cases hi : i < as.length
  · rw [List.getElem?_append_left hi] at e1
    rw [List.getElem?_append_left (by rw [← h.1]; exact hi)] at e2
    exact h.2 i a r e1 e2
  · rw [List.getElem?_append_right (by omega)] at e1
    rw [List.getElem?_append_right (by rw [← h.1]; omega), ← h.1] at e2
    exact h'.2 _ a r e1 e2
theorem RowsAt.one {H : Hp} {a : Addr} {r : List V} (h : H a = some (.tup r)) : RowsAt H [a] [r] := ⟨rfl, fun i b s e1 e2 => by
  cases i with
  | zero =>
    simp at e1 e2
    rw [← e1, ← e2]
    exact h
  | succ i => simp at e1⟩
theorem RowsAt.at_ {H : Hp} {as : List Addr} {rows : List (List V)} {i : Nat} {a : Addr} (h : RowsAt H as rows) (e : as[i]? = some a) : ∃ r, rows[i]? = some r ∧ H a = some (.tup r) := by
  have hi : i < rows.length := by
    rw [← h.1]
    exact (List.getElem?_eq_some_iff.mp e).1
  exact ⟨rows[i], List.getElem?_eq_getElem hi, h.2 i a _ e (List.getElem?_eq_getElem hi)⟩
theorem refs_at' {cas : List Addr} {j : Nat} {x : V} (h : (cas.map V.ref)[j]? = some x) : ∃ c, cas[j]? = some c ∧ x = .ref c := by
  rw [List.getElem?_map] at h
  obtain ⟨c, h1, h2⟩ := Option.map_eq_some_iff.mp h
  exact ⟨c, h1, h2.symm⟩
/-! ### neighbours -/
def rowT (p : Int × Int × Int) : List V := [.int p.1, .int p.2.1, .int p.2.2]
section
variable {P : Program} {w : World} {K : PySem.W.Frag} {mg : Str → Option Value} {base : Heap} {A : Adr}
def spNb (A : Adr) : Sp := fun vs H Q _ => ∃ (x : Addr) (g : Bead.Grid) (i : Nat), vs = [.ref x, .int (i : Int)] ∧ GridAt A H x g ∧ BM.GridOk g ∧
  ∀ (H' : Hp) (p : Addr), H' p = some (.lst ((RM.nbP g i).map nV)) → H p = none → Same H H' → Q (.ref p) H'
theorem scNb : FnScope ["grid", "number", "place", "places", "step", "at"] ["grid", "number"] (defScope sneighbours) := ⟨rfl, rfl, rfl, by decide +kernel, rfl, by decide +kernel, by decide +kernel⟩
theorem places_len (g : Bead.Grid) (i : Nat) : (RM.places g i).length = 6 := rfl
theorem ok_nb (T : Txt K mg A) : ∃ fd, FnOk P w K mg base CX0 2 A.fneighbours fd ["grid", "number"] (spNb A) ∧ Binds K fd ["grid", "number"] [] ∧ PySem.W.keepIn K (.ref A.fneighbours) = true := by
  obtain ⟨fd, F, b⟩ := T.bneighbours
  obtain ⟨fdP, GP, bP⟩ := ok_cp (P := P) (w := w) (base := base) T
  obtain ⟨fdH, GH, bH⟩ := ok_hc (P := P) (w := w) (base := base) T
  obtain ⟨fdN, GN, bN⟩ := ok_cn (P := P) (w := w) (base := base) T
  obtain ⟨aS, asS, gS, sS, lS, iS⟩ := T.t_STEPS
  refine ⟨fd, F.ok scNb (fun vs H Q E h => ?_) (fun cdv A' outer s H vs Q E hr h => ?_), b, F.kp⟩
  · obtain ⟨x, g, i, rfl, _⟩ := h
    rfl
  · obtain ⟨x, g, i, rfl, ⟨dx, hx⟩, gok, k⟩ := h
    refine ⟨_, pss_cons (ps_set (i := 2) scNb.nd rfl (Or.inr rfl) (pe_meth (pv 0) T.cG T.mCp GP hr bP .nil pass0 (pa_cons (pv 1) pa_nil)))
      (pss_cons (ps_setLc (own := [("step", 4)]) (i := 3) rfl scNb.nd rfl rfl (sw_true rfl rfl (by rfl) (by decide +kernel)) (pi_tup (pe_gref (by rfl) gS)) (blkOk_at (N := ["grid", "number", "place", "places", "step", "at"]) (sc := defScope sneighbours) (by decide +kernel)) (fun _ _ _ _ _ => pg_name (i := 4) scNb.nd rfl (Or.inl rfl)) (fun _ _ _ _ _ => pts_nil)
        (fun _ _ _ _ _ => (pe_tup (pa_cons (pe_op op_add (pe_ix (ix_tupK (K := K) rfl) (pv 2) pe_int (fun _ _ => rfl)) (pe_ix (ix_tupK (K := K) rfl) (pv 4) pe_int (fun _ _ => rfl))) (pa_cons (pe_op op_add (pe_ix (ix_tupK (K := K) rfl) (pv 2) pe_int (fun _ _ => rfl)) (pe_ix (ix_tupK (K := K) rfl) (pv 4) pe_int (fun _ _ => rfl))) (pa_cons (pe_op op_add (pe_ix (ix_tupK (K := K) rfl) (pv 2) pe_int (fun _ _ => rfl)) (pe_ix (ix_tupK (K := K) rfl) (pv 4) pe_int (fun _ _ => rfl))) pa_nil))))))
      (pss_one (ps_ret (pe_lc (own := [("at", 5)]) rfl scNb.nd (pi_list (pv 3)) (blkOk_at (N := ["grid", "number", "place", "places", "step", "at"]) (sc := defScope sneighbours) (by decide +kernel)) (fun _ _ _ _ _ => pg_name (i := 5) scNb.nd rfl (Or.inl rfl))
        (fun _ _ _ _ _ => (pts_one (pt_val (pe_meth (pv 0) T.cG T.mHc GH hr bH .nil pass0 (pa_cons (pe_ix (ix_tupK (K := K) rfl) (pv 5) pe_int (fun _ _ => rfl)) (pa_cons (pe_ix (ix_tupK (K := K) rfl) (pv 5) pe_int (fun _ _ => rfl)) (pa_cons (pe_ix (ix_tupK (K := K) rfl) (pv 5) pe_int (fun _ _ => rfl)) pa_nil)))))))
        (fun _ _ _ _ _ => (pe_meth (pv 0) T.cG T.mCn GN hr bN .nil pass0 (pa_cons (pe_ix (ix_tupK (K := K) rfl) (pv 5) pe_int (fun _ _ => rfl)) (pa_cons (pe_ix (ix_tupK (K := K) rfl) (pv 5) pe_int (fun _ _ => rfl)) (pa_cons (pe_ix (ix_tupK (K := K) rfl) (pv 5) pe_int (fun _ _ => rfl)) pa_nil))))))))), ?_⟩
    have n1 : (gf g).lookup ("cell_place" : Str) = none := gf_no _ (by decide +kernel) (by decide +kernel) (by decide +kernel)
    have n2 : (gf g).lookup ("has_cell" : Str) = none := gf_no _ (by decide +kernel) (by decide +kernel) (by decide +kernel)
    have n3 : (gf g).lookup ("cell_number" : Str) = none := gf_no _ (by decide +kernel) (by decide +kernel) (by decide +kernel)
    refine ⟨_, rfl, x, dx, _, rfl, hx, n1, _, rfl, x, g, i, rfl, ⟨dx, hx⟩, gok, fun H1 t ht s1 => ?_⟩
    have hal : asS.length = 6 := lS
    refine ⟨aS, rfl, ⟨_, sS _⟩, fun D hD => lc_tup (K := K) (a := aS) (xs := asS.map V.ref) (fun j H' => ∃ bs : List Addr, H' D = some (.lst (bs.map V.ref)) ∧ RowsAt H' bs (((RM.places g i).take j).map rowT) ∧ Same H1 H') ⟨[], upd_same, RowsAt.nil, Same.new hD⟩ (fun _ _ _ _ => sS _) ?_ ?_⟩
    · rintro j y H' hy ⟨bs, p1, p2, p3⟩
      obtain ⟨b, hb, rfl⟩ := refs_at' hy
      have hj : j < 6 := by
        rw [← hal]
        exact (List.getElem?_eq_some_iff.mp hb).1
      obtain ⟨st, hst⟩ : ∃ st, RM.stepsL[j]? = some st := ⟨_, List.getElem?_eq_getElem hj⟩
      have hrow : ([[1, 0, 0], [-1, 0, 0], [0, 1, 0], [0, -1, 0], [0, 0, 1], [0, 0, -1]] : List (List Int))[j]? = some [st.1, st.2.1, st.2.2] := by
        show (RM.stepsL.map fun s => [s.1, s.2.1, s.2.2])[j]? = _
        rw [List.getElem?_map, hst]
        rfl
      have hpl : (RM.places g i)[j]? = some ((g.colOf i : Int) + st.1, (g.rowOf i : Int) + st.2.1, (g.layerOf i : Int) + st.2.2) := by
        unfold RM.places
        rw [List.getElem?_map, hst]
        rfl
      have hbS := iS j b _ hb hrow H'
      have ht' := SqT.of (K := K) (p3 _ _ ht)
      refine ⟨rfl, yesT ?_⟩
      refine ⟨_, rfl, t, _, _, nV (g.colOf i), rfl, rfl, ht', rfl, _, rfl, b, _, _, .int st.1, rfl, rfl, hbS, rfl, _, _, rfl, rfl, _, rfl, t, _, _, nV (g.rowOf i), rfl, rfl, ht', rfl, _, rfl, b, _, _, .int st.2.1, rfl, rfl, hbS, rfl, _, _, rfl, rfl, _, rfl, t, _, _, nV (g.layerOf i), rfl, rfl, ht', rfl, _, rfl, b, _, _, .int st.2.2, rfl, rfl, hbS, rfl, _, _, rfl, rfl, (by show 3 ≤ sizeLine; decide), fun t2 nt2 => ?_⟩
      have s3 := Same.new (o := HO.tup (rowT ((g.colOf i : Int) + st.1, (g.rowOf i : Int) + st.2.1, (g.layerOf i : Int) + st.2.2))) nt2
      have hD2 := s3 _ _ p1
      have kt : ∀ (o : HO) b ys, upd H' t2 (.tup (rowT ((g.colOf i : Int) + st.1, (g.rowOf i : Int) + st.2.1, (g.layerOf i : Int) + st.2.2))) b = some (.tup ys) → upd (upd H' t2 (.tup (rowT ((g.colOf i : Int) + st.1, (g.rowOf i : Int) + st.2.1, (g.layerOf i : Int) + st.2.2)))) D o b = some (.tup ys) := fun o b ys z => by
        rw [upd_ne (ne_of z hD2 (by intro z; cases z))]
        exact z
      refine ⟨_, hD2, ?_, bs ++ [t2], ?_, ?_, fun b o q => ?_⟩
      · rw [List.length_map, p2.1, List.length_map, List.length_take]
        exact Nat.lt_of_le_of_lt (Nat.min_le_left _ _) (Nat.lt_trans hj (by decide))
      · rw [upd_same, List.map_append]
        rfl
      · rw [List.take_add_one, hpl, List.map_append]
        exact ((p2.same s3).mono (kt _)).append (RowsAt.one (kt _ _ _ upd_same))
      · rw [upd_ne (ne_of_none q hD)]
        exact s3 _ _ (p3 _ _ q)
    · rintro H2 ⟨bs, p1, p2, p3⟩
      rw [List.length_map, hal, List.take_of_length_le (by rw [places_len]; exact Nat.le_refl _)] at p2
      have hbl : bs.length = 6 := by rw [p2.1, List.length_map, places_len]
      refine ⟨_, rfl, D, rfl, ⟨_, SqL.of p1⟩, fun D2 hD2 => lc_list (K := K) (a := D) (xs := bs.map V.ref) (fun j H' => H' D2 = some (.lst (((((RM.places g i).take j).filter (RM.inG g)).map (RM.numP g)).map nV)) ∧ Same H2 H') ⟨upd_same, Same.new hD2⟩ ?_ ?_ ?_⟩
      · rintro j H' _ ⟨_, q2⟩
        exact SqL.of (q2 _ _ p1)
      · rintro j y H' hy ⟨q1, q2⟩
        obtain ⟨c, hc, rfl⟩ := refs_at' hy
        obtain ⟨r, hr1, hr2⟩ := p2.at_ hc
        rw [List.getElem?_map] at hr1
        obtain ⟨p, hp, rfl⟩ := Option.map_eq_some_iff.mp hr1
        have hct := SqT.of (K := K) (q2 _ _ hr2)
        have hx' := q2 _ _ (p3 _ _ (s1 _ _ hx))
        have htk : (RM.places g i).take (j + 1) = (RM.places g i).take j ++ [p] := by
          rw [List.take_add_one, hp]
          rfl
        have hj : j < 6 := by
          rw [← hbl]
          exact (List.getElem?_eq_some_iff.mp hc).1
        refine ⟨rfl, ?_⟩
        refine ⟨_, rfl, x, dx, _, rfl, hx', n2, _, rfl, c, _, _, .int p.1, rfl, rfl, hct, rfl, _, rfl, c, _, _, .int p.2.1, rfl, rfl, hct, rfl, _, rfl, c, _, _, .int p.2.2, rfl, rfl, hct, rfl, x, g, p.1, p.2.1, p.2.2, rfl, ⟨dx, hx'⟩, _, rfl, ?_⟩
        cases hin : BM.hasI g p.1 p.2.1 p.2.2 with
        | true =>
          refine iteT ?_
          have hin' : RM.inG g p = true := hin
          obtain ⟨a', b', c', e1, e2, e3, _, _, _⟩ := BM.hasI_iff hin
          have en : RM.numP g p = g.num a' b' c' := by
            unfold RM.numP
            rw [e1, e2, e3]
            rfl
          refine ⟨_, rfl, x, dx, _, rfl, hx', n3, _, rfl, c, _, _, .int p.1, rfl, rfl, hct, rfl, _, rfl, c, _, _, .int p.2.1, rfl, rfl, hct, rfl, _, rfl, c, _, _, .int p.2.2, rfl, rfl, hct, rfl, x, g, a', b', c', ?_, ⟨dx, hx'⟩, gok, _, q1, ?_, ?_, fun b o q => ?_⟩
          · show [V.ref x, V.int p.1, V.int p.2.1, V.int p.2.2] = _
            rw [e1, e2, e3]
          · rw [List.length_map, List.length_map]
            exact Nat.lt_of_le_of_lt (Nat.le_trans (List.length_filter_le _ _) (by rw [List.length_take]; exact Nat.min_le_left _ _)) (Nat.lt_trans hj (by decide))
          · rw [upd_same, htk, List.filter_append, show [p].filter (RM.inG g) = [p] by rw [List.filter_cons, if_pos hin']; rfl, List.map_append, List.map_append]
            show _ = some (HO.lst (_ ++ [nV (RM.numP g p)]))
            rw [en]
            rfl
          · rw [upd_ne (ne_of_none q hD2)]
            exact q2 _ _ q
        | false =>
          refine iteF ?_
          refine ⟨?_, q2⟩
          rw [htk, List.filter_append, show [p].filter (RM.inG g) = [] by rw [List.filter_cons, if_neg (by rw [show RM.inG g p = false from hin]; exact Bool.false_ne_true)]; rfl, List.append_nil]
          exact q1
      · rintro H3 ⟨q1, q2⟩
        rw [List.length_map, hbl, List.take_of_length_le (by rw [places_len]; exact Nat.le_refl _)] at q1
        exact k H3 D2 q1 ((s1.trans p3).free hD2) (s1.trans (p3.trans q2))
/-! ### spread -/
def kvF (fs : List (Nat × Nat)) : List (Key × V) := fs.map fun p => ((Sum.inl (p.1 : Int) : Key), nV p.2)
theorem inl_inj {a b : Nat} : ((Sum.inl (a : Int) : Key) = Sum.inl (b : Int)) ↔ a = b := by
  constructor
  · intro h
    injection h with h
    omega
  · rintro rfl
    rfl
theorem valF : ∀ (fs : List (Nat × Nat)) (j : Nat), valV (kvF fs) (Sum.inl (j : Int) : Key) = (fs.lookup j).map nV
  | [], j => rfl
  | (i, r) :: fs, j => by
    have ih := valF fs j
    unfold valV kvF at ih ⊢
    rw [List.map_cons, List.find?_cons, List.lookup_cons]
    by_cases h : i = j
    · subst h
      rw [decide_eq_true rfl, beq_self_eq_true]
      rfl
    · rw [decide_eq_false (fun z => h (inl_inj.mp z)), show (j == i) = false by simpa using fun z => h z.symm]
      exact ih
theorem look_in {fs : List (Nat × Nat)} {j : Nat} : (fs.lookup j).isSome = true ↔ j ∈ RM.keys fs := by
  constructor
  · intro h
    obtain ⟨v, hv⟩ := Option.isSome_iff_exists.mp h
    refine Classical.byContradiction fun z => ?_
    rw [RM.lookup_none z] at hv
    cases hv
  · intro h
    induction fs with
    | nil => cases h
    | cons p fs ih =>
      rw [List.lookup_cons]
      cases z : j == p.1 with
      | true => rfl
      | false =>
        rcases List.mem_cons.mp h with y | y
        · rw [y] at z
          simp at z
        · exact ih y
theorem put_new {fs : List (Nat × Nat)} {j r : Nat} (h : j ∉ RM.keys fs) : putK (kvF fs) (Sum.inl (j : Int) : Key) (nV r) = kvF (fs ++ [(j, r)]) := by
  unfold putK
  rw [if_neg]
  · unfold kvF
    rw [List.map_append]
    rfl
  · intro z
    rw [List.any_eq_true] at z
    obtain ⟨e, he, hk⟩ := z
    obtain ⟨p, hp, rfl⟩ := List.mem_map.mp he
    exact h (inl_inj.mp (of_decide_eq_true hk) ▸ List.mem_map.mpr ⟨p, hp, rfl⟩)
def okL (ms : List Bool) (j : Nat) : Bool := ms.getD j false
theorem okL_at {ms : List Bool} {j : Nat} (h : j < ms.length) : (ms.map mV)[j]? = some (mV (okL ms j)) := by
  rw [List.getElem?_map, List.getElem?_eq_getElem h]
  unfold okL
  rw [List.getD_eq_getElem?_getD, List.getElem?_eq_getElem h]
  rfl
theorem mV_one (b : Bool) : decide (mV b = V.int 1) = b := by cases b <;> rfl
def spSp (A : Adr) : Sp := fun vs H Q _ => ∃ (x pa d : Addr) (g : Bead.Grid) (ms : List Bool) (s r : Nat) (fs : List (Nat × Nat)), vs = [.ref x, .ref pa, .int (s : Int), .int (r : Int), .ref d] ∧ GridAt A H x g ∧ BM.GridOk g ∧ H pa = some (.lst (ms.map mV)) ∧ ms.length = g.count ∧
  s < g.count ∧ s ∉ RM.keys fs ∧ RM.FsOk g fs ∧ H d = some (.dK (kvF fs)) ∧
  ∀ (H' : Hp) (N : List Nat), RM.Spread g (okL ms) fs s N → RM.FsOk g (fs ++ RM.tag N r) → H' d = some (.dK (kvF (fs ++ RM.tag N r))) → Keep d H H' → Q .non H'
theorem scSp : FnScope ["grid", "passable", "start", "region", "found", "waiting", "number", "neighbour"] ["grid", "passable", "start", "region", "found"] (defScope sspread) := ⟨rfl, rfl, rfl, by decide +kernel, rfl, by decide +kernel, by decide +kernel⟩
theorem ok_sp (T : Txt K mg A) : ∃ fd, FnOk P w K mg base CX0 3 A.fspread fd ["grid", "passable", "start", "region", "found"] (spSp A) ∧ Binds K fd ["grid", "passable", "start", "region", "found"] [] ∧ PySem.W.keepIn K (.ref A.fspread) = true := by
  obtain ⟨fd, F, b⟩ := T.bspread
  obtain ⟨fdN, GN, bN, kN⟩ := ok_nb (P := P) (w := w) (base := base) T
  refine ⟨fd, F.ok scSp (fun vs H Q E h => ?_) (fun cdv A' outer s H vs Q E hr h => ?_), b, F.kp⟩
  · obtain ⟨x, pa, d, g, ms, s, r, fs, rfl, _⟩ := h
    rfl
  · obtain ⟨x, pa, d, g, ms, st, r, fs, rfl, ⟨dx, hx⟩, gok, hpa, hml, hst, hnew, fok, hd, k⟩ := h
    have hu := hu_of hr
    have hcnt := gok.count
    refine ⟨_, pss_cons (ps_dput hu (pv 4) (pv 2) (pv 3) rfl)
      (pss_cons (ps_set (i := 5) scSp.nd rfl (Or.inl rfl) (pe_lst (pa_cons (pv 2) pa_nil)))
      (pss_one (ps_while PassesOwn.never (pt_cmpR op_gt (pe_callB call_len_seq (by rfl) T.len PySem.boot_len (pa_cons (pv 5) pa_nil)) pe_int (nomark _))
        (pss_cons (ps_set (i := 6) scSp.nd rfl (Or.inl rfl) (pe_bm0 PySem.F.plainAttrs_list PySem.F.slot_list_pop PySem.F.type_list_pop mt_pop (pv 5)))
        (pss_one (ps_for PassesOwn.never rfl (pi_list (pe_call GN hr (by rfl) T.gneighbours kN bN .nil pass0 (pa_cons (pv 0) (pa_cons (pv 6) pa_nil)))) (pg_name (i := 7) scSp.nd rfl (Or.inl rfl))
          (pss_one (ps_if (pw_and (pt_cmpR op_eq (pe_ix ix_list (pv 1) (pv 7) (fun _ _ => rfl)) pe_int (nomark _)) (pw_and1 (pt_cmp (pc_dnotin hu (pv 7) (pv 4))))).pt
            (pss_cons (ps_dput hu (pv 4) (pv 7) (pv 3) rfl) (pss_one (ps_expr (pe_bm PySem.F.plainAttrs_list PySem.F.slot_list_append PySem.F.type_list_append mt_append (pv 5) (pa_cons (pv 7) pa_nil))))) pss_nil)))))))), ?_⟩
    have hlen0 : (kvF fs).length < sizeLine := by
      unfold kvF
      rw [List.length_map]
      exact Nat.lt_of_le_of_lt (Nat.le_trans fok.len hcnt) (by decide)
    refine ⟨_, rfl, _, rfl, _, rfl, d, _, rfl, DPut.k (k := Sum.inl (st : Int)) hd hlen0, ?_⟩
    have hput : putK (kvF fs) (Sum.inl (st : Int) : Key) (.int (r : Int)) = kvF (fs ++ RM.tag [st] r) := put_new (r := r) hnew
    rw [hput]
    refine ⟨_, rfl, (by show 1 ≤ sizeLine; decide), fun wl nwl => ?_⟩
    have ndw : wl ≠ d := Ne.symm (ne_of_none (upd_same : upd H d (.dK (kvF (fs ++ RM.tag [st] r))) d = _) nwl)
    have nwlH : H wl = none := by
      rw [upd_ne ndw] at nwl
      exact nwl
    refine ⟨fun m σ H2 => ∃ (N W : List Nat) (v6 v7 : Option V), σ = [some (.ref x), some (.ref pa), some (.int (st : Int)), some (.int (r : Int)), some (.ref d), some (.ref wl), v6, v7] ∧ H2 wl = some (.lst (W.map nV)) ∧ H2 d = some (.dK (kvF (fs ++ RM.tag N r))) ∧ Keep d H H2 ∧ RM.Go g (okL ms) fs st N W ∧ W.length + 2 * (g.count - N.length) ≤ 1 + 2 * g.count ∧ m = W.length + 2 * (g.count - N.length),
      ⟨_, [st], [st], none, none, rfl, upd_same, ?_, ?_, RM.Go.start hnew hst, (by show 1 + 2 * (g.count - 1) ≤ 1 + 2 * g.count; omega), rfl⟩, ?_⟩
    · rw [upd_ne (Ne.symm ndw), upd_same]
    · intro b o q nb
      rw [upd_ne (ne_of_none q nwlH), upd_ne nb]
      exact q
    · rintro m σ H2 ⟨N, W, v6, v7, rfl, hw, hd2, kp, G, hbd, rfl⟩
      refine ⟨_, rfl, wl, _, rfl, .inl (SqL.of hw), _, _, rfl, rfl, _, rfl, ?_⟩
      rw [List.length_map]
      by_cases hW : 0 < W.length
      · rw [decide_eq_true (show (0 : Int) < (W.length : Int) by omega)]; refine iteT ?_
        refine ⟨fun σ' H' => ∃ m', m' < W.length + 2 * (g.count - N.length) ∧ ∃ (N W : List Nat) (v6 v7 : Option V), σ' = [some (.ref x), some (.ref pa), some (.int (st : Int)), some (.int (r : Int)), some (.ref d), some (.ref wl), v6, v7] ∧ H' wl = some (.lst (W.map nV)) ∧ H' d = some (.dK (kvF (fs ++ RM.tag N r))) ∧ Keep d H H' ∧ RM.Go g (okL ms) fs st N W ∧ W.length + 2 * (g.count - N.length) ≤ 1 + 2 * g.count ∧ m' = W.length + 2 * (g.count - N.length), fun σ' H' z => z, ?_⟩
        obtain ⟨W', n, rfl⟩ : ∃ W' n, W = W' ++ [n] := ⟨W.dropLast, W.getLast (by intro z; rw [z] at hW; exact absurd hW (Nat.lt_irrefl 0)), (List.dropLast_concat_getLast _).symm⟩
        have hn : n ∈ N := G.sub n (List.mem_append_right _ (List.mem_singleton.mpr rfl))
        have hnl := G.lt n hn
        refine ⟨_, rfl, .inl ⟨rfl, _, SqL.of hw⟩, wl, _, nV n, rfl, rfl, hw, ?_, ?_⟩
        · rw [List.length_map, List.length_append, List.length_singleton, Nat.add_sub_cancel, List.getElem?_map, List.getElem?_append_right (Nat.le_refl _), Nat.sub_self]
          rfl
        have edl : ((W' ++ [n]).map nV).dropLast = W'.map nV := by
          rw [List.map_append]
          exact List.dropLast_concat
        rw [edl]
        have kx : Keep d H (upd H2 wl (.lst (W'.map nV))) := fun b o q nb => by
          rw [upd_ne (ne_of_none q nwlH)]
          exact kp b o q nb
        have nxd : x ≠ d := ne_of hx hd (by intro z; cases z)
        have npd : pa ≠ d := ne_of hpa hd (by intro z; cases z)
        have hx3 := kx _ _ hx nxd
        have hdw : upd H2 wl (.lst (W'.map nV)) d = some (.dK (kvF (fs ++ RM.tag N r))) := by
          rw [upd_ne (Ne.symm ndw)]
          exact hd2
        refine ⟨_, rfl, _, rfl, x, g, n, rfl, ⟨dx, hx3⟩, gok, fun H4 p hp np s4 => ?_⟩
        have hw4 : H4 wl = some (.lst (W'.map nV)) := s4 _ _ upd_same
        have npw : p ≠ wl := Ne.symm (ne_of_none (upd_same : upd H2 wl (.lst (W'.map nV)) wl = _) np)
        have npd' : p ≠ d := Ne.symm (ne_of_none hdw np)
        refine ⟨p, rfl, ⟨_, SqL.of hp⟩, for_list (K := K) (a := p) (xs := (RM.nbP g n).map nV)
          (fun i σ H' => ∃ (N' W2 : List Nat) (v7 : Option V), σ = [some (.ref x), some (.ref pa), some (.int (st : Int)), some (.int (r : Int)), some (.ref d), some (.ref wl), some (nV n), v7] ∧ H' wl = some (.lst (W2.map nV)) ∧ H' d = some (.dK (kvF (fs ++ RM.tag N' r))) ∧ Keep d H H' ∧ H' p = some (.lst ((RM.nbP g n).map nV)) ∧ RM.Gw g (okL ms) fs st N' W2 n ((RM.nbP g n).take i) ∧ W2.length + 2 * (g.count - N'.length) ≤ W'.length + 2 * (g.count - N.length))
          ⟨N, W', v7, rfl, hw4, s4 _ _ hdw, ?_, hp, ?_, Nat.le_refl _⟩ ?_ ?_ ?_⟩
        · intro b o q nb
          exact s4 _ _ (kx b o q nb)
        · rw [List.take_zero]
          exact G.pop
        · rintro i σ H' _ ⟨_, _, _, _, _, _, _, h5, _⟩
          exact SqL.of h5
        · rintro i y σ H' hy ⟨N', W2, v7, rfl, h1, h2, h3, h5, Gx, hle⟩
          rw [List.getElem?_map] at hy
          obtain ⟨j, hj, rfl⟩ := Option.map_eq_some_iff.mp hy
          have hjn : j ∈ g.neighbours n := (RM.mem_nbP hnl).mp (List.mem_of_getElem? hj)
          have hjl := FM.nb_lt hnl hjn
          have htk : (RM.nbP g n).take (i + 1) = (RM.nbP g n).take i ++ [j] := by
            rw [List.take_add_one, hj]
            rfl
          have hpa' := h3 _ _ hpa npd
          have fok' : RM.FsOk g (fs ++ RM.tag N' r) := fok.tag Gx.nd Gx.new Gx.lt
          refine ⟨_, rfl, _, rfl, pa, _, _, mV (okL ms j), rfl, rfl, SqL.of hpa', atI_nat (okL_at (by rw [hml]; exact hjl)), rfl, _, rfl, ?_⟩
          rw [mV_one]
          cases hok : okL ms j with
          | false =>
            refine iteF ?_
            refine iteF ?_
            refine ⟨N', W2, _, rfl, h1, h2, h3, h5, ?_, hle⟩
            rw [htk]
            exact Gx.skip (.inl hok)
          | true =>
            refine iteT ?_
            have hg := DGet.k (k := Sum.inl (j : Int)) h2
            rw [valF] at hg
            refine ⟨_, rfl, _, rfl, d, _, rfl, hg, _, rfl, ?_⟩
            rw [Option.isSome_map]
            cases hlk : ((fs ++ RM.tag N' r).lookup j).isSome with
            | true =>
              refine iteF ?_
              have hin := look_in.mp hlk
              rw [RM.keys_append, RM.keys_tag] at hin
              refine ⟨N', W2, _, rfl, h1, h2, h3, h5, ?_, hle⟩
              rw [htk]
              exact Gx.skip (.inr ((List.mem_append.mp hin).elim .inr .inl))
            | false =>
              refine iteT ?_
              have hnin : j ∉ RM.keys (fs ++ RM.tag N' r) := fun z => by
                rw [look_in.mpr z] at hlk
                cases hlk
              have hnin' := hnin
              rw [RM.keys_append, RM.keys_tag] at hnin'
              have hlen1 : (kvF (fs ++ RM.tag N' r)).length < sizeLine := by
                unfold kvF
                rw [List.length_map]
                exact Nat.lt_of_le_of_lt (Nat.le_trans fok'.len hcnt) (by decide)
              have Gy := Gx.push hok (fun z => hnin' (List.mem_append_right _ z)) (fun z => hnin' (List.mem_append_left _ z)) hjn
              have hl1 : N'.length + 1 ≤ g.count := by
                have := RM.nodup_len Gy.nd Gy.lt
                rwa [List.length_append, List.length_singleton] at this
              refine ⟨_, rfl, _, rfl, _, rfl, d, _, rfl, DPut.k (k := Sum.inl (j : Int)) h2 hlen1, ?_⟩
              have hput2 : putK (kvF (fs ++ RM.tag N' r)) (Sum.inl (j : Int) : Key) (.int (r : Int)) = kvF (fs ++ RM.tag (N' ++ [j]) r) := by
                rw [RM.tag_snoc, ← List.append_assoc]
                exact put_new (r := r) hnin
              rw [hput2]
              have hw6 : upd H' d (.dK (kvF (fs ++ RM.tag (N' ++ [j]) r))) wl = some (.lst (W2.map nV)) := by
                rw [upd_ne ndw]
                exact h1
              refine ⟨_, rfl, .inl ⟨rfl, _, SqL.of hw6⟩, _, rfl, wl, _, _, rfl, rfl, hw6, ?_, ?_⟩
              · rw [List.length_map]
                rw [List.length_append, List.length_singleton] at hbd
                exact Nat.lt_of_le_of_lt (by omega : _ ≤ 100000) (by decide)
              · refine ⟨N' ++ [j], W2 ++ [j], _, rfl, ?_, ?_, fun b o q nb => ?_, ?_, ?_, ?_⟩
                · rw [upd_same, List.map_append]
                  rfl
                · rw [upd_ne (Ne.symm ndw), upd_same]
                · rw [upd_ne (ne_of_none q nwlH), upd_ne nb]
                  exact h3 b o q nb
                · rw [upd_ne npw, upd_ne npd']
                  exact h5
                · rw [htk]
                  exact Gy
                · rw [List.length_append, List.length_append]
                  show W2.length + 1 + 2 * (g.count - (N'.length + 1)) ≤ _
                  omega
        · rintro σ H' ⟨N', W2, v7', rfl, h1, h2, h3, h5, Gx, hle⟩
          rw [List.length_append, List.length_singleton] at hbd
          refine ⟨_, ?_, N', W2, _, v7', rfl, h1, h2, h3, Gx.done fun j hj => ?_, by omega, rfl⟩
          · rw [List.length_append, List.length_singleton]
            omega
          · rw [List.length_map, List.take_length]
            exact (RM.mem_nbP hnl).mpr hj
      · rw [decide_eq_false (show ¬ (0 : Int) < (W.length : Int) by omega)]; refine iteF ?_
        have hW0 : W = [] := List.length_eq_zero_iff.mp (by omega)
        subst hW0
        exact k H2 N G.spread (fok.tag G.nd G.new G.lt) hd2 kp
/-! ### regions_from -/
def spRf (A : Adr) : Sp := fun vs H Q _ => ∃ (x pa sa : Addr) (g : Bead.Grid) (ms : List Bool) (L : List Nat), vs = [.ref x, .ref pa, .ref sa] ∧ GridAt A H x g ∧ BM.GridOk g ∧ H pa = some (.lst (ms.map mV)) ∧ ms.length = g.count ∧ H sa = some (.lst (L.map nV)) ∧ (∀ j ∈ L, j < g.count) ∧
  ∀ (H' : Hp) (d : Addr) (fs : List (Nat × Nat)) (c : Nat), RM.Regs g (okL ms) L fs c → RM.FsOk g fs → H' d = some (.dK (kvF fs)) → H d = none → Same H H' → Q (.ref d) H'
theorem scRf : FnScope ["grid", "passable", "starts", "found", "count", "start"] ["grid", "passable", "starts"] (defScope sregions_from) := ⟨rfl, rfl, rfl, by decide +kernel, rfl, by decide +kernel, by decide +kernel⟩
theorem ok_rf (T : Txt K mg A) : ∃ fd, FnOk P w K mg base CX0 4 A.fregions_from fd ["grid", "passable", "starts"] (spRf A) ∧ Binds K fd ["grid", "passable", "starts"] [] ∧ PySem.W.keepIn K (.ref A.fregions_from) = true := by
  obtain ⟨fd, F, b⟩ := T.bregions_from
  obtain ⟨fdS, GS, bS, kS⟩ := ok_sp (P := P) (w := w) (base := base) T
  refine ⟨fd, F.ok scRf (fun vs H Q E h => ?_) (fun cdv A' outer s H vs Q E hr h => ?_), b, F.kp⟩
  · obtain ⟨x, pa, sa, g, ms, L, rfl, _⟩ := h
    rfl
  · obtain ⟨x, pa, sa, g, ms, L, rfl, ⟨dx, hx⟩, gok, hpa, hml, hsa, hL, k⟩ := h
    have hu := hu_of hr
    refine ⟨_, pss_cons (ps_set (i := 3) scRf.nd rfl (Or.inl rfl) pe_dnewK)
      (pss_cons (ps_set (i := 4) scRf.nd rfl (Or.inl rfl) pe_int)
      (pss_cons (ps_for PassesOwn.never rfl (pi_list (pv 2)) (pg_name (i := 5) scRf.nd rfl (Or.inl rfl))
        (pss_one (ps_if (pw_and (pt_cmpR op_eq (pe_ix ix_list (pv 1) (pv 5) (fun _ _ => rfl)) pe_int (nomark _)) (pw_and1 (pt_cmp (pc_dnotin hu (pv 5) (pv 3))))).pt (pss_cons (ps_expr (pe_call GS hr (by rfl) T.gspread kS bS .nil pass0 (pa_cons (pv 0) (pa_cons (pv 1) (pa_cons (pv 5) (pa_cons (pv 4) (pa_cons (pv 3) pa_nil)))))))
          (pss_one (ps_aug (i := 4) scRf.nd rfl (Or.inl rfl) pe_int ip_add))) pss_nil)))
      (pss_one (ps_ret (pv 3))))), ?_⟩
    intro d nd
    have s0 := Same.new (o := HO.dK []) nd
    refine ⟨_, rfl, sa, rfl, ⟨_, SqL.of (s0 _ _ hsa)⟩, for_list (K := K) (a := sa) (xs := L.map nV) (fun i σ H' => ∃ (fs : List (Nat × Nat)) (c : Nat) (v5 : Option V), σ = [some (.ref x), some (.ref pa), some (.ref sa), some (.ref d), some (.int (c : Int)), v5] ∧ H' d = some (.dK (kvF fs)) ∧ RM.Regs g (okL ms) (L.take i) fs c ∧ RM.FsOk g fs ∧ Same H H')
      ⟨[], 0, none, rfl, upd_same, .nil, ⟨by simp [RM.keys], (fun j hj => by cases hj)⟩, s0⟩ ?_ ?_ ?_⟩
    · rintro i σ H' _ ⟨_, _, _, _, _, _, _, k1⟩
      exact SqL.of (k1 _ _ hsa)
    · rintro i y σ H' hy ⟨fs, c, v5, rfl, hd, R, fok, k1⟩
      rw [List.getElem?_map] at hy
      obtain ⟨j, hj, rfl⟩ := Option.map_eq_some_iff.mp hy
      have hjl := hL j (List.mem_of_getElem? hj)
      have htk : L.take (i + 1) = L.take i ++ [j] := by
        rw [List.take_add_one, hj]
        rfl
      refine ⟨_, rfl, _, rfl, pa, _, _, mV (okL ms j), rfl, rfl, SqL.of (k1 _ _ hpa), atI_nat (okL_at (by rw [hml]; exact hjl)), rfl, _, rfl, ?_⟩
      rw [mV_one]
      cases hok : okL ms j with
      | false =>
        refine iteF ?_
        refine iteF ?_
        refine ⟨fs, c, _, rfl, hd, ?_, fok, k1⟩
        rw [htk]
        exact .skip R (.inl hok)
      | true =>
        refine iteT ?_
        have hg := DGet.k (k := Sum.inl (j : Int)) hd
        rw [valF] at hg
        refine ⟨_, rfl, _, rfl, d, _, rfl, hg, _, rfl, ?_⟩
        rw [Option.isSome_map]
        cases hlk : (fs.lookup j).isSome with
        | true =>
          refine iteF ?_
          refine ⟨fs, c, _, rfl, hd, ?_, fok, k1⟩
          rw [htk]
          exact .skip R (.inr (look_in.mp hlk))
        | false =>
          refine iteT ?_
          have hnin : j ∉ RM.keys fs := fun z => by
            rw [look_in.mpr z] at hlk
            cases hlk
          refine ⟨_, rfl, _, rfl, _, rfl, _, rfl, _, rfl, x, pa, d, g, ms, j, c, fs, rfl, ⟨dx, k1 _ _ hx⟩, gok, k1 _ _ hpa, hml, hjl, hnin, fok, hd, fun H2 N S fok2 hd2 kp => ?_⟩
          refine ⟨_, rfl, _, _, rfl, rfl, ?_⟩
          refine ⟨fs ++ RM.tag N c, c + 1, _, rfl, hd2, ?_, fok2, fun b o q => ?_⟩
          · rw [htk]
            exact .add R hok hnin S
          · exact kp b o (k1 _ _ q) (ne_of_none q nd)
    · rintro σ H' ⟨fs, c, v5, rfl, hd, R, fok, k1⟩
      rw [List.length_map, List.take_length] at R
      exact ⟨_, rfl, k H' d fs c R fok hd nd k1⟩
end
end MP

end

section
set_option Elab.async false
set_option linter.all false
set_option maxRecDepth 100000
set_option maxHeartbeats 2000000
namespace MP
open PySem PySem.Spec PyProof.Rows L2
open Bead (Bytes In isDigit)
/-! ### is_at_border -/
section
variable {P : Program} {w : World} {K : PySem.W.Frag} {mg : Str → Option Value} {base : Heap} {A : Adr}
def spBd (A : Adr) : Sp := fun vs H Q _ => ∃ (x : Addr) (g : Bead.Grid) (i : Nat), vs = [.ref x, .int (i : Int)] ∧ GridAt A H x g ∧ BM.GridOk g ∧ ∀ H' : Hp, Same H H' → Q (.bl (g.edge i)) H'
theorem scBd : FnScope ["grid", "number", "place"] ["grid", "number"] (defScope sis_at_border) := ⟨rfl, rfl, rfl, by decide +kernel, rfl, by decide +kernel, by decide +kernel⟩
theorem last_is {c n : Nat} (h : 1 ≤ n) : decide (nV c = V.int ((n : Int) - 1)) = (c + 1 == n) := by
  rw [Bool.eq_iff_iff, decide_eq_true_eq, beq_iff_eq]
  constructor
  · intro z
    injection z with z
    omega
  · intro z
    show V.int (c : Int) = V.int ((n : Int) - 1)
    rw [show (n : Int) - 1 = (c : Int) by omega]
theorem edge_is (g : Bead.Grid) (i : Nat) : g.edge i = ([g.colOf i, g.rowOf i, g.layerOf i].contains 0 || ((g.colOf i + 1 == g.wide) || ((g.rowOf i + 1 == g.deep) || (g.layerOf i + 1 == g.high)))) := by
  unfold Bead.Grid.edge
  rw [List.contains_cons, List.contains_cons, List.contains_cons, List.contains_nil]
  rw [show (0 == g.colOf i) = (g.colOf i == 0) from Bool.eq_iff_iff.mpr (by rw [beq_iff_eq, beq_iff_eq]; omega), show (0 == g.rowOf i) = (g.rowOf i == 0) from Bool.eq_iff_iff.mpr (by rw [beq_iff_eq, beq_iff_eq]; omega), show (0 == g.layerOf i) = (g.layerOf i == 0) from Bool.eq_iff_iff.mpr (by rw [beq_iff_eq, beq_iff_eq]; omega)]
  cases (g.colOf i == 0) <;> cases (g.rowOf i == 0) <;> cases (g.layerOf i == 0) <;> cases (g.colOf i + 1 == g.wide) <;> cases (g.rowOf i + 1 == g.deep) <;> cases (g.layerOf i + 1 == g.high) <;> rfl
theorem ok_bd (T : Txt K mg A) : ∃ fd, FnOk P w K mg base CX0 2 A.fis_at_border fd ["grid", "number"] (spBd A) ∧ Binds K fd ["grid", "number"] [] ∧ PySem.W.keepIn K (.ref A.fis_at_border) = true := by
  obtain ⟨fd, F, b⟩ := T.bis_at_border
  obtain ⟨fdP, GP, bP⟩ := ok_cp (P := P) (w := w) (base := base) T
  refine ⟨fd, F.ok scBd (fun vs H Q E h => ?_) (fun cdv A' outer s H vs Q E hr h => ?_), b, F.kp⟩
  · obtain ⟨x, g, i, rfl, _⟩ := h
    rfl
  · obtain ⟨x, g, i, rfl, ⟨dx, hx⟩, gok, k⟩ := h
    refine ⟨_, pss_cons (ps_set (i := 2) scBd.nd rfl (Or.inl rfl) (pe_meth (pv 0) T.cG T.mCp GP hr bP .nil pass0 (pa_cons (pv 1) pa_nil)))
      (pss_one (ps_ret (pe_or (pe_cmpR op_in_seq pe_int (pv 2) (by with_unfolding_all rfl)) (pe_or (pe_cmpR op_eq (pe_ix ix_tup (pv 2) pe_int (fun _ _ => rfl)) (pe_op op_sub (pe_fld (pv 0) rfl) pe_int) (nomark _)) (pe_or (pe_cmpR op_eq (pe_ix ix_tup (pv 2) pe_int (fun _ _ => rfl)) (pe_op op_sub (pe_fld (pv 0) rfl) pe_int) (nomark _)) (pe_one (pe_cmpR op_eq (pe_ix ix_tup (pv 2) pe_int (fun _ _ => rfl)) (pe_op op_sub (pe_fld (pv 0) rfl) pe_int) (nomark _)))))))), ?_⟩
    have n1 : (gf g).lookup ("cell_place" : Str) = none := gf_no _ (by decide +kernel) (by decide +kernel) (by decide +kernel)
    refine ⟨_, rfl, x, dx, _, rfl, hx, n1, _, rfl, x, g, i, rfl, ⟨dx, hx⟩, gok, fun H1 t ht s1 => ?_⟩
    have hx1 := s1 _ _ hx
    have k1 := k H1 s1
    rw [edge_is] at k1
    have ht' := SqT.of (K := K) ht
    refine ⟨_, rfl, t, _, rfl, .inr ht', rfl, flat_nats [g.colOf i, g.rowOf i, g.layerOf i], _, rfl, ?_⟩
    rw [show inV (.int 0) (row3 g i) = [g.colOf i, g.rowOf i, g.layerOf i].contains 0 from in_nats 0 [g.colOf i, g.rowOf i, g.layerOf i]]
    generalize [g.colOf i, g.rowOf i, g.layerOf i].contains 0 = a0 at k1 ⊢
    cases a0 with
    | true => exact iteT k1
    | false =>
      refine iteF ?_
      refine ⟨_, rfl, t, _, _, nV (g.colOf i), rfl, rfl, ht', rfl, _, rfl, x, A.cG, dx, _, _, rfl, hx1, T.cG, T.nGw, gf_w g, _, _, rfl, rfl, rfl, _, rfl, ?_⟩
      rw [show decide (nV (g.colOf i) = V.int ((g.wide : Int) - 1)) = _ from last_is gok.w1]
      generalize (g.colOf i + 1 == g.wide) = a1 at k1 ⊢
      cases a1 with
      | true => exact iteT k1
      | false =>
        refine iteF ?_
        refine ⟨_, rfl, t, _, _, nV (g.rowOf i), rfl, rfl, ht', rfl, _, rfl, x, A.cG, dx, _, _, rfl, hx1, T.cG, T.nGd, gf_d g, _, _, rfl, rfl, rfl, _, rfl, ?_⟩
        rw [show decide (nV (g.rowOf i) = V.int ((g.deep : Int) - 1)) = _ from last_is gok.d1]
        generalize (g.rowOf i + 1 == g.deep) = a2 at k1 ⊢
        cases a2 with
        | true => exact iteT k1
        | false =>
          refine iteF ?_
          refine ⟨_, rfl, t, _, _, nV (g.layerOf i), rfl, rfl, ht', rfl, _, rfl, x, A.cG, dx, _, _, rfl, hx1, T.cG, T.nGh, gf_h g, _, _, rfl, rfl, rfl, ?_⟩
          rw [show decide (nV (g.layerOf i) = V.int ((g.high : Int) - 1)) = _ from last_is gok.h1]
          exact k1
/-! ### filled_body -/
def spFb (A : Adr) : Sp := fun vs H Q _ => ∃ (m : Addr) (B : Bead.Body), vs = [.ref m] ∧ BodyAt A H m B ∧ BM.GridOk B.grid ∧ B.cells.size = B.grid.count ∧ ∀ (H' : Hp) (p : Addr), BodyAt A H' p B.filled → Q (.ref p) H'
theorem scFb : FnScope ["body", "numbers", "border", "outside", "number", "mark"] ["body"] (defScope sfilled_body) := ⟨rfl, rfl, rfl, by decide +kernel, rfl, by decide +kernel, by decide +kernel⟩
theorem not_mark (b : Bool) : (1 : Int) - BM.mI b = BM.mI (!b) := by cases b <;> rfl
theorem ok_fb (T : Txt K mg A) : ∃ fd, FnOk P w K mg base CX0 5 A.ffilled_body fd ["body"] (spFb A) ∧ Binds K fd ["body"] [] ∧ PySem.W.keepIn K (.ref A.ffilled_body) = true := by
  obtain ⟨fd, F, b⟩ := T.bfilled_body
  obtain ⟨fdR, GR, bR, kR⟩ := ok_rf (P := P) (w := w) (base := base) T
  obtain ⟨fdC, GC, bC⟩ := ok_cc (P := P) (w := w) (base := base) T
  obtain ⟨fdB, GB, bB, kB⟩ := ok_bd (P := P) (w := w) (base := base) T
  obtain ⟨fdD, GD, bD⟩ := ok_bdi (P := P) (w := w) (base := base) T
  refine ⟨fd, F.ok scFb (fun vs H Q E h => ?_) (fun cdv A' outer s H vs Q E hr h => ?_), b, F.kp⟩
  · obtain ⟨m, B, rfl, _⟩ := h
    rfl
  · obtain ⟨m, B, rfl, ⟨dm, x, dx, l, M⟩, gok, hsz, k⟩ := h
    have hu := hu_of hr
    have hcnt := gok.count
    have hr2 := hr.mono (show 2 ≤ 4 by decide)
    have hlen : B.cells.toList.length = B.grid.count := by rw [Array.length_toList, hsz]
    refine ⟨_, pss_cons (ps_set (i := 1) scFb.nd rfl (Or.inl rfl) (pe_callTy (call_list_rng rfl) (by rfl) T.list boot_lst (pa_cons (pe_rng (by rfl) T.range (pa_cons (pe_meth0 (pe_fld (pv 0) rfl) T.cG T.mCc GC (hr.mono (show 1 ≤ 4 by decide)) bC .nil pass0) pa_nil)) pa_nil)))
      (pss_cons (ps_setLc (own := [("number", 4)]) (i := 2) rfl scFb.nd rfl rfl (sw_true rfl rfl (by rfl) (by decide +kernel)) (pi_list (pv 1)) (blkOk_at (N := ["body", "numbers", "border", "outside", "number", "mark"]) (sc := defScope sfilled_body) (by decide +kernel)) (fun _ _ _ _ _ => pg_name (i := 4) scFb.nd rfl (Or.inl rfl))
        (fun _ _ _ _ _ => (pts_one (pt_val (pe_call GB hr2 (by rfl) T.gis_at_border kB bB .nil pass0 (pa_cons (pe_fldK (K := K) (pv 0) rfl rfl) (pa_cons (pv 4) pa_nil)))))) (fun _ _ _ _ _ => (pv 4)))
      (pss_cons (ps_set (i := 3) scFb.nd rfl (Or.inr rfl) (pe_call GR hr (by rfl) T.gregions_from kR bR .nil pass0 (pa_cons (pe_fld (pv 0) rfl) (pa_cons (pe_lc (own := [("mark", 5)]) rfl scFb.nd (pi_list (pe_fld (pv 0) rfl)) (blkOk_at (N := ["body", "numbers", "border", "outside", "number", "mark"]) (sc := defScope sfilled_body) (by decide +kernel)) (fun _ _ _ _ _ => pg_name (i := 5) scFb.nd rfl (Or.inl rfl)) (fun _ _ _ _ _ => pts_nil) (fun _ _ _ _ _ => (pe_op op_sub pe_int (pv 5)))) (pa_cons (pv 2) pa_nil)))))
      (pss_one (ps_ret (pe_make T.mkB GD hr2 (by rfl) T.gB bD .nil pass0 (pa_cons (pe_fld (pv 0) rfl) (pa_cons (pe_lc (own := [("number", 4)]) rfl scFb.nd (pi_list (pv 1)) (blkOk_at (N := ["body", "numbers", "border", "outside", "number", "mark"]) (sc := defScope sfilled_body) (by decide +kernel)) (fun _ _ _ _ _ => pg_name (i := 4) scFb.nd rfl (Or.inl rfl)) (fun _ _ _ _ _ => pts_nil) (fun _ _ _ _ _ => (pe_ifExp (pt_cmp (pc_din hu (pv 4) (pv 3))) pe_int pe_int))) pa_nil))))))), ?_⟩
    have hno : (gf B.grid).lookup ("cell_count" : Str) = none := gf_no _ (by decide +kernel) (by decide +kernel) (by decide +kernel)
    refine ⟨_, rfl, m, A.cB, dm, _, _, rfl, M.ins, T.cB, T.nBg, bf_g x l, x, dx, _, rfl, M.g, hno, x, B.grid, rfl, ⟨dx, M.g⟩, gok, _, rfl, fun r1 n1 => ?_⟩
    have s1 := Same.new (o := HO.rng 0 (B.grid.count : Int)) n1
    refine ⟨r1, B.grid.count, rfl, upd_same, by omega, fun na nna => ?_⟩
    have s2 := Same.new (o := HO.lst ((List.range B.grid.count).map nV)) nna
    have s12 := s1.trans s2
    have M2 := M.same s12
    have hna : upd (upd H r1 (.rng 0 (B.grid.count : Int))) na (.lst ((List.range B.grid.count).map nV)) na = some (.lst ((List.range B.grid.count).map nV)) := upd_same
    refine ⟨_, rfl, na, rfl, ⟨_, SqL.of hna⟩, fun D1 hD1 => lc_list (K := K) (a := na) (xs := (List.range B.grid.count).map nV) (fun i H' => H' D1 = some (.lst (((List.range i).filter B.grid.edge).map nV)) ∧ Same (upd (upd H r1 (.rng 0 (B.grid.count : Int))) na (.lst ((List.range B.grid.count).map nV))) H') ⟨upd_same, Same.new hD1⟩ ?_ ?_ ?_⟩
    · rintro i H' _ ⟨_, p2⟩
      exact SqL.of (p2 _ _ hna)
    · rintro i y H' hy ⟨p1, p2⟩
      rw [List.getElem?_map] at hy
      obtain ⟨j, hj, rfl⟩ := Option.map_eq_some_iff.mp hy
      have hi : i < B.grid.count := by
        have := (List.getElem?_eq_some_iff.mp hj).1
        rwa [List.length_range] at this
      have hji : j = i := by
        rw [List.getElem?_range hi] at hj
        exact (Option.some.inj hj).symm
      subst hji
      have M3 := M2.same p2
      refine ⟨rfl, ?_⟩
      refine ⟨_, rfl, m, A.cB, dm, _, _, rfl, M3.ins, T.cB, T.nBg, bf_g x l, _, rfl, x, B.grid, j, rfl, ⟨dx, M3.g⟩, gok, fun H3 s3 => ⟨_, rfl, ?_⟩⟩
      cases he : B.grid.edge j with
      | true =>
        refine iteT ?_
        refine ⟨_, rfl, _, s3 _ _ p1, ?_, ?_, fun b o q => ?_⟩
        · rw [List.length_map]
          exact Nat.lt_of_le_of_lt (Nat.le_trans (List.length_filter_le _ _) (by rw [List.length_range]; omega : _ ≤ 100000)) (by decide)
        · rw [upd_same, List.range_succ, List.filter_append, show [j].filter B.grid.edge = [j] by rw [List.filter_cons, if_pos he]; rfl, List.map_append]
          rfl
        · rw [upd_ne (ne_of_none q hD1)]
          exact s3 _ _ (p2 _ _ q)
      | false =>
        refine iteF ?_
        refine ⟨?_, p2.trans s3⟩
        rw [List.range_succ, List.filter_append, show [j].filter B.grid.edge = [] by rw [List.filter_cons, if_neg (by rw [he]; exact Bool.false_ne_true)]; rfl, List.append_nil]
        exact s3 _ _ p1
    · rintro H3 ⟨p1, p2⟩
      rw [List.length_map, List.length_range] at p1
      have s3 := s12.trans p2
      have M3 := M.same s3
      refine ⟨_, rfl, m, A.cB, dm, _, _, rfl, M3.ins, T.cB, T.nBg, bf_g x l, _, rfl, m, A.cB, dm, _, _, rfl, M3.ins, T.cB, T.nBm, bf_m x l, l, rfl, ⟨_, SqL.of M3.l⟩, fun D2 hD2 => lc_list (K := K) (a := l) (xs := B.cells.toList.map mV) (fun i H' => H' D2 = some (.lst (((B.cells.toList.take i).map fun b => !b).map mV)) ∧ Same H3 H') ⟨upd_same, Same.new hD2⟩ ?_ ?_ ?_⟩
      · rintro i H' _ ⟨_, q2⟩
        exact SqL.of (q2 _ _ M3.l)
      · rintro i y H' hy ⟨q1, q2⟩
        rw [List.getElem?_map] at hy
        obtain ⟨c, hc, rfl⟩ := Option.map_eq_some_iff.mp hy
        refine ⟨rfl, yesT ?_⟩
        refine ⟨_, rfl, _, _, rfl, rfl, _, q1, ?_, ?_, fun b o q => ?_⟩
        · rw [List.length_map, List.length_map, List.length_take, hlen]
          exact Nat.lt_of_le_of_lt (Nat.min_le_right _ _) (Nat.lt_of_le_of_lt hcnt (by decide))
        · rw [upd_same, List.take_add_one, hc, List.map_append, List.map_append]
          show some (HO.lst (_ ++ [V.int (1 - BM.mI c)])) = _
          rw [not_mark]
          rfl
        · rw [upd_ne (ne_of_none q hD2)]
          exact q2 _ _ q
      · rintro H4 ⟨q1, q2⟩
        rw [List.length_map, List.take_length] at q1
        have M4 := M3.same q2
        refine ⟨_, rfl, x, D2, D1, B.grid, B.cells.toList.map (fun b => !b), (List.range B.grid.count).filter B.grid.edge, rfl, ⟨dx, M4.g⟩, gok, q1, by rw [List.length_map, hlen], q2 _ _ p1, fun j hj => List.mem_range.mp (List.mem_filter.mp hj).1, fun H5 d fs c R fok hd nd s5 => ?_⟩
        have M5 := M4.same s5
        have hna5 := s5 _ _ (q2 _ _ (p2 _ _ hna))
        have key : ∀ i, i < B.grid.count → (B.filled.of_ i = true ↔ i ∉ RM.keys fs) := fun i hi => by
          refine RM.filled_keys (ms := B.cells.toList.map fun b => !b) (L := (List.range B.grid.count).filter B.grid.edge) (fun j hj => ?_) (fun k => ?_) R hi
          · rw [List.getD_eq_getElem?_getD, List.getElem?_map, BM.of_cells hsz hj]
            rfl
          · rw [List.mem_filter, List.mem_range]
        have hfs : B.filled.cells.size = B.filled.grid.count := RM.filled_size B
        refine ⟨_, rfl, m, A.cB, dm, _, _, rfl, M5.ins, T.cB, T.nBg, bf_g x l, _, rfl, na, rfl, ⟨_, SqL.of hna5⟩, fun D3 hD3 => lc_list (K := K) (a := na) (xs := (List.range B.grid.count).map nV) (fun i H' => H' D3 = some (.lst ((B.filled.cells.toList.take i).map mV)) ∧ Same H5 H') ⟨upd_same, Same.new hD3⟩ ?_ ?_ ?_⟩
        · rintro i H' _ ⟨_, r2⟩
          exact SqL.of (r2 _ _ hna5)
        · rintro i y H' hy ⟨r1', r2⟩
          rw [List.getElem?_map] at hy
          obtain ⟨j, hj, rfl⟩ := Option.map_eq_some_iff.mp hy
          have hi : i < B.grid.count := by
            have := (List.getElem?_eq_some_iff.mp hj).1
            rwa [List.length_range] at this
          have hji : j = i := by
            rw [List.getElem?_range hi] at hj
            exact (Option.some.inj hj).symm
          subst hji
          have hat : B.filled.cells.toList[j]? = some (B.filled.of_ j) := BM.of_cells hfs hi
          have hg := DGet.k (k := Sum.inl (j : Int)) (r2 _ _ hd)
          rw [valF] at hg
          have fin : ∀ v : Bool, B.filled.of_ j = v → ∃ acc, H' D3 = some (.lst acc) ∧ acc.length < sizeLine ∧ (fun i H' => H' D3 = some (.lst ((B.filled.cells.toList.take i).map mV)) ∧ Same H5 H') (j + 1) (upd H' D3 (.lst (acc ++ [mV v]))) := fun v hv => by
            refine ⟨_, r1', ?_, ?_, fun b o z => ?_⟩
            · rw [List.length_map, List.length_take]
              exact Nat.lt_of_le_of_lt (Nat.min_le_left _ _) (Nat.lt_trans hi (Nat.lt_of_le_of_lt hcnt (by decide)))
            · rw [upd_same, List.take_add_one, hat, hv, List.map_append]
              rfl
            · rw [upd_ne (ne_of_none z hD3)]
              exact r2 _ _ z
          refine ⟨rfl, yesT ?_⟩
          refine ⟨_, rfl, _, rfl, d, _, rfl, hg, _, rfl, ?_⟩
          rw [Option.isSome_map]
          cases hlk : (fs.lookup j).isSome with
          | true =>
            refine iteT ?_
            refine fin false ?_
            cases e : B.filled.of_ j with
            | false => rfl
            | true => exact absurd (look_in.mp hlk) ((key j hi).mp e)
          | false =>
            refine iteF ?_
            refine fin true ((key j hi).mpr fun z => ?_)
            rw [look_in.mpr z] at hlk
            cases hlk
        · rintro H6 ⟨r1', r2⟩
          rw [List.length_map, List.length_range, List.take_of_length_le (by rw [Array.length_toList, hfs]; exact Nat.le_refl _)] at r1'
          intro p dp np ndp nep
          refine ⟨p, dp, x, D3, rfl, upd_same, fun H7 i7 kp7 => ⟨rfl, ?_⟩⟩
          have s7 := Same.made np ndp kp7
          exact k H7 p ⟨dp, x, dx, D3, i7, s7 _ _ (r2 _ _ M5.g), s7 _ _ r1'⟩
end
/-! ### filled -/
def spFi (K : PySem.W.Frag) : Sp := fun vs H Q _ => ∃ (a : Addr) (B : Bytes), vs = [.ref a] ∧ SqL K H a (B.map bV) ∧ ∀ (H' : Hp) (p : Addr), H' p = some (.lst ((due (.filled B)).map V.int)) → Q (.ref p) H'
theorem scFi : FnScope ["b", "body"] ["b"] (defScope sfilled) := ⟨rfl, rfl, rfl, by decide +kernel, rfl, by decide +kernel, by decide +kernel⟩
section
variable {P : Program} {w : World} {K : PySem.W.Frag} {mg : Str → Option Value} {base : Heap} {A : Adr}
theorem ok_fi {f : Addr} {fd : FuncData} (F : Fun K "filled" "filled" sfilled f fd) (T : Txt K mg A) : FnOk P w K mg base CX0 6 f fd ["b"] (spFi K) := by
  obtain ⟨fdM, GM, bM, kM⟩ := ok_bo (P := P) (w := w) (base := base) T
  obtain ⟨fdR, GR, bR, kR⟩ := ok_ref (P := P) (w := w) (base := base) T
  obtain ⟨fdT, GT, bT, kT⟩ := ok_tel (P := P) (w := w) (base := base) T
  obtain ⟨fdY, GY, bY, kY⟩ := ok_by (P := P) (w := w) (base := base) T
  obtain ⟨fdE, GE, bE, kE⟩ := ok_fb (P := P) (w := w) (base := base) T
  refine F.ok scFi (fun vs H Q E h => ?_) (fun cdv A' outer s H vs Q E hr h => ?_)
  · obtain ⟨a, B, rfl, _⟩ := h
    rfl
  · obtain ⟨a, B, rfl, hs, k⟩ := h
    have hr2 := (hr.mono (show 2 ≤ 5 by decide)).c
    refine ⟨_, pss_cons (ps_if (pt_cmpR op_gt (pe_callB call_len_seq (by rfl) T.len PySem.boot_len (pa_cons (pv 0) pa_nil)) (pe_num (by rfl) T.nMB) (nomark _)) (pss_one (ps_ret (pe_callC GR hr2 (by rfl) T.gRef kR bR pass0 (pa_cons (pe_num (by rfl) T.nTL) pa_nil)))) pss_nil)
      (pss_cons (ps_set (i := 1) scFi.nd rfl (Or.inl rfl) (pe_call GM hr (by rfl) T.gBo kM bM .nil pass0 (pa_cons (pv 0) pa_nil)))
      (pss_cons (ps_if (pt_cmp (pc_isN (pv 1))) (pss_one (ps_ret (pe_callC GR hr2 (by rfl) T.gRef kR bR pass0 (pa_cons (pe_num (by rfl) T.nNS) pa_nil)))) pss_nil)
      (pss_one (ps_ret (pe_call GT (hr.mono (show 2 ≤ 5 by decide)) (by rfl) T.gTel kT bT .nil pass0 (pa_cons (pe_call GY (hr.mono (show 2 ≤ 5 by decide)) (by rfl) T.gBy kY bY .nil pass0 (pa_cons (pe_call GE hr (by rfl) T.gfilled_body kE bE .nil pass0 (pa_cons (pv 1) pa_nil)) pa_nil)) pa_nil)))))), ?_⟩
    refine ⟨_, rfl, a, _, rfl, .inl hs, _, _, rfl, rfl, _, rfl, ?_⟩
    rw [List.length_map]
    by_cases hl : 16384 < B.length
    · rw [decide_eq_true (show (16384 : Int) < (B.length : Int) by omega)]; refine iteT ?_
      refine ⟨-2, rfl, fun H' p hp => k H' p ?_⟩
      have e : due (.filled B) = BodiesNeutral.numbersOf (Bead.says (-2)) := congrArg _ (looked_long hl _)
      rw [e, says_is]
      exact hp
    · rw [decide_eq_false (show ¬ (16384 : Int) < (B.length : Int) by omega)]; refine iteF ?_
      have e1 : due (.filled B) = BodiesNeutral.numbersOf (Bodies.ofBody B fun b => Bead.gives b.filled.bytes) := congrArg _ (looked_short hl _)
      refine ⟨_, rfl, a, B, rfl, hs, fun b e H1 m M s1 => ?_, fun q e H1 s1 => ?_⟩
      · have G := BM.judge_good e
        rw [of_body e] at e1
        refine ⟨_, rfl, _, rfl, ?_⟩
        rw [decide_eq_false (by intro z; cases z)]; refine iteF ?_
        have hsz : b.filled.cells.size = b.filled.grid.count := RM.filled_size b
        refine ⟨_, rfl, m, b, rfl, M, G.ok, G.size, fun H2 p hp => ?_⟩
        refine ⟨p, b.filled, rfl, hp, G.ok, hsz, fun H5 p5 hp5 s5 => ?_⟩
        refine ⟨p5, _, rfl, hp5, ?_, fun H' p' hp' => k H' p' ?_⟩
        · rw [List.length_map]
          exact Nat.le_trans (BM.bytes_size hsz G.ok) (by decide)
        · rw [e1, gives_is]
          exact hp'
      · rw [of_none e] at e1
        refine ⟨_, rfl, _, rfl, ?_⟩
        rw [decide_eq_true rfl]; refine iteT ?_
        refine ⟨-6, rfl, fun H' p hp => k H' p ?_⟩
        rw [e1, says_is]
        exact hp
end
open PySem.W (WData) in
theorem req_fi {K : PySem.W.Frag} {H : Hp} {a : Addr} {ns : List Int} {E : XK} (hs : SqL K H a (ns.map V.int)) (h : ns.all (PySem.W.Codec.inInt 0 255) = true) :
    spFi K [.ref a] H (fun v H' => Dw K H' v (.list ((PyWqaebs.filled ns).map WData.int))) E := by
  refine ⟨a, BodiesNeutral.text ns, rfl, ?_, fun H' p hp => .lst (SqL.of hp) (dw_ints _)⟩
  rw [← text_back h]
  exact hs
theorem all_mk {P : Program} {w : World} {K : PySem.W.Frag} {h : Heap} {mg : Str → Option Value} {fa cBF fBF cG fG fCc fCn fCp fHc cB fB fMa f_wall fIs fBb fRg fRb fBy fneighbours fspread fregions_from fis_at_border ffilled_body fAns fRef fTel fBo ffilled : Addr} (X : K.In h) (G : h.Ns mainGlobals mg) (hfa : mg "filled" = some (.ref fa))
    {oc0 kv0 dc0 pm0 cd0 ct0 : Value} {od0 an0 : Option Addr} {sl0 : Array (Option Value)}
    {oc1 kv1 dc1 pm1 cd1 ct1 : Value} {od1 an1 : Option Addr} {sl1 : Array (Option Value)}
    {oc2 kv2 dc2 pm2 cd2 ct2 : Value} {od2 an2 : Option Addr} {sl2 : Array (Option Value)}
    {oc3 kv3 dc3 pm3 cd3 ct3 : Value} {od3 an3 : Option Addr} {sl3 : Array (Option Value)}
    {oc4 kv4 dc4 pm4 cd4 ct4 : Value} {od4 an4 : Option Addr} {sl4 : Array (Option Value)}
    {oc5 kv5 dc5 pm5 cd5 ct5 : Value} {od5 an5 : Option Addr} {sl5 : Array (Option Value)}
    {oc6 kv6 dc6 pm6 cd6 ct6 : Value} {od6 an6 : Option Addr} {sl6 : Array (Option Value)}
    {oc7 kv7 dc7 pm7 cd7 ct7 : Value} {od7 an7 : Option Addr} {sl7 : Array (Option Value)}
    {oc8 kv8 dc8 pm8 cd8 ct8 : Value} {od8 an8 : Option Addr} {sl8 : Array (Option Value)}
    {oc9 kv9 dc9 pm9 cd9 ct9 : Value} {od9 an9 : Option Addr} {sl9 : Array (Option Value)}
    {oc10 kv10 dc10 pm10 cd10 ct10 : Value} {od10 an10 : Option Addr} {sl10 : Array (Option Value)}
    {oc11 kv11 dc11 pm11 cd11 ct11 : Value} {od11 an11 : Option Addr} {sl11 : Array (Option Value)}
    {oc12 kv12 dc12 pm12 cd12 ct12 : Value} {od12 an12 : Option Addr} {sl12 : Array (Option Value)}
    {oc13 kv13 dc13 pm13 cd13 ct13 : Value} {od13 an13 : Option Addr} {sl13 : Array (Option Value)}
    {oc14 kv14 dc14 pm14 cd14 ct14 : Value} {od14 an14 : Option Addr} {sl14 : Array (Option Value)}
    {oc15 kv15 dc15 pm15 cd15 ct15 : Value} {od15 an15 : Option Addr} {sl15 : Array (Option Value)}
    {oc16 kv16 dc16 pm16 cd16 ct16 : Value} {od16 an16 : Option Addr} {sl16 : Array (Option Value)}
    {oc17 kv17 dc17 pm17 cd17 ct17 : Value} {od17 an17 : Option Addr} {sl17 : Array (Option Value)}
    {oc18 kv18 dc18 pm18 cd18 ct18 : Value} {od18 an18 : Option Addr} {sl18 : Array (Option Value)}
    {oc19 kv19 dc19 pm19 cd19 ct19 : Value} {od19 an19 : Option Addr} {sl19 : Array (Option Value)}
    {oc20 kv20 dc20 pm20 cd20 ct20 : Value} {od20 an20 : Option Addr} {sl20 : Array (Option Value)}
    {oc21 kv21 dc21 pm21 cd21 ct21 : Value} {od21 an21 : Option Addr} {sl21 : Array (Option Value)}
    {oc22 kv22 dc22 pm22 cd22 ct22 : Value} {od22 an22 : Option Addr} {sl22 : Array (Option Value)}
    {oc23 kv23 dc23 pm23 cd23 ct23 : Value} {od23 an23 : Option Addr} {sl23 : Array (Option Value)}
    {t24 : Tok}
    {t25 : Tok}
    {t26 : Tok}
    {t27 : Tok}
    {t28 : Tok}
    {t29 : Tok}
    {t30 : Tok}
    {t31 : Tok}
    {a32 : Addr}
    {a33 : Addr}
    (h1 : PySem.W.nsIn K mainGlobals "BodyFault" = some (some (.ref cBF)))
    (h2 : PySem.W.findIn K (.ref cBF) "__init__" = some (some (.ref fBF)))
    (h3 : exIn K cBF fBF ["kind", "place"] = true)
    (h4 : fnCls K fBF = true)
    (h5 : PySem.W.keepIn K (.ref cBF) = true)
    (h6 : K.lookup fBF = some ⟨oc0, od0, .func (PySem.W.fnOf "__init__" "BodyFault.__init__" (defArgs sBF_init) (defBody sBF_init) (defScope sBF_init) .none kv0 dc0 pm0 an0 cd0 ct0), sl0⟩)
    (h7 : PySem.W.codeIn K cd0 "BodyFault.__init__" = true)
    (h8 : PySem.W.keepIn K (.ref fBF) = true)
    (h9 : PySem.W.nsIn K mainGlobals "Grid" = some (some (.ref cG)))
    (h10 : PySem.W.findIn K (.ref cG) "__init__" = some (some (.ref fG)))
    (h11 : PySem.W.isFn K (.ref fG) = true)
    (h12 : K.lookup fG = some ⟨oc1, od1, .func (PySem.W.fnOf "__init__" "Grid.__init__" (defArgs sG_init) (defBody sG_init) (defScope sG_init) .none kv1 dc1 pm1 an1 cd1 ct1), sl1⟩)
    (h13 : PySem.W.codeIn K cd1 "Grid.__init__" = true)
    (h14 : PySem.W.keepIn K (.ref fG) = true)
    (h15 : PySem.W.plainGet K cG Str.empty = true)
    (h16 : PySem.W.hasDictIn K cG = true)
    (h17 : PySem.W.plainOver K cG = true)
    (h18 : PySem.W.findIn K (.ref cG) "__setattr__" = some (some (.builtin "object.__setattr__")))
    (h19 : PySem.W.makesIn K cG = true)
    (h20 : PySem.W.keepIn K (.ref cG) = true)
    (h21 : PySem.W.findIn K (.ref cG) "wide" = some none)
    (h22 : PySem.W.findIn K (.ref cG) "deep" = some none)
    (h23 : PySem.W.findIn K (.ref cG) "high" = some none)
    (h24 : PySem.W.findIn K (.ref cG) "cell_count" = some (some (.ref fCc)))
    (h25 : PySem.W.isFn K (.ref fCc) = true)
    (h26 : K.lookup fCc = some ⟨oc2, od2, .func (PySem.W.fnOf "cell_count" "Grid.cell_count" (defArgs sCc) (defBody sCc) (defScope sCc) .none kv2 dc2 pm2 an2 cd2 ct2), sl2⟩)
    (h27 : PySem.W.codeIn K cd2 "Grid.cell_count" = true)
    (h28 : PySem.W.keepIn K (.ref fCc) = true)
    (h29 : PySem.W.findIn K (.ref cG) "cell_number" = some (some (.ref fCn)))
    (h30 : PySem.W.isFn K (.ref fCn) = true)
    (h31 : K.lookup fCn = some ⟨oc3, od3, .func (PySem.W.fnOf "cell_number" "Grid.cell_number" (defArgs sCn) (defBody sCn) (defScope sCn) .none kv3 dc3 pm3 an3 cd3 ct3), sl3⟩)
    (h32 : PySem.W.codeIn K cd3 "Grid.cell_number" = true)
    (h33 : PySem.W.keepIn K (.ref fCn) = true)
    (h34 : PySem.W.findIn K (.ref cG) "cell_place" = some (some (.ref fCp)))
    (h35 : PySem.W.isFn K (.ref fCp) = true)
    (h36 : K.lookup fCp = some ⟨oc4, od4, .func (PySem.W.fnOf "cell_place" "Grid.cell_place" (defArgs sCp) (defBody sCp) (defScope sCp) .none kv4 dc4 pm4 an4 cd4 ct4), sl4⟩)
    (h37 : PySem.W.codeIn K cd4 "Grid.cell_place" = true)
    (h38 : PySem.W.keepIn K (.ref fCp) = true)
    (h39 : PySem.W.findIn K (.ref cG) "has_cell" = some (some (.ref fHc)))
    (h40 : PySem.W.isFn K (.ref fHc) = true)
    (h41 : K.lookup fHc = some ⟨oc5, od5, .func (PySem.W.fnOf "has_cell" "Grid.has_cell" (defArgs sHc) (defBody sHc) (defScope sHc) .none kv5 dc5 pm5 an5 cd5 ct5), sl5⟩)
    (h42 : PySem.W.codeIn K cd5 "Grid.has_cell" = true)
    (h43 : PySem.W.keepIn K (.ref fHc) = true)
    (h44 : PySem.W.nsIn K mainGlobals "Body" = some (some (.ref cB)))
    (h45 : PySem.W.findIn K (.ref cB) "__init__" = some (some (.ref fB)))
    (h46 : PySem.W.isFn K (.ref fB) = true)
    (h47 : K.lookup fB = some ⟨oc6, od6, .func (PySem.W.fnOf "__init__" "Body.__init__" (defArgs sB_init) (defBody sB_init) (defScope sB_init) .none kv6 dc6 pm6 an6 cd6 ct6), sl6⟩)
    (h48 : PySem.W.codeIn K cd6 "Body.__init__" = true)
    (h49 : PySem.W.keepIn K (.ref fB) = true)
    (h50 : PySem.W.plainGet K cB Str.empty = true)
    (h51 : PySem.W.hasDictIn K cB = true)
    (h52 : PySem.W.plainOver K cB = true)
    (h53 : PySem.W.findIn K (.ref cB) "__setattr__" = some (some (.builtin "object.__setattr__")))
    (h54 : PySem.W.makesIn K cB = true)
    (h55 : PySem.W.keepIn K (.ref cB) = true)
    (h56 : PySem.W.findIn K (.ref cB) "grid" = some none)
    (h57 : PySem.W.findIn K (.ref cB) "marks" = some none)
    (h58 : PySem.W.findIn K (.ref cB) "mark_at" = some (some (.ref fMa)))
    (h59 : PySem.W.isFn K (.ref fMa) = true)
    (h60 : K.lookup fMa = some ⟨oc7, od7, .func (PySem.W.fnOf "mark_at" "Body.mark_at" (defArgs sMa) (defBody sMa) (defScope sMa) .none kv7 dc7 pm7 an7 cd7 ct7), sl7⟩)
    (h61 : PySem.W.codeIn K cd7 "Body.mark_at" = true)
    (h62 : PySem.W.keepIn K (.ref fMa) = true)
    (h63 : PySem.W.nsIn K mainGlobals "_wall" = some (some (.ref f_wall)))
    (h64 : K.lookup f_wall = some ⟨oc8, od8, .func (PySem.W.fnOf "_wall" "_wall" (defArgs s_wall) (defBody s_wall) (defScope s_wall) .none kv8 dc8 pm8 an8 cd8 ct8), sl8⟩)
    (h65 : PySem.W.codeIn K cd8 "_wall" = true)
    (h66 : PySem.W.keepIn K (.ref f_wall) = true)
    (h67 : PySem.W.nsIn K mainGlobals "is_side" = some (some (.ref fIs)))
    (h68 : K.lookup fIs = some ⟨oc9, od9, .func (PySem.W.fnOf "is_side" "is_side" (defArgs sIs) (defBody sIs) (defScope sIs) .none kv9 dc9 pm9 an9 cd9 ct9), sl9⟩)
    (h69 : PySem.W.codeIn K cd9 "is_side" = true)
    (h70 : PySem.W.keepIn K (.ref fIs) = true)
    (h71 : PySem.W.nsIn K mainGlobals "bit_bytes" = some (some (.ref fBb)))
    (h72 : K.lookup fBb = some ⟨oc10, od10, .func (PySem.W.fnOf "bit_bytes" "bit_bytes" (defArgs sBb) (defBody sBb) (defScope sBb) .none kv10 dc10 pm10 an10 cd10 ct10), sl10⟩)
    (h73 : PySem.W.codeIn K cd10 "bit_bytes" = true)
    (h74 : PySem.W.keepIn K (.ref fBb) = true)
    (h75 : PySem.W.nsIn K mainGlobals "read_grid" = some (some (.ref fRg)))
    (h76 : K.lookup fRg = some ⟨oc11, od11, .func (PySem.W.fnOf "read_grid" "read_grid" (defArgs sRg) (defBody sRg) (defScope sRg) .none kv11 dc11 pm11 an11 cd11 ct11), sl11⟩)
    (h77 : PySem.W.codeIn K cd11 "read_grid" = true)
    (h78 : PySem.W.keepIn K (.ref fRg) = true)
    (h79 : PySem.W.nsIn K mainGlobals "read_body" = some (some (.ref fRb)))
    (h80 : K.lookup fRb = some ⟨oc12, od12, .func (PySem.W.fnOf "read_body" "read_body" (defArgs sRb) (defBody sRb) (defScope sRb) .none kv12 dc12 pm12 an12 cd12 ct12), sl12⟩)
    (h81 : PySem.W.codeIn K cd12 "read_body" = true)
    (h82 : PySem.W.keepIn K (.ref fRb) = true)
    (h83 : PySem.W.nsIn K mainGlobals "bytes_of" = some (some (.ref fBy)))
    (h84 : K.lookup fBy = some ⟨oc13, od13, .func (PySem.W.fnOf "bytes_of" "bytes_of" (defArgs sBy) (defBody sBy) (defScope sBy) .none kv13 dc13 pm13 an13 cd13 ct13), sl13⟩)
    (h85 : PySem.W.codeIn K cd13 "bytes_of" = true)
    (h86 : PySem.W.keepIn K (.ref fBy) = true)
    (h87 : PySem.W.nsIn K mainGlobals "neighbours" = some (some (.ref fneighbours)))
    (h88 : K.lookup fneighbours = some ⟨oc14, od14, .func (PySem.W.fnOf "neighbours" "neighbours" (defArgs sneighbours) (defBody sneighbours) (defScope sneighbours) .none kv14 dc14 pm14 an14 cd14 ct14), sl14⟩)
    (h89 : PySem.W.codeIn K cd14 "neighbours" = true)
    (h90 : PySem.W.keepIn K (.ref fneighbours) = true)
    (h91 : PySem.W.nsIn K mainGlobals "spread" = some (some (.ref fspread)))
    (h92 : K.lookup fspread = some ⟨oc15, od15, .func (PySem.W.fnOf "spread" "spread" (defArgs sspread) (defBody sspread) (defScope sspread) .none kv15 dc15 pm15 an15 cd15 ct15), sl15⟩)
    (h93 : PySem.W.codeIn K cd15 "spread" = true)
    (h94 : PySem.W.keepIn K (.ref fspread) = true)
    (h95 : PySem.W.nsIn K mainGlobals "regions_from" = some (some (.ref fregions_from)))
    (h96 : K.lookup fregions_from = some ⟨oc16, od16, .func (PySem.W.fnOf "regions_from" "regions_from" (defArgs sregions_from) (defBody sregions_from) (defScope sregions_from) .none kv16 dc16 pm16 an16 cd16 ct16), sl16⟩)
    (h97 : PySem.W.codeIn K cd16 "regions_from" = true)
    (h98 : PySem.W.keepIn K (.ref fregions_from) = true)
    (h99 : PySem.W.nsIn K mainGlobals "is_at_border" = some (some (.ref fis_at_border)))
    (h100 : K.lookup fis_at_border = some ⟨oc17, od17, .func (PySem.W.fnOf "is_at_border" "is_at_border" (defArgs sis_at_border) (defBody sis_at_border) (defScope sis_at_border) .none kv17 dc17 pm17 an17 cd17 ct17), sl17⟩)
    (h101 : PySem.W.codeIn K cd17 "is_at_border" = true)
    (h102 : PySem.W.keepIn K (.ref fis_at_border) = true)
    (h103 : PySem.W.nsIn K mainGlobals "filled_body" = some (some (.ref ffilled_body)))
    (h104 : K.lookup ffilled_body = some ⟨oc18, od18, .func (PySem.W.fnOf "filled_body" "filled_body" (defArgs sfilled_body) (defBody sfilled_body) (defScope sfilled_body) .none kv18 dc18 pm18 an18 cd18 ct18), sl18⟩)
    (h105 : PySem.W.codeIn K cd18 "filled_body" = true)
    (h106 : PySem.W.keepIn K (.ref ffilled_body) = true)
    (h107 : PySem.W.nsIn K mainGlobals "answer" = some (some (.ref fAns)))
    (h108 : K.lookup fAns = some ⟨oc19, od19, .func (PySem.W.fnOf "answer" "answer" (defArgs sAns) (defBody sAns) (defScope sAns) .none kv19 dc19 pm19 an19 cd19 ct19), sl19⟩)
    (h109 : PySem.W.codeIn K cd19 "answer" = true)
    (h110 : PySem.W.keepIn K (.ref fAns) = true)
    (h111 : PySem.W.nsIn K mainGlobals "refusal" = some (some (.ref fRef)))
    (h112 : K.lookup fRef = some ⟨oc20, od20, .func (PySem.W.fnOf "refusal" "refusal" (defArgs sRef) (defBody sRef) (defScope sRef) .none kv20 dc20 pm20 an20 cd20 ct20), sl20⟩)
    (h113 : PySem.W.codeIn K cd20 "refusal" = true)
    (h114 : PySem.W.keepIn K (.ref fRef) = true)
    (h115 : PySem.W.nsIn K mainGlobals "telling" = some (some (.ref fTel)))
    (h116 : K.lookup fTel = some ⟨oc21, od21, .func (PySem.W.fnOf "telling" "telling" (defArgs sTel) (defBody sTel) (defScope sTel) .none kv21 dc21 pm21 an21 cd21 ct21), sl21⟩)
    (h117 : PySem.W.codeIn K cd21 "telling" = true)
    (h118 : PySem.W.keepIn K (.ref fTel) = true)
    (h119 : PySem.W.nsIn K mainGlobals "body_of" = some (some (.ref fBo)))
    (h120 : K.lookup fBo = some ⟨oc22, od22, .func (PySem.W.fnOf "body_of" "body_of" (defArgs sBo) (defBody sBo) (defScope sBo) .none kv22 dc22 pm22 an22 cd22 ct22), sl22⟩)
    (h121 : PySem.W.codeIn K cd22 "body_of" = true)
    (h122 : PySem.W.keepIn K (.ref fBo) = true)
    (h123 : PySem.W.nsIn K mainGlobals "filled" = some (some (.ref ffilled)))
    (h124 : K.lookup ffilled = some ⟨oc23, od23, .func (PySem.W.fnOf "filled" "filled" (defArgs sfilled) (defBody sfilled) (defScope sfilled) .none kv23 dc23 pm23 an23 cd23 ct23), sl23⟩)
    (h125 : PySem.W.codeIn K cd23 "filled" = true)
    (h126 : PySem.W.keepIn K (.ref ffilled) = true)
    (h127 : PySem.W.nsIn K mainGlobals "GREATEST_SIDE" = some (some (.int 12 t24)))
    (h128 : PySem.W.nsIn K mainGlobals "HEAD" = some (some (.int 7 t25)))
    (h129 : PySem.W.nsIn K mainGlobals "WRONG_FRAME" = some (some (.int 1 t26)))
    (h130 : PySem.W.nsIn K mainGlobals "WRONG_SIDE" = some (some (.int 2 t27)))
    (h131 : PySem.W.nsIn K mainGlobals "WRONG_BIT" = some (some (.int 3 t28)))
    (h132 : PySem.W.nsIn K mainGlobals "MOST_BYTES" = some (some (.int 16384 t29)))
    (h133 : PySem.W.nsIn K mainGlobals "TOO_LONG" = some (some (.int (-2) t30)))
    (h134 : PySem.W.nsIn K mainGlobals "NONE_SUCH" = some (some (.int (-6) t31)))
    (h135 : PySem.W.nsIn K mainGlobals "MARK" = some (some (.ref a32)))
    (h136 : tupIn K a32 [66, 68, 66, 49] = true)
    (h137 : PySem.W.nsIn K mainGlobals "STEPS" = some (some (.ref a33)))
    (h138 : tupsIn K a33 [[1, 0, 0], [-1, 0, 0], [0, 1, 0], [0, -1, 0], [0, 0, 1], [0, 0, -1]] = true)
    (h139 : PySem.W.nsIn K mainGlobals "any" = some none)
    (h140 : PySem.W.nsIn K mainGlobals "enumerate" = some none)
    (h141 : PySem.W.nsIn K mainGlobals "len" = some none)
    (h142 : PySem.W.nsIn K mainGlobals "list" = some none)
    (h143 : PySem.W.nsIn K mainGlobals "range" = some none)
    (h144 : PySem.W.nsIn K mainGlobals "tuple" = some none) :
    ∃ fd : FuncData, (∀ (s : Shared) (us : List Value), us.length = (["b"] : List Str).length → BindsTo s fd ⟨us, []⟩ ((["b"] : List Str).zip us)) ∧ ∀ base : Heap, K.In base → base.Ns mainGlobals mg → FnOk P w K mg base CX0 6 fa fd ["b"] (spFi K) := by
  have e := hfa.symm.trans (PySem.W.mg_of X G h123)
  have ef : ffilled = fa := by
    injection e with e1
    injection e1 with e2
    exact e2.symm
  subst ef
  have T : Txt K mg ⟨cBF, fBF, cG, fG, fCc, fCn, fCp, fHc, cB, fB, fMa, f_wall, fIs, fBb, fRg, fRb, fBy, fneighbours, fspread, fregions_from, fis_at_border, ffilled_body, fAns, fRef, fTel, fBo, ffilled⟩ := {
    exBF := ⟨h3, h4, h5⟩
    gBF := PySem.W.mg_of X G h1
    bBF := ⟨_, fun_mk (st := sBF_init) h6 h7 h8, (fun_mk (st := sBF_init) h6 h7 h8).binds (ps := ["self", "kind", "place"]) fun _ _ _ _ _ _ us hl => match us, hl with | [_, _, _], _ => rfl⟩
    cG := ⟨h15, h16, h17, h18⟩
    mkG := ⟨h19, h10, h11, h20⟩
    gG := PySem.W.mg_of X G h9
    bG := ⟨_, fun_mk (st := sG_init) h12 h13 h14, (fun_mk (st := sG_init) h12 h13 h14).binds (ps := ["self", "wide", "deep", "high"]) fun _ _ _ _ _ _ us hl => match us, hl with | [_, _, _, _], _ => rfl⟩
    nGw := h21
    nGd := h22
    nGh := h23
    mCc := ⟨h24, h25, h28⟩
    bCc := ⟨_, fun_mk (st := sCc) h26 h27 h28, (fun_mk (st := sCc) h26 h27 h28).binds (ps := ["self"]) fun _ _ _ _ _ _ us hl => match us, hl with | [_], _ => rfl⟩
    mCn := ⟨h29, h30, h33⟩
    bCn := ⟨_, fun_mk (st := sCn) h31 h32 h33, (fun_mk (st := sCn) h31 h32 h33).binds (ps := ["self", "x", "y", "z"]) fun _ _ _ _ _ _ us hl => match us, hl with | [_, _, _, _], _ => rfl⟩
    mCp := ⟨h34, h35, h38⟩
    bCp := ⟨_, fun_mk (st := sCp) h36 h37 h38, (fun_mk (st := sCp) h36 h37 h38).binds (ps := ["self", "number"]) fun _ _ _ _ _ _ us hl => match us, hl with | [_, _], _ => rfl⟩
    mHc := ⟨h39, h40, h43⟩
    bHc := ⟨_, fun_mk (st := sHc) h41 h42 h43, (fun_mk (st := sHc) h41 h42 h43).binds (ps := ["self", "x", "y", "z"]) fun _ _ _ _ _ _ us hl => match us, hl with | [_, _, _, _], _ => rfl⟩
    cB := ⟨h50, h51, h52, h53⟩
    mkB := ⟨h54, h45, h46, h55⟩
    gB := PySem.W.mg_of X G h44
    bB := ⟨_, fun_mk (st := sB_init) h47 h48 h49, (fun_mk (st := sB_init) h47 h48 h49).binds (ps := ["self", "grid", "marks"]) fun _ _ _ _ _ _ us hl => match us, hl with | [_, _, _], _ => rfl⟩
    nBg := h56
    nBm := h57
    mMa := ⟨h58, h59, h62⟩
    bMa := ⟨_, fun_mk (st := sMa) h60 h61 h62, (fun_mk (st := sMa) h60 h61 h62).binds (ps := ["self", "x", "y", "z"]) fun _ _ _ _ _ _ us hl => match us, hl with | [_, _, _, _], _ => rfl⟩
    g_wall := PySem.W.mg_of X G h63
    b_wall := ⟨_, fun_mk (st := s_wall) h64 h65 h66, (fun_mk (st := s_wall) h64 h65 h66).binds (ps := ["k"]) fun _ _ _ _ _ _ us hl => match us, hl with | [_], _ => rfl⟩
    gIs := PySem.W.mg_of X G h67
    bIs := ⟨_, fun_mk (st := sIs) h68 h69 h70, (fun_mk (st := sIs) h68 h69 h70).binds (ps := ["number"]) fun _ _ _ _ _ _ us hl => match us, hl with | [_], _ => rfl⟩
    gBb := PySem.W.mg_of X G h71
    bBb := ⟨_, fun_mk (st := sBb) h72 h73 h74, (fun_mk (st := sBb) h72 h73 h74).binds (ps := ["count"]) fun _ _ _ _ _ _ us hl => match us, hl with | [_], _ => rfl⟩
    gRg := PySem.W.mg_of X G h75
    bRg := ⟨_, fun_mk (st := sRg) h76 h77 h78, (fun_mk (st := sRg) h76 h77 h78).binds (ps := ["b"]) fun _ _ _ _ _ _ us hl => match us, hl with | [_], _ => rfl⟩
    gRb := PySem.W.mg_of X G h79
    bRb := ⟨_, fun_mk (st := sRb) h80 h81 h82, (fun_mk (st := sRb) h80 h81 h82).binds (ps := ["b"]) fun _ _ _ _ _ _ us hl => match us, hl with | [_], _ => rfl⟩
    gBy := PySem.W.mg_of X G h83
    bBy := ⟨_, fun_mk (st := sBy) h84 h85 h86, (fun_mk (st := sBy) h84 h85 h86).binds (ps := ["body"]) fun _ _ _ _ _ _ us hl => match us, hl with | [_], _ => rfl⟩
    gneighbours := PySem.W.mg_of X G h87
    bneighbours := ⟨_, fun_mk (st := sneighbours) h88 h89 h90, (fun_mk (st := sneighbours) h88 h89 h90).binds (ps := ["grid", "number"]) fun _ _ _ _ _ _ us hl => match us, hl with | [_, _], _ => rfl⟩
    gspread := PySem.W.mg_of X G h91
    bspread := ⟨_, fun_mk (st := sspread) h92 h93 h94, (fun_mk (st := sspread) h92 h93 h94).binds (ps := ["grid", "passable", "start", "region", "found"]) fun _ _ _ _ _ _ us hl => match us, hl with | [_, _, _, _, _], _ => rfl⟩
    gregions_from := PySem.W.mg_of X G h95
    bregions_from := ⟨_, fun_mk (st := sregions_from) h96 h97 h98, (fun_mk (st := sregions_from) h96 h97 h98).binds (ps := ["grid", "passable", "starts"]) fun _ _ _ _ _ _ us hl => match us, hl with | [_, _, _], _ => rfl⟩
    gis_at_border := PySem.W.mg_of X G h99
    bis_at_border := ⟨_, fun_mk (st := sis_at_border) h100 h101 h102, (fun_mk (st := sis_at_border) h100 h101 h102).binds (ps := ["grid", "number"]) fun _ _ _ _ _ _ us hl => match us, hl with | [_, _], _ => rfl⟩
    gfilled_body := PySem.W.mg_of X G h103
    bfilled_body := ⟨_, fun_mk (st := sfilled_body) h104 h105 h106, (fun_mk (st := sfilled_body) h104 h105 h106).binds (ps := ["body"]) fun _ _ _ _ _ _ us hl => match us, hl with | [_], _ => rfl⟩
    gAns := PySem.W.mg_of X G h107
    bAns := ⟨_, fun_mk (st := sAns) h108 h109 h110, (fun_mk (st := sAns) h108 h109 h110).binds (ps := ["number", "told", "numbers"]) fun _ _ _ _ _ _ us hl => match us, hl with | [_, _, _], _ => rfl⟩
    gRef := PySem.W.mg_of X G h111
    bRef := ⟨_, fun_mk (st := sRef) h112 h113 h114, (fun_mk (st := sRef) h112 h113 h114).binds (ps := ["number"]) fun _ _ _ _ _ _ us hl => match us, hl with | [_], _ => rfl⟩
    gTel := PySem.W.mg_of X G h115
    bTel := ⟨_, fun_mk (st := sTel) h116 h117 h118, (fun_mk (st := sTel) h116 h117 h118).binds (ps := ["told"]) fun _ _ _ _ _ _ us hl => match us, hl with | [_], _ => rfl⟩
    gBo := PySem.W.mg_of X G h119
    bBo := ⟨_, fun_mk (st := sBo) h120 h121 h122, (fun_mk (st := sBo) h120 h121 h122).binds (ps := ["b"]) fun _ _ _ _ _ _ us hl => match us, hl with | [_], _ => rfl⟩
    gfilled := PySem.W.mg_of X G h123
    bfilled := ⟨_, fun_mk (st := sfilled) h124 h125 h126, (fun_mk (st := sfilled) h124 h125 h126).binds (ps := ["b"]) fun _ _ _ _ _ _ us hl => match us, hl with | [_], _ => rfl⟩
    n12 := ⟨t24, PySem.W.mg_of X G h127⟩
    n7 := ⟨t25, PySem.W.mg_of X G h128⟩
    nWF := ⟨t26, PySem.W.mg_of X G h129⟩
    nWS := ⟨t27, PySem.W.mg_of X G h130⟩
    nWB := ⟨t28, PySem.W.mg_of X G h131⟩
    nMB := ⟨t29, PySem.W.mg_of X G h132⟩
    nTL := ⟨t30, PySem.W.mg_of X G h133⟩
    nNS := ⟨t31, PySem.W.mg_of X G h134⟩
    t_MARK := tupG_of (PySem.W.mg_of X G h135) h136
    t_STEPS := tupsG_of (PySem.W.mg_of X G h137) h138
    any := PySem.W.ns_none_of X G h139
    enumerate := PySem.W.ns_none_of X G h140
    len := PySem.W.ns_none_of X G h141
    «list» := PySem.W.ns_none_of X G h142
    range := PySem.W.ns_none_of X G h143
    tuple := PySem.W.ns_none_of X G h144 }
  exact ⟨PySem.W.fnOf "filled" "filled" (defArgs sfilled) (defBody sfilled) (defScope sfilled) .none kv23 dc23 pm23 an23 cd23 ct23, fun s us hu => match us, hu with | [_], _ => .of_eq rfl, fun base _ _ => ok_fi (fun_mk (st := sfilled) h124 h125 h126) T⟩
end MP
open PySem PySem.W PyProof.Rows
set_option maxRecDepth 100000 in
set_option maxHeartbeats 0 in
theorem PySem.Challenge.cw_beadbodies_s14_filled_holds : PySem.Challenge.rw_beadbodies_s14_filled.Holds := by
  w_on; k_headS; (case hw => exact ⟨[.list []], by decide +kernel, by decide +kernel⟩)
  k_fillS
  refine L2.walk_specK (r := PySem.Challenge.rw_beadbodies_s14_filled) (k := 6) (CX := L2.CX0) (ps := ["b"]) (sp := MP.spFi) (by decide +kernel) rfl rfl ⟨rfl, by decide, by decide⟩ (fun w h Y => PySem.W.kIn_of Y) ?F ?S (fun _ _ _ _ z => z)
  case F =>
    intro w mg fa h Y KX G hmg
    refine' MP.all_mk KX G hmg ?h1 ?h2 ?h3 ?h4 ?h5 ?h6 ?h7 ?h8 ?h9 ?h10 ?h11 ?h12 ?h13 ?h14 ?h15 ?h16 ?h17 ?h18 ?h19 ?h20 ?h21 ?h22 ?h23 ?h24 ?h25 ?h26 ?h27 ?h28 ?h29 ?h30 ?h31 ?h32 ?h33 ?h34 ?h35 ?h36 ?h37 ?h38 ?h39 ?h40 ?h41 ?h42 ?h43 ?h44 ?h45 ?h46 ?h47 ?h48 ?h49 ?h50 ?h51 ?h52 ?h53 ?h54 ?h55 ?h56 ?h57 ?h58 ?h59 ?h60 ?h61 ?h62 ?h63 ?h64 ?h65 ?h66 ?h67 ?h68 ?h69 ?h70 ?h71 ?h72 ?h73 ?h74 ?h75 ?h76 ?h77 ?h78 ?h79 ?h80 ?h81 ?h82 ?h83 ?h84 ?h85 ?h86 ?h87 ?h88 ?h89 ?h90 ?h91 ?h92 ?h93 ?h94 ?h95 ?h96 ?h97 ?h98 ?h99 ?h100 ?h101 ?h102 ?h103 ?h104 ?h105 ?h106 ?h107 ?h108 ?h109 ?h110 ?h111 ?h112 ?h113 ?h114 ?h115 ?h116 ?h117 ?h118 ?h119 ?h120 ?h121 ?h122 ?h123 ?h124 ?h125 ?h126 ?h127 ?h128 ?h129 ?h130 ?h131 ?h132 ?h133 ?h134 ?h135 ?h136 ?h137 ?h138 ?h139 ?h140 ?h141 ?h142 ?h143 ?h144
    (case h1 => k_is); (case h2 => k_is); (case h3 => kernel_rfl!); (case h4 => kernel_rfl!); (case h5 => k_is); (case h6 => k_is)
    (case h7 => k_is); (case h8 => k_is); (case h9 => k_is); (case h10 => k_is); (case h11 => k_is); (case h12 => k_is)
    (case h13 => k_is); (case h14 => k_is); (case h15 => k_is); (case h16 => k_is); (case h17 => k_is); (case h18 => k_is)
    (case h19 => k_is); (case h20 => k_is); (case h21 => k_is); (case h22 => k_is); (case h23 => k_is); (case h24 => k_is)
    (case h25 => k_is); (case h26 => k_is); (case h27 => k_is); (case h28 => k_is); (case h29 => k_is); (case h30 => k_is)
    (case h31 => k_is); (case h32 => k_is); (case h33 => k_is); (case h34 => k_is); (case h35 => k_is); (case h36 => k_is)
    (case h37 => k_is); (case h38 => k_is); (case h39 => k_is); (case h40 => k_is); (case h41 => k_is); (case h42 => k_is)
    (case h43 => k_is); (case h44 => k_is); (case h45 => k_is); (case h46 => k_is); (case h47 => k_is); (case h48 => k_is)
    (case h49 => k_is); (case h50 => k_is); (case h51 => k_is); (case h52 => k_is); (case h53 => k_is); (case h54 => k_is)
    (case h55 => k_is); (case h56 => k_is); (case h57 => k_is); (case h58 => k_is); (case h59 => k_is); (case h60 => k_is)
    (case h61 => k_is); (case h62 => k_is); (case h63 => k_is); (case h64 => k_is); (case h65 => k_is); (case h66 => k_is)
    (case h67 => k_is); (case h68 => k_is); (case h69 => k_is); (case h70 => k_is); (case h71 => k_is); (case h72 => k_is)
    (case h73 => k_is); (case h74 => k_is); (case h75 => k_is); (case h76 => k_is); (case h77 => k_is); (case h78 => k_is)
    (case h79 => k_is); (case h80 => k_is); (case h81 => k_is); (case h82 => k_is); (case h83 => k_is); (case h84 => k_is)
    (case h85 => k_is); (case h86 => k_is); (case h87 => k_is); (case h88 => k_is); (case h89 => k_is); (case h90 => k_is)
    (case h91 => k_is); (case h92 => k_is); (case h93 => k_is); (case h94 => k_is); (case h95 => k_is); (case h96 => k_is)
    (case h97 => k_is); (case h98 => k_is); (case h99 => k_is); (case h100 => k_is); (case h101 => k_is); (case h102 => k_is)
    (case h103 => k_is); (case h104 => k_is); (case h105 => k_is); (case h106 => k_is); (case h107 => k_is); (case h108 => k_is)
    (case h109 => k_is); (case h110 => k_is); (case h111 => k_is); (case h112 => k_is); (case h113 => k_is); (case h114 => k_is)
    (case h115 => k_is); (case h116 => k_is); (case h117 => k_is); (case h118 => k_is); (case h119 => k_is); (case h120 => k_is)
    (case h121 => k_is); (case h122 => k_is); (case h123 => k_is); (case h124 => k_is); (case h125 => k_is); (case h126 => k_is)
    (case h127 => k_is); (case h128 => k_is); (case h129 => k_is); (case h130 => k_is); (case h131 => k_is); (case h132 => k_is)
    (case h133 => k_is); (case h134 => k_is); (case h135 => k_is); (case h136 => kernel_rfl!); (case h137 => k_is); (case h138 => kernel_rfl!)
    (case h139 => k_is); (case h140 => k_is); (case h141 => k_is); (case h142 => k_is); (case h143 => k_is); (case h144 => k_is)
  case S =>
    intro K H xs a hO hwi hask hx
    cases hx with
    | cons h1 h2 =>
      cases h2
      cases h1 with
      | lst hs ha =>
        have e := L2.ints_dw a.1 _ ha
        subst e
        have q : ((Codec.inLen 0 16500 a.1 && a.1.all (Codec.inInt 0 255)) && true) = true := hwi
        rw [Bool.and_eq_true, Bool.and_eq_true] at q
        exact MP.req_fi hs q.1.2

end
