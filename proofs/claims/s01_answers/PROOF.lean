import PyProof.Rows.All
import Wide.All
import OpenK.AllK
import Wide.FinOn
import PyProof.EqAt
import PyProof.EqKinds
import PyProof.TupleCall
import KE.BitLaws
import Open.SpecLaws
import KE.OsHead
import KE.OsGo
import PySem.Challenge.RW_eitherend_s01_answers
section
-- CHANGE: your row's module here, as the last of these rows
set_option Elab.async false
set_option linter.all false
set_option maxRecDepth 100000
/-! THE HAND LAYER, for ints, bools, texts, own classes, lists, tuples, dicts, comprehensions, walks over dicts, enumerate, zip, reversed, texts, calls, loops. Paste it whole ahead of your own text; what your proof does not reach may be deleted. -/
namespace L2
open PySem PySem.Spec PyProof.Rows

/-- a key: an int or a str -/
abbrev Key := Sum Int Str
def keyIs : Key → Value → Bool
  | .inl k, v => Value.isInt k v
  | .inr x, v => Value.isStrOf x v
def keyH (w : World) : Key → Int
  | .inl k => hashInt k
  | .inr x => hashStr w x
theorem keyIs_shape : ∀ {k : Key} {v : Value}, keyIs k v = true → (∃ i t, k = Sum.inl i ∧ v = Value.int i t) ∨ (∃ x t, k = Sum.inr x ∧ v = Value.str x t)
  | .inl i, v, h => by
    obtain ⟨t, e⟩ := Value.isInt_shape (k := i) (v := v) h
    exact .inl ⟨i, t, rfl, e⟩
  | .inr x, v, h => by
    obtain ⟨t, e⟩ := Value.isStrOf_shape (x := x) (v := v) h
    exact .inr ⟨x, t, rfl, e⟩
theorem key_ll (a b : Int) : decide ((Sum.inl a : Key) = Sum.inl b) = (a == b) := by
  by_cases e : a = b
  · subst e; simp
  · have h : ¬ (Sum.inl a : Key) = Sum.inl b := fun q => e (Sum.inl.inj q)
    rw [decide_eq_false h]
    exact (beq_eq_false_iff_ne.mpr e).symm
theorem key_rr (a b : Str) : decide ((Sum.inr a : Key) = Sum.inr b) = decide (a = b) := by
  by_cases e : a = b
  · subst e; simp
  · have h : ¬ (Sum.inr a : Key) = Sum.inr b := fun q => e (Sum.inr.inj q)
    rw [decide_eq_false h, decide_eq_false e]
theorem key_lr (a : Int) (b : Str) : decide ((Sum.inl a : Key) = Sum.inr b) = false := decide_eq_false (fun q => nomatch q)
theorem key_rl (a : Str) (b : Int) : decide ((Sum.inr a : Key) = Sum.inl b) = false := decide_eq_false (fun q => nomatch q)

def mixKind (prog : Program) (w : World) : PySem.KeyKind prog w Key where
  is := keyIs
  hash := keyH w
  inj := fun v a b ha hb => by
    rcases keyIs_shape ha with ⟨i, t, rfl, rfl⟩ | ⟨x, t, rfl, rfl⟩
    · rcases keyIs_shape hb with ⟨j, u, rfl, e⟩ | ⟨y, u, rfl, e⟩
      · injection e with e1 _; rw [e1]
      · exact nomatch e
    · rcases keyIs_shape hb with ⟨j, u, rfl, e⟩ | ⟨y, u, rfl, e⟩
      · exact nomatch e
      · injection e with e1 _; rw [e1]
  byValue := fun k v h => by
    rcases keyIs_shape h with ⟨i, t, rfl, rfl⟩ | ⟨x, t, rfl, rfl⟩ <;> rfl
  pyHash := fun hv h => by
    rcases keyIs_shape hv with ⟨i, t, rfl, rfl⟩ | ⟨x, t, rfl, rfl⟩
    · exact wpAny_pyHash_int h
    · exact wpAny_pyHash_str h
  eqBool := fun hu hv h => by
    rcases keyIs_shape hu with ⟨i, t, rfl, rfl⟩ | ⟨x, t, rfl, rfl⟩
    · rcases keyIs_shape hv with ⟨j, u, rfl, rfl⟩ | ⟨y, u, rfl, rfl⟩
      · rw [key_ll] at h; exact wpAny_eqBool_int h
      · rw [key_lr] at h; exact SeqAt.EqAt.int_str i t y u _ _ _ _ h
    · rcases keyIs_shape hv with ⟨j, u, rfl, rfl⟩ | ⟨y, u, rfl, rfl⟩
      · rw [key_rl] at h; exact SeqAt.EqAt.str_int x t j u _ _ _ _ h
      · rw [key_rr] at h; exact wpAny_eqBool_str h
  «strs» := fun k x t v h => by
    rcases keyIs_shape h with ⟨i, u, rfl, e⟩ | ⟨y, u, rfl, e⟩
    · exact nomatch e
    · injection e with e1 _
      subst e1
      cases v <;> rfl

end L2

namespace L2
open PySem PySem.Spec PyProof.Rows

/-- a value, without the heap -/
inductive V where
  | non | bl (b : Bool) | int (i : Int) | str (x : Str) | byt (b : Array UInt8) | flt (b : UInt64) | ref (a : Addr) | ty (n : String)
  deriving DecidableEq

def RelV : V → Value → Prop
  | .non, u => u = Value.none
  | .bl b, u => u = Value.bool b
  | .int i, u => ∃ t, u = Value.int i t
  | .str x, u => ∃ t, u = Value.str x t
  | .byt b, u => ∃ t, u = Value.bytes b t
  | .flt b, u => ∃ t, u = Value.float b t
  | .ref a, u => u = Value.ref a
  | .ty n, u => u = Value.type n

abbrev Vals : List V → List Value → Prop := Paired RelV
theorem Vals.length {xs : List V} {us : List Value} (r : Vals xs us) : xs.length = us.length := Paired.length r
theorem Vals.get : ∀ {xs : List V} {us : List Value} {i : Nat} {x : V}, Vals xs us → xs[i]? = some x → ∃ u, us[i]? = some u ∧ RelV x u
  | _, _, _, _, .nil, e => by simp at e
  | _, _, 0, _, .cons r _, e => by simp at e; subst e; exact ⟨_, rfl, r⟩
  | _, _, i + 1, x, .cons _ t, e => by
    obtain ⟨u, h1, h2⟩ := Vals.get (i := i) (x := x) t (by simpa using e)
    exact ⟨u, by simpa using h1, h2⟩
theorem Vals.set {x : V} {u : Value} (r : RelV x u) : ∀ {xs : List V} {us : List Value} (i : Nat), Vals xs us → Vals (xs.set i x) (us.set i u)
  | _, _, _, .nil => .nil
  | _, _, 0, .cons _ t => .cons r t
  | _, _, i + 1, .cons q t => .cons q (Vals.set r i t)
theorem Vals.append : ∀ {xs ys : List V} {us ws : List Value}, Vals xs us → Vals ys ws → Vals (xs ++ ys) (us ++ ws)
  | _, _, _, _, .nil, s => s
  | _, _, _, _, .cons r t, s => .cons r (Vals.append t s)
theorem Vals.take : ∀ {xs : List V} {us : List Value} (n : Nat), Vals xs us → Vals (xs.take n) (us.take n)
  | _, _, 0, _ => .nil
  | _, _, _ + 1, .nil => .nil
  | _, _, n + 1, .cons r t => .cons r (Vals.take n t)
theorem Vals.drop : ∀ {xs : List V} {us : List Value} (n : Nat), Vals xs us → Vals (xs.drop n) (us.drop n)
  | _, _, 0, r => r
  | _, _, _ + 1, .nil => .nil
  | _, _, n + 1, .cons _ t => Vals.drop n t

def RelO : Option V → Option Value → Prop
  | some v, some u => RelV v u
  | none, none => True
  | _, _ => False
def KV {κ : Type} : List (κ × V) → List (κ × Value) → Prop := Paired fun (p : κ × V) (q : κ × Value) => p.1 = q.1 ∧ RelV p.2 q.2

/-- a key of a dict (00_mix): an int or a text -/
def kV : Key → V
  | .inl i => .int i
  | .inr x => .str x

/-- what stands at a tracked address -/
inductive HO where
  /-- a list -/
  | lst (xs : List V)
  /-- a tuple (never changes) -/
  | tup (xs : List V)
  /-- a dict whose keys are ints and texts; one whose keys are tuples of ints and texts (the empty one is both) -/
  | dK (kvs : List (Key × V)) | dT (kvs : List (List Key × V))
  /-- a set of ints: its members, its size -/
  | set (S : Int → Bool) (n : Nat)
  /-- an instance of the class at C, its dict at dx, its attributes -/
  | ins (C dx : Addr) (fs : List (Str × V))
  /-- the dict of the instance at x -/
  | own (x : Addr)
  /-- the dict of an exception -/
  | xd (fs : List (Str × V))
  /-- a bound method, f of x -/
  | met (f x : Addr)
  /-- a range object lo, lo + 1, .. below hi -/
  | rng (lo hi : Int)
  /-- a thing that is known to the object (the script; a dict while a loop walks it): read, never written while it is so -/
  | frz (o : Obj) (u : HO)
  /-- a code object's table -/
  | tbl (ps : Array Value)
  /-- any other thing, by what is true of its one object (a def of one's own: SetO a S n := HO.ext fun h => ..) -/
  | ext (φ : Heap → Prop)

abbrev Hp := Addr → Option HO
def upd (H : Hp) (a : Addr) (o : HO) : Hp := fun b => if b = a then some o else H b
theorem upd_same {H : Hp} {a : Addr} {o : HO} : upd H a o a = some o := by unfold upd; rw [if_pos rfl]
theorem upd_ne {H : Hp} {a b : Addr} {o : HO} (h : b ≠ a) : upd H a o b = H b := by unfold upd; rw [if_neg h]
/-- two objects of different content stand apart -/
theorem ne_of {H : Hp} {a b : Addr} {o u : HO} (h : H a = some o) (h' : H b = some u) (d : o ≠ u) : a ≠ b := by
  intro e; subst e; rw [h] at h'; exact d (Option.some.inj h')
theorem ne_of_none {H : Hp} {a b : Addr} {o : HO} (h : H a = some o) (h' : H b = none) : a ≠ b := by
  intro e; subst e; rw [h] at h'; cases h'

section
variable (P : Program) (w : World)
def ObjOk (H : Hp) (h : Heap) (a : Addr) : HO → Prop
  | .lst xs => xs.length ≤ sizeLine ∧ ∃ (its : List Value) (n : Nat), Vals xs its ∧ h.get? a = some { cls := .type "list", data := .seq its.toArray n }
  | .tup xs => xs.length ≤ sizeLine ∧ ∃ its : List Value, Vals xs its ∧ IsTup h a its.toArray
  | .dK kvs => kvs.length ≤ sizeLine ∧ (a == sysModules) = false ∧ ∃ vs, KV kvs vs ∧ h.DictOf (mixKind P w) a vs
  | .dT kvs => kvs.length ≤ sizeLine ∧ (a == sysModules) = false ∧ ∃ xs : List (List Key × Addr × Value),
      Paired (fun (p : List Key × V) (q : List Key × Addr × Value) => p.1 = q.1 ∧ H q.2.1 = some (.tup (p.1.map kV)) ∧ RelV p.2 q.2.2) kvs xs ∧
      ∃ o es ep, h.get? a = some o ∧ o.ExactDict ∧ o.data = .dict es ep ∧ es.toList = xs.map (entryOfKey (tupleKind (mixKind P w))) ∧ (xs.map (·.1)).Nodup
  | .set S n => h.SetOf (intKind P w) a S n
  | .ins C dx fs => H dx = some (.own a) ∧ fs.length ≤ 1000 ∧ dx ≠ a ∧ h.get? a = some (PySem.W.instObj C dx) ∧
      ∃ mA, h.Ns1 dx mA ∧ (∀ f, RelO (fs.lookup f) (mA f)) ∧ PySem.Within mA (fs.map (·.1))
  | .own _ => ∃ o, h.get? a = some o
  | .xd fs => ∃ mA, h.Ns1 a mA ∧ ∀ f, RelO (fs.lookup f) (mA f)
  | .rng lo hi => ∃ t u v, h.get? a = some { cls := .type "range", data := .fields #[.int lo t, .int hi u, .int 1 v] }
  | .frz o u => h.get? a = some o ∧ ObjOk H h a u
  | .tbl ps => h.get? a = some { cls := .none, data := .fields ps }
  | .met f x => h.get? a = some (PySem.W.methodObj (.ref f) (.ref x))
  | .ext φ => φ h ∧ (∃ o, h.get? a = some o) ∧ ∀ h1 h2 : Heap, φ h1 → (∀ o, h1.get? a = some o → h2.get? a = some o) → φ h2
/-- the abstract heap is held -/
def HOk (H : Hp) (h : Heap) : Prop := ∀ a o, H a = some o → ObjOk P w H h a o
end

section
variable {P : Program} {w : World} {H H' : Hp} {h h' : Heap} {a : Addr} {o : HO}
theorem ObjOk.lt (x : ObjOk P w H h a o) : a < h.objs.size := by
  cases o with
  | lst xs => obtain ⟨_, _, _, _, e⟩ := x; exact Heap.lt_size e
  | tup xs => obtain ⟨_, _, _, p⟩ := x; exact p.lt
  | dK kvs => obtain ⟨_, _, _, _, o, _, _, e, _⟩ := x; exact Heap.lt_size e
  | dT kvs => obtain ⟨_, _, _, _, o, _, _, e, _⟩ := x; exact Heap.lt_size e
  | set S n => obtain ⟨o, _, _, _, e, _⟩ := x; exact Heap.lt_size e
  | ins C dx fs => obtain ⟨_, _, _, e, _⟩ := x; exact Heap.lt_size e
  | own y => obtain ⟨_, e⟩ := x; exact Heap.lt_size e
  | xd fs => obtain ⟨_, ⟨_, _, _, e, _⟩, _⟩ := x; exact Heap.lt_size e
  | rng lo hi => obtain ⟨_, _, _, e⟩ := x; exact Heap.lt_size e
  | frz ob u => obtain ⟨e, _⟩ := x; exact Heap.lt_size e
  | tbl ps => exact Heap.lt_size (show h.get? a = some _ from x)
  | met f y => exact Heap.lt_size (show h.get? a = some _ from x)
  | ext φ => obtain ⟨_, ⟨_, e⟩, _⟩ := x; exact Heap.lt_size e
theorem Paired.mapP {α β : Type} {F G : α → β → Prop} : ∀ {l₁ : List α} {l₂ : List β}, Paired F l₁ l₂ → (∀ a b, F a b → G a b) → Paired G l₁ l₂
  | _, _, .nil, _ => .nil
  | _, _, .cons r t, f => .cons (f _ _ r) (Paired.mapP t f)
/-- what an object's description leans on: its own object, its own dict, the tuples -/
theorem ObjOk.stay (x : ObjOk P w H h a o) (k : ∀ b u, (b = a ∨ H b = some (.own a)) → h.get? b = some u → h'.get? b = some u)
    (ho : ∀ b, H b = some (.own a) → H' b = some (.own a)) (ht : ∀ b xs, H b = some (.tup xs) → H' b = some (.tup xs)) : ObjOk P w H' h' a o := by
  induction o with
  | lst xs => obtain ⟨z, its, n, r, e⟩ := x; exact ⟨z, its, n, r, k _ _ (.inl rfl) e⟩
  | tup xs => obtain ⟨z, its, r, ob, e, c⟩ := x; exact ⟨z, its, r, ob, k _ _ (.inl rfl) e, c⟩
  | dK kvs => obtain ⟨z, y, vs, r, ob, es, ep, e, c⟩ := x; exact ⟨z, y, vs, r, ob, es, ep, k _ _ (.inl rfl) e, c⟩
  | dT kvs =>
    obtain ⟨z, y, xs, r, ob, es, ep, e, c⟩ := x
    exact ⟨z, y, xs, Paired.mapP r fun p q z => ⟨z.1, ht _ _ z.2.1, z.2.2⟩, ob, es, ep, k _ _ (.inl rfl) e, c⟩
  | set S n => obtain ⟨ob, es, ep, t, e, c⟩ := x; exact ⟨ob, es, ep, t, k _ _ (.inl rfl) e, c⟩
  | ins C dx fs =>
    obtain ⟨d, z, ne, e, mA, ⟨od, es, ep, e2, c⟩, r⟩ := x
    exact ⟨ho _ d, z, ne, k _ _ (.inl rfl) e, mA, ⟨od, es, ep, k _ _ (.inr d) e2, c⟩, r⟩
  | own y => obtain ⟨ob, e⟩ := x; exact ⟨ob, k _ _ (.inl rfl) e⟩
  | xd fs => obtain ⟨mA, ⟨od, es, ep, e, c⟩, r⟩ := x; exact ⟨mA, ⟨od, es, ep, k _ _ (.inl rfl) e, c⟩, r⟩
  | rng lo hi => obtain ⟨t, u, v, e⟩ := x; exact ⟨t, u, v, k _ _ (.inl rfl) e⟩
  | frz ob u ih => obtain ⟨e, q⟩ := x; exact ⟨k _ _ (.inl rfl) e, ih q⟩
  | tbl ps =>
    have e : h.get? a = some { cls := .none, data := .fields ps } := x
    show h'.get? a = some { cls := .none, data := .fields ps }
    exact k a _ (.inl rfl) e
  | met f y =>
    have e : h.get? a = some (PySem.W.methodObj (.ref f) (.ref y)) := x
    show h'.get? a = some (PySem.W.methodObj (.ref f) (.ref y))
    exact k a _ (.inl rfl) e
  | ext φ => obtain ⟨p, ⟨o, e⟩, st⟩ := x; exact ⟨st _ _ p fun o q => k _ _ (.inl rfl) q, ⟨o, k _ _ (.inl rfl) e⟩, st⟩
theorem HOk.lt (x : HOk P w H h) (e : H a = some o) : a < h.objs.size := (x a o e).lt
theorem HOk.fresh (x : HOk P w H h) (e : h.objs.size ≤ a) : H a = none := by
  cases q : H a with
  | none => rfl
  | some u => exact absurd (Nat.lt_of_lt_of_le (x.lt q) e) (Nat.lt_irrefl _)
/-- every object of the heap is kept -/
theorem HOk.kept (x : HOk P w H h) (k : ∀ b u, h.get? b = some u → h'.get? b = some u) : HOk P w H h' := fun a o e =>
  (x a o e).stay (fun b u _ q => k b u q) (fun _ q => q) fun _ _ q => q
/-- a new object is laid and tracked -/
theorem HOk.laid (x : HOk P w H h) (k : ∀ b u, h.get? b = some u → h'.get? b = some u) (hp : h.objs.size ≤ a) (new : ObjOk P w (upd H a o) h' a o) : HOk P w (upd H a o) h' := fun b u e => by
  have hn := x.fresh hp
  by_cases hb : b = a
  · subst hb; rw [upd_same] at e; cases e; exact new
  · rw [upd_ne hb] at e
    exact (x b u e).stay (fun c v _ q => k c v q) (fun c q => by rw [upd_ne (ne_of_none q hn)]; exact q) fun c xs q => by rw [upd_ne (ne_of_none q hn)]; exact q
end

/-- what may be read as u: it is u, or a known u -/
def Rd (H : Hp) (a : Addr) (u : HO) : Prop := H a = some u ∨ ∃ o, H a = some (.frz o u)
theorem Rd.ok {P : Program} {w : World} {H : Hp} {h : Heap} {a : Addr} {u : HO} (r : Rd H a u) (x : HOk P w H h) : ObjOk P w H h a u := by
  rcases r with r | ⟨o, r⟩
  · exact x a u r
  · obtain ⟨_, q⟩ := x a _ r
    exact q
/-- what may be written -/
def Mut : Option HO → Prop
  | some (.lst _) => True
  | some (.dK _) => True
  | some (.dT _) => True
  | some (.set _ _) => True
  | some (.ins _ _ _) => True
  | some (.ext _) => True
  | _ => False
section
variable {P : Program} {w : World} {H : Hp} {h h' : Heap} {x e : Addr} {o' : HO}
/-- the object at e is changed: x itself, or the dict of the instance x -/
theorem HOk.write (ok : HOk P w H h) (mu : Mut (H x)) (he : e = x ∨ H e = some (.own x)) (k : ∀ b u, b ≠ e → h.get? b = some u → h'.get? b = some u) (heo : ∃ u, h'.get? e = some u)
    (new : ObjOk P w (upd H x o') h' x o') : HOk P w (upd H x o') h' := fun b u q => by
  have nown : ∀ c y, H c = some (.own y) → c ≠ x := fun c y r z => by subst z; rw [r] at mu; exact mu
  have ntup : ∀ c xs, H c = some (.tup xs) → c ≠ x := fun c xs r z => by subst z; rw [r] at mu; exact mu
  by_cases hb : b = x
  · subst hb; rw [upd_same] at q; cases q; exact new
  · rw [upd_ne hb] at q
    by_cases hbe : b = e
    · have q' : H b = some (.own x) := by
        rcases he with z | z
        · exact absurd (hbe.trans z) hb
        · rw [hbe]; exact z
      rw [q] at q'; cases q'
      obtain ⟨v, hv⟩ := heo
      exact ⟨v, by rw [hbe]; exact hv⟩
    · refine (ok b u q).stay (fun c v hc r => k c v ?_ r) (fun c r => by rw [upd_ne (nown c b r)]; exact r) fun c xs r => by rw [upd_ne (ntup c xs r)]; exact r
      rcases hc with rfl | hc
      · exact hbe
      · rintro rfl
        rcases he with z | z
        · exact nown c b hc z
        · rw [hc] at z; cases z; exact hb rfl
end

/-! ### kept unless tracked; of the frames at fs (the callers') the slots may change (an exception that passes writes there); of the records at ex (iterators) nothing is said -/
structure Un (fs ex : List Addr) (H H' : Hp) (h h' : Heap) : Prop where
  keep : ∀ b o, h.get? b = some o → H b = none → b ∉ fs → b ∉ ex → h'.get? b = some o
  slot : ∀ b o, h.get? b = some o → H b = none → b ∈ fs → b ∉ ex → ∃ sl, h'.get? b = some { o with slots := sl }
  free : ∀ b o, h.get? b = some o → H b = none → b ∉ ex → H' b = none
  there : ∀ b o, h.get? b = some o → b ∉ ex → ∃ o', h'.get? b = some o'
  tups : ∀ b xs, H b = some (.tup xs) → H' b = some (.tup xs)
  frzs : ∀ b o u, H b = some (.frz o u) → H' b = some (.frz o u)
  tbls : ∀ b ps, H b = some (.tbl ps) → ∃ more, H' b = some (.tbl (ps ++ more))
section
variable {fs fs' ex ex' : List Addr} {H H1 H2 : Hp} {h h1 h2 h' : Heap} {a x e : Addr} {o : HO}
theorem Un.any (u : Un fs ex H H1 h h1) {b : Addr} {ob : Obj} (q : h.get? b = some ob) (n : H b = none) (hx : b ∉ ex) : ∃ sl, h1.get? b = some { ob with slots := sl } := by
  by_cases hb : b ∈ fs
  · exact u.slot b ob q n hb hx
  · exact ⟨ob.slots, u.keep b ob q n hb hx⟩
theorem Un.kept (k : ∀ b u, h.get? b = some u → h'.get? b = some u) : Un fs ex H H h h' :=
  ⟨fun b ob q _ _ _ => k b ob q, fun b ob q _ _ _ => ⟨ob.slots, k b ob q⟩, fun _ _ _ n _ => n, fun b ob q _ => ⟨ob, k b ob q⟩, fun _ _ q => q, fun _ _ _ q => q, fun _ ps q => ⟨#[], by rw [q]; simp⟩⟩
theorem Un.refl : Un fs ex H H h h := Un.kept fun _ _ q => q
theorem Un.laid (k : ∀ b u, h.get? b = some u → h'.get? b = some u) (hp : h.objs.size ≤ a) (hn : H a = none) : Un fs ex H (upd H a o) h h' where
  keep := fun b u q _ _ _ => k b u q
  slot := fun b u q _ _ _ => ⟨u.slots, k b u q⟩
  free := fun b u q n _ => by rw [upd_ne (Nat.ne_of_lt (Nat.lt_of_lt_of_le (Heap.lt_size q) hp))]; exact n
  there := fun b u q _ => ⟨u, k b u q⟩
  tups := fun b xs q => by rw [upd_ne (ne_of_none q hn)]; exact q
  frzs := fun b u xs q => by rw [upd_ne (ne_of_none q hn)]; exact q
  tbls := fun b ps q => ⟨#[], by rw [upd_ne (ne_of_none q hn), q]; simp⟩
theorem Un.write (mu : Mut (H x)) (he : e = x ∨ H e = some (.own x)) (k : ∀ b u, b ≠ e → h.get? b = some u → h'.get? b = some u) (heo : ∃ u, h'.get? e = some u) : Un fs ex H (upd H x o) h h' := by
  have hx : ∀ b, H b = none → b ≠ x := fun b n z => by subst z; rw [n] at mu; exact mu
  have hb : ∀ b, H b = none → b ≠ e := fun b n z => by
    subst z
    rcases he with r | r
    · exact hx b n r
    · rw [n] at r; cases r
  have hm : ∀ b u, H b = some u → ¬ Mut (some u) → b ≠ x := fun b u q nm z => by subst z; rw [q] at mu; exact nm mu
  refine ⟨fun b u q n _ _ => k b u (hb b n) q, fun b u q n _ _ => ⟨u.slots, k b u (hb b n) q⟩, fun b u q n _ => by rw [upd_ne (hx b n)]; exact n, fun b u q _ => ?_,
    fun b xs q => by rw [upd_ne (hm b _ q fun z => z)]; exact q, fun b u xs q => by rw [upd_ne (hm b _ q fun z => z)]; exact q, fun b ps q => ⟨#[], by rw [upd_ne (hm b _ q fun z => z), q]; simp⟩⟩
  by_cases hbe : b = e
  · subst hbe; exact heo
  · exact ⟨u, k b u hbe q⟩
end

/-! ### the heap without what is tracked -/
def trk (h : Heap) (H : Hp) : List Addr := (List.range h.objs.size).filter fun a => (H a).isSome
def hidT (h : Heap) (H : Hp) : Heap := PySem.W.hideAll h (trk h H)
theorem hidT_size (h : Heap) (H : Hp) : (hidT h H).objs.size = h.objs.size := PySem.W.hideAll_size _ _
theorem hidT_get {h : Heap} {H : Hp} {b : Addr} {o : Obj} (e : h.get? b = some o) (n : H b = none) : (hidT h H).get? b = some o :=
  PySem.W.hideAll_get _ e fun hm => by
    have q : (H b).isSome = true := (List.mem_filter.mp hm).2
    rw [n] at q; simp at q
theorem of_hidT {h : Heap} {H : Hp} {b : Addr} {o : Obj} (e : (hidT h H).get? b = some o) : h.get? b = some o ∧ H b = none := by
  have e' : h.get? b = some o := PySem.W.of_hideAll (trk h H) e
  refine ⟨e', ?_⟩
  cases q : H b with
  | none => rfl
  | some x =>
    have hm : b ∈ trk h H := List.mem_filter.mpr ⟨List.mem_range.mpr (Heap.lt_size e'), by simp [q]⟩
    have z : (hidT h H).get? b = none := PySem.W.hideAll_none (trk h H) hm
    rw [z] at e; cases e

/-! ### OpenK's ledger, filled with every new object but one -/
end L2

namespace L2
open PySem PySem.Spec PyProof.Rows

/-- the module's facts, over the base: the heap at the law's entry without what is tracked there -/
structure Mod (K : PySem.W.Frag) (mg : Str → Option Value) (base : Heap) : Prop where
  kin : K.In base
  glob : base.Ns mainGlobals mg
  blt : ∃ mb, base.Ns builtinsNs mb ∧ ∀ x : Str, x ≠ "__name__" → mb x = bootBuiltins x
  nolimit : base.NoLimit

/-- the context: a def's body (or a comprehension's block) running. base: fixed through the whole law; s₀, H₀: the entry; outer: the frames whose slots others may change (a def's callers); stack: all frames that run;
   ex: iterators that were made ahead of the entry and are walked here (a comprehension's); fn: the names whose cells were made at the entry (a def: all; a comprehension's block: its own); calm: not within an except suite; pn: pins that every state bears; xe: what is wanted of an exception that leaves the code -/
structure Cx where
  prog : Program
  w : World
  K : PySem.W.Frag
  mg : Str → Option Value
  base : Heap
  A : Around
  N : List Str
  s_0 : Shared
  H_0 : Hp
  env : Env
  outer : List Env
  stack : List Env
  ex : List Addr
  fn : Str → Bool
  calm : Bool
  pn : List (Addr × Obj)
  xe : Value → Shared → Prop
/-- the callers' frames -/
def frs (l : List Env) : List Addr := l.filterMap (·.frame)
abbrev Cx.fs (X : Cx) : List Addr := frs X.outer

def Vis (sc : Scope) (x : Str) : Prop := sc.names.lookup x = some .local ∨ sc.names.lookup x = some .cell ∨ sc.names.lookup x = some .free
def Loc (sc : Scope) (x : Str) : Prop := sc.names.lookup x = some .local ∨ sc.names.lookup x = some .cell
def Look (env : Env) (h : Heap) (m : Str → Option Value) (x : Str) (u : Value) : Prop :=
  (env.kindOf x = some .local ∧ m x = some u) ∨ ((env.kindOf x = some .cell ∨ env.kindOf x = some .free) ∧ ∃ c, env.cells.lookup x = some c ∧ h.IsCell c (some u))

structure Cx.Ok (X : Cx) : Prop where
  mod : Mod X.K X.mg X.base
  kind : X.env.scope.kind = .function
  glob : X.env.globals = mainGlobals
  blt : X.env.builtins = builtinsNs
  above : X.s_0.heap.objs.size ≤ X.env.locals
  inj : ∀ x y c, X.env.cells.lookup x = some c → X.env.cells.lookup y = some c → x = y
  has : ∀ x, (X.env.kindOf x = some .cell ∨ X.env.kindOf x = some .free) → ∃ c, X.env.cells.lookup x = some c
  cab : ∀ x c, X.fn x = true → X.env.cells.lookup x = some c → X.s_0.heap.objs.size ≤ c
  hd : X.calm = true → X.A.handled = none
  frames : X.A.frames = some X.stack
  stk : X.stack = X.outer ∨ (X.stack = X.env :: X.outer ∧ X.env.frame = some X.env.locals)
  exf : ∀ b ∈ X.ex, b ≠ X.env.locals ∧ ∀ x c, X.env.cells.lookup x = some c → c ≠ b
  bs : ∀ b o, X.base.get? b = some o → X.s_0.heap.get? b = some o ∧ X.H_0 b = none
  bsz : X.base.objs.size ≤ X.s_0.heap.objs.size
  noex : ∀ b o, X.base.get? b = some o → b ∉ X.ex
  exfs : ∀ b ∈ X.ex, b ∉ X.fs
  funs : X.s_0.heap.FunFrames X.base X.outer
  frf : ∀ b ∈ X.fs, X.H_0 b = none

structure Inv (X : Cx) (pins : List (Addr × Obj)) (σ : List (Option V)) (H : Hp) (s : Shared) : Prop where
  ok : X.Ok
  os : s.os = X.s_0.os
  bare : AllBare s.gens
  base : Un X.fs X.ex X.H_0 H X.s_0.heap s.heap
  loc : ∃ m, s.heap.Ns X.env.locals m ∧ ∀ (i : Nat) (x : Str) (v : V), X.N[i]? = some x → σ[i]? = some (some v) → Vis X.env.scope x → ∃ u, RelV v u ∧ Look X.env s.heap m x u
  cell : ∀ x c, X.env.cells.lookup x = some c → ∃ v, s.heap.IsCell c v
  free : H X.env.locals = none
  freeC : ∀ x c, X.env.cells.lookup x = some c → H c = none
  pin : ∀ p ∈ X.pn ++ pins, s.heap.get? p.1 = some p.2 ∧ H p.1 = none ∧ p.1 ≠ X.env.locals ∧ p.1 ∉ X.fs ∧ ∀ v, p.2.data ≠ .cell v
  hok : HOk X.prog X.w H s.heap
  len : σ.length = X.N.length

section
variable {X : Cx} {pins : List (Addr × Obj)} {σ : List (Option V)} {H H' : Hp} {s : Shared} {h' : Heap}

theorem Cx.Ok.nofr (ok : X.Ok) {b : Addr} {o : Obj} (e : X.base.get? b = some o) : b ∉ X.fs := fun hb => by
  have := (ok.funs.mem hb).1
  rw [e] at this; cases this
theorem Inv.bs (I : Inv X pins σ H s) : ∀ b o, X.base.get? b = some o → s.heap.get? b = some o ∧ H b = none := fun b o e =>
  ⟨I.base.keep b o (I.ok.bs b o e).1 (I.ok.bs b o e).2 (I.ok.nofr e) (I.ok.noex b o e), I.base.free b o (I.ok.bs b o e).1 (I.ok.bs b o e).2 (I.ok.noex b o e)⟩
theorem Inv.bk (I : Inv X pins σ H s) : ∀ b o, X.base.get? b = some o → s.heap.get? b = some o := fun b o e => (I.bs b o e).1
theorem Inv.mod (I : Inv X pins σ H s) : Mod X.K X.mg X.base := I.ok.mod
theorem Inv.kIn (I : Inv X pins σ H s) : X.K.In s.heap := I.ok.mod.kin.keeps I.bk
theorem Inv.lt (I : Inv X pins σ H s) : X.env.locals < s.heap.objs.size := let ⟨_, hn, _⟩ := I.loc; hn.lt
theorem Inv.sz (I : Inv X pins σ H s) : X.s_0.heap.objs.size ≤ s.heap.objs.size := Nat.le_trans I.ok.above (Nat.le_of_lt I.lt)
theorem Inv.nofs (I : Inv X pins σ H s) {a : Addr} (h : s.heap.objs.size ≤ a) : a ∉ X.fs := fun hb => by
  obtain ⟨_, o, ho, _⟩ := I.ok.funs.mem hb
  exact absurd (Nat.lt_of_lt_of_le (Heap.lt_size ho) (Nat.le_trans I.sz h)) (Nat.lt_irrefl _)
theorem Inv.cne (I : Inv X pins σ H s) : ∀ x c, X.env.cells.lookup x = some c → c ≠ X.env.locals := fun x c e z => by
  obtain ⟨v, o, ho, hd⟩ := I.cell x c e
  obtain ⟨m, ⟨o', es, ep, ho', hd', _⟩, _⟩ := I.loc
  rw [z, ho'] at ho; cases ho; rw [hd'] at hd; cases hd
theorem Inv.funs (I : Inv X pins σ H s) : s.heap.FunFrames X.base X.outer := by
  have all : ∀ (l : List Env), (∀ b ∈ frs l, b ∈ X.fs) → X.s_0.heap.FunFrames X.base l → s.heap.FunFrames X.base l := by
    intro l
    induction l with
    | nil => intro _ _; trivial
    | cons env r ih =>
      intro hs hl
      obtain ⟨hk, ⟨L, o, hf, hn, ho, hd⟩, hr⟩ := hl
      have hL : L ∈ X.fs := hs L (by unfold frs; rw [List.filterMap_cons, hf]; exact List.mem_cons_self)
      obtain ⟨sl, e⟩ := I.base.slot L o ho (I.ok.frf L hL) hL fun z => I.ok.exfs L z hL
      exact ⟨hk, ⟨L, _, hf, hn, e, hd⟩, ih (fun b hb => hs b (by unfold frs; rw [List.filterMap_cons, hf]; exact List.mem_cons_of_mem _ hb)) hr⟩
  exact all X.outer (fun _ hb => hb) I.ok.funs

/-- the frames that run, for a call -/
theorem Inv.stack (I : Inv X pins σ H s) : s.heap.FunFrames X.base X.stack := by
  rcases I.ok.stk with e | ⟨e, hf⟩
  · rw [e]; exact I.funs
  · rw [e]
    obtain ⟨m, hn, _⟩ := I.loc
    refine .cons (by rw [I.ok.kind]; decide) hf hn ?_ I.funs
    exact Heap.get?_none_of_le (Nat.le_trans I.ok.bsz I.ok.above)
theorem Inv.stkSub (I : Inv X pins σ H s) : ∀ b ∈ frs X.stack, b ∈ X.env.locals :: X.fs := fun b hb => by
  rcases I.ok.stk with e | ⟨e, hf⟩
  · rw [e] at hb; exact List.mem_cons_of_mem _ hb
  · rw [e] at hb
    unfold frs at hb
    rw [List.filterMap_cons, hf] at hb
    exact hb
theorem Inv.stkFree (I : Inv X pins σ H s) : ∀ b ∈ frs X.stack, H b = none := fun b hb => by
  rcases List.mem_cons.mp (I.stkSub b hb) with e | hb
  · rw [e]; exact I.free
  · obtain ⟨_, o, ho, _⟩ := I.ok.funs.mem hb
    exact I.base.free b o ho (I.ok.frf b hb) fun z => I.ok.exfs b z hb

/-- THE STEP: the untracked objects but the frame and the records at ch are kept (the callers' frames up to slots), the frame's map is kept, the new abstract heap is held -/
theorem Inv.step {g' : Array GenState} {t' : Nat} {d' : Drawn} {ch : List Addr} (I : Inv X pins σ H s)
    (hch : ∀ b ∈ ch, (b ∈ X.ex ∨ X.s_0.heap.objs.size ≤ b) ∧ b ≠ X.env.locals ∧ (∀ x c, X.env.cells.lookup x = some c → c ≠ b) ∧ ∀ p ∈ X.pn ++ pins, p.1 ≠ b)
    (keep : ∀ b o, b ≠ X.env.locals → b ∉ X.fs → b ∉ ch → s.heap.get? b = some o → H b = none → h'.get? b = some o)
    (slot : ∀ b o, b ≠ X.env.locals → b ∈ X.fs → b ∉ ch → s.heap.get? b = some o → H b = none → ∃ sl, h'.get? b = some { o with slots := sl }) (free : ∀ b o, b ∉ ch → s.heap.get? b = some o → H b = none → H' b = none)
    (there : ∀ b o, b ∉ ch → s.heap.get? b = some o → ∃ o', h'.get? b = some o')
    (tups : ∀ b xs, H b = some (.tup xs) → H' b = some (.tup xs)) (frzs : ∀ b o u, H b = some (.frz o u) → H' b = some (.frz o u)) (tbls : ∀ b ps, H b = some (.tbl ps) → ∃ more, H' b = some (.tbl (ps ++ more)))
    (ns : ∀ m, s.heap.Ns X.env.locals m → h'.Ns X.env.locals m) (hok : HOk X.prog X.w H' h') (hg : AllBare g') :
    Inv X pins σ H' { s with heap := h', gens := g', drawn := d', toks := t' } := by
  have neL : ∀ b o, X.s_0.heap.get? b = some o → b ≠ X.env.locals := fun b o e => Nat.ne_of_lt (Nat.lt_of_lt_of_le (Heap.lt_size e) I.ok.above)
  have neC : ∀ b o, X.s_0.heap.get? b = some o → b ∉ X.ex → b ∉ ch := fun b o e hx hb => by
    rcases (hch b hb).1 with z | z
    · exact hx z
    · exact absurd (Nat.lt_of_lt_of_le (Heap.lt_size e) z) (Nat.lt_irrefl _)
  have cellK : ∀ x c, X.env.cells.lookup x = some c → ∀ v, s.heap.IsCell c v → h'.IsCell c v := fun x c e v ⟨o, ho, hd⟩ => by
    have nch : c ∉ ch := fun z => (hch c z).2.2.1 x c e rfl
    by_cases hc : c ∈ X.fs
    · obtain ⟨sl, q⟩ := slot c o (I.cne x c e) hc nch ho (I.freeC x c e)
      exact ⟨_, q, hd⟩
    · exact ⟨o, keep c o (I.cne x c e) hc nch ho (I.freeC x c e), hd⟩
  refine ⟨I.ok, I.os, hg, ⟨fun b o e n hb hx => ?_, fun b o e n hb hx => ?_, fun b o e n hx => ?_, fun b o e hx => ?_, fun b xs e => tups b xs (I.base.tups b xs e), fun b o xs e => frzs b o xs (I.base.frzs b o xs e), fun b ps e => ?_⟩, ?_, fun x c e => ?_, ?_, fun x c e => ?_, fun p hp => ?_, hok, I.len⟩
  · exact keep b o (neL b o e) hb (neC b o e hx) (I.base.keep b o e n hb hx) (I.base.free b o e n hx)
  · obtain ⟨sl, e1⟩ := I.base.slot b o e n hb hx
    obtain ⟨sl', e2⟩ := slot b _ (neL b o e) hb (neC b o e hx) e1 (I.base.free b o e n hx)
    exact ⟨sl', e2⟩
  · obtain ⟨o', e1⟩ := I.base.there b o e hx
    exact free b o' (neC b o e hx) e1 (I.base.free b o e n hx)
  · obtain ⟨o', e1⟩ := I.base.there b o e hx
    exact there b o' (neC b o e hx) e1
  · obtain ⟨m1, e1⟩ := I.base.tbls b ps e
    obtain ⟨m2, e2⟩ := tbls b _ e1
    exact ⟨m1 ++ m2, by rw [e2, Array.append_assoc]⟩
  · obtain ⟨m, hn, hl⟩ := I.loc
    refine ⟨m, ns m hn, fun i x v e1 e2 e3 => ?_⟩
    obtain ⟨u, r, l⟩ := hl i x v e1 e2 e3
    refine ⟨u, r, ?_⟩
    rcases l with l | ⟨k, c, e, z⟩
    · exact .inl l
    · exact .inr ⟨k, c, e, cellK x c e _ z⟩
  · obtain ⟨v, z⟩ := I.cell x c e
    exact ⟨v, cellK x c e v z⟩
  · obtain ⟨m, ⟨o, _, _, ho, _⟩, _⟩ := I.loc
    exact free _ o (fun z => (hch _ z).2.1 rfl) ho I.free
  · obtain ⟨v, o, ho, hd⟩ := I.cell x c e
    exact free c o (fun z => (hch c z).2.2.1 x c e rfl) ho (I.freeC x c e)
  · obtain ⟨e, n, ne, nf, d⟩ := I.pin p hp
    have nch : p.1 ∉ ch := fun z => (hch p.1 z).2.2.2 p hp rfl
    exact ⟨keep p.1 p.2 ne nf nch e n, free p.1 p.2 nch e n, ne, nf, d⟩
/-- .. where the frame's own object is kept too -/
theorem Inv.un {t' : Nat} (I : Inv X pins σ H s) (u : Un X.fs [] H H' s.heap h') (hok : HOk X.prog X.w H' h') : Inv X pins σ H' { s with heap := h', toks := t' } := by
  obtain ⟨m, ⟨o, es, ep, ho, r⟩, _⟩ := id I.loc
  obtain ⟨sl, hL⟩ := u.any ho I.free (by simp)
  exact I.step (g' := s.gens) (d' := s.drawn) (ch := []) (fun _ z => nomatch z) (fun b o _ hb _ e n => u.keep b o e n hb (by simp)) (fun b o _ hb _ e n => u.slot b o e n hb (by simp)) (fun b o _ e n => u.free b o e n (by simp)) (fun b o _ e => u.there b o e (by simp)) u.tups u.frzs u.tbls (fun m' hm => by
    obtain ⟨o', es', ep', ho', r'⟩ := hm
    rw [ho] at ho'; cases ho'
    exact ⟨_, es', ep', hL, r'⟩) hok I.bare
/-- behind a call (or a comprehension's block): the slots of this frame may have changed too, the records at ch may have turned -/
theorem Inv.call {g' : Array GenState} {t' : Nat} {d' : Drawn} {ch : List Addr} (I : Inv X pins σ H s) (u : Un (frs X.stack) ch H H' s.heap h') (hok : HOk X.prog X.w H' h') (hg : AllBare g')
    (hch : ∀ b ∈ ch, (b ∈ X.ex ∨ X.s_0.heap.objs.size ≤ b) ∧ b ≠ X.env.locals ∧ (∀ x c, X.env.cells.lookup x = some c → c ≠ b) ∧ ∀ p ∈ X.pn ++ pins, p.1 ≠ b) :
    Inv X pins σ H' { s with heap := h', gens := g', drawn := d', toks := t' } := by
  obtain ⟨m, ⟨o, es, ep, ho, r⟩, _⟩ := id I.loc
  obtain ⟨sl, hL⟩ := u.any ho I.free fun z => (hch _ z).2.1 rfl
  exact I.step (ch := ch) hch (fun b o hL hb hc e n => u.keep b o e n (fun z => (List.mem_cons.mp (I.stkSub b z)).elim hL hb) hc) (fun b o _ _ hc e n => u.any e n hc) (fun b o hc e n => u.free b o e n hc) (fun b o hc e => u.there b o e hc) u.tups u.frzs u.tbls (fun m' hm => by
    obtain ⟨o', es', ep', ho', r'⟩ := hm
    rw [ho] at ho'; cases ho'
    exact ⟨_, es', ep', hL, r'⟩) hok hg
/-- an untracked record of ours (an iterator) has turned -/
theorem Inv.turned {t' : Nat} {it : Addr} (I : Inv X pins σ H s) (k : ∀ b o, b ≠ it → s.heap.get? b = some o → h'.get? b = some o) (hn : H it = none) (hL : it ≠ X.env.locals)
    (h1 : it ∈ X.ex ∨ X.s_0.heap.objs.size ≤ it) (h2 : ∀ x c, X.env.cells.lookup x = some c → c ≠ it) (h3 : ∀ p ∈ X.pn ++ pins, p.1 ≠ it) : Inv X pins σ H { s with heap := h', toks := t' } := by
  have nit : ∀ b u, H b = some u → b ≠ it := fun b u e z => by rw [z, hn] at e; cases e
  refine I.step (g' := s.gens) (d' := s.drawn) (ch := [it]) (fun b hb => ?_) (fun b o _ _ hc e _ => k b o (fun z => hc (by simp [z])) e) (fun b o _ _ hc e _ => ⟨o.slots, k b o (fun z => hc (by simp [z])) e⟩) (fun _ _ _ _ n => n)
    (fun b o hc e => ⟨o, k b o (fun z => hc (by simp [z])) e⟩) (fun _ _ e => e) (fun _ _ _ e => e) (fun b ps e => ⟨#[], by rw [e]; simp⟩) (fun m hm => ?_) (fun b u e => ?_) I.bare
  · have e : b = it := by simpa using hb
    subst e
    exact ⟨h1, hL, h2, h3⟩
  · obtain ⟨o, es, ep, ho, r⟩ := hm
    exact ⟨o, es, ep, k _ o (Ne.symm hL) ho, r⟩
  · refine (I.hok b u e).stay (fun c v hc q => k c v ?_ q) (fun _ q => q) fun _ _ q => q
    rcases hc with z | z
    · rw [z]; exact nit b u e
    · exact nit c _ z
theorem Inv.tok (I : Inv X pins σ H s) (t : Nat) : Inv X pins σ H { s with toks := t } := I.un (h' := s.heap) (t' := t) Un.refl I.hok
/-- all objects kept -/
theorem Inv.kept {t' : Nat} (I : Inv X pins σ H s) (k : ∀ b u, s.heap.get? b = some u → h'.get? b = some u) : Inv X pins σ H { s with heap := h', toks := t' } := I.un (Un.kept k) (I.hok.kept k)
/-- a new object laid and tracked -/
theorem Inv.laid {a : Addr} {o : HO} {t' : Nat} (I : Inv X pins σ H s) (k : ∀ b u, s.heap.get? b = some u → h'.get? b = some u) (hp : s.heap.objs.size ≤ a) (new : ObjOk X.prog X.w (upd H a o) h' a o) :
    Inv X pins σ (upd H a o) { s with heap := h', toks := t' } := I.un (Un.laid k hp (I.hok.fresh hp)) (I.hok.laid k hp new)
/-- an object written -/
theorem Inv.write {x e : Addr} {o : HO} {t' : Nat} (I : Inv X pins σ H s) (mu : Mut (H x)) (he : e = x ∨ H e = some (.own x)) (k : ∀ b u, b ≠ e → s.heap.get? b = some u → h'.get? b = some u) (heo : ∃ u, h'.get? e = some u)
    (new : ObjOk X.prog X.w (upd H x o) h' x o) : Inv X pins σ (upd H x o) { s with heap := h', toks := t' } := I.un (Un.write mu he k heo) (I.hok.write mu he k heo new)
theorem Inv.pins_of {pins' : List (Addr × Obj)} (I : Inv X pins σ H s) (h : ∀ p ∈ pins', s.heap.get? p.1 = some p.2 ∧ H p.1 = none ∧ p.1 ≠ X.env.locals ∧ p.1 ∉ X.fs ∧ ∀ v, p.2.data ≠ .cell v) : Inv X pins' σ H s :=
  ⟨I.ok, I.os, I.bare, I.base, I.loc, I.cell, I.free, I.freeC, fun p hp => (List.mem_append.mp hp).elim (fun z => I.pin p (List.mem_append_left _ z)) (h p), I.hok, I.len⟩

theorem nodup_ix {N : List Str} (hN : N.Nodup) {i j : Nat} {x : Str} (a : N[i]? = some x) (b : N[j]? = some x) : i = j := by
  obtain ⟨h1, e1⟩ := List.getElem?_eq_some_iff.mp a
  obtain ⟨h2, e2⟩ := List.getElem?_eq_some_iff.mp b
  exact (List.getElem_inj hN).mp (e1.trans e2.symm)

/-- a name is stored; what changed -/
theorem store_ok2 {M : Model} {A : Around} {E : Value → Shared → Prop} {i : Nat} {x : Str} {v : V} {u : Value} {Q : Unit → Shared → Prop} (I : Inv X pins σ H s) (hN : X.N.Nodup) (hi : X.N[i]? = some x) (hx : Loc X.env.scope x) (r : RelV v u)
    (h : ∀ s', Inv X pins (σ.set i (some v)) H s' → (∃ a, Heap.SameBut a s.heap s'.heap ∧ (a = X.env.locals ∨ X.env.cells.lookup x = some a)) → Q () s') (hf : X.fn x = true ∨ X.env.scope.names.lookup x = some .local := by first | exact .inl rfl | exact .inr rfl | assumption) : wpAny M A (storeName X.env x u) Q E s := by
  obtain ⟨m, hn, hl⟩ := id I.loc
  have hcls : (X.env.scope.kind == .class || (X.env.scope.kind == .module && X.env.locals != X.env.globals)) = false := by rw [I.ok.kind]; rfl
  have hiσ : i < σ.length := by rw [I.len]; exact (List.getElem?_eq_some_iff.mp hi).1
  have cne := I.cne
  have tracked : ∀ {a : Addr} {h' : Heap}, (∃ o, s.heap.get? a = some o ∧ H a = none) → Heap.SameBut a s.heap h' → HOk X.prog X.w H h' := fun {a h'} ha hs b ob e => by
    obtain ⟨_, _, hfree⟩ := ha
    refine (I.hok b ob e).stay (fun c w' hc q => (hs.2 c ?_).trans q) (fun _ q => q) fun _ _ q => q
    rintro rfl
    rcases hc with rfl | hc
    · rw [hfree] at e; cases e
    · rw [hfree] at hc; cases hc
  rcases hx with hk | hk
  · refine wpAny_storeName_local hk hn (fun h' hn' hs => ?_) hcls
    obtain ⟨oL, _, _, hoL, _⟩ := id hn
    refine h _ ⟨I.ok, I.os, I.bare, ⟨fun b o e n hb hx => ?_, fun b o e n hb hx => ?_, I.base.free, fun b o e hx => ?_, I.base.tups, I.base.frzs, I.base.tbls⟩, ⟨_, hn', fun j y v' e1 e2 e3 => ?_⟩, fun y c e => ?_, I.free, I.freeC, fun p hp => ?_, tracked ⟨oL, hoL, I.free⟩ hs, by simpa using I.len⟩ ⟨_, hs, .inl rfl⟩
    · exact (hs.2 b (Nat.ne_of_lt (Nat.lt_of_lt_of_le (Heap.lt_size e) I.ok.above))).trans (I.base.keep b o e n hb hx)
    · obtain ⟨sl, e1⟩ := I.base.slot b o e n hb hx
      exact ⟨sl, (hs.2 b (Nat.ne_of_lt (Nat.lt_of_lt_of_le (Heap.lt_size e) I.ok.above))).trans e1⟩
    · obtain ⟨o', e1⟩ := I.base.there b o e hx
      exact ⟨o', (hs.2 b (Nat.ne_of_lt (Nat.lt_of_lt_of_le (Heap.lt_size e) I.ok.above))).trans e1⟩
    · by_cases hj : j = i
      · subst hj
        rw [hi] at e1; cases e1
        rw [List.getElem?_set_self hiσ] at e2
        cases e2
        exact ⟨u, r, .inl ⟨hk, by simp⟩⟩
      · rw [List.getElem?_set_ne (Ne.symm hj)] at e2
        obtain ⟨u', r', q⟩ := hl j y v' e1 e2 e3
        refine ⟨u', r', ?_⟩
        rcases q with ⟨k, e⟩ | ⟨k, c, e, z⟩
        · refine .inl ⟨k, ?_⟩
          have : y ≠ x := fun e => hj (nodup_ix hN e1 (e ▸ hi))
          simp [this, e]
        · exact .inr ⟨k, c, e, z.sameBut hs (cne y c e)⟩
    · obtain ⟨w', z⟩ := I.cell y c e
      exact ⟨w', z.sameBut hs (cne y c e)⟩
    · obtain ⟨e, n, ne, nf, d⟩ := I.pin p hp
      exact ⟨(hs.2 p.1 ne).trans e, n, ne, nf, d⟩
  · have hfn : X.fn x = true := by
      rcases hf with z | z
      · exact z
      · rw [z] at hk; cases hk
    obtain ⟨c, hc⟩ := I.ok.has x (.inl hk)
    obtain ⟨w', z⟩ := I.cell x c hc
    refine wpAny_storeName_cell I.ok.kind hk hc z (fun h' hc' hs => ?_)
    obtain ⟨oc, hoc, hocd⟩ := id z
    refine h { s with heap := h' } ⟨I.ok, I.os, I.bare, ⟨fun b o e n hb hx => ?_, fun b o e n hb hx => ?_, I.base.free, fun b o e hx => ?_, I.base.tups, I.base.frzs, I.base.tbls⟩, ⟨m, hn.sameBut hs (Ne.symm (cne x c hc)), fun j y v' e1 e2 e3 => ?_⟩, fun y c' e => ?_, I.free, I.freeC, fun p hp => ?_, tracked ⟨oc, hoc, I.freeC x c hc⟩ hs, by simpa using I.len⟩ ⟨c, hs, .inr hc⟩
    · exact (hs.2 b (Nat.ne_of_lt (Nat.lt_of_lt_of_le (Heap.lt_size e) (I.ok.cab x c hfn hc)))).trans (I.base.keep b o e n hb hx)
    · obtain ⟨sl, e1⟩ := I.base.slot b o e n hb hx
      exact ⟨sl, (hs.2 b (Nat.ne_of_lt (Nat.lt_of_lt_of_le (Heap.lt_size e) (I.ok.cab x c hfn hc)))).trans e1⟩
    · obtain ⟨o', e1⟩ := I.base.there b o e hx
      exact ⟨o', (hs.2 b (Nat.ne_of_lt (Nat.lt_of_lt_of_le (Heap.lt_size e) (I.ok.cab x c hfn hc)))).trans e1⟩
    · by_cases hj : j = i
      · subst hj
        rw [hi] at e1; cases e1
        rw [List.getElem?_set_self hiσ] at e2
        cases e2
        exact ⟨u, r, .inr ⟨.inl hk, c, hc, hc'⟩⟩
      · rw [List.getElem?_set_ne (Ne.symm hj)] at e2
        obtain ⟨u', r', q⟩ := hl j y v' e1 e2 e3
        refine ⟨u', r', ?_⟩
        rcases q with q | ⟨k, c', e, z'⟩
        · exact .inl q
        · refine .inr ⟨k, c', e, z'.sameBut hs ?_⟩
          rintro rfl
          exact hj (nodup_ix hN e1 (I.ok.inj _ _ _ e hc ▸ hi))
    · by_cases hcc : c' = c
      · subst hcc; exact ⟨_, hc'⟩
      · obtain ⟨w2, z2⟩ := I.cell y c' e
        exact ⟨w2, z2.sameBut hs hcc⟩
    · obtain ⟨e, n, ne, nf, d⟩ := I.pin p hp
      refine ⟨(hs.2 p.1 ?_).trans e, n, ne, nf, d⟩
      intro q
      rw [q, hoc] at e
      have q' : oc = p.2 := Option.some.inj e
      exact d w' (by rw [← q']; exact hocd)
theorem store_ok {M : Model} {A : Around} {E : Value → Shared → Prop} {i : Nat} {x : Str} {v : V} {u : Value} {Q : Unit → Shared → Prop} (I : Inv X pins σ H s) (hN : X.N.Nodup) (hi : X.N[i]? = some x) (hx : Loc X.env.scope x) (r : RelV v u)
    (h : ∀ s', Inv X pins (σ.set i (some v)) H s' → Q () s') (hf : X.fn x = true ∨ X.env.scope.names.lookup x = some .local := by first | exact .inl rfl | exact .inr rfl | assumption) : wpAny M A (storeName X.env x u) Q E s :=
  store_ok2 I hN hi hx r (fun s' I' _ => h s' I') hf
end

/-! ### the judgements -/
/-- an exception: its class, its own dict's address (where it has one), the abstract heap behind it -/
abbrev XK := Value → Option Addr → Hp → Prop
abbrev St := List (Option V)
abbrev VK := V → Hp → Prop
/-- an expression's reading; a test's; an argument list's -/
abbrev TE := St → Hp → VK → Prop
abbrev TT := St → Hp → (Bool → Hp → Prop) → Prop
abbrev TA := St → Hp → (List V → Hp → Prop) → Prop
/-- what is wanted behind a statement -/
structure Ends where
  nx : St → Hp → Prop
  rt : VK
  bk : St → Hp → Prop := fun _ _ => False
  ct : St → Hp → Prop := fun _ _ => False
abbrev TS := Ends → St → Hp → Prop

def EP (X : Cx) (pins : List (Addr × Obj)) (σ : St) (Q : VK) (u : Value) (s' : Shared) : Prop := ∃ v H', Inv X pins σ H' s' ∧ RelV v u ∧ Q v H'
def TP (X : Cx) (pins : List (Addr × Obj)) (σ : St) (Q : Bool → Hp → Prop) (b : Bool) (s' : Shared) : Prop := ∃ H', Inv X pins σ H' s' ∧ Q b H'
def AP (X : Cx) (pins : List (Addr × Obj)) (σ : St) (Q : List V → Hp → Prop) (us : List Value) (s' : Shared) : Prop := ∃ vs H', Inv X pins σ H' s' ∧ Vals vs us ∧ Q vs H'
def SP (X : Cx) (pins : List (Addr × Obj)) (D : Ends) (f : Flow) (s' : Shared) : Prop :=
  match f with
  | .next => ∃ σ' H', Inv X pins σ' H' s' ∧ D.nx σ' H'
  | .brk => ∃ σ' H', Inv X pins σ' H' s' ∧ D.bk σ' H'
  | .cont => ∃ σ' H', Inv X pins σ' H' s' ∧ D.ct σ' H'
  | .ret u => ∃ v σ' H', Inv X pins σ' H' s' ∧ RelV v u ∧ D.rt v H'

def PE (X : Cx) (e : Expr) (t : TE) : Prop :=
  ∀ (pins : List (Addr × Obj)) (s : Shared) (σ : St) (H : Hp) (Q : VK), Inv X pins σ H s → t σ H Q → wpAny (model X.prog X.w) X.A (eval e X.env) (EP X pins σ Q) X.xe s
def PT (X : Cx) (e : Expr) (t : TT) : Prop :=
  ∀ (pins : List (Addr × Obj)) (s : Shared) (σ : St) (H : Hp) (Q : Bool → Hp → Prop), Inv X pins σ H s → t σ H Q → wpAny (model X.prog X.w) X.A (isTrue e X.env (eval e X.env)) (TP X pins σ Q) X.xe s
/-- a test whatever its 'whole' is (and, or) -/
def PW (X : Cx) (e : Expr) (t : TT) : Prop :=
  ∀ (whole : Sem Value) (pins : List (Addr × Obj)) (s : Shared) (σ : St) (H : Hp) (Q : Bool → Hp → Prop), Inv X pins σ H s → t σ H Q → wpAny (model X.prog X.w) X.A (isTrue e X.env whole) (TP X pins σ Q) X.xe s
theorem PW.pt {X : Cx} {e : Expr} {t : TT} (h : PW X e t) : PT X e t := h _
/-- an argument list (no star), from the left -/
def PA (X : Cx) (es : List Expr) (t : TA) : Prop :=
  ∀ (pos : Pos) (pins : List (Addr × Obj)) (s : Shared) (σ : St) (H : Hp) (Q : List V → Hp → Prop), Inv X pins σ H s → t σ H Q → wpAny (model X.prog X.w) X.A (spliced (backTo pos (starEach es X.env))) (AP X pins σ Q) X.xe s
def PS (X : Cx) (st : Stmt) (t : TS) : Prop :=
  ∀ (pins : List (Addr × Obj)) (s : Shared) (σ : St) (H : Hp) (D : Ends), Inv X pins σ H s → t D σ H → wpAny (model X.prog X.w) X.A (exec st X.env) (SP X pins D) X.xe s
def PSs (X : Cx) (st : List Stmt) (t : TS) : Prop :=
  ∀ (pins : List (Addr × Obj)) (s : Shared) (σ : St) (H : Hp) (D : Ends), Inv X pins σ H s → t D σ H → wpAny (model X.prog X.w) X.A (execs st X.env) (SP X pins D) X.xe s
/-- weaken the end -/
theorem thn {α : Type} {t : Sem α} {Q Q' : α → Shared → Prop} {M : Model} {A : Around} {E : Value → Shared → Prop} {s : Shared} (h : wpAny M A t Q E s) (hQ : ∀ a s, Q a s → Q' a s) : wpAny M A t Q' E s := wpAny_mono h hQ fun _ _ x => x
end L2

namespace L2
open PySem PySem.Spec PyProof.Rows
section
variable {X : Cx}

/-- two expressions in a row -/
theorem bin {a b : Expr} {ta tb : TE} (ha : PE X a ta) (hb : PE X b tb) {pins : List (Addr × Obj)} {s : Shared} {σ : St} {H : Hp} {R : V → V → Hp → Prop} (I : Inv X pins σ H s) (h : ta σ H fun x H1 => tb σ H1 fun y H2 => R x y H2)
    {α : Type} {Q : α → Shared → Prop} {f : Value → Value → Sem α}
    (hf : ∀ v u s2 x y H2, Inv X pins σ H2 s2 → RelV x v → RelV y u → R x y H2 → wpAny (model X.prog X.w) X.A (f v u) Q X.xe s2) :
    wpAny (model X.prog X.w) X.A (eval a X.env) (fun v s₁ => wpAny (model X.prog X.w) X.A (eval b X.env) (fun u s₂ => wpAny (model X.prog X.w) X.A (f v u) Q X.xe s₂) X.xe s₁) X.xe s := by
  refine thn (ha pins s σ H _ I h) fun v s1 ⟨x, H1, I1, r1, q1⟩ => ?_
  refine thn (hb pins s1 σ H1 _ I1 q1) fun u s2 ⟨y, H2, I2, r2, q2⟩ => ?_
  exact hf v u s2 x y H2 I2 r1 r2 q2

/-! ### names and constants -/
def tVar (i : Nat) : TE := fun σ H Q => ∃ v, σ[i]? = some (some v) ∧ Q v H
def tC (v : V) : TE := fun _ H Q => Q v H
theorem pe_var {i : Nat} {x : Str} {pos : Pos} (hN : X.N[i]? = some x) (hv : Vis X.env.scope x) (hd : (x == ("__debug__" : Str)) = false := by decide) (hcd : (x == ("__classdict__" : Str)) = false := by decide) : PE X (.Name x pos) (tVar i) := by
  intro pins s σ H Q I h
  obtain ⟨v, e, h⟩ := h
  obtain ⟨m, hn, hl⟩ := I.loc
  obtain ⟨u, r, l⟩ := hl i x v hN e hv
  have fin : EP X pins σ Q u s := ⟨v, H, I, r, h⟩
  rcases l with ⟨hk, hm⟩ | ⟨hk, c, hc, hcell⟩
  · exact wpAny_Name (wpAny_loadName_local I.ok.kind hk hn hm fin) hd
  · rcases hk with hk | hk
    · exact wpAny_Name (wpAny_loadName_cell I.ok.kind hk hc hcell fin) hd
    · exact wpAny_Name (wpAny_loadName_free I.ok.kind hk hc hcell fin hcd) hd
theorem pe_int {i j pos} : PE X (.Constant (.int i) j pos) (tC (.int i)) := fun _ _ _ H _ I h => wpAny_Constant_int ⟨.int i, H, I.tok _, ⟨_, rfl⟩, h⟩

/-- a global name of the def -/
def Gl (X : Cx) (x : Str) : Prop := X.env.kindOf x = some .globalImplicit
theorem ld_glob {E : Value → Shared → Prop} {pins : List (Addr × Obj)} {s : Shared} {σ : St} {H : Hp} {x : Str} {u : Value} {pos : Pos} {Q : Value → Shared → Prop} (I : Inv X pins σ H s) (hg : Gl X x) (hm : X.mg x = some u) (h : Q u s)
    (hd : (x == ("__debug__" : Str)) = false := by decide) : wpAny (model X.prog X.w) X.A (eval (.Name x pos) X.env) Q E s :=
  Calls.Name_function_global I.ok.kind hg (Calls.loadGlobal_global (by rw [I.ok.glob]; exact I.mod.glob.keeps I.bk) hm h) hd
theorem ld_blt {E : Value → Shared → Prop} {pins : List (Addr × Obj)} {s : Shared} {σ : St} {H : Hp} {x : Str} {u : Value} {pos : Pos} {Q : Value → Shared → Prop} (I : Inv X pins σ H s) (hg : Gl X x) (hm : X.mg x = none) (hv : bootBuiltins x = some u) (h : Q u s)
    (hn : x ≠ "__name__" := by decide) (hd : (x == ("__debug__" : Str)) = false := by decide) : wpAny (model X.prog X.w) X.A (eval (.Name x pos) X.env) Q E s := by
  obtain ⟨mb, h1, h2⟩ := I.mod.blt
  exact Calls.Name_function_global I.ok.kind hg (Calls.loadGlobal_builtin (by rw [I.ok.glob]; exact I.mod.glob.keeps I.bk) hm (by rw [I.ok.blt]; exact h1.keeps I.bk) ((h2 x hn).trans hv) h) hd
/-- a module's constant, a class, a function, as a value -/
theorem pe_glob {x : Str} {v : V} {u : Value} {pos : Pos} (hg : Gl X x) (hm : X.mg x = some u) (r : RelV v u) (hd : (x == ("__debug__" : Str)) = false := by decide) : PE X (.Name x pos) (tC v) :=
  fun _ _ _ H _ I h => ld_glob I hg hm ⟨v, H, I, r, h⟩ hd

/-! ### arithmetic -/
/-- two ints -/
def t2I (ta tb : TE) (k : Int → Int → Hp → Prop) : St → Hp → Prop := fun σ H => ta σ H fun x H1 => tb σ H1 fun y H2 => ∃ i j, x = .int i ∧ y = .int j ∧ k i j H2
variable {a b : Expr} {ta tb : TE} {pos : Pos}

/-! ### comparisons -/
def PC (X : Cx) (op : CmpOp) (a b : Expr) (t : TE) : Prop :=
  ∀ (pins : List (Addr × Obj)) (s : Shared) (σ : St) (H : Hp) (Q : VK), Inv X pins σ H s → t σ H Q →
    wpAny (model X.prog X.w) X.A (eval a X.env) (fun v s₁ => wpAny (model X.prog X.w) X.A (eval b X.env) (fun u s₂ => wpAny (model X.prog X.w) X.A (compareOp op v u) (EP X pins σ Q) X.xe s₂) X.xe s₁) X.xe s
theorem nobehind (b : Expr) {op : CmpOp} (h : op ≠ .In) (h2 : op ≠ .NotIn) : behindInMarks op b = false := by
  have e1 : (op == CmpOp.In) = false := by cases op <;> first | rfl | exact absurd rfl h
  have e2 : (op == CmpOp.NotIn) = false := by cases op <;> first | rfl | exact absurd rfl h2
  cases b <;> simp [behindInMarks, e1, e2]
def tCmp (p : Int → Int → Bool) (ta tb : TE) : TE := fun σ H Q => t2I ta tb (fun i j H2 => Q (.bl (p i j)) H2) σ H
abbrev tLt : TE → TE → TE := tCmp fun i j => decide (i < j)
abbrev tLe : TE → TE → TE := tCmp fun i j => decide (i ≤ j)
abbrev tGt : TE → TE → TE := tCmp fun i j => decide (j < i)
abbrev tGe : TE → TE → TE := tCmp fun i j => decide (j ≤ i)
abbrev tEqI : TE → TE → TE := tCmp fun i j => decide (i = j)
abbrev tNeI : TE → TE → TE := tCmp fun i j => !decide (i = j)
/-- a comparison of two ints, by its rule -/
theorem pc_int {op : CmpOp} {p : Int → Int → Bool} (ha : PE X a ta) (hb : PE X b tb)
    (rule : ∀ (i j : Int) (t u : Tok) (Q : Value → Shared → Prop) (s : Shared), Q (.bool (p i j)) s → wpAny (model X.prog X.w) X.A (compareOp op (.int i t) (.int j u)) Q X.xe s) : PC X op a b (tCmp p ta tb) := by
  intro pins s σ H Q I h
  refine bin ha hb I h fun v u s2 x y H2 I2 rx ry q => ?_
  obtain ⟨i, j, rfl, rfl, q⟩ := q
  obtain ⟨t, rfl⟩ := rx
  obtain ⟨t', rfl⟩ := ry
  exact rule i j t t' _ s2 ⟨.bl _, H2, I2, rfl, q⟩
theorem pc_lt (ha : PE X a ta) (hb : PE X b tb) : PC X .Lt a b (tLt ta tb) := pc_int ha hb fun _ _ _ _ _ _ h => lt_int h
theorem pc_le (ha : PE X a ta) (hb : PE X b tb) : PC X .LtE a b (tLe ta tb) := pc_int ha hb fun _ _ _ _ _ _ h => le_int h
theorem pc_gt (ha : PE X a ta) (hb : PE X b tb) : PC X .Gt a b (tGt ta tb) := pc_int ha hb fun _ _ _ _ _ _ h => gt_int h
theorem pc_ge (ha : PE X a ta) (hb : PE X b tb) : PC X .GtE a b (tGe ta tb) := pc_int ha hb fun _ _ _ _ _ _ h => ge_int h
theorem pc_eqI (ha : PE X a ta) (hb : PE X b tb) : PC X .Eq a b (tEqI ta tb) := pc_int ha hb fun _ _ _ _ _ _ h => eq_int (by rw [Bool.beq_eq_decide_eq]; exact h)
theorem pc_neI (ha : PE X a ta) (hb : PE X b tb) : PC X .NotEq a b (tNeI ta tb) := pc_int ha hb fun _ _ _ _ _ _ h => ne_int (by rw [bne, Bool.beq_eq_decide_eq]; exact h)
/-- a comparison as a value, as a test -/
def tB (t : TE) : TT := fun σ H Q => t σ H fun x H1 => ∃ c, x = .bl c ∧ Q c H1
theorem pe_cmp {op : CmpOp} {t : TE} (h : PC X op a b t) (h1 : behindInMarks op b = false := by first | exact nobehind _ (by decide) (by decide) | rfl) : PE X (.Compare a [op] [b] pos) t := fun pins s σ H Q I hw => wpAny_Compare1 (h pins s σ H Q I hw) h1
theorem pt_cmp {op : CmpOp} {t : TE} (h : PC X op a b t) (h1 : behindInMarks op b = false := by first | exact nobehind _ (by decide) (by decide) | rfl) : PT X (.Compare a [op] [b] pos) (tB t) := by
  intro pins s σ H Q I hw
  refine wpAny_isTrue_Compare1 (thn (h pins s σ H _ I hw) fun v s1 h1 => thn h1 fun u s2 h2 => thn h2 fun c s3 ⟨x, H1, I1, r1, q1⟩ => ?_) h1
  obtain ⟨d, rfl, q⟩ := q1
  cases r1
  exact wpAny_truthy_bool ⟨H1, I1, q⟩
/-- an expression whose value is a bool, as a test -/
theorem pt_val {e : Expr} {t : TE} (h : PE X e t) (he : ∀ whole, isTrue e X.env whole = (do let v ← whole; standAt e.pos; holding [v] (truthy v)) := by intro _; rfl) : PT X e (tB t) := by
  intro pins s σ H Q I hw
  refine isTrue_plain (thn (h pins s σ H _ I hw) fun v s1 ⟨x, H1, I1, r1, q1⟩ => ?_) (he _)
  obtain ⟨d, rfl, q⟩ := q1
  cases r1
  exact wpAny_truthy_bool ⟨H1, I1, q⟩

/-! ### and, or, not -/
variable {tA tB' : TT} {rest : List Expr}
def tAnd (t u : TT) : TT := fun σ H Q => t σ H fun c H1 => if c = true then u σ H1 Q else Q false H1
def tOr (t u : TT) : TT := fun σ H Q => t σ H fun c H1 => if c = true then Q true H1 else u σ H1 Q
def tNot (t : TT) : TT := fun σ H Q => t σ H fun c H1 => Q (!c) H1
theorem pw_and1 (ha : PT X a tA) : PW X (.BoolOp .And [a] pos) tA := by
  intro wh pins s σ H Q I h
  refine isTrue_and (thn (ha pins s σ H Q I h) fun c s1 e => ?_)
  cases c with
  | true => exact isTrue_and_nil e
  | false => exact e
theorem pw_or1 (ha : PT X a tA) : PW X (.BoolOp .Or [a] pos) tA := by
  intro wh pins s σ H Q I h
  refine isTrue_or (thn (ha pins s σ H Q I h) fun c s1 e => ?_)
  cases c with
  | false => exact isTrue_or_nil e
  | true => exact e
theorem pw_and (ha : PT X a tA) (hb : PW X (.BoolOp .And (b :: rest) pos) tB') : PW X (.BoolOp .And (a :: b :: rest) pos) (tAnd tA tB') := by
  intro wh pins s σ H Q I h
  refine isTrue_and (thn (ha pins s σ H _ I h) fun c s1 ⟨H1, I1, q1⟩ => ?_)
  cases c with
  | true => exact hb wh pins s1 σ H1 Q I1 q1
  | false => exact ⟨H1, I1, q1⟩
theorem pw_or (ha : PT X a tA) (hb : PW X (.BoolOp .Or (b :: rest) pos) tB') : PW X (.BoolOp .Or (a :: b :: rest) pos) (tOr tA tB') := by
  intro wh pins s σ H Q I h
  refine isTrue_or (thn (ha pins s σ H _ I h) fun c s1 ⟨H1, I1, q1⟩ => ?_)
  cases c with
  | true => exact ⟨H1, I1, q1⟩
  | false => exact hb wh pins s1 σ H1 Q I1 q1
theorem pt_not (ha : PT X a tA) : PT X (.UnaryOp .Not a pos) (tNot tA) := by
  intro pins s σ H Q I h
  exact isTrue_not (ha pins s σ H (fun c H1 => Q (!c) H1) I h)
/-- .. as values (bools) -/
def tAndV (ta tb : TE) : TE := fun σ H Q => ta σ H fun x H1 => ∃ c, x = .bl c ∧ if c = true then tb σ H1 Q else Q (.bl false) H1
theorem pe_one {op} {t : TE} (h : PE X a t) : PE X (.BoolOp op [a] pos) t := fun pins s σ H Q I hw => BoolOp_one (h pins s σ H Q I hw)
theorem pe_and (ha : PE X a ta) (hb : PE X (.BoolOp .And (b :: rest) pos) tb) : PE X (.BoolOp .And (a :: b :: rest) pos) (tAndV ta tb) := by
  intro pins s σ H Q I h
  refine BoolOp_and (thn (ha pins s σ H _ I h) fun v s1 ⟨x, H1, I1, r1, q1⟩ => ?_)
  obtain ⟨c, rfl, q1⟩ := q1
  cases r1
  refine wpAny_truthy_bool ?_
  cases c with
  | true => exact hb pins s1 σ H1 Q I1 q1
  | false => exact ⟨.bl false, H1, I1, rfl, q1⟩
end
end L2

namespace L2
open PySem PySem.Spec PyProof.Rows

/-! ### a list, a tuple that is read: tracked, frozen, or an object of the module -/
def SqL (K : PySem.W.Frag) (H : Hp) (a : Addr) (xs : List V) : Prop :=
  Rd H a (.lst xs) ∨
    ∃ (o : Obj) (its : Array Value) (n : Nat), K.lookup a = some o ∧ o.cls = .type "list" ∧ o.dict = none ∧ o.data = .seq its n ∧ its.size ≤ sizeLine ∧ Vals xs its.toList
def SqT (K : PySem.W.Frag) (H : Hp) (a : Addr) (xs : List V) : Prop :=
  Rd H a (.tup xs) ∨
    ∃ (o : Obj) (its : Array Value) (n : Nat), K.lookup a = some o ∧ o.cls = .type "tuple" ∧ o.data = .seq its n ∧ its.size ≤ sizeLine ∧ Vals xs its.toList
section
variable {X : Cx} {pins : List (Addr × Obj)} {σ : St} {H : Hp} {s : Shared} {a : Addr} {xs ys : List V}
theorem SqL.of {K : PySem.W.Frag} (h : H a = some (.lst xs)) : SqL K H a xs := .inl (.inl h)
theorem Inv.list (I : Inv X pins σ H s) (h : SqL X.K H a xs) : ∃ its : List Value, Vals xs its ∧ PlainL s.heap a its.toArray ∧ xs.length ≤ sizeLine := by
  rcases h with h | ⟨o, its, n, hk, hc, hd, hs, hz, r⟩
  · obtain ⟨z, its, n, r, e⟩ := h.ok I.hok
    exact ⟨its, r, ⟨_, n, e, rfl, rfl, rfl⟩, z⟩
  · refine ⟨its.toList, r, ⟨o, n, I.kIn a o hk, hc, hd, by simpa using hs⟩, ?_⟩
    have e := r.length
    simp only [Array.length_toList] at e
    omega
theorem Inv.tuple (I : Inv X pins σ H s) (h : SqT X.K H a xs) : ∃ its : List Value, Vals xs its ∧ IsTup s.heap a its.toArray ∧ xs.length ≤ sizeLine := by
  rcases h with h | ⟨o, its, n, hk, hc, hs, hz, r⟩
  · obtain ⟨z, its, r, p⟩ := h.ok I.hok
    exact ⟨its, r, p, z⟩
  · refine ⟨its.toList, r, ⟨o, I.kIn a o hk, hc, n, by simpa using hs⟩, ?_⟩
    have e := r.length
    simp only [Array.length_toList] at e
    omega
end

/-! ### another wish about exceptions -/
abbrev Cx.wish (X : Cx) (E : Value → Shared → Prop) : Cx := { X with xe := E }
/-- no exception leaves -/
abbrev Cx.nox (X : Cx) : Cx := X.wish fun _ _ => False
theorem Cx.Ok.wish {X : Cx} (ok : X.Ok) (E : Value → Shared → Prop) : (X.wish E).Ok :=
  ⟨ok.mod, ok.kind, ok.glob, ok.blt, ok.above, ok.inj, ok.has, ok.cab, ok.hd, ok.frames, ok.stk, ok.exf, ok.bs, ok.bsz, ok.noex, ok.exfs, ok.funs, ok.frf⟩
theorem Cx.Ok.unwish {X : Cx} {E : Value → Shared → Prop} (ok : (X.wish E).Ok) : X.Ok :=
  ⟨ok.mod, ok.kind, ok.glob, ok.blt, ok.above, ok.inj, ok.has, ok.cab, ok.hd, ok.frames, ok.stk, ok.exf, ok.bs, ok.bsz, ok.noex, ok.exfs, ok.funs, ok.frf⟩
section
variable {X : Cx} {pins : List (Addr × Obj)} {σ : St} {H : Hp} {s : Shared} {E : Value → Shared → Prop}
theorem Inv.wish (I : Inv X pins σ H s) (E : Value → Shared → Prop) : Inv (X.wish E) pins σ H s := ⟨I.ok.wish E, I.os, I.bare, I.base, I.loc, I.cell, I.free, I.freeC, I.pin, I.hok, I.len⟩
theorem Inv.unwish (I : Inv (X.wish E) pins σ H s) : Inv X pins σ H s := ⟨I.ok.unwish, I.os, I.bare, I.base, I.loc, I.cell, I.free, I.freeC, I.pin, I.hok, I.len⟩
theorem SP.unwish {D : Ends} {f : Flow} {s' : Shared} (h : SP (X.wish E) pins D f s') : SP X pins D f s' := by
  cases f with
  | next => obtain ⟨σ', H', I, q⟩ := h; exact ⟨σ', H', I.unwish, q⟩
  | brk => obtain ⟨σ', H', I, q⟩ := h; exact ⟨σ', H', I.unwish, q⟩
  | cont => obtain ⟨σ', H', I, q⟩ := h; exact ⟨σ', H', I.unwish, q⟩
  | ret u => obtain ⟨v, σ', H', I, r, q⟩ := h; exact ⟨v, σ', H', I.unwish, r, q⟩
theorem PSs.nox {st : List Stmt} {t : TS} (h : PSs X.nox st t) : PSs X st t := fun pins s σ H D I hw =>
  wpAny_mono (h pins s σ H D (I.wish _) hw) (fun _ _ q => q.unwish) fun _ _ z => False.elim z
end

/-! ### blocks and small statements -/
section
variable {X : Cx} {st : Stmt} {rest : List Stmt} {t u : TS} {e : Expr} {te : TE} {pos : Pos}
def tNext : TS := fun D σ H => D.nx σ H
def tSeq (t u : TS) : TS := fun D σ H => t { D with nx := u D } σ H
theorem pss_nil : PSs X [] tNext := fun _ _ σ H _ I h => wpAny_execs_nil ⟨σ, H, I, h⟩
theorem pss_cons (h1 : PS X st t) (h2 : PSs X rest u) : PSs X (st :: rest) (tSeq t u) := by
  intro pins s σ H D I h
  refine wpAny_execs_cons (thn (h1 pins s σ H { D with nx := u D } I h) fun f s1 q => ?_)
  cases f with
  | next =>
    obtain ⟨σ', H', I', q⟩ := q
    exact h2 pins s1 σ' H' D I' q
  | ret v => exact q
  | brk => exact q
  | cont => exact q
theorem pss_one (h1 : PS X st t) : PSs X [st] t := by
  intro pins s σ H D I h
  refine wpAny_execs_cons (thn (h1 pins s σ H D I h) fun f s1 q => ?_)
  cases f with
  | next => exact wpAny_execs_nil q
  | ret v => exact q
  | brk => exact q
  | cont => exact q
/-- in a def's body nothing is shown -/
theorem Inv.quiet {pins : List (Addr × Obj)} {σ : St} {H : Hp} {s : Shared} (I : Inv X pins σ H s) : interactive X.env = false := by simp [interactive, I.ok.kind]
/-- an expression whose value is dropped -/
def tDrop (te : TE) : TS := fun D σ H => te σ H fun _ H1 => D.nx σ H1
theorem ps_expr (he : PE X e te) (hs : swapsWith e none pos.line X.env = pure false := by rfl) : PS X (.Expr e pos) (tDrop te) := by
  intro pins s σ H D I h
  exact wpAny_Expr_any (thn (he pins s σ H _ I h) fun v s1 ⟨x, H1, I1, r1, q1⟩ => ⟨σ, H1, I1, q1⟩) I.quiet hs
def tRet (te : TE) : TS := fun D σ H => te σ H D.rt
theorem ps_ret (he : PE X e te) : PS X (.Return (some e) pos) (tRet te) := by
  intro pins s σ H D I h
  exact wpAny_Return_some (thn (he pins s σ H _ I h) fun v s1 ⟨x, H1, I1, r1, q1⟩ => ⟨x, σ, H1, I1, r1, q1⟩)
def tIfS (c : TT) (t u : TS) : TS := fun D σ H => c σ H fun b H1 => if b = true then t D σ H1 else u D σ H1
theorem ps_if {c : Expr} {a b : List Stmt} {tc : TT} (hc : PT X c tc) (ha : PSs X a t) (hb : PSs X b u) : PS X (.If c a b pos) (tIfS tc t u) := by
  intro pins s σ H D I h
  refine wpAny_If (thn (hc pins s σ H _ I h) fun d s1 ⟨H1, I1, q1⟩ => ?_)
  cases d with
  | true => exact ha pins s1 σ H1 D I1 q1
  | false => exact hb pins s1 σ H1 D I1 q1
/-- code that the proof never comes to -/
def tNever : TS := fun _ _ _ => False
theorem ps_never : PS X st tNever := fun _ _ _ _ _ _ h => h.elim
end

/-! ### targets -/
abbrev TG := V → St → Hp → (St → Hp → Prop) → Prop
def PG (X : Cx) (target : Expr) (t : TG) : Prop :=
  ∀ (pins : List (Addr × Obj)) (s : Shared) (σ : St) (H : Hp) (v : V) (u : Value) (Q : St → Hp → Prop), Inv X pins σ H s → RelV v u → t v σ H Q →
    wpAny (model X.prog X.w) X.A (assign target X.env u) (fun _ s' => ∃ σ' H', Inv X pins σ' H' s' ∧ Q σ' H') X.xe s
/-- o[i] = v, by values -/
abbrev TSet := V → V → V → Hp → (Hp → Prop) → Prop
def PSet (X : Cx) (t : TSet) : Prop :=
  ∀ (pins : List (Addr × Obj)) (s : Shared) (σ : St) (H : Hp) (o i v : V) (ov iv u : Value) (Q : Hp → Prop), Inv X pins σ H s → RelV o ov → RelV i iv → RelV v u → t o i v H Q →
    wpAny (model X.prog X.w) X.A (setItem ov iv u) (fun _ s' => ∃ H', Inv X pins σ H' s' ∧ Q H') X.xe s
/-- a op= b, by values -/
abbrev TIp := V → V → Hp → VK → Prop
def PIp (X : Cx) (op : Operator) (t : TIp) : Prop :=
  ∀ (pins : List (Addr × Obj)) (s : Shared) (σ : St) (H : Hp) (x y : V) (v u : Value) (Q : VK), Inv X pins σ H s → RelV x v → RelV y u → t x y H Q →
    wpAny (model X.prog X.w) X.A (inplaceOp op v u) (EP X pins σ Q) X.xe s
section
variable {X : Cx} {pos : Pos}
def gName (i : Nat) : TG := fun v σ H Q => Q (σ.set i (some v)) H
theorem pg_name {i : Nat} {x : Str} (hN : X.N.Nodup) (hi : X.N[i]? = some x) (hx : Loc X.env.scope x) (hf : X.fn x = true ∨ X.env.scope.names.lookup x = some .local := by first | exact .inl rfl | exact .inr rfl | assumption) : PG X (.Name x pos) (gName i) := by
  intro pins s σ H v u Q I r h
  exact wpAny_assign_Name (store_ok I hN hi hx r (fun s' I' => ⟨_, H, I', h⟩) hf)
/-- o[i] = .. -/
def gSub (to ti : TE) (t : TSet) : TG := fun v σ H Q => to σ H fun o H1 => ti σ H1 fun i H2 => t o i v H2 fun H3 => Q σ H3
theorem pg_sub {o i : Expr} {to ti : TE} {t : TSet} (ho : PE X o to) (hi : PE X i ti) (hs : PSet X t)
    (ha : ∀ v, assign (.Subscript o i pos) X.env v = (do
      let ov ← holding [v] (eval o X.env)
      let iv ← holding [v, ov] (eval i X.env)
      standAt pos
      holding [v, ov, iv] (setItem ov iv v)
      release [v, ov, iv] []) := by intro _; rfl) : PG X (.Subscript o i pos) (gSub to ti t) := by
  intro pins s σ H v u Q I r h
  rw [ha]
  refine wpAny_bind (wpAny_holding (thn (ho pins s σ H _ I h) fun ov s1 ⟨x, H1, I1, r1, q1⟩ => ?_))
  refine wpAny_bind (wpAny_holding (thn (hi pins s1 σ H1 _ I1 q1) fun iv s2 ⟨y, H2, I2, r2, q2⟩ => ?_))
  refine wpAny_bind (wpAny_standAt (wpAny_bind (wpAny_holding (thn (hs pins s2 σ H2 x y v ov iv u _ I2 r1 r2 r q2) fun _ s3 ⟨H3, I3, q3⟩ => ?_))))
  exact wpAny_release ⟨σ, H3, I3, q3⟩
/-- target = value -/
def tAsg (te : TE) (g : TG) : TS := fun D σ H => te σ H fun x H1 => g x σ H1 D.nx
theorem ps_asg {tg e : Expr} {te : TE} {g : TG} (he : PE X e te) (hg : PG X tg g) (hs : swapsWithSole [tg] e pos.line X.env = pure false := by rfl) (hw : swappedStores [tg] e X.env = pure none := by rfl)
    (h1 : (assignEach [tg] X.env).map (·.2) = [assign tg X.env] := by rfl) : PS X (.Assign [tg] e pos) (tAsg te g) := by
  intro pins s σ H D I h
  refine wpAny_Assign_stores (thn (he pins s σ H _ I h) fun v s1 ⟨x, H1, I1, r1, q1⟩ => ?_) hs hw
  rw [h1]
  exact thn (hg pins s1 σ H1 x v _ I1 r1 q1) fun _ s2 q => q
/-- name = value -/
theorem ps_set {i : Nat} {x : Str} {e : Expr} {te : TE} {pos' : Pos} (hN : X.N.Nodup) (hi : X.N[i]? = some x) (hx : Loc X.env.scope x) (he : PE X e te) (hs : swapsWith e (some (.Name x pos')) pos.line X.env = pure false := by rfl) (hf : X.fn x = true ∨ X.env.scope.names.lookup x = some .local := by first | exact .inl rfl | exact .inr rfl | assumption) :
    PS X (.Assign [.Name x pos'] e pos) (tAsg te (gName i)) := by
  intro pins s σ H D I h
  refine wpAny_Assign_Name (thn (he pins s σ H _ I h) fun v s1 ⟨y, H1, I1, r1, q1⟩ => ?_) hs
  exact store_ok I1 hN hi hx r1 (fun s2 I2 => ⟨_, H1, I2, q1⟩) hf
/-- name op= e -/
def tAug (i : Nat) (te : TE) (ti : TIp) : TS := fun D σ H => ∃ x, σ[i]? = some (some x) ∧ te σ H fun y H1 => ti x y H1 fun z H2 => D.nx (σ.set i (some z)) H2
theorem ps_aug {i : Nat} {x : Str} {e : Expr} {te : TE} {op : Operator} {ti : TIp} {pos' : Pos} (hN : X.N.Nodup) (hi : X.N[i]? = some x) (hx : Loc X.env.scope x) (he : PE X e te) (ho : PIp X op ti) (hf : X.fn x = true ∨ X.env.scope.names.lookup x = some .local := by first | exact .inl rfl | exact .inr rfl | assumption) :
    PS X (.AugAssign (.Name x pos') op e pos) (tAug i te ti) := by
  intro pins s σ H D I h
  obtain ⟨v, e1, h⟩ := h
  obtain ⟨m, hn, hl⟩ := I.loc
  have vis : Vis X.env.scope x := by rcases hx with k | k; exact .inl k; exact .inr (.inl k)
  obtain ⟨u, r, l⟩ := hl i x v hi e1 vis
  refine wpAny_AugAssign_Name ?_
  have go : wpAny (model X.prog X.w) X.A (eval e X.env) (fun w s₂ => wpAny (model X.prog X.w) X.A (inplaceOp op u w) (fun r s₃ => wpAny (model X.prog X.w) X.A (storeName X.env x r) (fun _ => SP X pins D .next) X.xe s₃) X.xe s₂) X.xe s := by
    refine thn (he pins s σ H _ I h) fun w s1 ⟨y, H1, I1, r1, q1⟩ => ?_
    refine thn (ho pins s1 σ H1 v y u w _ I1 r r1 q1) fun z s2 ⟨zv, H2, I2, r2, q2⟩ => ?_
    exact store_ok I2 hN hi hx r2 (fun s3 I3 => ⟨_, H2, I3, q2⟩) hf
  rcases l with ⟨hk, hm⟩ | ⟨hk, c, hc, hcell⟩
  · exact wpAny_loadName_local I.ok.kind hk hn hm go
  · rcases hk with hk | hk
    · exact wpAny_loadName_cell I.ok.kind hk hc hcell go
    · rcases hx with k | k
      · have : X.env.scope.names.lookup x = some .free := hk
        rw [k] at this; cases this
      · have : X.env.scope.names.lookup x = some .free := hk
        rw [k] at this; cases this
end

/-! ### while -/
section
variable {X : Cx} {pos : Pos}
/-- the invariant W with its measure -/
def tWhile (c : TT) (tb : TS) : TS := fun D σ H => ∃ W : Nat → St → Hp → Prop, (∃ m, W m σ H) ∧ ∀ m σ H, W m σ H →
  c σ H fun b H1 => if b = true then ∃ N : St → Hp → Prop, (∀ σ' H', N σ' H' → ∃ m', m' < m ∧ W m' σ' H') ∧ tb { D with nx := N, ct := N, bk := D.nx } σ H1 else D.nx σ H1
theorem ps_while {c : Expr} {body : List Stmt} {tc : TT} {tb : TS} (hp : PassesOwn (model X.prog X.w) X.A X.env X.xe) (hc : PT X c tc) (hb : PSs X body tb) : PS X (.While c body [] pos) (tWhile tc tb) := by
  intro pins s σ H D I h
  obtain ⟨W, ⟨m0, w0⟩, turn⟩ := h
  refine wpAny_While (codeAny_whileLoop (fun n s' => ∃ σ' H', Inv X pins σ' H' s' ∧ W n σ' H') ?_ m0 ⟨σ, H, I, w0⟩)
  rintro n s1 ⟨σ1, H1, I1, w1⟩
  refine wpAny_passesOwn hp (thn (hc pins s1 σ1 H1 _ I1 (turn n σ1 H1 w1)) fun b s2 ⟨H2, I2, q2⟩ => ?_)
  cases b with
  | true =>
    obtain ⟨N, hN, q2⟩ := q2
    rw [if_pos rfl]
    refine wpAny_passesOwn hp (thn (hb pins s2 σ1 H2 _ I2 q2) fun f s3 q3 => ?_)
    cases f with
    | next =>
      obtain ⟨σ3, H3, I3, n3⟩ := q3
      obtain ⟨m', hm, w3⟩ := hN σ3 H3 n3
      exact ⟨m', hm, σ3, H3, I3, w3⟩
    | cont =>
      obtain ⟨σ3, H3, I3, n3⟩ := q3
      obtain ⟨m', hm, w3⟩ := hN σ3 H3 n3
      exact ⟨m', hm, σ3, H3, I3, w3⟩
    | brk => exact q3
    | ret v => exact q3
  | false =>
    rw [if_neg Bool.false_ne_true]
    exact wpAny_execs_nil ⟨σ1, H2, I2, q2⟩
end

/-! ### what a loop or a comprehension walks -/
/-- at turn i: it yields x (the heap may grow), or it stops -/
structure It where
  go : Nat → Hp → Prop
  yld : Nat → Hp → V → Hp → Prop
  stop : Nat → Hp → Prop
/-- the iterator's own objects may turn: they are not the frame's, not pinned, younger than the entry (or a comprehension's own) -/
def FpOk (X : Cx) (pins : List (Addr × Obj)) (H : Hp) (b : Addr) : Prop :=
  H b = none ∧ b ≠ X.env.locals ∧ b ∉ X.fs ∧ (b ∈ X.ex ∨ X.s_0.heap.objs.size ≤ b) ∧ (∀ x c, X.env.cells.lookup x = some c → c ≠ b) ∧ ∀ p ∈ X.pn ++ pins, p.1 ≠ b
theorem Inv.fpOk {X : Cx} {pins : List (Addr × Obj)} {σ : St} {H H' : Hp} {s : Shared} {b : Addr} (I : Inv X pins σ H s) (hb : s.heap.objs.size ≤ b) (hn : H' b = none) : FpOk X pins H' b := by
  refine ⟨hn, Nat.ne_of_gt (Nat.lt_of_lt_of_le I.lt hb), I.nofs hb, .inr (Nat.le_trans I.sz hb), fun x c e z => ?_, fun p hp z => ?_⟩
  · obtain ⟨v, q⟩ := I.cell x c e
    exact absurd (Nat.lt_of_lt_of_le q.lt (by rw [z]; exact hb)) (Nat.lt_irrefl _)
  · exact absurd (Nat.lt_of_lt_of_le (Heap.lt_size (I.pin p hp).1) (by rw [z]; exact hb)) (Nat.lt_irrefl _)
structure Turn (P : Program) (w : World) (K : PySem.W.Frag) (tg : Expr) (J : It) (fp : List Addr) (it : Addr) (tn : Nat → Heap → Prop) : Prop where
  mem : it ∈ fp
  obj : ∀ i h, tn i h → ∀ b ∈ fp, ∃ o, h.get? b = some o ∧ ∀ v, o.data ≠ .cell v
  keep : ∀ i h h', tn i h → (∀ b ∈ fp, ∀ o, h.get? b = some o → h'.get? b = some o) → tn i h'
  item : ∀ (X : Cx), X.prog = P → X.w = w → X.K = K → X.calm = true → ∀ (i : Nat) (pins : List (Addr × Obj)) (s : Shared) (σ : St) (H : Hp) (E : Value → Shared → Prop), Inv X pins σ H s → (∀ b ∈ fp, FpOk X pins H b) → tn i s.heap → J.go i H →
    wpAny (model P w) X.A (pyNext (.ref it)) (fun r s1 => ∃ u, r = some u ∧
      wpAny (model P w) X.A (letOwnedTupleGo tg (.ref it) u) (fun _ s2 => ∃ x H', Inv X pins σ H' s2 ∧ RelV x u ∧ J.yld i H x H' ∧ tn (i + 1) s2.heap ∧ ∀ b ∈ fp, H' b = none) E s1) E s
  done : ∀ (X : Cx), X.prog = P → X.w = w → X.K = K → X.calm = true → ∀ (i : Nat) (pins : List (Addr × Obj)) (s : Shared) (σ : St) (H : Hp) (E : Value → Shared → Prop), Inv X pins σ H s → (∀ b ∈ fp, FpOk X pins H b) → tn i s.heap → J.stop i H →
    wpAny (model P w) X.A (pyNext (.ref it)) (fun r s1 => r = none ∧ Inv X pins σ H s1) E s
  self : ∀ (A : Around) (i : Nat) (s : Shared) (Q : Value → Shared → Prop) (E : Value → Shared → Prop), tn i s.heap → Q (.ref it) s → wpAny (model P w) A (pyIter (.ref it)) Q E s
abbrev TI := St → Hp → (It → Hp → Prop) → Prop
/-- an iterator has come -/
def PIE (X : Cx) (pins : List (Addr × Obj)) (σ : St) (tg : Expr) (R : It → Hp → Prop) (itv : Value) (s2 : Shared) : Prop :=
  ∃ (it : Addr) (fp : List Addr) (tn : Nat → Heap → Prop) (J : It) (H' : Hp), itv = .ref it ∧ Inv X pins σ H' s2 ∧ Turn X.prog X.w X.K tg J fp it tn ∧ tn 0 s2.heap ∧ (∀ b ∈ fp, FpOk X pins H' b) ∧ R J H'
def PI (X : Cx) (tg iter : Expr) (wi : TI) : Prop :=
  ∀ (pins : List (Addr × Obj)) (s : Shared) (σ : St) (H : Hp) (R : It → Hp → Prop), Inv X pins σ H s → wi σ H R →
    wpAny (model X.prog X.w) X.A (eval iter X.env) (fun v s1 => wpAny (model X.prog X.w) X.A (pyIter v) (PIE X pins σ tg R) X.xe s1) X.xe s

/-- the step ahead of the store is nothing for an iterator that keeps no tuple -/
theorem go_of {M : Model} {A : Around} {E : Value → Shared → Prop} {s : Shared} {tg : Expr} {it : Addr} {u : Value} {o : Obj} {n : String} {vs : Array Value} {Q : Unit → Shared → Prop} (ho : s.heap.get? it = some o) (hc : o.cls = .type n) (hd : o.data = .fields vs)
    (hn : ["enumerate", "zip", "dict_itemiterator", "dict_reverseitemiterator", "odict_iterator", "itertools.zip_longest", "itertools.pairwise"].contains n = false) (hQ : Q () s) : wpAny M A (letOwnedTupleGo tg (.ref it) u) Q E s := by
  unfold letOwnedTupleGo
  cases tg <;> first
    | exact wpAny_pure hQ
    | (cases u <;> first
        | exact wpAny_pure hQ
        | (refine wpAny_bind (wpAny_load ho ?_)
           rw [hc, hd]
           show wpAny M A (if (["enumerate", "zip", "dict_itemiterator", "dict_reverseitemiterator", "odict_iterator", "itertools.zip_longest", "itertools.pairwise"].contains n && vs[0]? == some (rawInt _)) = true then _ else _) Q E s
           rw [if_neg (by intro h; rw [hn, Bool.false_and] at h; cases h)]
           exact wpAny_pure hQ))

/-- lo, lo + 1, .. (n of them) -/
def Itr (lo : Int) (n : Nat) : It := ⟨fun i _ => i < n, fun i H x H' => H' = H ∧ x = .int (lo + i), fun i _ => n ≤ i⟩
theorem turn_range {P : Program} {w : World} {K : PySem.W.Frag} {tg : Expr} (it : Addr) (lo : Int) (n : Nat) : Turn P w K tg (Itr lo n) [it] it (fun i h => IsRangeIter h it (lo + (i : Nat) * 1) ((n : Int) - (i : Nat)) 1) where
  mem := by simp
  obj := fun i h st b hb => by
    have e : b = it := by simpa using hb
    subst e
    exact ⟨_, st, fun v z => by
      have z' : Data.fields _ = Data.cell v := z
      cases z'⟩
  keep := fun i h h' st k => k it (by simp) _ st
  item := by
    intro X hP hw hK hc i pins s σ H E I hf st hg
    subst hP hw hK
    obtain ⟨f0, f1, f2, f3, f4, f5⟩ := hf it (by simp)
    have W := Walks.range (prog := X.prog) (w := X.w) (I.ok.hd hc) it lo 1 n
    refine W.item i s _ _ hg st fun v h' tk hv st' kk => ?_
    obtain ⟨t, rfl⟩ := hv
    have I1 : Inv X pins σ H { s with heap := h', toks := tk } := I.turned (fun b o hb e => kk b o (by simpa using hb) e) f0 f1 f3 f4 f5
    refine ⟨_, rfl, go_of (s := { s with heap := h', toks := tk }) (n := "range_iterator") st' rfl rfl (by decide) ⟨.int (lo + i), H, I1, ⟨t, ?_⟩, ⟨rfl, rfl⟩, st', fun b hb => (hf b hb).1⟩⟩
    rw [Int.mul_one]
  done := by
    intro X hP hw hK hc i pins s σ H E I hf st hg
    subst hP hw hK
    obtain ⟨f0, f1, f2, f3, f4, f5⟩ := hf it (by simp)
    exact wpAny_pyNext_range_end (I.ok.hd hc) st (by have : n ≤ i := hg; omega) fun h' eb => ⟨rfl, I.turned (t' := s.toks) (fun b o hb e => eb b o hb e) f0 f1 f3 f4 f5⟩
  self := fun _ _ _ _ _ st h => wpAny_pyIter_rangeiter st h
end L2

namespace L2
open PySem PySem.Spec PyProof.Rows
section
variable {X : Cx} {tg : Expr}
/-- a range object just made, walked -/
theorem range_it {pins : List (Addr × Obj)} {σ : St} {H : Hp} {s : Shared} {R : It → Hp → Prop} {E : Value → Shared → Prop} {lo hi : Int} {t u v : Tok} {tk : Nat} (I : Inv X pins σ H s) (h1 : -(2 ^ 62) ≤ lo) (h2 : lo < 2 ^ 62) (h3 : -(2 ^ 62) ≤ hi) (h4 : hi < 2 ^ 62)
    (q : R (Itr lo (hi - lo).toNat) H) : wpAny (model X.prog X.w) X.A (pyIter (.ref s.heap.objs.size)) (PIE X pins σ tg R) E { s with heap := s.heap.push { cls := .type "range", data := .fields #[.int lo t, .int hi u, .int 1 v] }, toks := tk } := by
  refine wpAny_pyIter_range (IsRange.new ..) (small_one h1 h2 h3 h4) ?_
  have I1 : Inv X pins σ H { s with heap := s.heap.push { cls := .type "range", data := .fields #[.int lo t, .int hi u, .int 1 v] }, toks := tk } := I.kept fun b o e => Heap.get?_push_of_some _ e
  refine ⟨(s.heap.push { cls := .type "range", data := .fields #[.int lo t, .int hi u, .int 1 v] }).objs.size, [(s.heap.push { cls := .type "range", data := .fields #[.int lo t, .int hi u, .int 1 v] }).objs.size], _, _, H, rfl,
    I1.kept (t' := tk) fun b o e => Heap.get?_push_of_some _ e, turn_range _ lo (hi - lo).toNat, ?_, fun b hb => ?_, q⟩
  · have e1 : lo + ((0 : Nat) : Int) * 1 = lo := by simp
    have e2 : (((hi - lo).toNat : Nat) : Int) - ((0 : Nat) : Int) = Builtin.Range.rangeSize lo hi 1 := by rw [rangeSize_one]; split <;> omega
    show IsRangeIter _ _ (lo + ((0 : Nat) : Int) * 1) ((((hi - lo).toNat : Nat) : Int) - ((0 : Nat) : Int)) 1
    rw [e1, e2]
    exact Heap.get?_push_size _ rfl
  · have e : b = (s.heap.push { cls := .type "range", data := .fields #[.int lo t, .int hi u, .int 1 v] }).objs.size := by simpa using hb
    subst e
    exact I1.fpOk (Nat.le_refl _) (I1.hok.fresh (Nat.le_refl _))
def iRng1 (ta : TA) : TI := fun σ H R => ta σ H fun vs H1 => ∃ j : Int, vs = [.int j] ∧ -(2 ^ 62) ≤ j ∧ j < 2 ^ 62 ∧ R (Itr 0 j.toNat) H1
def iRng2 (ta : TA) : TI := fun σ H R => ta σ H fun vs H1 => ∃ i j : Int, vs = [.int i, .int j] ∧ (-(2 ^ 62) ≤ i ∧ i < 2 ^ 62 ∧ -(2 ^ 62) ≤ j ∧ j < 2 ^ 62) ∧ R (Itr i (j - i).toNat) H1
theorem pi_range1 {a : Expr} {ta : TA} {p pos : Pos} (hg : Gl X "range") (hm : X.mg "range" = none) (ha : PA X [a] ta) (hs : starEach [a] X.env = [(false, eval a X.env)] := by rfl) : PI X tg (.Call (.Name "range" p) [a] [] pos) (iRng1 ta) := by
  intro pins s σ H R I h
  refine Call_ (ld_blt I hg hm boot_range (PyProof.Rows.callWith_type1 (thn (ha pos pins s σ H _ I h) fun us s1 ⟨vs, H1, I1, r1, q1⟩ => ?_) hs rfl))
  obtain ⟨j, e, q1, q2, q⟩ := q1
  subst e
  cases r1 with
  | cons r rr =>
    cases rr
    obtain ⟨t, rfl⟩ := r
    exact call_range_1 (range_it I1 (by omega) (by omega) q1 q2 (by simpa using q))
theorem pi_range2 {a b : Expr} {ta : TA} {p pos : Pos} (hg : Gl X "range") (hm : X.mg "range" = none) (ha : PA X [a, b] ta) (hs : starEach [a, b] X.env = [(false, eval a X.env), (false, eval b X.env)] := by rfl) (hs2 : starEach [b] X.env = [(false, eval b X.env)] := by rfl) :
    PI X tg (.Call (.Name "range" p) [a, b] [] pos) (iRng2 ta) := by
  intro pins s σ H R I h
  refine Call_ (ld_blt I hg hm boot_range (PyProof.Rows.callWith_type1 (thn (ha pos pins s σ H _ I h) fun us s1 ⟨vs, H1, I1, r1, q1⟩ => ?_) (by rw [hs, hs2]) (by rw [hs2]; rfl)))
  obtain ⟨i, j, e, ⟨q1, q2, q3, q4⟩, q⟩ := q1
  subst e
  cases r1 with
  | cons r rr =>
    cases rr with
    | cons r' rr =>
      cases rr
      obtain ⟨t, rfl⟩ := r
      obtain ⟨t', rfl⟩ := r'
      exact call_range_2 (range_it I1 q1 q2 q3 q4 q)

/-! ### for -/
/-- W: the invariant by the turn and a measure; N: what the body is to reach -/
def tFor (wi : TI) (g : TG) (tb : TS) : TS := fun D σ H => wi σ H fun J H1 => ∃ W : Nat → Nat → St → Hp → Prop, (∃ m, W 0 m σ H1) ∧ ∀ i m σ H, W i m σ H →
  (J.stop i H ∧ D.nx σ H) ∨ (J.go i H ∧ ∃ N : St → Hp → Prop, (∀ σ' H', N σ' H' → ∃ m', m' < m ∧ W (i + 1) m' σ' H') ∧ ∀ x H', J.yld i H x H' → g x σ H' fun σ2 H2 => tb { D with nx := N, ct := N, bk := D.nx } σ2 H2)
/-- the records at fp as they stand -/
def pinsAt (fp : List Addr) (h : Heap) : List (Addr × Obj) := fp.filterMap fun b => (h.get? b).map fun o => (b, o)
theorem mem_pinsAt {fp : List Addr} {h : Heap} {b : Addr} {o : Obj} (hb : b ∈ fp) (e : h.get? b = some o) : (b, o) ∈ pinsAt fp h := List.mem_filterMap.mpr ⟨b, hb, by rw [e]; rfl⟩
theorem of_pinsAt {fp : List Addr} {h : Heap} {p : Addr × Obj} (hp : p ∈ pinsAt fp h) : p.1 ∈ fp ∧ h.get? p.1 = some p.2 := by
  obtain ⟨b, hb, e⟩ := List.mem_filterMap.mp hp
  cases q : h.get? b with
  | none => rw [q] at e; cases e
  | some o =>
    rw [q] at e
    have e' : (b, o) = p := Option.some.inj e
    subst e'
    exact ⟨hb, q⟩
theorem Inv.pinned {pins : List (Addr × Obj)} {σ : St} {H : Hp} {s : Shared} {fp : List Addr} (I : Inv X pins σ H s) (hf : ∀ b ∈ fp, FpOk X pins H b) (ho : ∀ b ∈ fp, ∃ o, s.heap.get? b = some o ∧ ∀ v, o.data ≠ .cell v) : Inv X (pins ++ pinsAt fp s.heap) σ H s :=
  I.pins_of fun p hp => (List.mem_append.mp hp).elim (fun z => I.pin p (List.mem_append_right _ z)) fun z => by
    obtain ⟨hb, e⟩ := of_pinsAt z
    obtain ⟨f0, f1, f2, _⟩ := hf p.1 hb
    obtain ⟨o, e', d⟩ := ho p.1 hb
    rw [e] at e'; cases e'
    exact ⟨e, f0, f1, f2, d⟩
theorem Inv.unpinned {pins pl : List (Addr × Obj)} {σ : St} {H : Hp} {s : Shared} (I : Inv X (pins ++ pl) σ H s) : Inv X pins σ H s := I.pins_of fun p hp => I.pin p (List.mem_append_right _ (List.mem_append_left _ hp))
theorem ps_for {iter : Expr} {body : List Stmt} {wi : TI} {g : TG} {tb : TS} {pos : Pos} (hp : PassesOwn (model X.prog X.w) X.A X.env X.xe) (hc : X.calm = true) (hi : PI X tg iter wi) (hg : PG X tg g) (hb : PSs X body tb)
    (hs : ∀ x, foldedSetIterable iter X.env x = pure x := by intro _; rfl) : PS X (.For tg iter body [] pos) (tFor wi g tb) := by
  intro pins s σ H D I h
  refine wpAny_For (thn (hi pins s σ H _ I h) fun v s1 h1 => thn h1 fun itv s2 h2 => ?_) hs
  obtain ⟨it, fp, tn, J, H2, e, I2, T, st2, f2, W, ⟨m0, w0⟩, turn⟩ := h2
  subst e
  -- what stays true of the iterator's objects through the loop
  have stat : ∀ {H' : Hp}, (∀ b ∈ fp, H' b = none) → ∀ b ∈ fp, FpOk X pins H' b := fun hn b hb => ⟨hn b hb, (f2 b hb).2⟩
  refine codeAny_forLoop_any (fun n s' => ∃ i σ' H', Inv X pins σ' H' s' ∧ tn i s'.heap ∧ (∀ b ∈ fp, H' b = none) ∧ W i n σ' H') ?_ m0 ⟨0, σ, H2, I2, st2, fun b hb => (f2 b hb).1, w0⟩
  rintro n s3 ⟨i, σ3, H3, I3, st3, fr3, w3⟩
  rcases turn i n σ3 H3 w3 with ⟨stop, qn⟩ | ⟨go, N, hN, step⟩
  · refine wpAny_passesOwn hp (thn (T.done X rfl rfl rfl hc i pins s3 σ3 H3 X.xe I3 (stat fr3) st3 stop) fun r s4 ⟨hr, I4⟩ => ?_)
    subst hr
    exact wpAny_execs_nil ⟨σ3, H3, I4, qn⟩
  · refine wpAny_passesOwn hp (thn (T.item X rfl rfl rfl hc i pins s3 σ3 H3 X.xe I3 (stat fr3) st3 go) fun r s4 ⟨u, hr, h4⟩ => ?_)
    subst hr
    refine wpAny_passesOwn hp (thn h4 fun _ s5 ⟨x, H5, I5, r5, y5, st5, fr5⟩ => ?_)
    have I5' := I5.pinned (stat fr5) (T.obj _ _ st5)
    refine wpAny_passesOwn hp (thn (hg _ s5 σ3 H5 x u _ I5' r5 (step x H5 y5)) fun _ s6 ⟨σ6, H6, I6, q6⟩ => ?_)
    refine wpAny_passesOwn hp (thn (hb _ s6 σ6 H6 _ I6 q6) fun f s7 q7 => ?_)
    have again : ∀ {σ7 : St} {H7 : Hp}, Inv X (pins ++ pinsAt fp s5.heap) σ7 H7 s7 → N σ7 H7 → ∃ m, m < n ∧ ∃ i σ' H', Inv X pins σ' H' s7 ∧ tn i s7.heap ∧ (∀ b ∈ fp, H' b = none) ∧ W i m σ' H' := fun {σ7 H7} I7 n7 => by
      obtain ⟨m', hm, w7⟩ := hN σ7 H7 n7
      refine ⟨m', hm, i + 1, σ7, H7, I7.unpinned, T.keep _ _ _ st5 fun b hb o e => (I7.pin (b, o) (List.mem_append_right _ (List.mem_append_right _ (mem_pinsAt hb e)))).1, fun b hb => ?_, w7⟩
      obtain ⟨o, e, d⟩ := T.obj _ _ st5 b hb
      exact (I7.pin (b, o) (List.mem_append_right _ (List.mem_append_right _ (mem_pinsAt hb e)))).2.1
    cases f with
    | next => obtain ⟨σ7, H7, I7, n7⟩ := q7; exact again I7 n7
    | cont => obtain ⟨σ7, H7, I7, n7⟩ := q7; exact again I7 n7
    | brk => obtain ⟨σ7, H7, I7, q7⟩ := q7; exact ⟨σ7, H7, I7.unpinned, q7⟩
    | ret v => obtain ⟨x7, σ7, H7, I7, r7, q7⟩ := q7; exact ⟨x7, σ7, H7, I7.unpinned, r7, q7⟩
end

/-! ### the forms one uses -/
theorem for_range {lo : Int} {n : Nat} {g : TG} {tb : TS} {D : Ends} {σ : St} {H : Hp} (Pv : Nat → St → Hp → Prop) (h0 : Pv 0 σ H)
    (hs : ∀ i σ H, i < n → Pv i σ H → g (.int (lo + i)) σ H fun σ2 H2 => tb { D with nx := Pv (i + 1), ct := Pv (i + 1), bk := D.nx } σ2 H2) (hd : ∀ σ H, Pv n σ H → D.nx σ H) :
    ∃ W : Nat → Nat → St → Hp → Prop, (∃ m, W 0 m σ H) ∧ ∀ i m σ H, W i m σ H →
      ((Itr lo n).stop i H ∧ D.nx σ H) ∨ ((Itr lo n).go i H ∧ ∃ N : St → Hp → Prop, (∀ σ' H', N σ' H' → ∃ m', m' < m ∧ W (i + 1) m' σ' H') ∧ ∀ x H', (Itr lo n).yld i H x H' → g x σ H' fun σ2 H2 => tb { D with nx := N, ct := N, bk := D.nx } σ2 H2) := by
  refine ⟨fun i m σ H => m = n - i ∧ i ≤ n ∧ Pv i σ H, ⟨n, by simp, Nat.zero_le _, h0⟩, ?_⟩
  rintro i m σ H ⟨rfl, hi, p⟩
  by_cases hlt : i < n
  · refine .inr ⟨hlt, Pv (i + 1), fun σ' H' p' => ⟨n - (i + 1), by omega, rfl, hlt, p'⟩, fun x H' y => ?_⟩
    obtain ⟨e, y⟩ := y
    subst e y
    exact hs i σ _ hlt p
  · have e : i = n := by omega
    subst e
    exact .inl ⟨Nat.le_refl _, hd σ H p⟩
/-- while, by a word and a measure of the state -/
theorem while_by {c : TT} {tb : TS} {D : Ends} {σ : St} {H : Hp} (Pv : St → Hp → Prop) (μ : St → Hp → Nat) (h0 : Pv σ H)
    (hs : ∀ σ H, Pv σ H → c σ H fun b H1 => if b = true then tb { D with nx := fun σ' H' => Pv σ' H' ∧ μ σ' H' < μ σ H, ct := fun σ' H' => Pv σ' H' ∧ μ σ' H' < μ σ H, bk := D.nx } σ H1 else D.nx σ H1)
    (mono : ∀ σ H Q Q', (∀ b H1, Q b H1 → Q' b H1) → c σ H Q → c σ H Q') : tWhile c tb D σ H := by
  refine ⟨fun m σ H => m = μ σ H ∧ Pv σ H, ⟨_, rfl, h0⟩, ?_⟩
  rintro m σ H ⟨rfl, p⟩
  refine mono σ H _ _ (fun b H1 q => ?_) (hs σ H p)
  cases b with
  | true => exact ⟨_, fun σ' H' ⟨p', l⟩ => ⟨_, l, rfl, p'⟩, q⟩
  | false => exact q
end L2

namespace L2
open PySem PySem.Spec PyProof.Rows

abbrev R2 := V → V → Hp → VK → Prop
/-- a two-place operation on values: f is binaryOp op, inplaceOp op or compareOp op -/
def OpR (X : Cx) (f : Value → Value → Sem Value) (r : R2) : Prop :=
  ∀ (pins : List (Addr × Obj)) (s : Shared) (σ : St) (H : Hp) (x y : V) (v u : Value) (Q : VK), Inv X pins σ H s → RelV x v → RelV y u → r x y H Q →
    wpAny (model X.prog X.w) X.A (f v u) (EP X pins σ Q) X.xe s
/-- a one-place operation -/
def UnR (X : Cx) (f : Value → Sem Value) (r : V → Hp → VK → Prop) : Prop :=
  ∀ (pins : List (Addr × Obj)) (s : Shared) (σ : St) (H : Hp) (x : V) (v : Value) (Q : VK), Inv X pins σ H s → RelV x v → r x H Q →
    wpAny (model X.prog X.w) X.A (f v) (EP X pins σ Q) X.xe s
/-- a call of a value that is known (a builtin, a type) with values -/
def CallR (X : Cx) (f : Value) (r : List V → Hp → VK → Prop) : Prop :=
  ∀ (pins : List (Addr × Obj)) (s : Shared) (σ : St) (H : Hp) (xs : List V) (us : List Value) (Q : VK), Inv X pins σ H s → Vals xs us → r xs H Q →
    wpAny (model X.prog X.w) X.A (call f us) (EP X pins σ Q) X.xe s

def tOp (r : R2) (ta tb : TE) : TE := fun σ H Q => ta σ H fun x H1 => tb σ H1 fun y H2 => r x y H2 Q
def tUn (r : V → Hp → VK → Prop) (ta : TE) : TE := fun σ H Q => ta σ H fun x H1 => r x H1 Q
/-- ints in, under C, and a value out -/
def rI (C : Int → Int → Prop) (g : Int → Int → V) : R2 := fun x y H Q => ∃ i j, x = .int i ∧ y = .int j ∧ C i j ∧ Q (g i j) H
def rI0 (g : Int → Int → V) : R2 := fun x y H Q => ∃ i j, x = .int i ∧ y = .int j ∧ Q (g i j) H
def rU (g : Int → V) : V → Hp → VK → Prop := fun x H Q => ∃ i, x = .int i ∧ Q (g i) H

section
variable {X : Cx} {a b c : Expr} {ta tb tc : TE} {pos : Pos}

theorem binT (ha : PE X a ta) (hb : PE X b tb) {pins : List (Addr × Obj)} {s : Shared} {σ : St} {H : Hp} {R : V → V → Hp → Prop} (I : Inv X pins σ H s)
    (h : ta σ H fun x H1 => tb σ H1 fun y H2 => R x y H2) {Q : Value → Shared → Prop} {f : Value → Value → Sem Value}
    (hf : ∀ v u s2 x y H2, Inv X pins σ H2 s2 → RelV x v → RelV y u → R x y H2 → wpAny (model X.prog X.w) X.A (f v u) Q X.xe s2) :
    wpAny (model X.prog X.w) X.A (eval a X.env) (fun v s₁ => wpAny (model X.prog X.w) X.A (eval b X.env) (fun u s₂ => wpAny (model X.prog X.w) X.A (f v u) Q X.xe s₂) X.xe s₁) X.xe s := by
  refine thn (ha pins s σ H _ I h) fun v s1 ⟨x, H1, I1, r1, q1⟩ => ?_
  refine thn (hb pins s1 σ H1 _ I1 q1) fun u s2 ⟨y, H2, I2, r2, q2⟩ => ?_
  exact hf v u s2 x y H2 I2 r1 r2 q2

theorem pe_op {op : Operator} {r : R2} (ho : OpR X (binaryOp op) r) (ha : PE X a ta) (hb : PE X b tb) : PE X (.BinOp a op b pos) (tOp r ta tb) := by
  intro pins s σ H Q I h
  exact wpAny_BinOp (binT ha hb I h fun v u s2 x y H2 I2 rx ry q => ho pins s2 σ H2 x y v u Q I2 rx ry q)
theorem pe_un {op : UnaryOp} {r : V → Hp → VK → Prop} (ho : UnR X (unaryOp op) r) (ha : PE X a ta) : PE X (.UnaryOp op a pos) (tUn r ta) := by
  intro pins s σ H Q I h
  exact UnaryOp_ (thn (ha pins s σ H _ I h) fun v s1 ⟨x, H1, I1, r1, q1⟩ => ho pins s1 σ H1 x v Q I1 r1 q1)

/-! ### ints -/
theorem opI {f : Value → Value → Sem Value} {C : Int → Int → Prop} {g : Int → Int → Int}
    (rule : ∀ (i j : Int) (t u : Tok) (s : Shared) (Q : Value → Shared → Prop) (E : Value → Shared → Prop), C i j → Q (.int (g i j) s.toks) { s with toks := s.toks + 1 } → wpAny (model X.prog X.w) X.A (f (.int i t) (.int j u)) Q E s) :
    OpR X f (rI C fun i j => .int (g i j)) := by
  intro pins s σ H x y v u Q I rx ry h
  obtain ⟨i, j, rfl, rfl, hc, q⟩ := h
  obtain ⟨t, rfl⟩ := rx
  obtain ⟨t', rfl⟩ := ry
  exact rule i j t t' s _ _ hc ⟨.int (g i j), H, I.tok _, ⟨_, rfl⟩, q⟩
theorem opI0 {f : Value → Value → Sem Value} {g : Int → Int → Int}
    (rule : ∀ (i j : Int) (t u : Tok) (s : Shared) (Q : Value → Shared → Prop) (E : Value → Shared → Prop), Q (.int (g i j) s.toks) { s with toks := s.toks + 1 } → wpAny (model X.prog X.w) X.A (f (.int i t) (.int j u)) Q E s) :
    OpR X f (rI0 fun i j => .int (g i j)) := by
  intro pins s σ H x y v u Q I rx ry h
  obtain ⟨i, j, rfl, rfl, q⟩ := h
  obtain ⟨t, rfl⟩ := rx
  obtain ⟨t', rfl⟩ := ry
  exact rule i j t t' s _ _ ⟨.int (g i j), H, I.tok _, ⟨_, rfl⟩, q⟩
theorem opB0 {f : Value → Value → Sem Value} {g : Int → Int → Bool}
    (rule : ∀ (i j : Int) (t u : Tok) (s : Shared) (Q : Value → Shared → Prop) (E : Value → Shared → Prop), Q (.bool (g i j)) s → wpAny (model X.prog X.w) X.A (f (.int i t) (.int j u)) Q E s) :
    OpR X f (rI0 fun i j => .bl (g i j)) := by
  intro pins s σ H x y v u Q I rx ry h
  obtain ⟨i, j, rfl, rfl, q⟩ := h
  obtain ⟨t, rfl⟩ := rx
  obtain ⟨t', rfl⟩ := ry
  exact rule i j t t' s _ _ ⟨.bl (g i j), H, I, rfl, q⟩

def CDiv (i j : Int) : Prop := 0 < j ∧ j < 1073741824

theorem op_add : OpR X (binaryOp .Add) (rI0 fun i j => .int (i + j)) := opI0 fun _ _ _ _ _ _ _ q => add_int q
theorem op_sub : OpR X (binaryOp .Sub) (rI0 fun i j => .int (i - j)) := opI0 fun _ _ _ _ _ _ _ q => sub_int q
/-- // by a positive divisor -/
theorem op_fdiv : OpR X (binaryOp .FloorDiv) (rI CDiv fun i j => .int (i / j)) := opI fun i j _ _ _ _ _ hc q => by
  have h1 : (0 : Int) < j := hc.1
  have h2 : j < 1073741824 := hc.2
  exact floordiv_int (by omega) (by rw [Int.fdiv_eq_ediv_of_nonneg i (by omega)]; exact q) (.inl (PyProof.noPylong_small (by omega)))
/-- % by a positive divisor of any size -/
theorem op_mod : OpR X (binaryOp .Mod) (rI (fun _ j => 0 < j) fun i j => .int (i % j)) := opI fun i j _ _ _ _ _ hc q => by
  have h1 : (0 : Int) < j := hc
  exact mod_int' (by omega) (by rw [Int.fmod_eq_emod_of_nonneg i (by omega)]; exact q)

theorem iop_add : OpR X (inplaceOp .Add) (rI0 fun i j => .int (i + j)) := opI0 fun _ _ _ _ _ _ _ q => iadd_int q

theorem unI {f : Value → Sem Value} {g : Int → Int}
    (rule : ∀ (i : Int) (t : Tok) (s : Shared) (Q : Value → Shared → Prop) (E : Value → Shared → Prop), Q (.int (g i) s.toks) { s with toks := s.toks + 1 } → wpAny (model X.prog X.w) X.A (f (.int i t)) Q E s) :
    UnR X f (rU fun i => .int (g i)) := by
  intro pins s σ H x v Q I rx h
  obtain ⟨i, rfl, q⟩ := h
  obtain ⟨t, rfl⟩ := rx
  exact rule i t s _ _ ⟨.int (g i), H, I.tok _, ⟨_, rfl⟩, q⟩
theorem un_neg : UnR X (unaryOp .USub) (rU fun i => .int (-i)) := unI fun _ _ _ _ _ q => neg_int q

/-! ### bools among ints: n += (a < b) -/
end

/-! ### comparisons -/


section
variable {X : Cx} {a b c : Expr} {ta tb tc : TE} {pos : Pos}

theorem op_le : OpR X (compareOp .LtE) (rI0 fun i j => .bl (decide (i ≤ j))) := opB0 fun _ _ _ _ _ _ _ q => le_int q




/-- a op1 b op2 c -/
def tChain (r r' : R2) (ta tb tc : TE) : TE := fun σ H Q => ta σ H fun x H1 => tb σ H1 fun y H2 => r x y H2 fun z H3 => ∃ k, z = .bl k ∧
  (if k = true then tc σ H3 fun w' H4 => r' y w' H4 Q else Q (.bl false) H3)
theorem pe_chain {op op' : CmpOp} {r r' : R2} (ho : OpR X (compareOp op) r) (ho' : OpR X (compareOp op') r') (ha : PE X a ta) (hb : PE X b tb) (hc : PE X c tc)
    (hm : lastMarks [op, op'] [b, c] = false := by with_unfolding_all rfl) : PE X (.Compare a [op, op'] [b, c] pos) (tChain r r' ta tb tc) := by
  intro pins s σ H Q I h
  refine Compare_chain (thn (ha pins s σ H _ I h) fun v s1 ⟨x, H1, I1, r1, q1⟩ => chain_link (thn (hb pins s1 σ H1 _ I1 q1) fun u s2 ⟨y, H2, I2, r2, q2⟩ =>
    thn (ho pins s2 σ H2 x y v u _ I2 r1 r2 q2) fun d s3 ⟨z, H3, I3, r3, k, e, q3⟩ => ?_)) hm
  subst e
  cases r3
  refine wpAny_truthy_bool ?_
  cases k with
  | false => exact ite_ff ⟨.bl false, H3, I3, rfl, q3⟩
  | true => exact ite_tt (chain_last (thn (hc pins s3 σ H3 _ I3 q3) fun w' s4 ⟨z', H4, I4, r4, q4⟩ => ho' pins s4 σ H4 y z' u w' Q I4 r2 r4 q4))

/-! ### truth -/
theorem line63 : (sizeLine : Nat) < 2 ^ 63 := by rw [sizeLine_eq]; decide

/-! ### strs and bytes -/


/-! ### scalar builtins, by CallR -/
theorem vals1 {x : V} {us : List Value} (r : Vals [x] us) : ∃ u, us = [u] ∧ RelV x u := by
  cases r with
  | cons r1 r2 => cases r2; exact ⟨_, rfl, r1⟩
theorem vals2 {x y : V} {us : List Value} (r : Vals [x, y] us) : ∃ u w', us = [u, w'] ∧ RelV x u ∧ RelV y w' := by
  cases r with
  | cons r1 r2 =>
    cases r2 with
    | cons r3 r4 => cases r4; exact ⟨_, _, rfl, r1, r3⟩
theorem call_max2 (hc : X.calm = true) : CallR X (.builtin "max") (fun xs H Q => ∃ i j, xs = [.int i, .int j] ∧ Q (.int (if j > i then j else i)) H) := by
  intro pins s σ H xs us Q I r h
  obtain ⟨i, j, rfl, q⟩ := h
  obtain ⟨u, w', rfl, ⟨t, rfl⟩, ⟨t', rfl⟩⟩ := vals2 r
  refine max_two_ints (I.ok.hd hc) fun h' tk k => ⟨_, H, I.kept k, ?_, q⟩
  by_cases hj : j > i
  · rw [if_pos hj, if_pos hj]; exact ⟨_, rfl⟩
  · rw [if_neg hj, if_neg hj]; exact ⟨_, rfl⟩
end
end L2

namespace L2
open PySem PySem.Spec PyProof.Rows

/-! ### an instance, its attributes a map -/
structure ObjM (h : Heap) (x dx C : Addr) (mA : Str → Option Value) : Prop where
  obj : h.get? x = some (PySem.W.instObj C dx)
  ns : h.Ns1 dx mA
  ne : dx ≠ x

theorem lookIn_ns {h : Heap} {dx : Addr} {mA : Str → Option Value} (n : h.Ns1 dx mA) : ∃ od, h.get? dx = some od ∧ ∀ name, PySem.W.lookIn name od = some (mA name) := by
  obtain ⟨o, es, ep, ho, hd, hk, _, hm⟩ := n
  refine ⟨o, ho, fun name => ?_⟩
  have e := hm name
  unfold nsFind findBy at e
  rw [← Array.find?_toList] at e
  unfold PySem.W.lookIn
  rw [hd]
  dsimp only
  split
  · rename_i y q
    rw [q] at e
    exact congrArg some e
  · rename_i q
    rw [q] at e
    have a : es.toList.any (·.refKey) = false := by
      rw [List.any_eq_false]
      intro y hy
      obtain ⟨z, t, hkey⟩ := hk y (Array.mem_toList_iff.mp hy)
      simp [DictEntry.refKey, hkey]
    have a' : ¬ es.toList.any (·.refKey) = true := by rw [a]; exact Bool.false_ne_true
    rw [if_neg a']
    exact congrArg some e

theorem ObjM.look {h : Heap} {x dx C : Addr} {mA : Str → Option Value} (I : ObjM h x dx C mA) : ∃ od, PySem.W.InstAt h x (PySem.W.instObj C dx) C (some od) ∧ ∀ name, PySem.W.lookIn name od = some (mA name) :=
  let ⟨od, ho, hl⟩ := lookIn_ns I.ns
  ⟨od, ⟨I.obj, rfl, rfl, ho⟩, hl⟩

section
variable {prog : Program} {w : World} {A : Around} {E : Value → Shared → Prop} {s : Shared} {K : PySem.W.Frag} {x dx C f : Addr} {mA : Str → Option Value} {name : Str} {v : Value}

theorem get_map {expr : Bool} {Q : Value → Shared → Prop} (X : K.In s.heap) (I : ObjM s.heap x dx C mA) (hg : PySem.W.plainGet K C name = true) (hh : PySem.W.hasDictIn K C = true)
    (ha : PySem.W.findIn K (.ref C) name = some none) (hv : mA name = some v) (hv' : PySem.W.handedIn v = true) (h : Q v { s with toks := s.toks + 1 }) :
    wpAny (model prog w) A (getAttr (.ref x) name expr) Q E s := by
  obtain ⟨od, J, hl⟩ := I.look
  exact PySem.W.get_value X J (PySem.W.plainGet_of hg).1 (PySem.W.findObj_own hh ha rfl (by rw [hl, hv])) hv' h


theorem get_meth {pl : Sem Bool} {Q : Value × List Value → Shared → Prop} (X : K.In s.heap) (I : ObjM s.heap x dx C mA) (hg : PySem.W.plainGet K C name = true)
    (hf : PySem.W.findIn K (.ref C) name = some (some (.ref f))) (ht : PySem.W.isFn K (.ref f) = true) (hv : mA name = none) (h : Q (.ref f, [.ref x]) s) :
    wpAny (model prog w) A (getMethod (.ref x) name pl) Q E s := by
  obtain ⟨od, J, hl⟩ := I.look
  exact PySem.W.method_fn X J (PySem.W.plainGet_of hg).1 (PySem.W.plainGet_of hg).2 hf (beq_iff_eq.mp ht) (by show (PySem.W.lookIn name od).map (·.isSome) = some false; rw [hl, hv]; rfl) h

theorem set_map {ns : List Str} {Q : Unit → Shared → Prop} (X : K.In s.heap) (I : ObjM s.heap x dx C mA)
    (hs : PySem.W.findIn K (.ref C) "__setattr__" = some (some (.builtin "object.__setattr__"))) (hp : PySem.W.plainOver K C = true) (ht : PySem.W.takerIn K C name = some none) (hh : PySem.W.hasDictIn K C = true)
    (hw : PySem.Within mA ns) (hsz : ns.length ≤ sizeLine)
    (h : ∀ h', ObjM h' x dx C (fun y => if y = name then some v else mA y) → Heap.SameBut dx s.heap h' → Q () { s with heap := h', toks := s.toks + 2 }) :
    wpAny (model prog w) A (setAttr (.ref x) name v) Q E s := by
  obtain ⟨od, J, hl⟩ := I.look
  refine PySem.W.set_plain X J hs (PySem.W.osa_open (s := { s with toks := s.toks + 1 }) (r := none) X J hp ht fun b => ?_)
  obtain ⟨cd, hc, hd'⟩ := PySem.W.any_some hh
  have hx : s.heap.get? x = some ⟨.ref C, some dx, .plain, #[]⟩ := I.obj
  refine wpAny_bind (wpAny_pure (wpAny_bind (wpAny_bind (wpAny_loadPart hx (wpAny_bind (PySem.W.Looks.here (s := { s with toks := s.toks + 1 }) (PySem.W.looks_clsIn X hc) ?_))))))
  rw [hd']
  refine wpAny_pure (a := some dx) (wpAny_bind (wpAny_pure (wpAny_bind ?_)))
  refine wpAny_nsSet1 (s := { s with toks := s.toks + 1 }) I.ns fun h' hn2 hs2 => ?_
  obtain ⟨oD, esD, epD, hoD, hdD, hcD⟩ := hn2.count (PySem.Within.cons name v hw)
  refine wpAny_bind (wpAny_lookBehind hoD (by rw [hdD]; exact pastItsLine_dict (Nat.le_trans hcD (by rw [List.length_cons]; omega))) ?_)
  exact wpAny_pure (h _ ⟨(hs2.2 _ (Ne.symm I.ne)).trans I.obj, hn2, I.ne⟩ hs2)

/-- C(..): the dict at the heap's end, the instance behind it; then its __init__ -/
theorem make_map {R : Result → Shared → Prop} {vs : List Value} {kw : List (Str × Value)} (X : K.In s.heap) (hm : PySem.W.makesIn K C = true)
    (hi : PySem.W.findIn K (.ref C) "__init__" = some (some (.ref f))) (hf : PySem.W.typeIn K (.ref f) = some (.type "function"))
    (h : codeAny (model prog w) (A.under (.builtin "type.__call__" ⟨.ref C :: vs, kw⟩)) (.call (.ref f) ⟨.ref (s.heap.objs.size + 1) :: vs, kw⟩) (PySem.W.InitBack (s.heap.objs.size + 1) R)
      { s with heap := (s.heap.push PySem.W.emptyDict).push (PySem.W.instObj C s.heap.objs.size) }) :
    codeAny (model prog w) A (.call (.ref C) ⟨vs, kw⟩) R s := by
  obtain ⟨hh, g, d, t, os⟩ := s
  exact PySem.W.make_core (PySem.W.makes_of X hm) (PySem.W.looks_findIn X hi) (fun self => PySem.W.bind_fn X self hf) (.inl rfl) h
end

/-! ### the attributes as a list of pairs -/
def putF (f : Str) (v : V) : List (Str × V) → List (Str × V)
  | [] => [(f, v)]
  | (g, x) :: r => if g = f then (g, v) :: r else (g, x) :: putF f v r
theorem lookup_putF (f g : Str) (v : V) : ∀ fs : List (Str × V), (putF f v fs).lookup g = if g = f then some v else fs.lookup g
  | [] => by
    show List.lookup g [(f, v)] = _
    by_cases h : g = f
    · have hb : (g == f) = true := beq_iff_eq.mpr h
      simp only [List.lookup, hb, if_pos h]
    · have hb : (g == f) = false := beq_eq_false_iff_ne.mpr h
      simp only [List.lookup, hb, if_neg h]
  | (k, x) :: r => by
    have ih := lookup_putF f g v r
    rw [show putF f v ((k, x) :: r) = (if k = f then (k, v) :: r else (k, x) :: putF f v r) from rfl]
    by_cases hk : k = f
    · rw [if_pos hk]
      by_cases h : g = k
      · have hb : (g == k) = true := beq_iff_eq.mpr h
        simp only [List.lookup, hb, if_pos (h.trans hk)]
      · have hb : (g == k) = false := beq_eq_false_iff_ne.mpr h
        simp only [List.lookup, hb, if_neg (fun e : g = f => h (e.trans hk.symm))]
    · rw [if_neg hk]
      by_cases h : g = k
      · have hb : (g == k) = true := beq_iff_eq.mpr h
        simp only [List.lookup, hb, if_neg (fun e : g = f => hk (h.symm.trans e))]
      · have hb : (g == k) = false := beq_eq_false_iff_ne.mpr h
        simp only [List.lookup, hb]
        exact ih
theorem keys_putF (f : Str) (v : V) : ∀ fs : List (Str × V), f ∈ (putF f v fs).map (·.1) ∧ ∀ g, g ∈ fs.map (·.1) → g ∈ (putF f v fs).map (·.1)
  | [] => ⟨by simp [putF], fun g h => by simp at h⟩
  | (k, x) :: r => by
    obtain ⟨i1, i2⟩ := keys_putF f v r
    rw [show putF f v ((k, x) :: r) = (if k = f then (k, v) :: r else (k, x) :: putF f v r) from rfl]
    by_cases hk : k = f
    · rw [if_pos hk]
      subst hk
      exact ⟨by simp, fun g h => by simpa using h⟩
    · rw [if_neg hk]
      refine ⟨?_, fun g h => ?_⟩
      · rw [List.map_cons]
        exact List.mem_cons_of_mem _ i1
      · rw [List.map_cons] at h ⊢
        rcases List.mem_cons.mp h with e | e
        · exact List.mem_cons.mpr (.inl e)
        · exact List.mem_cons_of_mem _ (i2 g e)
theorem length_putF (f : Str) (v : V) : ∀ fs : List (Str × V), (putF f v fs).length ≤ fs.length + 1
  | [] => by simp [putF]
  | (k, x) :: r => by
    have ih := length_putF f v r
    rw [show putF f v ((k, x) :: r) = (if k = f then (k, v) :: r else (k, x) :: putF f v r) from rfl]
    by_cases hk : k = f
    · rw [if_pos hk, List.length_cons, List.length_cons]; omega
    · rw [if_neg hk, List.length_cons, List.length_cons]; omega

theorem RelO.some_of {v : V} {o : Option Value} (r : RelO (some v) o) : ∃ u, o = some u ∧ RelV v u := by
  cases o with
  | none => exact (show False from r).elim
  | some u => exact ⟨u, rfl, r⟩
theorem RelO.none_of {o : Option Value} (r : RelO none o) : o = none := by
  cases o with
  | none => rfl
  | some u => exact (show False from r).elim
theorem handed_of {v : V} {u : Value} (r : RelV v u) : PySem.W.handedIn u = true := by
  cases v with
  | non => cases (show u = Value.none from r); rfl
  | bl b => cases (show u = Value.bool b from r); rfl
  | int i => obtain ⟨t, e⟩ := (show ∃ t, u = Value.int i t from r); cases e; rfl
  | str x => obtain ⟨t, e⟩ := (show ∃ t, u = Value.str x t from r); cases e; rfl
  | byt b => obtain ⟨t, e⟩ := (show ∃ t, u = Value.bytes b t from r); cases e; rfl
  | flt b => obtain ⟨t, e⟩ := (show ∃ t, u = Value.float b t from r); cases e; rfl
  | ref a => cases (show u = Value.ref a from r); rfl
  | ty n => cases (show u = Value.type n from r); rfl

section
variable {P : Program} {w : World} {H H' : Hp} {h h' : Heap} {a C dx : Addr} {fs fs' : List (Str × V)}
theorem ins_get (hok : HOk P w H h) (e : H a = some (.ins C dx fs)) : ∃ mA, ObjM h a dx C mA ∧ (∀ f, RelO (fs.lookup f) (mA f)) ∧ PySem.Within mA (fs.map (·.1)) ∧ fs.length ≤ 1000 ∧ H dx = some (.own a) := by
  obtain ⟨d, z, ne, ob, mA, n, r, q⟩ := (show ObjOk P w H h a (.ins C dx fs) from hok a _ e)
  exact ⟨mA, ⟨ob, n, ne⟩, r, q, z, d⟩
end

/-! ### what of the text a class must have -/
structure Cls (K : PySem.W.Frag) (C : Addr) : Prop where
  pg : PySem.W.plainGet K C Str.empty = true
  hd : PySem.W.hasDictIn K C = true
  po : PySem.W.plainOver K C = true
  sa : PySem.W.findIn K (.ref C) "__setattr__" = some (some (.builtin "object.__setattr__"))
theorem Cls.get {K : PySem.W.Frag} {C : Addr} (c : Cls K C) (f : Str) : PySem.W.plainGet K C f = true := c.pg
/-- no class of it has the name -/
def NoAttr (K : PySem.W.Frag) (C : Addr) (f : Str) : Prop := PySem.W.findIn K (.ref C) f = some none
theorem NoAttr.taker {K : PySem.W.Frag} {C : Addr} {f : Str} (n : NoAttr K C f) : PySem.W.takerIn K C f = some none := by
  unfold PySem.W.takerIn
  rw [show PySem.W.findIn K (.ref C) f = some none from n]
  rfl
/-- a constant of the class -/
structure Con (K : PySem.W.Frag) (C : Addr) (f : Str) (v : V) (u : Value) : Prop where
  at_ : PySem.W.findIn K (.ref C) f = some (some u)
  rel : RelV v u
  get : PySem.W.specialIn K u "__get__" = some none
  cp : PySem.W.copiedNames.contains f = false
/-- a method: a plain def of the class or of one above it -/
structure Meth (K : PySem.W.Frag) (C : Addr) (m : Str) (f : Addr) : Prop where
  at_ : PySem.W.findIn K (.ref C) m = some (some (.ref f))
  fn : PySem.W.isFn K (.ref f) = true
  kp : PySem.W.keepIn K (.ref f) = true

section
variable {X : Cx} {pins : List (Addr × Obj)} {σ : St} {H : Hp} {s : Shared} {a C dx : Addr} {fs : List (Str × V)} {f : Str} {v : V} {A : Around} {E : Value → Shared → Prop}

theorem getattr_ok {b : Bool} {Q : Value → Shared → Prop} (I : Inv X pins σ H s) (e : H a = some (.ins C dx fs)) (c : Cls X.K C) (n : NoAttr X.K C f) (l : fs.lookup f = some v)
    (h : ∀ u s', Inv X pins σ H s' → RelV v u → Q u s') : wpAny (model X.prog X.w) A (getAttr (.ref a) f b) Q E s := by
  obtain ⟨mA, O, r, _, _, _⟩ := ins_get I.hok e
  obtain ⟨u, hu, ru⟩ := RelO.some_of (v := v) (o := mA f) (by rw [← l]; exact r f)
  exact get_map I.kIn O (c.get f) c.hd n hu (handed_of ru) (h u _ (I.tok _) ru)


theorem getmeth_ok {m : Str} {g : Addr} {pl : Sem Bool} {Q : Value × List Value → Shared → Prop} (I : Inv X pins σ H s) (e : H a = some (.ins C dx fs)) (c : Cls X.K C) (k : Meth X.K C m g) (l : fs.lookup m = none)
    (h : Q (.ref g, [.ref a]) s) : wpAny (model X.prog X.w) A (getMethod (.ref a) m pl) Q E s := by
  obtain ⟨mA, O, r, _, _, _⟩ := ins_get I.hok e
  have hn : mA m = none := RelO.none_of (by rw [← l]; exact r m)
  exact get_meth I.kIn O (c.get m) k.at_ k.fn hn h

theorem setattr_ok {y : V} {u : Value} {Q : Unit → Shared → Prop} (I : Inv X pins σ H s) (e : H a = some (.ins C dx fs)) (c : Cls X.K C) (n : NoAttr X.K C f) (hl : fs.length < 1000) (ry : RelV y u)
    (h : ∀ s', Inv X pins σ (upd H a (.ins C dx (putF f y fs))) s' → Q () s') : wpAny (model X.prog X.w) A (setAttr (.ref a) f u) Q E s := by
  obtain ⟨mA, O, r, wi, _, ho⟩ := ins_get I.hok e
  have hz : (fs.map (·.1)).length ≤ sizeLine := by rw [List.length_map, sizeLine_eq]; omega
  refine set_map I.kIn O c.sa c.po n.taker c.hd wi hz fun h' O' sb => h _ ?_
  have hd : ∃ o, h'.get? dx = some o := let ⟨o, _, _, e', _⟩ := O'.ns; ⟨o, e'⟩
  refine I.write (x := a) (e := dx) (by rw [e]; exact True.intro) (.inr ho) (fun b q hb z => (sb.2 b hb).trans z) hd ?_
  refine ⟨by rw [upd_ne O.ne]; exact ho, ?_, O.ne, O'.obj, _, O'.ns, fun g => ?_, fun g hg => ?_⟩
  · have := length_putF f y fs; omega
  · show RelO ((putF f y fs).lookup g) (if g = f then some u else mA g)
    rw [lookup_putF]
    by_cases q : g = f
    · rw [if_pos q, if_pos q]; exact ry
    · rw [if_neg q, if_neg q]; exact r g
  · by_cases q : g = f
    · rw [q]; exact (keys_putF f y fs).1
    · refine (keys_putF f y fs).2 g (wi g fun z => hg ?_)
      show (if g = f then some u else mA g) = none
      rw [if_neg q]; exact z

/-- a new instance, tracked, without attributes -/
theorem Inv.made (I : Inv X pins σ H s) : Inv X pins σ (upd (upd H s.heap.objs.size (.own (s.heap.objs.size + 1))) (s.heap.objs.size + 1) (.ins C s.heap.objs.size []))
    { s with heap := (s.heap.push PySem.W.emptyDict).push (PySem.W.instObj C s.heap.objs.size) } := by
  have e1 : (s.heap.push PySem.W.emptyDict).get? s.heap.objs.size = some PySem.W.emptyDict := Heap.get?_push_size s.heap rfl
  have e2 : ((s.heap.push PySem.W.emptyDict).push (PySem.W.instObj C s.heap.objs.size)).get? (s.heap.objs.size + 1) = some (PySem.W.instObj C s.heap.objs.size) := by
    have := Heap.get?_push_size (s.heap.push PySem.W.emptyDict) (o := PySem.W.instObj C s.heap.objs.size) rfl
    rwa [Heap.size_push] at this
  have e3 : (s.heap.push PySem.W.emptyDict).Ns s.heap.objs.size (fun _ => none) := ⟨PySem.W.emptyDict, #[], _, e1, rfl, (fun e he => absurd he (by simp)), fun _ => rfl⟩
  have I1 := I.laid (a := s.heap.objs.size) (o := .own (s.heap.objs.size + 1)) (h' := s.heap.push PySem.W.emptyDict) (t' := s.toks) (fun b u q => Heap.get?_push_of_some _ q) (Nat.le_refl _) ⟨_, e1⟩
  refine I1.laid (a := s.heap.objs.size + 1) (o := .ins C s.heap.objs.size []) (t' := s.toks) (fun b u q => Heap.get?_push_of_some _ q) (Nat.le_of_eq (Heap.size_push _ _)) ?_
  have ne : s.heap.objs.size ≠ s.heap.objs.size + 1 := Nat.ne_of_lt (Nat.lt_succ_self _)
  refine ⟨by rw [upd_ne ne, upd_same], Nat.zero_le _, ne, e2, fun _ => none, (Heap.Ns1.of_empty e3).at fun o q => Heap.get?_push_of_some _ q, fun _ => True.intro, fun y hy => absurd rfl hy⟩

/-- e.f where nothing but the object is asked: through attributeBase (super) and the last hold -/
theorem attr_of {prog : Program} {w : World} {env : Env} {e : Expr} {f : Str} {pos : Pos} {s : Shared} {Q : Value → Shared → Prop} (hb : attributeBase e f env (eval e env) = eval e env)
    (h : wpAny (model prog w) A (eval e env) (fun o s₁ => wpAny (model prog w) A (getAttr o f true) Q E s₁) E s) : wpAny (model prog w) A (eval (.Attribute e f pos) env) Q E s :=
  Attribute_any_ h (by rw [arm_eval_Attribute, hb])
end

/-! ### readings and rules -/
/-- e.f, an attribute of the instance -/
def tFld (K : PySem.W.Frag) (ta : TE) (f : Str) : TE := fun σ H Q => ta σ H fun x H1 => ∃ a C dx fs v, x = .ref a ∧ H1 a = some (.ins C dx fs) ∧ Cls K C ∧ NoAttr K C f ∧ fs.lookup f = some v ∧ Q v H1
/-- e.f = value -/
def sFld (K : PySem.W.Frag) (ta tv : TE) (f : Str) : TS := fun D σ H => tv σ H fun y H1 => ta σ H1 fun x H2 => ∃ a C dx fs, x = .ref a ∧ H2 a = some (.ins C dx fs) ∧ Cls K C ∧ NoAttr K C f ∧ fs.length < 1000 ∧
  D.nx σ (upd H2 a (.ins C dx (putF f y fs)))

section
variable {X : Cx} {o e value : Expr} {f : Str} {pos pos' tpos : Pos} {ta tv : TE}
theorem pe_fld (he : PE X e ta) (hb : attributeBase e f X.env (eval e X.env) = eval e X.env) : PE X (.Attribute e f pos) (tFld X.K ta f) := by
  intro pins s σ H Q I h
  refine attr_of hb (thn (he pins s σ H _ I h) fun u s1 ⟨x, H1, I1, rx, a, C, dx, fs, v, ex, ea, c, n, l, q⟩ => ?_)
  subst ex
  obtain rfl : u = Value.ref a := rx
  exact getattr_ok I1 ea c n l fun u' s2 I2 ru => ⟨v, H1, I2, ru, q⟩
theorem ps_fld (ha : PE X o ta) (hv : PE X value tv) (hs : swapsWith value (some (.Attribute o f pos')) pos.line X.env = pure false) : PS X (.Assign [.Attribute o f pos'] value pos) (sFld X.K ta tv f) := by
  intro pins s σ H D I h
  refine plainObj_wpAny_Assign_Attribute (thn (hv pins s σ H _ I h) fun u s1 ⟨y, H1, I1, ry, q⟩ => thn (ha pins s1 σ H1 _ I1 q) fun ov s2 ⟨x, H2, I2, rx, a, C, dx, fs, ex, ea, c, n, l, q2⟩ => ?_) hs
  subst ex
  obtain rfl : ov = Value.ref a := rx
  exact setattr_ok I2 ea c n l ry fun s3 I3 => ⟨σ, _, I3, q2⟩

end

/-! ### isinstance -/
section
variable {X : Cx} {pins : List (Addr × Obj)} {σ : St} {H : Hp} {s : Shared} {A : Around} {E : Value → Shared → Prop} {Q : Value → Shared → Prop} {c : Value} {b : Bool}
/-- the type of a value, as the fragment's deciders take it; for an instance its class -/
inductive TyOf (K : PySem.W.Frag) (H : Hp) : V → Value → Prop where
  | non : TyOf K H .non (.type "NoneType")
  | bl (x : Bool) : TyOf K H (.bl x) (.type "bool")
  | int (i : Int) : TyOf K H (.int i) (.type "int")
  | str (x : Str) : TyOf K H (.str x) (.type "str")
  | flt (x : UInt64) : TyOf K H (.flt x) (.type "float")
  | lst {a : Addr} {xs : List V} (e : H a = some (.lst xs)) : TyOf K H (.ref a) (.type "list")
  | frz {a : Addr} {o : Obj} {xs : List V} (e : H a = some (.frz o (.lst xs))) : TyOf K H (.ref a) (.type "list")
  | tup {a : Addr} {xs : List V} (e : H a = some (.tup xs)) : TyOf K H (.ref a) (.type "tuple")
  | dK {a : Addr} {kvs : List (Key × V)} (e : H a = some (.dK kvs)) : TyOf K H (.ref a) (.type "dict")
  | dT {a : Addr} {kvs : List (List Key × V)} (e : H a = some (.dT kvs)) : TyOf K H (.ref a) (.type "dict")
  | ins {a C dx : Addr} {fs : List (Str × V)} (e : H a = some (.ins C dx fs)) (cl : Cls K C) (ha : PySem.W.findIn K (.ref C) "__class__" = some (some (.builtin "object.__class__")))
      (hn : PySem.W.specialIn K (.builtin "object.__class__") "__get__" = some (some (.builtin "getset_descriptor.__get__"))) (htk : PySem.W.takesIn K (.builtin "object.__class__") = some true)
      (hm : PySem.W.mroIn K C (.type "object") = some true) : TyOf K H (.ref a) (.ref C)
end
end L2

namespace L2
open PySem PySem.Spec PyProof.Rows

/-! ### room -/
structure Room (k : Nat) (A : Around) : Prop where
  hd : A.handled = none
  dp : A.depth + 3 * k + 5 < recursionLimit
  un : A.units + 16 * k + 200 < cLine
theorem Room.mono {j k : Nat} {A : Around} (r : Room k A) (h : j ≤ k) : Room j A := ⟨r.hd, by have := r.dp; omega, by have := r.un; omega⟩
theorem Room.deeper {k : Nat} {A : Around} (r : Room (k + 1) A) (env : Env) : Room k (A.deeper env) :=
  ⟨r.hd, by have := r.dp; show A.depth + 1 + 3 * k + 5 < _; omega, by have := r.un; show A.units + 3 + 16 * k + 200 < _; omega⟩
theorem make_depth {A : Around} {C : Addr} {us : List Value} {kw : List (Str × Value)} : (A.under (.builtin "type.__call__" ⟨.ref C :: us, kw⟩)).depth = A.depth + 1 := by
  first | rfl | simp [Around.under, Code.weight, Code.isCreation, Code.isGuard, Code.isCaller, Code.frames, Code.isFrame, guardIds]
theorem make_units {A : Around} {C : Addr} {us : List Value} {kw : List (Str × Value)} : (A.under (.builtin "type.__call__" ⟨.ref C :: us, kw⟩)).units = A.units + 1 := by
  first | rfl | simp [Around.under, Code.cUnits, Code.frames, Code.isFrame]
theorem Room.make {k : Nat} {A : Around} (r : Room (k + 1) A) (C : Addr) (us : List Value) (kw : List (Str × Value)) : Room k (A.under (.builtin "type.__call__" ⟨.ref C :: us, kw⟩)) :=
  ⟨r.hd, by have := r.dp; rw [make_depth]; omega, by have := r.un; rw [make_units]; omega⟩
theorem Room.depth {k : Nat} {A : Around} (r : Room k A) : A.depth < recursionLimit := by have := r.dp; omega

/-! ### argument lists and displays -/
def tNil : TA := fun _ H Q => Q [] H
def tCons (ta : TE) (tr : TA) : TA := fun σ H Q => ta σ H fun x H1 => tr σ H1 fun xs H2 => Q (x :: xs) H2
section
variable {X : Cx} {e : Expr} {es : List Expr} {te : TE} {t : TA} {pos : Pos}
theorem pa_nil : PA X [] tNil := fun _ _ _ _ H Q I h => Calls.spliced_nil ⟨[], H, I, .nil, h⟩
theorem pa_cons (ha : PE X e te) (hr : PA X es t) (hs : starEach (e :: es) X.env = (false, eval e X.env) :: starEach es X.env := by rfl) : PA X (e :: es) (tCons te t) := by
  intro pos pins s σ H Q I h
  rw [hs]
  show wpAny _ _ (spliced ((false, eval e X.env) :: backTo pos (starEach es X.env))) _ _ s
  refine Calls.spliced_cons (thn (ha pins s σ H _ I h) fun u s1 ⟨x, H1, I1, r1, q1⟩ => ?_)
  exact thn (hr pos pins s1 σ H1 _ I1 q1) fun us s2 ⟨xs, H2, I2, r2, q2⟩ => ⟨x :: xs, H2, I2, .cons r1 r2, q2⟩

def tLst (t : TA) : TE := fun σ H Q => t σ H fun xs H1 => xs.length ≤ sizeLine ∧ ∀ p, H1 p = none → Q (.ref p) (upd H1 p (.lst xs))
theorem pe_lst (h : PA X es t) : PE X (.List es pos) (tLst t) := by
  intro pins s σ H Q I hq
  refine wpAny_List_spliced (thn (h pos pins s σ H _ I hq) fun us s1 ⟨xs, H1, I1, r, z, q⟩ => ⟨by rw [← r.length]; exact z, ?_⟩)
  have hf : H1 s1.heap.objs.size = none := I1.hok.fresh (Nat.le_refl _)
  refine ⟨.ref s1.heap.objs.size, upd H1 s1.heap.objs.size (.lst xs), I1.laid (t' := s1.toks) (fun b u e => Heap.get?_push_of_some _ e) (Nat.le_refl _) ?_, rfl, q _ hf⟩
  exact ⟨z, us, 0, r, Heap.get?_push_size _ rfl⟩
end

/-! ### what a def promises -/
/-- a def's promise: the bound arguments in the parameters' order, the heap, the wanted end, the wanted exception -/
abbrev Sp := List V → Hp → VK → XK → Prop
/-- how an exception lies behind a call (file 08 gives it): the callers' frames, abstract heap and state ahead of the call, the wish, the exception, the state -/
abbrev CXT := List Env → Hp → Shared → XK → Value → Shared → Prop

/-- the state at a call -/
structure Env0 (P : Program) (w : World) (K : PySem.W.Frag) (mg : Str → Option Value) (base : Heap) (A : Around) (outer : List Env) (s : Shared) (H : Hp) : Prop where
  frames : A.frames = some outer
  mod : Mod K mg base
  bs : ∀ b o, base.get? b = some o → s.heap.get? b = some o ∧ H b = none
  bsz : base.objs.size ≤ s.heap.objs.size
  funs : s.heap.FunFrames base outer
  frf : ∀ b ∈ frs outer, H b = none
  hok : HOk P w H s.heap
  bare : AllBare s.gens
/-- a call's end -/
def CE (outer : List Env) (P : Program) (w : World) (H : Hp) (s : Shared) (Q : VK) (u : Value) (s' : Shared) : Prop :=
  ∃ v H', s'.os = s.os ∧ AllBare s'.gens ∧ Un (frs outer) [] H H' s.heap s'.heap ∧ HOk P w H' s'.heap ∧ RelV v u ∧ Q v H'
def CR (CX : CXT) (outer : List Env) (P : Program) (w : World) (H : Hp) (s : Shared) (Q : VK) (E : XK) (r : Result) (s' : Shared) : Prop :=
  match r with
  | .ok (.ret u) => CE outer P w H s Q u s'
  | .ok _ => False
  | .error e => CX outer H s E e s'
structure FnOk (P : Program) (w : World) (K : PySem.W.Frag) (mg : Str → Option Value) (base : Heap) (CX : CXT) (k : Nat) (f : Addr) (fd : FuncData) (ps : List Str) (sp : Sp) : Prop where
  len : ∀ vs H Q E, sp vs H Q E → vs.length = ps.length
  run : ∀ (A : Around) (outer : List Env) (s : Shared) (H : Hp) (args : Args) (us : List Value) (vs : List V) (Q : VK) (E : XK), Room k A → Env0 P w K mg base A outer s H → BindsTo s fd args (ps.zip us) → Vals vs us → sp vs H Q E →
    codeAny (model P w) A (.call (.ref f) args) (CR CX outer P w H s Q E) s

theorem Env0.make {P : Program} {w : World} {K : PySem.W.Frag} {mg : Str → Option Value} {base : Heap} {A : Around} {outer : List Env} {s : Shared} {H : Hp} (e : Env0 P w K mg base A outer s H) (C : Addr) (us : List Value) (kw : List (Str × Value)) :
    Env0 P w K mg base (A.under (.builtin "type.__call__" ⟨.ref C :: us, kw⟩)) outer s H := ⟨by first | exact e.frames | (simpa [Around.under, Code.envs, Code.isFrame, pushEnvs] using e.frames), e.mod, e.bs, e.bsz, e.funs, e.frf, e.hok, e.bare⟩

section
variable {X : Cx} {pins : List (Addr × Obj)} {σ : St} {H : Hp} {s s' : Shared}
/-- from a body: what a callee wants -/
theorem Inv.env0 (I : Inv X pins σ H s) : Env0 X.prog X.w X.K X.mg X.base X.A X.stack s H :=
  ⟨I.ok.frames, I.ok.mod, I.bs, Nat.le_trans I.ok.bsz I.sz, I.stack, I.stkFree, I.hok, I.bare⟩
/-- behind a call -/
theorem Inv.after {Q : VK} {u : Value} (I : Inv X pins σ H s) (h : CE X.stack X.prog X.w H s Q u s') : EP X pins σ Q u s' := by
  obtain ⟨v, H', os, bare, un, hok, r, q⟩ := h
  obtain ⟨hh, g, d, t, os'⟩ := s'
  obtain rfl : os' = s.os := os
  exact ⟨v, H', I.call (h' := hh) (g' := g) (d' := d) (t' := t) (ch := []) un hok bare (fun b z => absurd z (by simp)), r, q⟩
end

/-! ### calls -/
/-- f(..): the written arguments, then the defaults dvs; E: what is wanted of an exception -/
def tCall (sp : Sp) (dvs : List V) (E : XK) (t : TA) : TE := fun σ H Q => t σ H fun vs H1 => sp (vs ++ dvs) H1 Q E
/-- o.m(..) of an instance of the class at C -/
def tMeth (C : Addr) (m : Str) (sp : Sp) (dvs : List V) (E : XK) (ta : TE) (t : TA) : TE := fun σ H Q => ta σ H fun x H1 => ∃ a dx fs, x = .ref a ∧ H1 a = some (.ins C dx fs) ∧ fs.lookup m = none ∧
  t σ H1 fun vs H2 => sp (x :: (vs ++ dvs)) H2 Q E
/-- C(..): a new instance and its dict, then __init__ -/
def tMake (C : Addr) (sp : Sp) (dvs : List V) (E : XK) (t : TA) : TE := fun σ H Q => t σ H fun vs H1 => ∀ x dx, H1 x = none → H1 dx = none → dx ≠ x →
  sp (.ref x :: (vs ++ dvs)) (upd (upd H1 dx (.own x)) x (.ins C dx [])) (fun v H2 => v = .non ∧ Q (.ref x) H2) E

/-- how the parameters are bound: us the positional arguments, kw the keywords' values by name, ds the defaults that fill up -/
def Binds (K : PySem.W.Frag) (fd : FuncData) (ps : List Str) (ds : List Value) : Prop :=
  ∀ (s : Shared) (us : List Value), K.In s.heap → (us ++ ds).length = ps.length → BindsTo s fd ⟨us, []⟩ (ps.zip (us ++ ds))
/-- every parameter is given -/
theorem Binds.all {K : PySem.W.Frag} {fd : FuncData} {ps : List Str} (h : ∀ us : List Value, us.length = ps.length → bindArgs fd ⟨us, []⟩ = pure (ps.zip us)) : Binds K fd ps [] := fun s us _ hl => by
  rw [List.append_nil] at hl ⊢
  exact .of_eq (h us hl)

/-- an exception of a callee reaches what this body wants of exceptions -/
def Passes (CX : CXT) (X : Cx) (E : XK) : Prop := ∀ (pins : List (Addr × Obj)) (σ : St) (H : Hp) (s : Shared) (e : Value) (s' : Shared), Inv X pins σ H s → CX X.stack H s E e s' → X.xe e s'

section
variable {X : Cx} {CX : CXT} {k : Nat} {f C : Addr} {fd : FuncData} {ps : List Str} {sp : Sp} {dvs : List V} {ds : List Value} {E : XK} {x m : Str} {p pos apos : Pos} {e o : Expr} {es : List Expr} {ta : TE} {t : TA}

/-- the callee runs -/
theorem run_fn {pins : List (Addr × Obj)} {σ : St} {H : Hp} {s : Shared} {Q : VK} {us : List Value} {vs : List V} (F : FnOk X.prog X.w X.K X.mg X.base CX k f fd ps sp) (hr : Room k X.A) (hb : Binds X.K fd ps ds) (hd : Vals dvs ds) (hx : Passes CX X E)
    (I : Inv X pins σ H s) (r : Vals vs us) (h : sp (vs ++ dvs) H Q E) : wpAny (model X.prog X.w) X.A (call (.ref f) us) (EP X pins σ Q) X.xe s := by
  have r2 : Vals (vs ++ dvs) (us ++ ds) := r.append hd
  have hl : (us ++ ds).length = ps.length := by rw [← r2.length]; exact F.len _ _ _ _ h
  refine wpAny_call (codeAny_mono (F.run X.A X.stack s H ⟨us, []⟩ (us ++ ds) (vs ++ dvs) Q E hr I.env0 (hb s us I.kIn hl) r2 h) fun r s' hq => ?_)
  cases r with
  | error e => exact hx pins σ H s e s' I hq
  | ok fl =>
    cases fl with
    | ret u => exact I.after hq
    | next => exact False.elim hq
    | brk => exact False.elim hq
    | cont => exact False.elim hq

theorem pe_call (F : FnOk X.prog X.w X.K X.mg X.base CX k f fd ps sp) (hr : Room k X.A) (hg : Gl X x) (hm : X.mg x = some (.ref f)) (hk : PySem.W.keepIn X.K (.ref f) = true) (hb : Binds X.K fd ps ds) (hd : Vals dvs ds) (hx : Passes CX X E)
    (ha : PA X (e :: es) t) (hdb : (x == ("__debug__" : Str)) = false := by decide) (he : starEach (e :: es) X.env = (false, eval e X.env) :: starEach es X.env := by rfl) (hpl : (backTo pos (starEach es X.env)).any (·.1) = false := by rfl) :
    PE X (.Call (.Name x p) (e :: es) [] pos) (tCall sp dvs E t) := by
  intro pins s σ H Q I h
  refine wpAny_Call_Name_kw (ld_glob I hg hm ?_ hdb)
  refine PySem.W.callWith_K (h₀ := X.base) I.ok.mod.kin hk (thn (ha pos pins s σ H _ I h) fun us s1 ⟨vs, H1, I1, r, q⟩ => ⟨I1.kIn, ?_⟩) he hpl
  exact run_fn F hr hb hd hx I1 r q

/-- o.m(e, ..) -/
theorem pe_meth {pl : Sem Bool} (he : PE X o ta) (c : Cls X.K C) (hm : Meth X.K C m f) (F : FnOk X.prog X.w X.K X.mg X.base CX k f fd ps sp) (hr : Room k X.A) (hb : Binds X.K fd ps ds) (hd : Vals dvs ds) (hx : Passes CX X E) (ha : PA X (e :: es) t)
    (hst : starEach (e :: es) X.env = (false, eval e X.env) :: starEach es X.env := by rfl) (hpl : (backTo pos (starEach es X.env)).any (·.1) = false := by rfl)
    (ht : eval (.Call (.Attribute o m apos) (e :: es) [] pos) X.env = (do
      let ov ← eval o X.env
      standAt apos.atName
      let (f, first) ← holding [ov] (getMethod ov m pl)
      callWith pos f first (backTo pos (starEach (e :: es) X.env)) (backToKw pos (keywordEach [] X.env))) := by rfl) :
    PE X (.Call (.Attribute o m apos) (e :: es) [] pos) (tMeth C m sp dvs E ta t) := by
  intro pins s σ H Q I h
  refine PySem.W.methodCall_KW (pl := pl) (thn (he pins s σ H _ I h) fun u s1 ⟨x, H1, I1, rx, a, dx, fs, ex, ea, l, q⟩ => ?_) ht
  subst ex
  obtain rfl : u = Value.ref a := rx
  refine getmeth_ok I1 ea c hm l ?_
  refine PySem.W.callWith_K (first := [.ref a]) (h₀ := X.base) I.ok.mod.kin hm.kp (thn (ha pos pins s1 σ H1 _ I1 q) fun us s2 ⟨vs, H2, I2, r, q2⟩ => ⟨I2.kIn, ?_⟩) hst hpl
  exact run_fn (us := .ref a :: us) (vs := .ref a :: vs) F hr hb hd hx I2 (.cons rfl r) q2
/-- o.m() -/
theorem pe_meth0 {pl : Sem Bool} (he : PE X o ta) (c : Cls X.K C) (hm : Meth X.K C m f) (F : FnOk X.prog X.w X.K X.mg X.base CX k f fd ps sp) (hr : Room k X.A) (hb : Binds X.K fd ps ds) (hd : Vals dvs ds) (hx : Passes CX X E)
    (ht : eval (.Call (.Attribute o m apos) [] [] pos) X.env = (do
      let ov ← eval o X.env
      standAt apos.atName
      let (f, first) ← holding [ov] (getMethod ov m pl)
      callWith pos f first (backTo pos (starEach [] X.env)) (backToKw pos (keywordEach [] X.env))) := by rfl) :
    PE X (.Call (.Attribute o m apos) [] [] pos) (tMeth C m sp dvs E ta tNil) := by
  intro pins s σ H Q I h
  refine PySem.W.methodCall_KW (pl := pl) (thn (he pins s σ H _ I h) fun u s1 ⟨x, H1, I1, rx, a, dx, fs, ex, ea, l, q⟩ => ?_) ht
  subst ex
  obtain rfl : u = Value.ref a := rx
  refine getmeth_ok I1 ea c hm l ?_
  exact PySem.W.callWith_K0 (first := [.ref a]) I1.kIn hm.kp (run_fn (us := [.ref a]) (vs := [.ref a]) F hr hb hd hx I1 (.cons rfl .nil) q)

/-- what a class must have to be made -/
structure Mk (K : PySem.W.Frag) (C f : Addr) : Prop where
  makes : PySem.W.makesIn K C = true
  init : PySem.W.findIn K (.ref C) "__init__" = some (some (.ref f))
  fn : PySem.W.isFn K (.ref f) = true
  kp : PySem.W.keepIn K (.ref C) = true

theorem run_make {pins : List (Addr × Obj)} {σ : St} {H : Hp} {s : Shared} {Q : VK} {us : List Value} {vs : List V} (M : Mk X.K C f) (F : FnOk X.prog X.w X.K X.mg X.base CX k f fd ps sp) (hr : Room (k + 1) X.A) (hb : Binds X.K fd ps ds) (hd : Vals dvs ds)
    (hx : Passes CX X E) (I : Inv X pins σ H s) (r : Vals vs us)
    (h : ∀ x dx, H x = none → H dx = none → dx ≠ x → sp (.ref x :: (vs ++ dvs)) (upd (upd H dx (.own x)) x (.ins C dx [])) (fun v H2 => v = .non ∧ Q (.ref x) H2) E) :
    wpAny (model X.prog X.w) X.A (call (.ref C) us) (EP X pins σ Q) X.xe s := by
  have hq := h (s.heap.objs.size + 1) s.heap.objs.size (I.hok.fresh (Nat.le_succ _)) (I.hok.fresh (Nat.le_refl _)) (Nat.ne_of_lt (Nat.lt_succ_self _))
  have I2 := Inv.made (C := C) I
  have r2 : Vals (V.ref (s.heap.objs.size + 1) :: (vs ++ dvs)) (Value.ref (s.heap.objs.size + 1) :: (us ++ ds)) := .cons rfl (r.append hd)
  have hl : (Value.ref (s.heap.objs.size + 1) :: us ++ ds).length = ps.length := by
    have e := r2.length
    rw [F.len _ _ _ _ hq] at e
    exact e.symm
  refine wpAny_call (make_map (f := f) I.kIn M.makes M.init (beq_iff_eq.mp M.fn) (codeAny_mono (F.run _ X.stack _ _ ⟨Value.ref (s.heap.objs.size + 1) :: us, []⟩ (Value.ref (s.heap.objs.size + 1) :: (us ++ ds)) _ _ E (hr.make C us [])
    (I2.env0.make C us []) (hb _ (Value.ref (s.heap.objs.size + 1) :: us) I2.kIn hl) r2 hq) fun r s' hq' => ?_))
  cases r with
  | error e => exact hx pins σ _ _ e s' I2 hq'
  | ok fl =>
    cases fl with
    | ret u =>
      obtain ⟨v, H', I3, rv, ev, q3⟩ := I2.after hq'
      subst ev
      exact ⟨rv, ⟨V.ref (s.heap.objs.size + 1), H', I3, rfl, q3⟩⟩
    | next => exact False.elim hq'
    | brk => exact False.elim hq'
    | cont => exact False.elim hq'
theorem pe_make0 (M : Mk X.K C f) (F : FnOk X.prog X.w X.K X.mg X.base CX k f fd ps sp) (hr : Room (k + 1) X.A) (hg : Gl X x) (hm : X.mg x = some (.ref C)) (hb : Binds X.K fd ps ds) (hd : Vals dvs ds) (hx : Passes CX X E)
    (hdb : (x == ("__debug__" : Str)) = false := by decide) : PE X (.Call (.Name x p) [] [] pos) (tMake C sp dvs E tNil) := by
  intro pins s σ H Q I h
  refine wpAny_Call_Name_kw (ld_glob I hg hm ?_ hdb)
  exact PySem.W.callWith_K0 I.kIn M.kp (run_make (us := []) M F hr hb hd hx I .nil h)
end

/-! ### keywords -/
section
variable {X : Cx} {CX : CXT} {k : Nat} {f C : Addr} {fd : FuncData} {ps ks : List Str} {sp : Sp} {E : XK} {x m : Str} {p pos apos kpos : Pos} {e o : Expr} {es : List Expr} {kws : List Keyword} {te ta : TE} {t tk : TA} {nm : Option Str}

/-- how a call with keywords binds: g puts the positional values us and the keywords' values ws (names ks) in the parameters' order, defaults among them -/
structure KBinds (K : PySem.W.Frag) (fd : FuncData) (ps ks : List Str) (g : List Value → List Value → List Value) (gV : List V → List V → List V) : Prop where
  to : ∀ (s : Shared) (us ws : List Value), K.In s.heap → (g us ws).length = ps.length → BindsTo s fd ⟨us, ks.zip ws⟩ (ps.zip (g us ws))
  rel : ∀ {vs : List V} {us : List Value} {zs : List V} {ws : List Value}, Vals vs us → Vals zs ws → Vals (gV vs zs) (g us ws)
variable {g : List Value → List Value → List Value} {gV : List V → List V → List V}
end

/-! ### a def's body keeps its promise -/
/-- names: the parameters first -/
structure FnScope (N P : List Str) (sc : Scope) : Prop where
  kind : sc.kind = .function
  co : sc.isCoroutine = false
  gen : sc.isGenerator = false
  nd : N.Nodup
  pre : N.take P.length = P
  par : ∀ x ∈ P, sc.names.lookup x = some .local ∨ sc.names.lookup x = some .cell
  nofree : ∀ y ∈ sc.names, y.2 ≠ .free

theorem bindL_out {kindOf : Str → Option NameKind} {x : Str} : ∀ {binds : List (Str × Value)} {m : Str → Option Value}, (∀ v, (x, v) ∉ binds) → bindL kindOf binds m x = m x
  | [], _, _ => rfl
  | (n, v) :: r, m, h => by
    unfold bindL
    rw [bindL_out fun w hw => h w (List.mem_cons_of_mem _ hw)]
    split
    · have : x ≠ n := by rintro rfl; exact h v List.mem_cons_self
      simp [this]
    · rfl
theorem bindC_out {kindOf : Str → Option NameKind} {x : Str} : ∀ {binds : List (Str × Value)} {m : Str → Option Value}, (∀ v, (x, v) ∉ binds) → bindC kindOf binds m x = m x
  | [], _, _ => rfl
  | (n, v) :: r, m, h => by
    unfold bindC
    rw [bindC_out fun w hw => h w (List.mem_cons_of_mem _ hw)]
    split
    · rfl
    · have : x ≠ n := by rintro rfl; exact h v List.mem_cons_self
      simp [this]
theorem bindL_get {kindOf : Str → Option NameKind} {x : Str} {v : Value} : ∀ {P : List Str} {vs : List Value} {i : Nat} {m : Str → Option Value}, P.Nodup → P[i]? = some x → vs[i]? = some v → kindOf x = some .local →
    bindL kindOf (P.zip vs) m x = some v
  | [], _, _, _, _, h, _, _ => by simp at h
  | _ :: _, [], _, _, _, _, h, _ => by simp at h
  | p :: P, w :: vs, 0, m, nd, h1, h2, hk => by
    simp at h1 h2; subst h1; subst h2
    show bindL kindOf ((p, w) :: P.zip vs) m p = _
    unfold bindL
    rw [bindL_out fun v hv => (List.nodup_cons.mp nd).1 (List.of_mem_zip hv).1, if_pos hk]
    simp
  | p :: P, w :: vs, i + 1, m, nd, h1, h2, hk => by
    show bindL kindOf ((p, w) :: P.zip vs) m x = _
    unfold bindL
    exact bindL_get (i := i) (List.nodup_cons.mp nd).2 (by simpa using h1) (by simpa using h2) hk
theorem bindC_get {kindOf : Str → Option NameKind} {x : Str} {v : Value} : ∀ {P : List Str} {vs : List Value} {i : Nat} {m : Str → Option Value}, P.Nodup → P[i]? = some x → vs[i]? = some v → kindOf x ≠ some .local →
    bindC kindOf (P.zip vs) m x = some v
  | [], _, _, _, _, h, _, _ => by simp at h
  | _ :: _, [], _, _, _, _, h, _ => by simp at h
  | p :: P, w :: vs, 0, m, nd, h1, h2, hk => by
    simp at h1 h2; subst h1; subst h2
    show bindC kindOf ((p, w) :: P.zip vs) m p = _
    unfold bindC
    rw [bindC_out fun v hv => (List.nodup_cons.mp nd).1 (List.of_mem_zip hv).1, if_neg hk]
    simp
  | p :: P, w :: vs, i + 1, m, nd, h1, h2, hk => by
    show bindC kindOf ((p, w) :: P.zip vs) m x = _
    unfold bindC
    exact bindC_get (i := i) (List.nodup_cons.mp nd).2 (by simpa using h1) (by simpa using h2) hk

/-- the names' values at the entry -/
def start (N : List Str) (vs : List V) : St := vs.map some ++ List.replicate (N.length - vs.length) none

/-- the context of a def's body, at its entry; an exception leaves the frame, then lies as CX says -/
def cxOf (CX : CXT) (P : Program) (w : World) (K : PySem.W.Frag) (mg : Str → Option Value) (base : Heap) (N : List Str) (qual : Str) (scope : Scope) (f : Addr) (cd : Value) (A : Around) (outer : List Env) (s : Shared) (H : Hp) (E : XK) : Cx where
  prog := P
  w := w
  K := K
  mg := mg
  base := base
  A := A.deeper (envOfC qual scope s.heap.objs.size f cd)
  N := N
  s_0 := s
  H_0 := H
  env := envOfC qual scope s.heap.objs.size f cd
  outer := outer
  stack := envOfC qual scope s.heap.objs.size f cd :: outer
  ex := []
  calm := true
  fn := fun _ => true
  pn := []
  xe := fun e s' => wpAny (model P w) (A.deeper (envOfC qual scope s.heap.objs.size f cd)) (leaving (envOfC qual scope s.heap.objs.size f cd) e) (fun _ s'' => CX outer H s E e s'') (fun e' s'' => CX outer H s E e' s'') s'

theorem cell_has {sc : Scope} {n : Nat} {x : Str} (h : sc.names.lookup x = some .cell) : ∃ c, (cellsFrom n sc.names []).lookup x = some c := by
  have q := PySem.W.cellsFrom_some sc.names n [] (.inl h)
  exact Option.isSome_iff_exists.mp q

theorem inv_start {CX : CXT} {P : Program} {w : World} {K : PySem.W.Frag} {mg : Str → Option Value} {base : Heap} {N ps : List Str} {qual : Str} {scope : Scope} {f : Addr} {cd : Value} {A : Around} {outer : List Env} {s s1 : Shared} {H : Hp} {E : XK} {us : List Value} {vs : List V}
    (S : FnScope N ps scope) (hd : A.handled = none) (e0 : Env0 P w K mg base A outer s H) (hl : vs.length = ps.length) (r : Vals vs us)
    (x : InCallC s s.heap.objs.size (bindL (envOfC qual scope s.heap.objs.size f cd).kindOf (ps.zip us) fun _ => none) (cellsFrom (s.heap.objs.size + 1) scope.names []) (bindC (envOfC qual scope s.heap.objs.size f cd).kindOf (ps.zip us) fun _ => none) s1) :
    Inv (cxOf CX P w K mg base N qual scope f cd A outer s H E) [] (start N vs) H s1 := by
  have hpl : ps.length ≤ N.length := by have := congrArg List.length S.pre; rw [List.length_take] at this; omega
  obtain ⟨h1, tk, rfl, hk⟩ := x.done
  have noA : ∀ b : Addr, b ∉ (cxOf CX P w K mg base N qual scope f cd A outer s H E).ex := fun b z => absurd (show b ∈ ([] : List Addr) from z) (by simp)
  refine ⟨⟨e0.mod, S.kind, rfl, rfl, Nat.le_refl _, fun y z c h1 h2 => ?_, fun y hy => ?_, fun y c _ h => ?_, fun _ => hd, Around.frames_deeper e0.frames, .inr ⟨rfl, rfl⟩, fun b z => absurd z (noA b), e0.bs, e0.bsz, fun b _ _ => noA b, fun b z => absurd z (noA b), e0.funs, e0.frf⟩,
    rfl, e0.bare, Un.kept hk, ⟨_, x.toInCall.ns, fun i y v h1 h2 h3 => ?_⟩, fun y c h => ⟨_, x.cell y c h⟩, e0.hok.fresh (Nat.le_refl _), fun y c h => ?_, fun p hp => absurd (show p ∈ ([] : List (Addr × Obj)) from hp) (by simp), e0.hok.kept hk, ?_⟩
  · exact name_of_addr x.apart (PySem.mem_of_lookup h1) (PySem.mem_of_lookup h2)
  · have hy : scope.names.lookup y = some .cell ∨ scope.names.lookup y = some .free := hy
    rcases hy with hy | hy
    · exact cell_has hy
    · exact absurd rfl (S.nofree _ (PySem.mem_of_lookup hy))
  · exact Nat.le_of_lt (x.above y c (PySem.mem_of_lookup h))
  · have hi : i < vs.length := by
      unfold start at h2
      by_cases hi : i < vs.length
      · exact hi
      · rw [List.getElem?_append_right (by simpa using hi)] at h2
        rw [List.getElem?_replicate] at h2
        split at h2 <;> cases h2
    have ha : vs[i]? = some v := by
      unfold start at h2
      rw [List.getElem?_append_left (by simpa using hi), List.getElem?_map] at h2
      cases e : vs[i]? with
      | none => rw [e] at h2; cases h2
      | some a => rw [e] at h2; cases h2; rfl
    obtain ⟨u, hu, rv⟩ := r.get ha
    have hp : ps[i]? = some y := by
      rw [← S.pre, List.getElem?_take_of_lt (by omega)]; exact h1
    have ndP : ps.Nodup := by rw [← S.pre]; exact S.nd.sublist (List.take_sublist _ _)
    refine ⟨u, rv, ?_⟩
    rcases S.par y (List.mem_of_getElem? hp) with k | k
    · exact .inl ⟨k, bindL_get ndP hp hu k⟩
    · obtain ⟨c, e⟩ := cell_has (n := s.heap.objs.size + 1) k
      refine .inr ⟨.inl k, c, e, ?_⟩
      have q := x.cell y c e
      rw [bindC_get ndP hp hu (by show scope.names.lookup y ≠ _; rw [k]; decide)] at q
      exact q
  · exact e0.hok.fresh (Nat.le_of_lt (x.above y c (PySem.mem_of_lookup h)))
  · unfold start
    show _ = N.length
    rw [List.length_append, List.length_map, List.length_replicate]
    omega

/-- THE RULE: a def (or a method) of the text, by its body. The body's reading t is chosen for each entry; it is run at the parameters' values -/
theorem fn_of {CX : CXT} {P : Program} {w : World} {K : PySem.W.Frag} {mg : Str → Option Value} {base : Heap} {k : Nat} {f : Addr} {name qual : Str} {params : Arguments} {body : List Stmt} {scope : Scope} {dV kV doc pm cdv ct oc : Value} {an od : Option Addr}
    {osl : Array (Option Value)} {N ps : List Str} {sp : Sp} (lk : K.lookup f = some ⟨oc, od, .func (PySem.W.fnOf name qual params body scope dV kV doc pm an cdv ct), osl⟩) (hcd : PySem.W.codeIn K cdv qual = true) (S : FnScope N ps scope)
    (len : ∀ vs H Q E, sp vs H Q E → vs.length = ps.length)
    (hbody : ∀ (A : Around) (outer : List Env) (s : Shared) (H : Hp) (vs : List V) (Q : VK) (E : XK), Room k (A.deeper (envOfC qual scope s.heap.objs.size f cdv)) → sp vs H Q E →
      ∃ t, PSs (cxOf CX P w K mg base N qual scope f cdv A outer s H E) body t ∧ t { nx := fun _ H' => Q .non H', rt := Q } (start N vs) H) :
    FnOk P w K mg base CX (k + 1) f (PySem.W.fnOf name qual params body scope dV kV doc pm an cdv ct) ps sp := by
  refine ⟨len, fun A outer s H args us vs Q E hr e0 hb r hsp => ?_⟩
  have hl := len _ _ _ _ hsp
  have KX : K.In s.heap := e0.mod.kin.keeps fun b o e => (e0.bs b o e).1
  have lim : s.heap.NoLimit := e0.mod.nolimit.keeps fun b o e => (e0.bs b o e).1
  have hkind : ∀ y ∈ ps.zip us, scope.names.lookup y.1 = some .local ∨ (scope.names.lookup y.1 = some .cell ∧ ((cellsFrom (s.heap.objs.size + 1) scope.names []).lookup y.1).isSome = true) := fun ⟨n, v⟩ hy => by
    rcases S.par n (List.of_mem_zip hy).1 with q | q
    · exact .inl q
    · exact .inr ⟨q, PySem.W.cellsFrom_some _ _ _ (.inl q)⟩
  refine codeAny_call_function hr.depth (KX _ _ lk) rfl S.co S.gen rfl (PySem.W.codeRec_of KX hcd) (hb _ _ _ _ ?_)
  refine wpAny_newFunctionEnv_cells S.kind hkind fun env he s1 x => ?_
  subst he
  refine ⟨lim.keeps x.toInCall.keep, codeAny_func ?_⟩
  obtain ⟨t, ht, hq⟩ := hbody A outer s H vs Q E (hr.deeper _) hsp
  have I : Inv (cxOf CX P w K mg base N qual scope f cdv A outer s H E) [] (start N vs) H s1 := inv_start S hr.hd e0 hl r x
  refine wpAny_mono (ht [] s1 (start N vs) H _ I hq) (fun fl s' hs => ?_) fun e s' hs => hs
  have fin : ∀ {σ' : St} {H' : Hp} {v : V} {u : Value}, Inv (cxOf CX P w K mg base N qual scope f cdv A outer s H E) [] σ' H' s' → RelV v u → Q v H' → CE outer P w H s Q u s' :=
    fun {σ' H' v u} J rv q => ⟨v, H', J.os, J.bare, J.base, J.hok, rv, q⟩
  cases fl with
  | ret u =>
    obtain ⟨v, σ', H', J, rv, q⟩ := hs
    exact fin J rv q
  | next =>
    obtain ⟨σ', H', J, q⟩ := hs
    exact fin (v := V.non) (u := Value.none) J rfl q
  | brk =>
    obtain ⟨_, _, _, q⟩ := hs
    exact False.elim q
  | cont =>
    obtain ⟨_, _, _, q⟩ := hs
    exact False.elim q
end L2

namespace L2
open PySem PySem.Spec PyProof.Rows
section
variable {X : Cx} {x : Str} {p pos : Pos} {e : Expr} {es : List Expr} {t : TA} {id T : String} {r : List V → Hp → VK → Prop}

def tCB (r : List V → Hp → VK → Prop) (t : TA) : TE := fun σ H Q => t σ H fun vs H1 => r vs H1 Q
/-- f(e, ..), f a built-in function -/
theorem pe_callB (hc : CallR X (.builtin id) r) (hg : Gl X x) (hm : X.mg x = none) (hv : bootBuiltins x = some (.builtin id)) (ha : PA X (e :: es) t) (hn : x ≠ "__name__" := by decide) (hdb : (x == ("__debug__" : Str)) = false := by decide)
    (he : starEach (e :: es) X.env = (false, eval e X.env) :: starEach es X.env := by rfl) (hpl : (backTo pos (starEach es X.env)).any (·.1) = false := by rfl) : PE X (.Call (.Name x p) (e :: es) [] pos) (tCB r t) := by
  intro pins s σ H Q I h
  refine wpAny_Call_Name_kw (ld_blt I hg hm hv ?_ hn hdb)
  exact PyProof.Rows.callWith_builtin1 (thn (ha pos pins s σ H _ I h) fun us s1 ⟨vs, H1, I1, r1, q1⟩ => hc pins s1 σ H1 vs us Q I1 r1 q1) he hpl
/-- T(e, ..), T a built-in type -/
theorem pe_callTy (hc : CallR X (.type T) r) (hg : Gl X x) (hm : X.mg x = none) (hv : bootBuiltins x = some (.type T)) (ha : PA X (e :: es) t) (hn : x ≠ "__name__" := by decide) (hdb : (x == ("__debug__" : Str)) = false := by decide)
    (he : starEach (e :: es) X.env = (false, eval e X.env) :: starEach es X.env := by rfl) (hpl : (backTo pos (starEach es X.env)).any (·.1) = false := by rfl) : PE X (.Call (.Name x p) (e :: es) [] pos) (tCB r t) := by
  intro pins s σ H Q I h
  refine wpAny_Call_Name_kw (ld_blt I hg hm hv ?_ hn hdb)
  exact PyProof.Rows.callWith_type1 (thn (ha pos pins s σ H _ I h) fun us s1 ⟨vs, H1, I1, r1, q1⟩ => hc pins s1 σ H1 vs us Q I1 r1 q1) he hpl
end
end L2

namespace HT
open PySem PyProof.Rows



section
open PySem.SeqAt
open PySem.AutoSeq1 (wpAny_loadPart')
open PySem.MeetsSeq PySem.MeetsSeq2 PySem.MeetsSeq3

end

section
variable {prog : Program} {w : World} {A : Around} {E : Value → Shared → Prop} {s : Shared}



/-! ### t[a:b], not the whole -/
/-- a slice's bound as a place among n (d where it is left out) -/
def sIx (n d : Nat) : Option Int → Nat
  | none => d
  | some v => if v < 0 then (v + (n : Int)).toNat else min v.toNat n
theorem sIx_none (n d : Nat) : sIx n d none = d := rfl
theorem sIx_nat (n d k : Nat) : sIx n d (some (k : Int)) = min k n := by
  show (if (k : Int) < 0 then ((k : Int) + (n : Int)).toNat else min (k : Int).toNat n) = min k n
  rw [if_neg (by omega), Int.toNat_natCast]

end
end HT

namespace L2
open PySem PySem.Spec PyProof.Rows

/-! ### the parts of a slice -/
abbrev TO := St → Hp → (Option Int → Hp → Prop) → Prop
/-- a slice's part (left out, or an int) -/
def PO (X : Cx) (e : Option Expr) (t : TO) : Prop :=
  ∀ (pins : List (Addr × Obj)) (s : Shared) (σ : St) (H : Hp) (Q : Option Int → Hp → Prop), Inv X pins σ H s → t σ H Q →
    wpAny (model X.prog X.w) X.A (evalPart e X.env) (fun u s' => ∃ o H', Inv X pins σ H' s' ∧ IsPart u o ∧ Q o H') X.xe s
def tNoPart : TO := fun _ H Q => Q none H
def tPart (t : TE) : TO := fun σ H Q => t σ H fun x H1 => ∃ i, x = .int i ∧ Q (some i) H1


section
variable {X : Cx} {e : Expr} {te : TE} {lo hi : Option Expr} {tl th : TO} {pos p2 : Pos}

theorem po_none : PO X none tNoPart := by
  intro pins s σ H Q I h
  rw [evalPart_none]
  exact wpAny_pure ⟨none, H, I, .none, h⟩
theorem po_some (h : PE X e te) : PO X (some e) (tPart te) := by
  intro pins s σ H Q I hw
  rw [evalPart_some]
  refine thn (h pins s σ H _ I hw) fun u s1 ⟨x, H1, I1, r1, q1⟩ => ?_
  obtain ⟨i, rfl, q⟩ := q1
  obtain ⟨t, rfl⟩ := r1
  exact ⟨some i, H1, I1, .int i t, q⟩

/-- what a slice of a value is, by values: the slice object stands at sl -/
def SlR (X : Cx) (r : V → Option Int → Option Int → Hp → VK → Prop) : Prop :=
  ∀ (pins : List (Addr × Obj)) (s : Shared) (σ : St) (H : Hp) (x : V) (v vl vu : Value) (lo hi : Option Int) (sl : Addr) (Q : VK), Inv X pins σ H s → RelV x v → s.heap.IsSliceOf sl vl vu .none → IsPart vl lo → IsPart vu hi → r x lo hi H Q →
    ∃ T id, typeLookup (.type T) "__getitem__" = pure (some (.builtin id)) ∧ s.TypeIs v T ∧ wpAny (model X.prog X.w) X.A (getItem v (.ref sl)) (EP X pins σ Q) X.xe s
def tSl (r : V → Option Int → Option Int → Hp → VK → Prop) (te : TE) (tl th : TO) : TE := fun σ H Q => te σ H fun x H1 => tl σ H1 fun l H2 => th σ H2 fun u H3 => r x l u H3 Q
/-- a[lo:hi], any a -/
theorem pe_slice {r : V → Option Int → Option Int → Hp → VK → Prop} (hr : SlR X r) (he : PE X e te) (hl : PO X lo tl) (hu : PO X hi th) : PE X (.Subscript e (.Slice lo hi none p2) pos) (tSl r te tl th) := by
  intro pins s σ H Q I h
  refine Subscript_ (thn (he pins s σ H _ I h) fun v s1 ⟨x, H1, I1, r1, q1⟩ => ?_)
  refine wpAny_Slice (thn (hl pins s1 σ H1 _ I1 q1) fun vl s2 ⟨l, H2, I2, pl, q2⟩ => thn (hu pins s2 σ H2 _ I2 q2) fun vu s3 ⟨u, H3, I3, pu, q3⟩ => ?_)
  rw [evalPart_none]
  refine wpAny_pure ?_
  have I4 : Inv X pins σ H3 { s3 with heap := s3.heap.push { cls := .type "slice", data := .fields #[vl, vu, .none] } } := I3.kept (t' := s3.toks) fun b ob q => Heap.get?_push_of_some _ q
  obtain ⟨T, id, hT, ht, hg⟩ := hr pins { s3 with heap := s3.heap.push { cls := .type "slice", data := .fields #[vl, vu, .none] } } σ H3 x v vl vu l u s3.heap.objs.size Q I4 r1 (Heap.IsSliceOf.new ..) pl pu q3
  show wpAny (model X.prog X.w) X.A (subscriptTail e (.Slice lo hi none p2) v (.ref s3.heap.objs.size)) (EP X pins σ Q) X.xe { s3 with heap := s3.heap.push { cls := .type "slice", data := .fields #[vl, vu, .none] } }
  exact tail_any (ops := [.ref s3.heap.objs.size, v]) ht hT hg (by with_unfolding_all rfl)

/-- the items of xs[lo:hi] -/
def cutV (xs : List V) (lo hi : Option Int) : List V := (xs.drop (HT.sIx xs.length 0 lo)).take (HT.sIx xs.length xs.length hi - HT.sIx xs.length 0 lo)
theorem cutV_length (xs : List V) (lo hi : Option Int) : (cutV xs lo hi).length ≤ xs.length := by
  unfold cutV
  rw [List.length_take, List.length_drop]
  omega

/-! ### t < u, t + u -/
end
end L2

namespace L2
open PySem PySem.Spec PyProof.Rows

/-! ### places -/
/-- the place that an index of any sign means -/
def ixN (n : Nat) (i : Int) : Option Nat := if 0 ≤ i then (if i < n then some i.toNat else none) else if -(n : Int) ≤ i then some (i + n).toNat else none
def atI {α : Type} (xs : List α) (i : Int) : Option α := (ixN xs.length i).bind fun j => xs[j]?
theorem ixN_seq {n : Nat} {i : Int} {j : Nat} (h : ixN n i = some j) : seqIndex? i n = some j ∧ j < n ∧ -(n : Int) ≤ i ∧ i < n := by
  unfold ixN at h
  by_cases h0 : 0 ≤ i
  · rw [if_pos h0] at h
    by_cases h1 : i < n
    · rw [if_pos h1] at h
      have e : i.toNat = j := Option.some.inj h
      exact ⟨by rw [seqIndex_of h0 h1, e], by omega, by omega, h1⟩
    · rw [if_neg h1] at h; cases h
  · rw [if_neg h0] at h
    by_cases h1 : -(n : Int) ≤ i
    · rw [if_pos h1] at h
      have e : (i + n).toNat = j := Option.some.inj h
      exact ⟨by rw [seqIndex_neg (by omega) h1, e], by omega, h1, by omega⟩
    · rw [if_neg h1] at h; cases h
theorem atI_get {α : Type} {xs : List α} {i : Int} {v : α} (h : atI xs i = some v) : ∃ j, seqIndex? i xs.length = some j ∧ xs[j]? = some v ∧ j < xs.length ∧ -(xs.length : Int) ≤ i ∧ i < xs.length := by
  unfold atI at h
  cases e : ixN xs.length i with
  | none => rw [e] at h; cases h
  | some j =>
    rw [e] at h
    obtain ⟨h1, h2, h3, h4⟩ := ixN_seq e
    exact ⟨j, h1, h, h2, h3, h4⟩
theorem atI_nat {α : Type} {xs : List α} {j : Nat} {v : α} (h : xs[j]? = some v) : atI xs (j : Int) = some v := by
  have hj : j < xs.length := (List.getElem?_eq_some_iff.mp h).1
  have e : ixN xs.length (j : Int) = some j := by
    unfold ixN
    rw [if_pos (by omega), if_pos (by omega)]; simp
  unfold atI; rw [e]; exact h
theorem atI_last {α : Type} (xs : List α) (v : α) : atI (xs ++ [v]) (-1) = some v := by
  have hl : (xs ++ [v]).length = xs.length + 1 := by simp
  have e : ixN (xs ++ [v]).length (-1) = some xs.length := by
    unfold ixN
    rw [hl, if_neg (by decide), if_pos (by omega)]
    congr 1
    omega
  unfold atI
  rw [e]
  show (xs ++ [v])[xs.length]? = some v
  simp

/-! ### what may be subscripted -/
/-- what stands as an index of a plain subscript -/
def PlainIx (b : Expr) : Prop := ∀ o i, subscripted b false o i = operate [o, i] (getItem o i)
/-- a subscript by values -/
def IxR (X : Cx) (r : R2) : Prop :=
  ∀ (value slice : Expr) (pins : List (Addr × Obj)) (s : Shared) (σ : St) (H : Hp) (x y : V) (v u : Value) (Q : VK), Inv X pins σ H s → RelV x v → RelV y u → r x y H Q →
    subscripted slice false v u = operate [v, u] (getItem v u) → wpAny (model X.prog X.w) X.A (subscriptTail value slice v u) (EP X pins σ Q) X.xe s
/-- a call of a builtin's method by values: the receiver, the arguments -/
def MtR (X : Cx) (id : String) (r : V → List V → Hp → VK → Prop) : Prop :=
  ∀ (pins : List (Addr × Obj)) (s : Shared) (σ : St) (H : Hp) (x : V) (xs : List V) (v : Value) (us : List Value) (Q : VK), Inv X pins σ H s → RelV x v → Vals xs us → r x xs H Q →
    wpAny (model X.prog X.w) X.A (call (.builtin id) (v :: us)) (EP X pins σ Q) X.xe s
section
variable {X : Cx} {a b : Expr} {ta tb : TE} {pos : Pos}
/-- a[b] -/
theorem pe_ix {r : R2} (hr : IxR X r) (ha : PE X a ta) (hb : PE X b tb) (hs : PlainIx b) : PE X (.Subscript a b pos) (tOp r ta tb) := by
  intro pins s σ H Q I h
  exact Subscript_ (binT ha hb I h fun v u s2 x y H2 I2 rx ry q => hr a b pins s2 σ H2 x y v u Q I2 rx ry q (hs _ _))

def rIxL (K : PySem.W.Frag) : R2 := fun x y H Q => ∃ p xs i v, x = .ref p ∧ y = .int i ∧ SqL K H p xs ∧ atI xs i = some v ∧ Q v H
theorem ix_list : IxR X (rIxL X.K) := by
  intro value slice pins s σ H x y v u Q I rx ry h hs
  obtain ⟨p, xs, i, z, rfl, rfl, hq, he, q⟩ := h
  cases rx
  obtain ⟨t, rfl⟩ := ry
  obtain ⟨its, r, pl, hz⟩ := I.list hq
  obtain ⟨j, h1, h2, h3, h4, h5⟩ := atI_get he
  obtain ⟨w, ew, rw'⟩ := r.get h2
  have hl := r.length
  have hn := line63
  have fin : EP X pins σ Q w s := ⟨z, H, I, rw', q⟩
  by_cases h0 : 0 ≤ i
  · have hj : i.toNat = j := by
      rw [seqIndex_of h0 h5] at h1
      exact Option.some.inj h1
    exact item_listR pl.isList h0 (by omega) (by rw [hj]; simpa using ew) fin hs
  · have hj : (i + (its.toArray.size : Int)).toNat = j := by
      rw [seqIndex_neg (by omega) h4] at h1
      rw [List.size_toArray, ← hl]
      exact Option.some.inj h1
    exact subscriptTail_builtinR (x := w) pl.isList.typeIs slot_list_getitem.lookup
      (wpAny_getItem_list_neg (Q := fun r s' => r = w ∧ EP X pins σ Q r s') pl.isList (by omega) (by rw [List.size_toArray] <;> omega) (by omega) (by rw [hj]; simpa using ew) ⟨rfl, fin⟩) hs

/-! ### xs[i] = v, any sign -/
/-- the list's object behind a store -/
theorem mapSeq_set (its : List Value) (n j : Nat) (u : Value) : Obj.mapSeq (·.setIfInBounds j u) { cls := .type "list", data := .seq its.toArray n } = { cls := .type "list", data := .seq (its.set j u).toArray n } := by
  simp [Obj.mapSeq]
theorem Inv.lst {pins : List (Addr × Obj)} {σ : St} {H : Hp} {s : Shared} {p : Addr} {xs : List V} (I : Inv X pins σ H s) (h : H p = some (.lst xs)) :
    ∃ (its : List Value) (n : Nat), Vals xs its ∧ s.heap.get? p = some { cls := .type "list", data := .seq its.toArray n } ∧ xs.length ≤ sizeLine := by
  obtain ⟨z, its, n, r, e⟩ := I.hok p _ h
  exact ⟨its, n, r, e, z⟩
/-- the list at p is written by an update of its object -/
theorem Inv.lstUpd {pins : List (Addr × Obj)} {σ : St} {H : Hp} {s : Shared} {p : Addr} {xs ys : List V} {its its' : List Value} {n n' : Nat} {f : Obj → Obj} (I : Inv X pins σ H s) (h : H p = some (.lst xs))
    (ho : s.heap.get? p = some { cls := .type "list", data := .seq its.toArray n }) (hf : f { cls := .type "list", data := .seq its.toArray n } = { cls := .type "list", data := .seq its'.toArray n' }) (r : Vals ys its') (hz : ys.length ≤ sizeLine) (t : Nat) :
    Inv X pins σ (upd H p (.lst ys)) { s with heap := s.heap.update p f, toks := t } := by
  have e : (s.heap.update p f).get? p = some { cls := .type "list", data := .seq its'.toArray n' } := by
    rw [Heap.get?_update_self f ho (by rw [hf] <;> rfl), hf]
  refine I.write (x := p) (e := p) (by rw [h]; trivial) (.inl rfl) (fun b u hb q => (Heap.get?_update_other _ _ (Ne.symm hb)).trans q) ⟨_, e⟩ ?_
  exact ⟨hz, its', n', r, e⟩
def rSetL : V → V → V → Hp → (Hp → Prop) → Prop := fun o i v H Q => ∃ p xs k j, o = .ref p ∧ i = .int k ∧ H p = some (.lst xs) ∧ ixN xs.length k = some j ∧ Q (upd H p (.lst (xs.set j v)))
theorem set_list : PSet X rSetL := by
  intro pins s σ H o i v ov iv u Q I ro ri rv h
  obtain ⟨p, xs, k, j, rfl, rfl, hp, hj, q⟩ := h
  cases ro
  obtain ⟨t, rfl⟩ := ri
  obtain ⟨its, n, r, ho, hz⟩ := I.lst hp
  obtain ⟨h1, h2, h3, h4⟩ := ixN_seq hj
  have hl := r.length
  have hn := line63
  have I' : Inv X pins σ (upd H p (.lst (xs.set j v))) { s with heap := s.heap.update p (Obj.mapSeq (·.setIfInBounds j u)) } :=
    I.lstUpd hp ho (mapSeq_set its n j u) (r.set rv j) (by rw [List.length_set]; exact hz) s.toks
  by_cases h0 : 0 ≤ k
  · have hk : k.toNat = j := by
      rw [seqIndex_of h0 h4] at h1
      exact Option.some.inj h1
    exact PySem.W.ki_setAt ho h0 (by omega) (by rw [List.size_toArray, ← hl]; exact h4) (by rw [hk]; exact ⟨_, I', q⟩)
  · have hk : (k + (its.toArray.size : Int)).toNat = j := by
      rw [seqIndex_neg (by omega) h3] at h1
      rw [List.size_toArray, ← hl]
      exact Option.some.inj h1
    exact PySem.W.ki_setBack ho (by omega) (by rw [List.size_toArray, ← hl]; exact h3) (by omega) (by rw [hk]; exact ⟨_, I', q⟩)

/-! ### slices -/
theorem slice_bounds (lo hi : Option Int) (n : Nat) : (sliceBounds lo hi none n).1 = ((HT.sIx n 0 lo : Nat) : Int) ∧ (sliceBounds lo hi none n).2.1 = ((HT.sIx n n hi : Nat) : Int) ∧ (sliceBounds lo hi none n).2.2 = 1 := by
  refine ⟨?_, ?_, rfl⟩
  · cases lo with
    | none => simp [sliceBounds, HT.sIx]
    | some i =>
      simp only [sliceBounds, HT.sIx, Option.getD_none, show (1 : Int) > 0 by decide, if_true]
      by_cases h : i < 0
      · simp only [h, if_true] <;> omega
      · simp only [h, if_false] <;> omega
  · cases hi with
    | none => simp [sliceBounds, HT.sIx]
    | some i =>
      simp only [sliceBounds, HT.sIx, Option.getD_none, show (1 : Int) > 0 by decide, if_true]
      by_cases h : i < 0
      · simp only [h, if_true] <;> omega
      · simp only [h, if_false] <;> omega
theorem slicePick_cut (its : List Value) (lo hi : Option Int) : slicePick its.toArray lo hi none = ((its.drop (HT.sIx its.length 0 lo)).take (HT.sIx its.length its.length hi - HT.sIx its.length 0 lo)).toArray := by
  obtain ⟨h1, h2, h3⟩ := slice_bounds lo hi its.toArray.size
  unfold slicePick
  rw [h1, h2, h3]
  simp only [sliceRange_one, pick_run, List.size_toArray] <;> rfl
/-- xs[lo:hi] of a list: a new list -/
def rSlL (K : PySem.W.Frag) : V → Option Int → Option Int → Hp → VK → Prop := fun x lo hi H Q => ∃ a xs, x = .ref a ∧ SqL K H a xs ∧ ∀ p, H p = none → Q (.ref p) (upd H p (.lst (cutV xs lo hi)))
theorem sl_list : SlR X (rSlL X.K) := by
  intro pins s σ H x v vl vu lo hi sl Q I rx hs pl pu h
  obtain ⟨a, xs, rfl, hx, q⟩ := h
  cases rx
  obtain ⟨its, r, ht, hz⟩ := I.list hx
  have hlen := r.length
  refine ⟨"list", _, slot_list_getitem.lookup, ht.isList.typeIs, ?_⟩
  refine wpAny_getItem_list_slice ht.isList hs pl pu .none (by simp) ?_ (by rw [List.size_toArray] <;> omega)
  rw [slicePick_cut, ← hlen]
  refine ⟨.ref s.heap.objs.size, _, I.laid (t' := s.toks) (o := .lst (cutV xs lo hi)) (fun b ob q => Heap.get?_push_of_some _ q) (Nat.le_refl _) ?_, rfl, q _ (I.hok.fresh (Nat.le_refl _))⟩
  exact ⟨Nat.le_trans (cutV_length xs lo hi) hz, _, 0, (r.drop (HT.sIx xs.length 0 lo)).take (HT.sIx xs.length xs.length hi - HT.sIx xs.length 0 lo), Heap.get?_push_size _ rfl⟩

/-! ### in, not in: flat items -/

/-! ### len, list(x), tuple(x) of any list or tuple that is read -/
theorem call_len_seq : CallR X (.builtin "len") (fun xs H Q => ∃ p ys, xs = [.ref p] ∧ (SqL X.K H p ys ∨ SqT X.K H p ys) ∧ Q (.int ys.length) H) := by
  intro pins s σ H xs us Q I r h
  obtain ⟨p, ys, rfl, hq, q⟩ := h
  obtain ⟨u, rfl, rx⟩ := vals1 r
  cases rx
  have hn := line63
  rcases hq with hq | hq
  · obtain ⟨its, r', pl, hz⟩ := I.list hq
    have hlen := r'.length
    exact Calls.call_len_list pl.isList (by simp only [List.size_toArray] <;> omega) ⟨.int ys.length, H, I.tok _, ⟨s.toks + 1, by rw [List.size_toArray, hlen]⟩, q⟩
  · obtain ⟨its, r', pl, hz⟩ := I.tuple hq
    have hlen := r'.length
    exact len_tuple pl (by simp only [List.size_toArray] <;> omega) ⟨.int ys.length, H, I.tok _, ⟨s.toks + 1, by rw [List.size_toArray, hlen]⟩, q⟩
theorem call_list_of : CallR X (.type "list") (fun xs H Q => ∃ p ys, xs = [.ref p] ∧ (SqL X.K H p ys ∨ SqT X.K H p ys) ∧ ∀ l, H l = none → Q (.ref l) (upd H l (.lst ys))) := by
  intro pins s σ H xs us Q I r h
  obtain ⟨p, ys, rfl, hq, q⟩ := h
  obtain ⟨u, rfl, rx⟩ := vals1 r
  cases rx
  have fin : ∀ (its : List Value), Vals ys its → ys.length ≤ sizeLine → ∀ (h' : Heap) (c' : Nat), (∀ b o', s.heap.get? b = some o' → h'.get? b = some o') →
      h'.get? s.heap.objs.size = some { cls := .type "list", dict := none, data := .seq its.toArray c', slots := #[] } → EP X pins σ Q (.ref s.heap.objs.size) { s with heap := h' } := fun its r' hz h' c' kp e =>
    ⟨.ref s.heap.objs.size, _, I.laid (t' := s.toks) kp (Nat.le_refl _) (show ObjOk X.prog X.w _ h' _ (.lst ys) from ⟨hz, its, c', r', e⟩), rfl, q _ (I.hok.fresh (Nat.le_refl _))⟩
  rcases hq with hq | hq
  · obtain ⟨its, r', pl, hz⟩ := I.list hq
    have hlen := r'.length
    obtain ⟨o, ho, hc, n, hd⟩ := pl.isList
    exact call_list_seq p (.inl rfl) ho hc hd (fun h' c' kp e => fin its r' hz h' c' kp e) (by simp only [List.size_toArray] <;> omega)
  · obtain ⟨its, r', pl, hz⟩ := I.tuple hq
    have hlen := r'.length
    obtain ⟨o, ho, hc, n, hd⟩ := pl
    exact call_list_seq p (.inr rfl) ho hc hd (fun h' c' kp e => fin its r' hz h' c' kp e) (by simp only [List.size_toArray] <;> omega)

/-! ### the call of a builtin's method: o.m(..) -/
/-- the value is of that builtin type -/
def tyV (K : PySem.W.Frag) (T : String) (x : V) (H : Hp) : Prop := match x with
  | .str _ => T = "str"
  | .int _ => T = "int"
  | .ref p => (T = "list" ∧ ∃ xs, SqL K H p xs) ∨ (T = "tuple" ∧ ∃ o, K.lookup p = some o ∧ o.cls = .type "tuple" ∧ o.dict = none) ∨
      (T = "dict" ∧ ((∃ kvs, H p = some (.dK kvs)) ∨ ∃ kvs, H p = some (.dT kvs))) ∨ (T = "set" ∧ ∃ S n, H p = some (.set S n))
  | _ => False
theorem tyV_is {pins : List (Addr × Obj)} {σ : St} {H : Hp} {s : Shared} {T : String} {x : V} {v : Value} (I : Inv X pins σ H s) (r : RelV x v) (ty : tyV X.K T x H) :
    s.TypeIs v T ∧ ∀ a, v = .ref a → ∃ ob, s.heap.get? a = some ob ∧ ob.dict = none := by
  cases x with
  | str z =>
    obtain ⟨t, rfl⟩ := r
    cases (show T = "str" from ty)
    exact ⟨typeIs_str s z t, fun _ e => nomatch e⟩
  | int i =>
    obtain ⟨t, rfl⟩ := r
    cases (show T = "int" from ty)
    exact ⟨typeIs_int s i t, fun _ e => nomatch e⟩
  | ref p =>
    cases r
    rcases ty with ⟨rfl, xs, hq⟩ | ⟨rfl, o, hk, hc, hd⟩ | ⟨rfl, hk⟩ | ⟨rfl, S, n, hk⟩
    · obtain ⟨its, _, pl, _⟩ := I.list hq
      refine ⟨pl.isList.typeIs, fun a e => ?_⟩
      cases e
      obtain ⟨o, n, e, c, hd, _⟩ := pl
      exact ⟨o, e, hd⟩
    · refine ⟨⟨o, I.kIn p o hk, hc⟩, fun a e => ?_⟩
      cases e
      exact ⟨o, I.kIn _ o hk, hd⟩
    · have z : ∃ o, s.heap.get? p = some o ∧ o.ExactDict := by
        rcases hk with ⟨kvs, hk⟩ | ⟨kvs, hk⟩
        · obtain ⟨_, _, _, _, o, _, _, e, ex, _⟩ := I.hok p _ hk
          exact ⟨o, e, ex⟩
        · obtain ⟨_, _, _, _, o, _, _, e, ex, _⟩ := I.hok p _ hk
          exact ⟨o, e, ex⟩
      obtain ⟨o, e, ex⟩ := z
      refine ⟨⟨o, e, ex.1⟩, fun a e2 => ?_⟩
      cases e2
      exact ⟨o, e, ex.2.1⟩
    · obtain ⟨o, _, _, _, e, ex, _⟩ := I.hok p _ hk
      refine ⟨⟨o, e, ex.1⟩, fun a e2 => ?_⟩
      cases e2
      exact ⟨o, e, ex.2.1⟩
  | _ => exact False.elim ty
def tBM0 (K : PySem.W.Frag) (T : String) (r : V → List V → Hp → VK → Prop) (to : TE) : TE := fun σ H Q => to σ H fun x H1 => tyV K T x H1 ∧ r x [] H1 Q
def tBM (K : PySem.W.Frag) (T : String) (r : V → List V → Hp → VK → Prop) (to : TE) (t : TA) : TE := fun σ H Q => to σ H fun x H1 => tyV K T x H1 ∧ t σ H1 fun xs H2 => r x xs H2 Q
variable {o e : Expr} {es : List Expr} {to : TE} {t : TA} {name : Str} {apos cpos : Pos} {T id : String} {r : V → List V → Hp → VK → Prop}
theorem pe_bm0 (pa : PlainAttrs T) (slot : Slot T name id) (hty : typeOf (.builtin id) = pure (.type "method_descriptor")) (hm : MtR X id r) (ho : PE X o to)
    (hbase : attributeBase o name X.env (eval o X.env) = eval o X.env := by rfl) (hline : (apos.endLine == cpos.line) = true := by rfl) : PE X (.Call (.Attribute o name apos) [] [] cpos) (tBM0 X.K T r to) := by
  intro pins s σ H Q I h
  refine wpAny_Call_method0_late hbase hline (thn (ho pins s σ H _ I h) fun v s1 ⟨x, H1, I1, r1, ty, q1⟩ => ?_)
  obtain ⟨h1, h2⟩ := tyV_is I1 r1 ty
  exact ⟨T, id, pa, slot, hty, h1, h2, Calls.callWith_builtin rfl (PySem.evalArgs_none (hm pins s1 σ H1 x [] v [] Q I1 r1 .nil q1))⟩
theorem pe_bm (pa : PlainAttrs T) (slot : Slot T name id) (hty : typeOf (.builtin id) = pure (.type "method_descriptor")) (hm : MtR X id r) (ho : PE X o to) (ha : PA X (e :: es) t)
    (hbase : attributeBase o name X.env (eval o X.env) = eval o X.env := by rfl)
    (hfew : ((backTo cpos (starEach (e :: es) X.env)).all (fun x => !x.1) && (backToKw cpos (keywordEach [] X.env)).all (fun x => x.1.isSome)
      && decide ((e :: es).length + ([] : List Keyword).length + (if ([] : List Keyword).isEmpty then 0 else 1) < 30)) = true := by rfl)
    (hline : (apos.endLine == cpos.line) = true := by rfl) (hs : starEach (e :: es) X.env = (false, eval e X.env) :: starEach es X.env := by rfl) (hplain : (backTo cpos (starEach es X.env)).any (·.1) = false := by rfl) :
    PE X (.Call (.Attribute o name apos) (e :: es) [] cpos) (tBM X.K T r to t) := by
  intro pins s σ H Q I h
  refine wpAny_Call_method_late hbase hfew hline rfl (thn (ho pins s σ H _ I h) fun v s1 ⟨x, H1, I1, r1, ty, q1⟩ => ?_)
  obtain ⟨h1, h2⟩ := tyV_is I1 r1 ty
  refine ⟨T, id, pa, slot, hty, h1, h2, ?_⟩
  have hA := ha cpos pins s1 σ H1 _ I1 q1
  rw [hs] at hA ⊢
  refine Calls.callWith_builtin (by show (false || (backTo cpos (starEach es X.env)).any (·.1)) = false; rw [hplain] <;> rfl) (Calls.evalArgs_plain ?_)
  exact thn hA fun us s2 ⟨vs, H2, I2, r2, q2⟩ => hm pins s2 σ H2 x vs v us Q I2 r1 r2 q2
/- xs.append(e), list.index on a module's tuple .. are MtR facts of 06m -/
end
end L2

namespace L2
open PySem PySem.Spec PyProof.Rows

def MtM (X : Cx) (id : String) (r : V → List V → Hp → VK → Prop) : Prop :=
  ∀ (pins : List (Addr × Obj)) (s : Shared) (σ : St) (H : Hp) (x : V) (xs : List V) (v : Value) (us : List Value) (Q : VK), Inv X pins σ H s → RelV x v → Vals xs us → r x xs H Q →
    wpAny (model X.prog X.w) X.A (call (.builtin id) (v :: us)) (EP X pins σ Q) X.xe s

/-! ### lists of values -/
theorem Vals.one : ∀ {x : V} {us : List Value}, Vals [x] us → ∃ u, us = [u] ∧ RelV x u
  | _, _, .cons r .nil => ⟨_, rfl, r⟩
theorem Vals.zero : ∀ {us : List Value}, Vals [] us → us = []
  | _, .nil => rfl
theorem Vals.dropLast {xs : List V} {us : List Value} (h : Vals xs us) : Vals xs.dropLast us.dropLast := by
  induction h with
  | nil => exact .nil
  | cons r t ih =>
    cases t with
    | nil => exact .nil
    | cons q t' => exact .cons r ih
theorem Vals.rep {xs : List V} {us : List Value} (h : Vals xs us) : ∀ k : Nat, Vals (List.replicate k xs).flatten (List.replicate k us).flatten
  | 0 => .nil
  | k + 1 => by
    rw [List.replicate_succ, List.replicate_succ, List.flatten_cons, List.flatten_cons]
    exact Vals.append h (Vals.rep h k)
theorem erase_last {α : Type} (l : List α) : l.eraseIdx (l.length - 1) = l.dropLast := by
  induction l with
  | nil => rfl
  | cons a r ih =>
    cases r with
    | nil => rfl
    | cons b r =>
      have e : (a :: b :: r).length - 1 = ((b :: r).length - 1) + 1 := by
        have h1 : (a :: b :: r).length = r.length + 2 := rfl
        have h2 : (b :: r).length = r.length + 1 := rfl
        omega
      rw [e, List.eraseIdx_cons_succ, ih]
      all_goals rfl
theorem foldl_rep (its : List Value) : ∀ (k : Nat) (acc : List Value),
    List.foldl (fun x1 x2 => x1 ++ x2) acc.toArray (List.replicate k its.toArray) = (acc ++ (List.replicate k its).flatten).toArray
  | 0, acc => by simp
  | k + 1, acc => by
    have e : acc.toArray ++ its.toArray = (acc ++ its).toArray := by simp
    have e2 : (acc ++ its) ++ (List.replicate k its).flatten = acc ++ (List.replicate (k + 1) its).flatten := by
      rw [List.replicate_succ, List.flatten_cons, List.append_assoc]
    rw [← e2, ← foldl_rep its k (acc ++ its), ← e, List.replicate_succ, List.foldl_cons]

section
variable {X : Cx} {pins : List (Addr × Obj)} {σ : St} {H : Hp} {s : Shared} {l b : Addr} {xs ys zs : List V}

/-! ### the two steps: a tracked list is rewritten, a new list is laid -/
theorem Inv.lset {its its' : List Value} {n : Nat} {f : Array Value → Array Value} {t' : Nat} (I : Inv X pins σ H s) (hH : H l = some (.lst xs))
    (e : s.heap.get? l = some { cls := .type "list", data := .seq its.toArray n }) (hf : f its.toArray = its'.toArray) (hv : Vals ys its') (hz : ys.length ≤ sizeLine) :
    Inv X pins σ (upd H l (.lst ys)) { s with heap := s.heap.update l (Obj.mapSeq f), toks := t' } := by
  have q := PySem.IsL.update e f
  rw [hf] at q
  refine I.write (x := l) (e := l) (by rw [hH]; exact trivial) (.inl rfl) (fun b' u hb hu => (Heap.get?_update_other s.heap (Obj.mapSeq f) (Ne.symm hb)).trans hu) ⟨_, q⟩ ?_
  exact ⟨hz, its', _, hv, q⟩
theorem Inv.lnew {its : List Value} {t' : Nat} (I : Inv X pins σ H s) (hv : Vals ys its) (hz : ys.length ≤ sizeLine) :
    Inv X pins σ (upd H s.heap.objs.size (.lst ys)) { s with heap := s.heap.push { cls := .type "list", data := .seq its.toArray }, toks := t' } :=
  I.laid (fun _ _ q => Heap.get?_push_of_some _ q) (Nat.le_refl _) ⟨hz, its, 0, hv, Heap.get?_push_size _ rfl⟩
theorem Inv.fresh (I : Inv X pins σ H s) : H s.heap.objs.size = none := I.hok.fresh (Nat.le_refl _)
theorem Inv.lstM (I : Inv X pins σ H s) (hH : H l = some (.lst xs)) : xs.length ≤ sizeLine ∧ ∃ (its : List Value) (n : Nat), Vals xs its ∧ xs.length = its.length ∧ s.heap.get? l = some { cls := .type "list", data := .seq its.toArray n } := by
  obtain ⟨z, its, n, r, e⟩ := I.hok l _ hH
  exact ⟨z, its, n, r, r.length, e⟩

theorem notLongL {n : Nat} (h : n ≤ sizeLine) : Builtin.List.listTooLong n = false := by
  unfold Builtin.List.listTooLong
  exact decide_eq_false (by omega)
end

section
variable {X : Cx}

/-! ### methods -/
def rAppend : V → List V → Hp → VK → Prop := fun x vs H Q => ∃ l xs y, x = .ref l ∧ vs = [y] ∧ H l = some (.lst xs) ∧ xs.length < sizeLine ∧ Q .non (upd H l (.lst (xs ++ [y])))
theorem mt_append : MtM X "list.append" rAppend := by
  intro pins s σ H x vs v us Q I rx rv h
  obtain ⟨l, xs, y, rfl, rfl, hH, hz, q⟩ := h
  cases rx
  obtain ⟨u, rfl, ru⟩ := rv.one
  obtain ⟨z, its, n, r, hl, e⟩ := I.lstM hH
  refine call_meets F.slot_list_append ⟨_, e, rfl⟩ F.entry_list_append (F.args_list_append_2 _ _) (PySem.list_append l its.toArray n u (by rw [List.size_toArray]; omega)) ⟨e, ?_⟩
  refine ⟨.non, _, I.lset (its' := its ++ [u]) hH e (by simp) (r.append (.cons ru .nil)) ?_, rfl, q⟩
  rw [List.length_append, List.length_singleton]
  omega

def rExtend : V → List V → Hp → VK → Prop := fun x vs H Q => ∃ l b xs zs, x = .ref l ∧ vs = [.ref b] ∧ H l = some (.lst xs) ∧ H b = some (.lst zs) ∧ xs.length + zs.length ≤ sizeLine ∧ Q .non (upd H l (.lst (xs ++ zs)))
theorem mt_extend : MtM X "list.extend" rExtend := by
  intro pins s σ H x vs v us Q I rx rv h
  obtain ⟨l, b, xs, zs, rfl, rfl, hH, hB, hz, q⟩ := h
  cases rx
  obtain ⟨u, rfl, ru⟩ := rv.one
  cases ru
  obtain ⟨z, its, n, r, hl, e⟩ := I.lstM hH
  obtain ⟨z2, its2, n2, r2, hl2, e2⟩ := I.lstM hB
  have hsz : its.toArray.size + its2.toArray.size ≤ sizeLine := by rw [List.size_toArray, List.size_toArray]; omega
  have hlong : ¬ (!its.toArray.isEmpty && Builtin.List.listTooLong (its.toArray.size + its2.toArray.size)) = true := by
    rw [notLongL hsz, Bool.and_false]
    exact Bool.false_ne_true
  refine call_meets F.slot_list_extend ⟨_, e, rfl⟩ F.entry_list_extend (F.args_list_extend_2 _ _)
    (AutoSeq1.list_extend_list_list_0 l its.toArray n b its2.toArray n2 hlong (by rw [List.size_toArray]; omega) (by omega)) ⟨e, e2, ?_⟩
  refine ⟨.non, _, I.lset (its' := its ++ its2) hH e (by simp) (r.append r2) ?_, rfl, q⟩
  rw [List.length_append]
  omega

def rPop : V → List V → Hp → VK → Prop := fun x vs H Q => ∃ l xs y, x = .ref l ∧ vs = [] ∧ H l = some (.lst xs) ∧ xs[xs.length - 1]? = some y ∧ Q y (upd H l (.lst xs.dropLast))
theorem mt_pop : MtM X "list.pop" rPop := by
  intro pins s σ H x vs v us Q I rx rv h
  obtain ⟨l, xs, y, rfl, rfl, hH, hy, q⟩ := h
  cases rx
  have hus := rv.zero
  subst hus
  obtain ⟨z, its, n, r, hl, e⟩ := I.lstM hH
  obtain ⟨u, hu, ru⟩ := r.get hy
  have hy' : its.toArray[its.toArray.size - 1]? = some u := by
    show its.toArray[its.length - 1]? = some u
    rw [← Array.getElem?_toList, ← hl]
    exact hu
  refine call_meets F.slot_list_pop ⟨_, e, rfl⟩ F.entry_list_pop (F.args_list_pop_1 _) (MeetsSeq.list_pop_last l its.toArray n u hy' (by rw [List.size_toArray]; omega)) ⟨e, ?_⟩
  refine ⟨y, _, I.lset (its' := its.dropLast) hH e ?_ r.dropLast ?_, ru, q⟩
  · show its.toArray.eraseIdxIfInBounds (its.toArray.size - 1) = its.dropLast.toArray
    rw [List.size_toArray, List.eraseIdxIfInBounds_toArray, erase_last]
  · rw [List.length_dropLast]
    omega




/-! ### list + list, list += list, list * int -/
def rCat : R2 := fun x y H Q => ∃ l b xs zs, x = .ref l ∧ y = .ref b ∧ H l = some (.lst xs) ∧ H b = some (.lst zs) ∧ xs.length + zs.length ≤ sizeLine ∧ ∀ p, H p = none → Q (.ref p) (upd H p (.lst (xs ++ zs)))
theorem op_cat : OpR X (binaryOp .Add) rCat := by
  intro pins s σ H x y v u Q I rx ry h
  obtain ⟨l, b, xs, zs, rfl, rfl, hH, hB, hz, q⟩ := h
  cases rx
  cases ry
  obtain ⟨z, its, n, r, hl, e⟩ := I.lstM hH
  obtain ⟨z2, its2, n2, r2, hl2, e2⟩ := I.lstM hB
  refine PySem.P.add_list e e2 ?_ (by rw [List.size_toArray, List.size_toArray]; omega)
  have ea : its.toArray ++ its2.toArray = (its ++ its2).toArray := by simp
  rw [ea]
  exact ⟨.ref _, _, I.lnew (t' := s.toks) (r.append r2) (by rw [List.length_append]; omega), rfl, q _ I.fresh⟩
/-- a list times an int (a negative one is nothing) -/
def rRep : R2 := fun x y H Q => ∃ l k xs, x = .ref l ∧ y = .int k ∧ H l = some (.lst xs) ∧ -(2 ^ 63) ≤ k ∧ k < 2 ^ 63 ∧ xs.length * k.toNat ≤ sizeLine ∧
  ∀ p, H p = none → Q (.ref p) (upd H p (.lst (List.replicate k.toNat xs).flatten))
theorem len_rep {α : Type} (xs : List α) (k : Nat) : (List.replicate k xs).flatten.length = k * xs.length := by
  induction k with
  | zero => simp
  | succ k ih => rw [List.replicate_succ, List.flatten_cons, List.length_append, ih, Nat.succ_mul, Nat.add_comm]
theorem op_rep : OpR X (binaryOp .Mult) rRep := by
  intro pins s σ H x y v u Q I rx ry h
  obtain ⟨l, k, xs, rfl, rfl, hH, h1, h2, hz, q⟩ := h
  cases rx
  obtain ⟨t, rfl⟩ := ry
  obtain ⟨z, its, n, r, hl, e⟩ := I.lstM hH
  have hlen : its.toArray.size * k.toNat ≤ sizeLine := by rw [List.size_toArray, ← hl]; exact hz
  have hcap : ¬ its.toArray.size * k.toNat > (2 ^ 63 - 1) / 8 := by
    have : (sizeLine : Nat) ≤ (2 ^ 63 - 1) / 8 := by decide
    omega
  have hfit : ¬ (!Builtin.List.listFitsIndex k) = true := by
    rw [fitsIndex_both h1 h2]
    exact Bool.false_ne_true
  have hlong : ¬ Builtin.List.listTooLong (its.toArray.size * k.toNat) = true := by
    rw [notLongL hlen]
    exact Bool.false_ne_true
  have hnew : List.foldl (fun x1 x2 => x1 ++ x2) #[] (List.replicate (if its.toArray.isEmpty = true then 0 else k.toNat) its.toArray) = (List.replicate k.toNat its).flatten.toArray := by
    have f0 : ∀ m : Nat, List.foldl (fun x1 x2 => x1 ++ x2) #[] (List.replicate m its.toArray) = (List.replicate m its).flatten.toArray := fun m => by
      have := foldl_rep its m []
      rw [List.nil_append] at this
      exact this
    rw [f0]
    cases its with
    | nil => simp
    | cons a r' => rw [if_neg (by simp)]
  refine wpAny_binaryOp_repeat_ref (T := "list") (U := "int") (by decide) ⟨_, e, rfl⟩ (fun s' => typeIs_int s' k t) noFill_list_mul F.fills_int_mul F.slot_int_rmul repeat_list F.slot_int_index.lookup
    (call_meets F.slot_int_rmul (typeIs_int s k t) F.entry_int_rmul (F.args_int_rmul_2 _ _) (int___rmul___int_list k t l its.toArray n)
      ⟨e, rfl, ⟨_, e, rfl⟩, call_meets F.slot_list_mul ⟨_, e, rfl⟩ F.entry_list_mul (F.args_list_mul_2 _ _) (AutoListH.list___mul___list_int_3 l its.toArray n k t hfit hcap hlong) ⟨e, ?_⟩⟩)
  rw [hnew]
  exact ⟨.ref _, _, I.lnew (t' := s.toks) (r.rep k.toNat) (by rw [len_rep, Nat.mul_comm]; exact hz), rfl, q _ I.fresh⟩

/-! ### del xs[i] -/
end

/-! ### xs[a:b] = ys -/
section
variable {prog : Program} {w : World} {A : Around} {E : Value → Shared → Prop} {s : Shared}
theorem bounds_run {a c n : Nat} (hac : a ≤ c) (hc : c ≤ n) : sliceBounds (some (a : Int)) (some (c : Int)) none n = ((a : Int), (c : Int), 1) := by
  simp only [sliceBounds, Option.getD_none]
  have h1 : ¬ ((a : Int) < 0) := by omega
  have h2 : ¬ ((c : Int) < 0) := by omega
  simp only [h1, h2, if_false, show (1 : Int) > 0 by decide, if_true]
  congr 1
  · omega
  · congr 1; omega
set_option maxRecDepth 100000 in
/-- list.__setitem__ with a slice of step one and another list -/
theorem setItem_slice {l b sl : Addr} {items new : Array Value} {n n2 : Nat} {vl vu : Value} {a c : Nat} {Q : Unit → Shared → Prop}
    (e : s.heap.get? l = some { cls := .type "list", data := .seq items n }) (e2 : s.heap.get? b = some { cls := .type "list", data := .seq new n2 }) (hne : l ≠ b)
    (hs : s.heap.IsSliceOf sl vl vu .none) (pl : IsPart vl (some (a : Int))) (pu : IsPart vu (some (c : Int))) (hac : a ≤ c) (hc : c ≤ items.size)
    (hsz : items.size + new.size ≤ sizeLine) (h : Q () { s with heap := s.heap.update l (Obj.mapSeq fun xs => xs.extract 0 a ++ new ++ xs.extract c xs.size) }) :
    wpAny (model prog w) A (setItem (.ref l) (.ref sl) (.ref b)) Q E s := by
  have hl : s.heap.IsList l items := PySem.IsL.isList e
  have hb : s.heap.IsList b new := PySem.IsL.isList e2
  obtain ⟨os, hos, hcs, hds⟩ := id hs
  have hTs : s.TypeIs (.ref sl) "slice" := ⟨os, hos, hcs⟩
  have hstep : ¬ ((rawPart none == rawInt 0) = true) := Bool.false_ne_true
  have hsame : Builtin.List.listSameRef (.ref l) (.ref b) = false := by
    unfold Builtin.List.listSameRef
    exact beq_eq_false_iff_ne.mpr hne
  have hmax : (max (a : Int) (c : Int)).toNat = c := by omega
  have hz' : ((fun xs : Array Value => xs.extract 0 a ++ new ++ xs.extract c xs.size) items).size ≤ sizeLine + 1 := by
    simp only [Array.size_append, Array.size_extract]
    omega
  unfold setItem
  try with_reducible refine wpAny_holding ?_
  first | refine wpAny_bind (wpAny_pure ?_) | skip
  refine wpAny_bind (wpAny_sequenceKey hl.typeIs (by decide) ?_)
  refine wpAny_bind (wpAny_callSpecial?_slot (name := Str.ofString "__setitem__") hl.typeIs slot_list_setitem
    (wpAny_call_entry slot_list_setitem hl.typeIs entry_list_setitem ?_ (args_list_setitem _ _ _)))
  show wpAny _ _ (Builtin.List.listSubscript? (.ref sl) >>= _) _ _ s
  refine wpAny_bind ?_
  unfold Builtin.List.listSubscript?
  refine wpAny_bind (wpAny_specialOf hTs slice_no_index ?_)
  simp only [Option.isNone_none, if_true]
  refine wpAny_pure ?_
  show wpAny _ _ (typeOf (.ref sl) >>= _) _ _ s
  refine wpAny_bind (wpAny_typeOf hTs ?_)
  first
    | rw [if_neg (by decide)]
    | refine PySem.W.KFB.if_not (by decide) ?_
  rw [listSliceParts_eq]
  refine wpAny_bind (wpAny_bind (wpAny_field hos hds (x := .none) rfl (wpAny_bind (wpAny_listPart .none ?_))))
  rw [if_neg hstep]
  refine wpAny_bind (wpAny_field hos hds (x := vl) rfl (wpAny_bind (wpAny_listPart pl ?_)))
  refine wpAny_bind (wpAny_field hos hds (x := vu) rfl (wpAny_bind (wpAny_listPart pu (wpAny_pure ?_))))
  first
    | simp only [hsame, Bool.false_eq_true, if_false]
    | refine PySem.W.KFB.if_not hsame ?_
    | (dsimp only
       rw [if_neg (by rw [hsame]; exact Bool.false_ne_true)])
  refine wpAny_bind (m := Builtin.List.listAllItems (.ref b) "must assign iterable to extended slice") ?_
  unfold Builtin.List.listAllItems
  refine wpAny_bind (wpAny_typeOf hb.typeIs ?_)
  first
    | refine PySem.W.KFB.if_so (by decide) ?_
    | rw [if_pos (by decide)]
    | simp only [beq_self_eq_true, Bool.true_or, if_true]
  unfold Builtin.List.listItems
  refine wpAny_bind (wpAny_seqItems e2 rfl (wpAny_pure ?_))
  refine wpAny_bind (wpAny_bind (wpAny_seqItems e rfl (wpAny_pure ?_)))
  refine wpAny_bind (wpAny_of_eq ((sliceIndices_raw (some (a : Int)) (some (c : Int)) none items.size (by simp)).trans (congrArg (pure : Int × Int × Int → Sem (Int × Int × Int)) (bounds_run hac hc))) ?_)
  show wpAny _ _ (if ((1 : Int) == 1) = true then _ else _) _ _ s
  rw [if_pos (by decide)]
  refine wpAny_bind (wpAny_rule ?_)
  first
    | simp only [notLongL hsz, Bool.false_eq_true, if_false]
    | refine PySem.W.KFB.if_not (notLongL hsz) ?_
  first | refine wpAny_bind (wpAny_pure ?_) | skip
  show wpAny _ _ (updateSeq l (fun xs => xs.extract 0 ((a : Int)).toNat ++ new ++ xs.extract (max (a : Int) (c : Int)).toNat xs.size) >>= _) _ _ s
  rw [hmax, Int.toNat_natCast]
  refine wpAny_bind (wpAny_updateSeq (hz := Nat.le_trans (Nat.le_add_right _ _) hsz) (_hz' := hz') e rfl ?_)
  refine wpAny_bind (wpAny_letGo ?_)
  first
    | exact wpAny_bind (wpAny_pure (wpAny_pure ⟨.none, rfl, wpAny_pure h⟩))
    | exact wpAny_pure ⟨.none, rfl, wpAny_pure h⟩
end

section
variable {X : Cx}
end
end L2

namespace L2
open PySem PySem.Spec PyProof.Rows

theorem Vals.ints : ∀ {ns : List Int} {us : List Value}, Vals (ns.map V.int) us → IntsAre us ns
  | [], us, h => by
    rw [List.map_nil] at h
    cases h
    exact IntsAre.nil
  | n :: ns, us, h => by
    rw [List.map_cons] at h
    cases h with
    | cons r t =>
      obtain ⟨k, rfl⟩ := r
      exact IntsAre.cons n k (Vals.ints t)
theorem Vals.ref1 {a : Addr} {us : List Value} (r : Vals [V.ref a] us) : us = [Value.ref a] := by
  cases r with
  | cons r t =>
    cases t
    cases r
    rfl

/-! ### the library's walks over a list of ints, kept objects alone -/
section
variable {prog : Program} {w : World} {A : Around} {E : Value → Shared → Prop} {s : Shared} {l : Addr} {its : List Value} {ns : List Int} {Q : Value → Shared → Prop}
theorem sum_raw (hh : A.handled = none) (hl : s.heap.IsList l its.toArray) (hi : IntsAre its ns)
    (h : ∀ h' tk t', (∀ b o, s.heap.get? b = some o → h'.get? b = some o) → Q (.int ns.sum t') { s with heap := h', toks := tk }) : wpAny (model prog w) A (call (.builtin "sum") [.ref l]) Q E s := by
  obtain ⟨xs, e⟩ := hi.allInts.items
  have hn : numsOf (intItems xs).toList = ns := by rw [← e]; exact hi.numsOf
  rw [nums_intItems] at hn
  rw [e] at hl
  refine PySem.sum_intListG hh hl fun h' tk t' hk => ?_
  have := h h' tk t' hk
  rw [preSum_eq, List.take_of_length_le (by simp), hn]; exact this
theorem max_raw (hh : A.handled = none) (hl : s.heap.IsList l its.toArray) (hi : IntsAre its ns) (hne : 0 < ns.length)
    (h : ∀ h' tk M t', (∀ b o, s.heap.get? b = some o → h'.get? b = some o) → M ∈ ns → (∀ a, a ∈ ns → a ≤ M) → Q (.int M t') { s with heap := h', toks := tk }) : wpAny (model prog w) A (call (.builtin "max") [.ref l]) Q E s := by
  obtain ⟨xs, e⟩ := hi.allInts.items
  have hn : numsOf (intItems xs).toList = ns := by rw [← e]; exact hi.numsOf
  rw [nums_intItems] at hn
  subst hn
  rw [e] at hl
  have hsz : 0 < xs.size := by simpa using hne
  refine PySem.max_intList hh hl hsz fun v h' tk hv hk => ?_
  obtain ⟨t, rfl⟩ := intItems_at hv
  obtain ⟨h1, h2⟩ := argBest_gt (numAt xs) (xs.size - 1)
  refine h h' tk _ t hk ?_ fun a ha => ?_
  · rw [numAt_eq]; exact PySem.getD_mem (by rw [List.length_map, Array.length_toList]; omega)
  · obtain ⟨j, hj, rfl⟩ := mem_getD ha
    rw [List.length_map, Array.length_toList] at hj
    rw [← numAt_eq]; exact h2 j (by omega)
end

/-! ### the calls, by values (CallR of 03t; MtR of 06l) -/
section
variable {X : Cx}
/-- sum(xs) of a list of ints -/
def rSum (K : PySem.W.Frag) : List V → Hp → VK → Prop := fun vs H Q => ∃ (a : Addr) (ns : List Int), vs = [V.ref a] ∧ SqL K H a (ns.map V.int) ∧ Q (.int ns.sum) H
/-- max(xs), min(xs) of a list of ints -/
def rMax (K : PySem.W.Frag) : List V → Hp → VK → Prop := fun vs H Q => ∃ (a : Addr) (ns : List Int), vs = [V.ref a] ∧ SqL K H a (ns.map V.int) ∧ 0 < ns.length ∧ ∀ m, m ∈ ns → (∀ y, y ∈ ns → y ≤ m) → Q (.int m) H
theorem cr_sum (hc : X.calm = true) : CallR X (.builtin "sum") (rSum X.K) := by
  intro pins s σ H vs us Q I r h
  obtain ⟨a, ns, rfl, hs, q⟩ := h
  obtain ⟨its, rv, hl, _⟩ := I.list hs
  rw [Vals.ref1 r]
  exact sum_raw (I.ok.hd hc) hl.isList rv.ints fun h' tk t' hk => ⟨.int _, H, I.kept hk, ⟨_, rfl⟩, q⟩
theorem cr_max (hc : X.calm = true) : CallR X (.builtin "max") (rMax X.K) := by
  intro pins s σ H vs us Q I r h
  obtain ⟨a, ns, rfl, hs, hne, q⟩ := h
  obtain ⟨its, rv, hl, _⟩ := I.list hs
  rw [Vals.ref1 r]
  exact max_raw (I.ok.hd hc) hl.isList rv.ints hne fun h' tk m t' hk h1 h2 => ⟨.int _, H, I.kept hk, ⟨_, rfl⟩, q m h1 h2⟩

/-! sorted, sort (fewer than 64 items: the library's own bound) -/
end

/-! ### list.index, flat items -/
section
variable {X : Cx}
end

/-! ### type(x) of an own instance; is, is not of a module's class -/
section
variable {X : Cx}
end

/-! ### any(xs), all(xs) of a list of bools -/
section
variable {X : Cx}
end

/-! ### == and != of data at any depth: none, bools, ints, texts, lists, tuples -/
mutual
inductive Dp (K : PySem.W.Frag) (H : Hp) : V → PyData → Prop
  | non : Dp K H .non .none
  | bl (b : Bool) : Dp K H (.bl b) (.bool b)
  | int (i : Int) : Dp K H (.int i) (.int i)
  | str (x : Str) : Dp K H (.str x) (.str x)
  | lst {a : Addr} {xs : List V} {ds : List PyData} : SqL K H a xs → DpAll K H xs ds → Dp K H (.ref a) (.list ds)
  | tup {a : Addr} {xs : List V} {ds : List PyData} : SqT K H a xs → DpAll K H xs ds → Dp K H (.ref a) (.tuple ds)
inductive DpAll (K : PySem.W.Frag) (H : Hp) : List V → List PyData → Prop
  | nil : DpAll K H [] []
  | cons {v : V} {vs : List V} {d : PyData} {ds : List PyData} : Dp K H v d → DpAll K H vs ds → DpAll K H (v :: vs) (d :: ds)
end
section
variable {X : Cx} {pins : List (Addr × Obj)} {σ : St} {H : Hp} {s : Shared}
mutual
theorem Dp.reads (I : Inv X pins σ H s) : ∀ (d : PyData) (v : V) (u : Value), Dp X.K H v d → RelV v u → ∃ as, Reads s.heap u d as
  | .none, _, _, h, r => by
    cases h
    cases r
    exact ⟨_, Reads.none⟩
  | .bool b, _, _, h, r => by
    cases h
    cases r
    exact ⟨_, Reads.bool b⟩
  | .int i, _, _, h, r => by
    cases h
    obtain ⟨t, rfl⟩ := r
    exact ⟨_, Reads.int i t⟩
  | .str x, _, _, h, r => by
    cases h
    obtain ⟨t, rfl⟩ := r
    exact ⟨_, Reads.str x t⟩
  | .list ds, _, _, h, r => by
    cases h with
    | lst hs ha =>
      cases r
      obtain ⟨its, rv, ⟨o, n, ho, hc, _, hd⟩, _⟩ := I.list hs
      obtain ⟨as, hr⟩ := Dp.readsAll I ds _ its ha rv
      exact ⟨_, Reads.list ho hc hd hr⟩
  | .tuple ds, _, _, h, r => by
    cases h with
    | tup hs ha =>
      cases r
      obtain ⟨its, rv, ⟨o, ho, hc, n, hd⟩, _⟩ := I.tuple hs
      obtain ⟨as, hr⟩ := Dp.readsAll I ds _ its ha rv
      exact ⟨_, Reads.tuple ho hc hd hr⟩
  | .dict _, _, _, h, _ => by cases h
theorem Dp.readsAll (I : Inv X pins σ H s) : ∀ (ds : List PyData) (vs : List V) (us : List Value), DpAll X.K H vs ds → Vals vs us → ∃ as, ReadsAll s.heap us ds as
  | [], _, _, h, r => by
    cases h
    cases r
    exact ⟨_, ReadsAll.nil⟩
  | d :: ds, _, _, h, r => by
    cases h with
    | cons h1 h2 =>
      cases r with
      | cons r1 r2 =>
        obtain ⟨as, q1⟩ := Dp.reads I d _ _ h1 r1
        obtain ⟨bs, q2⟩ := Dp.readsAll I ds _ _ h2 r2
        exact ⟨_, ReadsAll.cons q1 q2⟩
end
end
section
variable {X : Cx}
end
end L2

namespace L2
open PySem PySem.Spec PyProof.Rows










/-- the names of a comprehension's block: its own (with their places in N), or captured -/
structure BlkOk (N : List Str) (sc scope : Scope) (own : List (Str × Nat)) : Prop where
  kind : scope.kind = .function
  uniq : ∀ y ∈ scope.names, scope.names.lookup y.1 = some y.2
  ix : ∀ p ∈ own, N[p.2]? = some p.1
  free : ∀ y ∈ scope.names, y.2 = .free → sc.names.lookup y.1 = some .cell ∨ sc.names.lookup y.1 = some .free
  own : ∀ y ∈ scope.names, y.2 = .local ∨ y.2 = .cell → y.1 ∈ own.map (·.1) ∨ y.1 ∉ N

section
variable {X : Cx} {pins : List (Addr × Obj)} {σ : St} {H : Hp} {s : Shared}


end



section
variable {X : Cx}
end

/-! ### the forms one uses -/
end L2

namespace L2
open PySem PySem.Spec PyProof.Rows


section
variable {prog : Program} {w : World} {A : Around} {R : Result → Shared → Prop} {s : Shared} {elt t0 i0 t1 i1 : Expr} {ifs0 ifs1 : List Expr} {scope : Scope} {pos : Pos} {it acc : Value} {env : Env}
end

section
variable {X : Cx}
end
end L2

namespace L2
open PySem PySem.Spec PyProof.Rows

/-! ### lists of pairs as tables -/
section
variable {κ : Type} [DecidableEq κ]



end


/-! ### a tracked dict, its keys ints and texts or tuples of these -/


section
variable {P : Program} {w : World} {H : Hp} {h : Heap} {a : Addr}
end



section
variable {X : Cx} {pins : List (Addr × Obj)} {σ : St} {H : Hp} {s : Shared} {a : Addr} {y v : V} {u r : Value} {o : Option V} {A : Around} {E : Value → Shared → Prop}


end

section
variable {X : Cx} {pins : List (Addr × Obj)} {σ : St} {H : Hp} {s : Shared} {a : Addr} {kvs : List (Key × V)} {k : Key} {u : Value} {A : Around} {E : Value → Shared → Prop}
end


/-! ### readings and rules -/



section
variable {X : Cx} {o i e value : Expr} {pos pos' tpos : Pos} {td ty tv : TE}
end


/-! ### displays -/
section
variable {X : Cx} {pos : Pos}
end




/-! ### methods -/
/-- a method call o.m(e) of a built-in, with one argument: what must be seen of the text -/
structure M1 (X : Cx) (o : Expr) (m : Str) (apos : Pos) (e : Expr) (cpos : Pos) : Prop where
  base : attributeBase o m X.env (eval o X.env) = eval o X.env
  few : ((backTo cpos (starEach [e] X.env)).all (fun x => !x.1) && (backToKw cpos (keywordEach [] X.env)).all (fun x => x.1.isSome)
    && decide (([e] : List Expr).length + ([] : List Keyword).length + (if ([] : List Keyword).isEmpty then 0 else 1) < 30)) = true
  line : (apos.endLine == cpos.line) = true
  trees : backTo cpos (starEach [e] X.env) = [(false, eval e X.env)]
structure M2 (X : Cx) (o : Expr) (m : Str) (apos : Pos) (e f : Expr) (cpos : Pos) : Prop where
  base : attributeBase o m X.env (eval o X.env) = eval o X.env
  few : ((backTo cpos (starEach [e, f] X.env)).all (fun x => !x.1) && (backToKw cpos (keywordEach [] X.env)).all (fun x => x.1.isSome)
    && decide (([e, f] : List Expr).length + ([] : List Keyword).length + (if ([] : List Keyword).isEmpty then 0 else 1) < 30)) = true
  line : (apos.endLine == cpos.line) = true
  trees : backTo cpos (starEach [e, f] X.env) = [(false, eval e X.env), (false, eval f X.env)]


section
variable {X : Cx} {pins : List (Addr × Obj)} {σ : St} {H : Hp} {s : Shared} {a : Addr} {y d : V} {u r : Value} {o : Option V} {A : Around} {E : Value → Shared → Prop}
end

section
variable {X : Cx} {o e f : Expr} {apos cpos : Pos} {td ty tx : TE}
end

/-! ### dict(d): a copy -/
section
variable {X : Cx} {pins : List (Addr × Obj)} {σ : St} {H : Hp} {s : Shared} {a : Addr} {kvs : List (Key × V)} {A : Around} {E : Value → Shared → Prop}
end


section
variable {X : Cx} {pins : List (Addr × Obj)} {σ : St} {H : Hp} {s : Shared} {a : Addr} {y : V} {u : Value} {A : Around} {E : Value → Shared → Prop}
end
end L2

namespace L2
open PySem PySem.Spec PyProof.Rows


section
variable {prog : Program} {w : World} {A : Around} {E : Value → Shared → Prop}


end

section
variable {X : Cx}
end
end L2

namespace L2
open PySem PySem.Spec PyProof.Rows


section
variable {X : Cx} {pins : List (Addr × Obj)} {σ : St} {H : Hp} {s : Shared} {h' : Heap}

/-! ### locking a thing while a statement runs -/
end
section
variable {X : Cx}

/-! ### one iterator just laid -/
end

/-! ### range with a step -/
section
variable {X : Cx} {tg : Expr}
end

/-! ### reversed(list) -/
section
variable {X : Cx} {tg : Expr}
end

/-! ### a str -/

/-! ### a dict's keys: any dict's entries -/
section
variable {prog : Program} {w : World} {A : Around} {E : Value → Shared → Prop} {s : Shared}
end

/-! ### a locked dict -/
section
variable {X : Cx} {pins : List (Addr × Obj)} {σ : St} {H : Hp} {s : Shared} {d : Addr} {o : Obj}
end

section
variable {P : Program} {w : World} {K : PySem.W.Frag} {tg : Expr} {d : Addr} {o : Obj} {es : Array DictEntry} {ep : Nat}
end

/-! ### for k in d, d.keys(), d.values(), d.items() -/
section
variable {X : Cx} {tg e : Expr} {td : TE} {apos cpos : Pos}
end

/-! ### enumerate(list) -/
/-! ### zip(list, list) -/
end L2

section 
namespace Bits
open PySem PyProof.Rows








end Bits
end 

section 
namespace TL
open PySem PySem.Builtin PySem.Builtin.Str PySem.StrLaws


/-! ### the list functions -/




/-! ### the model's split and partition are these -/




/-! ### computing spl and par -/


/-! ### digits -/

/-! ### words: x.split() -/
end TL
end 

namespace L2
open PySem PySem.Spec PyProof.Rows




section
variable {X : Cx} {pins : List (Addr × Obj)} {σ : St} {H : Hp} {s : Shared} {Q : VK}
end

section
variable {X : Cx}





/-! ### of a text alone -/

/-! ### of a text and a text -/

end

section
variable {X : Cx} {o e : Expr} {to te : TE}

end
end L2

namespace L2
open PySem PySem.Spec PyProof.Rows

section
variable {X : Cx}
end

/-! ### slices of a text -/


end L2

namespace Att
open PySem PySem.W PySem.Calls PyProof.Rows

/-! ### the script -/



/-! ### the attachment: holds_open's last premise (the goal 'hc' behind k_head) from a wpAny of the law's body -/



/-! ### rules over ANY heap (no ledger) from facts about the written part K: the library's own take a ledger (News) for what they write -/
section
variable {prog : Program} {w : World} {A : Around} {E : Value → Shared → Prop} {s : Shared} {K : Frag}





/-! the whole heap as the ledger: makes every rule that writes through a ledger a rule over any heap -/

end
end Att

namespace L2
open PySem PySem.Spec PyProof.Rows



end L2

namespace L2
open PySem PySem.Spec PyProof.Rows


end L2

/- THE LAST THEOREM (shape; LID, My.* are yours):
   My.Adr: a structure of the addresses that your layer names (classes, functions); My.Txt K t: a structure (Prop) of the equations over K;
   My.txt_mk : {K} {implicit addresses ..} (e1 : nsIn K mainGlobals "law" = some (some (.ref f))) (e2 : K.lookup f = some ⟨oc, od, .func (fnOf "law" "law" params body scope dV kV doc pm an cdv ct), sl⟩) (e3 : codeIn K cdv "law" = true) .. : ∃ t, My.Txt K t

set_option maxRecDepth 100000 in
set_option maxHeartbeats 0 in
theorem PySem.Challenge.cw_LID_holds : PySem.Challenge.rw_LID.Holds := by
  w_on; o_law; k_head; (case hw => w_witness2)
  k_fill
  refine L2.walk_of (l := PySem.Challenge.rw_LID) (n := 63) (k := 40) (x := "script") (CX := fun w => ..) (sp := fun _ => My.sp_law) rfl (by decide) rfl ⟨rfl, by decide, by decide⟩ (fun w h Y => PySem.W.kIn_of Y) ?F ?S ?C
  case F =>
    intro w mg fa h KX G hmg
    have T : ∃ t, My.Txt (L2.KOf KX) t := by
      dsimp only [L2.KOf]                          -- K must stand as «<heap const> w.params» for k_is
      refine' My.txt_mk ?e1 ?e2 ?e3 ..
      (case e1 => PySem.W.k_is)                    -- in the order: a name -> its address -> its object -> its parts
      (case e2 => PySem.W.k_is)
      ..
    obtain ⟨t, T⟩ := T
    have e0 := hmg.symm.trans (PySem.W.mg_of KX G T.law)
    cases e0                                       -- fa is the law's own address
    exact ⟨_, fun s u => .of_eq rfl, fun base kb nb => My.law_fn T kb nb⟩     -- if «.of_eq rfl» comes too early: refine' ⟨_, ?b, fun base kb nb => My.law_fn T kb nb⟩; exact fun s u => .of_eq rfl
  case S => exact fun w H a ns hl hO hS => ..
  case C => exact ..
(the tactic k_is has no namespace: write k_is) -/

/-! SHORT WORDS over the layer: a def of the text, its body, what a loop and a test want. -/
namespace L2
open PySem PySem.Spec PyProof.Rows

/-! ### the text by places -/
/-- the j-th statement of a class's body -/
def inClass (s : Stmt) (j : Nat) : Stmt := match s with
  | .ClassDef _ _ _ body _ _ _ _ _ _ _ => body.getD j (.Pass ⟨0, 0, 0, 0⟩)
  | _ => .Pass ⟨0, 0, 0, 0⟩
def defArgs (s : Stmt) : Arguments := match s with
  | .FunctionDef _ a _ _ _ _ _ _ _ _ => a
  | _ => { posonlyargs := [], args := [], vararg := none, kwonlyargs := [], kw_defaults := [], kwarg := none, defaults := [] }
def defBody (s : Stmt) : List Stmt := match s with
  | .FunctionDef _ _ b _ _ _ _ _ _ _ => b
  | _ => []
def defScope (s : Stmt) : Scope := match s with
  | .FunctionDef _ _ _ _ _ _ sc _ _ _ => sc
  | _ => { kind := .function, names := [], isGenerator := false, isCoroutine := false }

/-! ### no exception leaves a def -/
abbrev CX0 : CXT := fun _ _ _ _ _ _ => False
abbrev E0 : XK := fun _ _ _ => False
theorem pass0 {X : Cx} : Passes CX0 X E0 := fun _ _ _ _ _ _ _ h => h.elim

/-! ### a def (or method) of the text as it stands behind the top -/
structure Fun (K : PySem.W.Frag) (x qual : Str) (st : Stmt) (f : Addr) (fd : FuncData) : Prop where
  ex : ∃ (oc : Value) (od : Option Addr) (kV doc pm : Value) (an : Option Addr) (cdv ct : Value) (osl : Array (Option Value)),
    fd = PySem.W.fnOf x qual (defArgs st) (defBody st) (defScope st) .none kV doc pm an cdv ct ∧ K.lookup f = some ⟨oc, od, .func fd, osl⟩ ∧ PySem.W.codeIn K cdv qual = true
  kp : PySem.W.keepIn K (.ref f) = true
section
variable {P : Program} {w : World} {K : PySem.W.Frag} {mg : Str → Option Value} {base : Heap}
/-- THE RULE for a def: its body as a term of rules, and the reading of that term -/
theorem Fun.ok {x qual : Str} {st : Stmt} {f : Addr} {fd : FuncData} {N ps : List Str} {k : Nat} {sp : Sp} (F : Fun K x qual st f fd) (S : FnScope N ps (defScope st)) (len : ∀ vs H Q E, sp vs H Q E → vs.length = ps.length)
    (hbody : ∀ (cdv : Value) (A : Around) (outer : List Env) (s : Shared) (H : Hp) (vs : List V) (Q : VK) (E : XK), Room k (A.deeper (envOfC qual (defScope st) s.heap.objs.size f cdv)) → sp vs H Q E →
      ∃ t, PSs (cxOf CX0 P w K mg base N qual (defScope st) f cdv A outer s H E).nox (defBody st) t ∧ t { nx := fun _ H' => Q .non H', rt := Q } (start N vs) H) : FnOk P w K mg base CX0 (k + 1) f fd ps sp := by
  obtain ⟨oc, od, kV, doc, pm, an, cdv, ct, osl, rfl, lk, hcd⟩ := F.ex
  refine fn_of lk hcd S len fun A outer s H vs Q E hr hsp => ?_
  obtain ⟨t, h, q⟩ := hbody cdv A outer s H vs Q E hr hsp
  exact ⟨t, h.nox, q⟩
/-- how its arguments bind (no defaults): h is «fun _ _ _ _ _ _ us hl => match us, hl with | [_, _], _ => rfl», one _ a parameter -/
theorem Fun.binds {x qual : Str} {st : Stmt} {f : Addr} {fd : FuncData} {ps : List Str} (F : Fun K x qual st f fd)
    (h : ∀ (kV doc pm : Value) (an : Option Addr) (cdv ct : Value) (us : List Value), us.length = ps.length → bindArgs (PySem.W.fnOf x qual (defArgs st) (defBody st) (defScope st) .none kV doc pm an cdv ct) ⟨us, []⟩ = pure (ps.zip us)) : Binds K fd ps [] := by
  obtain ⟨oc, od, kV, doc, pm, an, cdv, ct, osl, rfl, lk, hcd⟩ := F.ex
  exact .all (h kV doc pm an cdv ct)
theorem fun_mk {x qual : Str} {st : Stmt} {f : Addr} {oc : Value} {od an : Option Addr} {osl : Array (Option Value)} {kV doc pm cdv ct : Value} (l : K.lookup f = some ⟨oc, od, .func (PySem.W.fnOf x qual (defArgs st) (defBody st) (defScope st) .none kV doc pm an cdv ct), osl⟩)
    (c : PySem.W.codeIn K cdv qual = true) (k : PySem.W.keepIn K (.ref f) = true) : Fun K x qual st f (PySem.W.fnOf x qual (defArgs st) (defBody st) (defScope st) .none kV doc pm an cdv ct) := ⟨⟨oc, od, kV, doc, pm, an, cdv, ct, osl, rfl, l, c⟩, k⟩
end

/-! ### expressions in short: the name that stands in the i-th slot -/
section
variable {X : Cx}
theorem pv (i : Nat) {x : Str} {pos : Pos} (hN : X.N[i]? = some x := by rfl) (hv : Vis X.env.scope x := by first | exact Or.inl rfl | exact Or.inr (Or.inl rfl) | exact Or.inr (Or.inr rfl)) (hd : (x == ("__debug__" : Str)) = false := by decide)
    (hcd : (x == ("__classdict__" : Str)) = false := by decide) : PE X (.Name x pos) (tVar i) := pe_var hN hv hd hcd
end

/-! ### tests -/
theorem iteF {A B : Prop} (h : B) : if false = true then A else B := by
  rw [if_neg Bool.false_ne_true]
  exact h
theorem iteT {A B : Prop} (h : A) : if true = true then A else B := by
  rw [if_pos rfl]
  exact h
theorem iteNS {c A B : Prop} [Decidable c] (hc : c) (h : B) : if (!decide c) = true then A else B := by
  rw [decide_eq_true hc]
  exact iteF h

/-! ### heaps -/
/-- all that was tracked is as it was -/
def Same (H H' : Hp) : Prop := ∀ b o, H b = some o → H' b = some o
theorem Same.trans {H H1 H2 : Hp} (a : Same H H1) (b : Same H1 H2) : Same H H2 := fun c o h => b c o (a c o h)
theorem Same.free {H H' : Hp} (e : Same H H') {l : Addr} (h : H' l = Option.none) : H l = Option.none := by
  cases q : H l with
  | none => rfl
  | some o =>
    rw [e l o q] at h
    cases h
theorem Same.seq {K : PySem.W.Frag} {H H' : Hp} {a : Addr} {xs : List V} (e : Same H H') (h : SqL K H a xs) : SqL K H' a xs := by
  rcases h with (h | ⟨o, h⟩) | h
  · exact .inl (.inl (e _ _ h))
  · exact .inl (.inr ⟨o, e _ _ h⟩)
  · exact .inr h

/-! ### a dict's pairs: keys that differ -/
section
variable {κ : Type} [DecidableEq κ]
end
/-! ### lists -/
theorem at_of {xs : List V} {z : Int} {j : Nat} {v : V} (e : z = (j : Int)) (h : xs[j]? = some v) : atI xs z = some v := by
  rw [e]
  exact atI_nat h
end L2

section
set_option Elab.async false
set_option linter.all false
set_option maxRecDepth 100000
set_option maxHeartbeats 2000000
namespace L2
open PySem PySem.Spec PyProof.Rows
open PySem.W (WData Codec OpenSpec Well WellAll ReadsW ReadsAllW)
/-! ### an answer as data -/
mutual
/-- x stands for the datum d, lists and tuples all the way -/
inductive Dw (K : PySem.W.Frag) (H : Hp) : V → WData → Prop
  | non : Dw K H .non .none
  | bl (b : Bool) : Dw K H (.bl b) (.bool b)
  | int (i : Int) : Dw K H (.int i) (.int i)
  | str (x : Str) : Dw K H (.str x) (.str x)
  | byt (b : Array UInt8) : Dw K H (.byt b) (.bytes b.toList)
  | lst {a : Addr} {xs : List V} {ds : List WData} : SqL K H a xs → DwAll K H xs ds → Dw K H (.ref a) (.list ds)
  | tup {a : Addr} {xs : List V} {ds : List WData} : SqT K H a xs → DwAll K H xs ds → Dw K H (.ref a) (.tuple ds)
inductive DwAll (K : PySem.W.Frag) (H : Hp) : List V → List WData → Prop
  | nil : DwAll K H [] []
  | cons {v : V} {vs : List V} {d : WData} {ds : List WData} : Dw K H v d → DwAll K H vs ds → DwAll K H (v :: vs) (d :: ds)
end
theorem dw_ints {K : PySem.W.Frag} {H : Hp} : ∀ ns : List Int, DwAll K H (ns.map V.int) (ns.map WData.int)
  | [] => .nil
  | n :: r => .cons (.int n) (dw_ints r)
theorem ints_dw {K : PySem.W.Frag} {H : Hp} : ∀ (ns : List Int) (xs : List V), DwAll K H xs (ns.map WData.int) → xs = ns.map V.int
  | [], xs, h => by
    cases h
    rfl
  | n :: r, xs, h => by
    cases h with
    | cons h1 h2 =>
      cases h1
      rw [ints_dw r _ h2] <;> rfl
section
variable {P : Program} {w : World} {K : PySem.W.Frag} {H : Hp} {h : Heap} {R : PySem.W.WRecords} {cl : Str → Option Addr}
theorem sqL_at {a : Addr} {xs : List V} (hok : HOk P w H h) (KX : K.In h) (q : SqL K H a xs) : ∃ (its : List Value) (o : Obj) (n : Nat), Vals xs its ∧ h.get? a = some o ∧ o.cls = .type "list" ∧ o.data = .seq its.toArray n := by
  rcases q with q | ⟨o, its, n, e, hc, _, hd, _, hv⟩
  · obtain ⟨_, its, n, hv, e⟩ := (show ObjOk P w H h a (.lst xs) from q.ok hok)
    exact ⟨its, _, n, hv, e, rfl, rfl⟩
  · exact ⟨its.toList, o, n, hv, KX _ _ e, hc, by simp [hd]⟩
theorem sqT_at {a : Addr} {xs : List V} (hok : HOk P w H h) (KX : K.In h) (q : SqT K H a xs) : ∃ (its : List Value) (o : Obj) (n : Nat), Vals xs its ∧ h.get? a = some o ∧ o.cls = .type "tuple" ∧ o.data = .seq its.toArray n := by
  rcases q with q | ⟨o, its, n, e, hc, hd, _, hv⟩
  · obtain ⟨_, its, hv, o, e, hc, n, hd⟩ := (show ObjOk P w H h a (.tup xs) from q.ok hok)
    exact ⟨its, o, n, hv, e, hc, hd⟩
  · exact ⟨its.toList, o, n, hv, KX _ _ e, hc, by simp [hd]⟩
mutual
theorem Dw.reads (hok : HOk P w H h) (KX : K.In h) : ∀ (d : WData) (v : V) (u : Value), Dw K H v d → RelV v u → ∃ as, ReadsW R cl h u d as
  | .none, _, _, x, r => by
    cases x
    cases r
    exact ⟨_, ReadsW.none⟩
  | .bool b, _, _, x, r => by
    cases x
    cases r
    exact ⟨_, ReadsW.bool b⟩
  | .int i, _, _, x, r => by
    cases x
    obtain ⟨t, rfl⟩ := r
    exact ⟨_, ReadsW.int i t⟩
  | .str s, _, _, x, r => by
    cases x
    obtain ⟨t, rfl⟩ := r
    exact ⟨_, ReadsW.str s t⟩
  | .bytes b, _, _, x, r => by
    cases x
    obtain ⟨t, rfl⟩ := r
    exact ⟨_, ReadsW.bytes _ t⟩
  | .list ds, _, _, x, r => by
    cases x with
    | lst hs ha =>
      cases r
      obtain ⟨its, o, n, rv, ho, hc, hd⟩ := sqL_at hok KX hs
      obtain ⟨as, hr⟩ := Dw.readsAll hok KX ds _ its ha rv
      exact ⟨_, ReadsW.list ho hc hd hr⟩
  | .tuple ds, _, _, x, r => by
    cases x with
    | tup hs ha =>
      cases r
      obtain ⟨its, o, n, rv, ho, hc, hd⟩ := sqT_at hok KX hs
      obtain ⟨as, hr⟩ := Dw.readsAll hok KX ds _ its ha rv
      exact ⟨_, ReadsW.tuple ho hc hd hr⟩
  | .float _, _, _, x, _ => by cases x
  | .dict _, _, _, x, _ => by cases x
  | .bytearray _, _, _, x, _ => by cases x
  | .set _, _, _, x, _ => by cases x
  | .frozenset _, _, _, x, _ => by cases x
  | .obj _ _, _, _, x, _ => by cases x
theorem Dw.readsAll (hok : HOk P w H h) (KX : K.In h) : ∀ (ds : List WData) (vs : List V) (us : List Value), DwAll K H vs ds → Vals vs us → ∃ as, ReadsAllW R cl h us ds as
  | [], _, _, x, r => by
    cases x
    cases r
    exact ⟨_, ReadsAllW.nil⟩
  | d :: ds, _, _, x, r => by
    cases x with
    | cons h1 h2 =>
      cases r with
      | cons r1 r2 =>
        obtain ⟨as, q1⟩ := Dw.reads hok KX d _ _ h1 r1
        obtain ⟨bs, q2⟩ := Dw.readsAll hok KX ds _ _ h2 r2
        exact ⟨_, ReadsAllW.cons q1 q2⟩
end
end
/-! ### the arguments -/
mutual
/-- data that a codec tells -/
def plW : WData → Bool
  | .none => true
  | .bool _ => true
  | .int _ => true
  | .str _ => true
  | .bytes _ => true
  | .list xs => plWs xs
  | .tuple xs => plWs xs
  | _ => false
def plWs : List WData → Bool
  | [] => true
  | x :: r => plW x && plWs r
end
theorem plWs_map {α : Type} {f : α → WData} (h : ∀ a, plW (f a) = true) : ∀ l : List α, plWs (l.map f) = true
  | [] => rfl
  | x :: r => by
    show (plW (f x) && plWs (r.map f)) = true
    rw [h x, plWs_map h r] <;> rfl
theorem pl_enc : ∀ (c : Codec) (a : c.denote), plW (c.enc a) = true
  | .unit, _ => rfl
  | .bool, _ => rfl
  | .int _ _, _ => rfl
  | .nat _ _, _ => rfl
  | .u8, _ => rfl
  | .bytes _ _, _ => rfl
  | .text _ _ _ _, _ => rfl
  | .list _ _ c, a => plWs_map (fun x => pl_enc c x) a
  | .pair c d, a => by
    show (plW (c.enc a.1) && (plW (d.enc a.2) && true)) = true
    rw [pl_enc c a.1, pl_enc d a.2] <;> rfl
  | .triple c d e, a => by
    show (plW (c.enc a.1) && (plW (d.enc a.2.1) && (plW (e.enc a.2.2) && true))) = true
    rw [pl_enc c a.1, pl_enc d a.2.1, pl_enc e a.2.2] <;> rfl
  | .option c, none => rfl
  | .option c, some x => pl_enc c x
theorem pl_encAll : ∀ (cs : List Codec) (a : Codec.denoteAll cs), plWs (Codec.encAll cs a) = true
  | [], _ => rfl
  | c :: cs, a => by
    show (plW (c.enc a.1) && plWs (Codec.encAll cs a.2)) = true
    rw [pl_enc c a.1, pl_encAll cs a.2] <;> rfl
theorem weight_mem : ∀ {xs : List WData} {d : WData}, d ∈ xs → d.weight ≤ WData.weightAll xs
  | [], d, h => absurd h (by simp)
  | x :: r, d, h => by
    show d.weight ≤ x.weight + 1 + WData.weightAll r
    rcases List.mem_cons.mp h with e | m
    · rw [e]
      omega
    · have z := weight_mem m
      omega
def toV : Value → V
  | .none => .non
  | .bool b => .bl b
  | .int i _ => .int i
  | .str x _ => .str x
  | .bytes b _ => .byt b
  | .ref a => .ref a
  | _ => .non
/-- a value of the arguments, its objects among A -/
def OkU (A : List Addr) : Value → Prop
  | .none => True
  | .bool _ => True
  | .int _ _ => True
  | .str _ _ => True
  | .bytes _ _ => True
  | .ref a => a ∈ A
  | _ => False
theorem OkU.mono {A B : List Addr} (h : ∀ a ∈ A, a ∈ B) : ∀ {u : Value}, OkU A u → OkU B u := fun {u} x => by
  cases u with
  | ref a => exact h a x
  | none => trivial
  | bool b => trivial
  | int i t => trivial
  | str s t => trivial
  | bytes b t => trivial
  | _ => exact False.elim x
theorem relV_toV {A : List Addr} {u : Value} (x : OkU A u) : RelV (toV u) u := by
  cases u with
  | ref a => rfl
  | none => rfl
  | bool b => rfl
  | int i t => exact ⟨t, rfl⟩
  | str s t => exact ⟨t, rfl⟩
  | bytes b t => exact ⟨t, rfl⟩
  | _ => exact False.elim x
theorem vals_toV {A : List Addr} : ∀ {vs : List Value}, (∀ u ∈ vs, OkU A u) → Vals (vs.map toV) vs
  | [], _ => .nil
  | u :: r, h => .cons (relV_toV (h u (List.mem_cons_self ..))) (vals_toV fun x hx => h x (List.mem_cons_of_mem _ hx))
/-- an object of the arguments -/
def ArgOb (h : Heap) (A : List Addr) (a : Addr) : Prop := ∃ vs : List Value, vs.length ≤ sizeLine ∧ (∀ u ∈ vs, OkU A u) ∧
  (h.get? a = some { cls := .type "list", data := .seq vs.toArray } ∨ h.get? a = some { cls := .type "tuple", data := .seq vs.toArray })
theorem ArgOb.mono {h : Heap} {A B : List Addr} {a : Addr} (k : ∀ a ∈ A, a ∈ B) (x : ArgOb h A a) : ArgOb h B a := by
  obtain ⟨vs, h1, h2, h3⟩ := x
  exact ⟨vs, h1, fun u hu => (h2 u hu).mono k, h3⟩
theorem wellAll_len {P : Params} {h : Heap} : ∀ {vs : List Value} {ds : List WData}, WellAll P h vs ds → vs.length = ds.length
  | _, _, .nil => rfl
  | _, _, .cons _ b => by
    show _ + 1 = _ + 1
    rw [wellAll_len b]
theorem well_list {P : Params} {h : Heap} {v : Value} {ds : List WData} (x : Well P h v (.list ds)) : ∃ (a : Addr) (vs : List Value), v = .ref a ∧ h.get? a = some { cls := .type "list", data := .seq vs.toArray } ∧ WellAll P h vs ds := by
  cases x with
  | list ho hall => exact ⟨_, _, rfl, ho, hall⟩
theorem well_tuple {P : Params} {h : Heap} {v : Value} {ds : List WData} (x : Well P h v (.tuple ds)) : ∃ (a : Addr) (vs : List Value), v = .ref a ∧ h.get? a = some { cls := .type "tuple", data := .seq vs.toArray } ∧ WellAll P h vs ds := by
  cases x with
  | tuple ho hall => exact ⟨_, _, rfl, ho, hall⟩
theorem well_cons {P : Params} {h : Heap} {us : List Value} {d : WData} {ds : List WData} (x : WellAll P h us (d :: ds)) : ∃ (v : Value) (vs : List Value), us = v :: vs ∧ Well P h v d ∧ WellAll P h vs ds := by
  cases x with
  | cons a b => exact ⟨_, _, rfl, a, b⟩
theorem line_of {n : Nat} (h : n ≤ 1048576) : n ≤ sizeLine := Nat.le_trans h (by decide)
section
variable {P : Params} {h : Heap}
mutual
theorem area_one : ∀ (d : WData) (v : Value), Well P h v d → plW d = true → d.weight ≤ 1048576 → ∃ A : List Addr, OkU A v ∧ ∀ a ∈ A, ArgOb h A a
  | .none, _, x, _, _ => by
    cases x
    exact ⟨[], trivial, fun a m => absurd m (by simp)⟩
  | .bool b, _, x, _, _ => by
    cases x
    exact ⟨[], trivial, fun a m => absurd m (by simp)⟩
  | .int i, _, x, _, _ => by
    cases x
    exact ⟨[], trivial, fun a m => absurd m (by simp)⟩
  | .str s, _, x, _, _ => by
    cases x
    exact ⟨[], trivial, fun a m => absurd m (by simp)⟩
  | .bytes b, _, x, _, _ => by
    cases x
    exact ⟨[], trivial, fun a m => absurd m (by simp)⟩
  | .list ds, _, x, p, z => by
    obtain ⟨a, vs, rfl, ho, hall⟩ := well_list x
    have z2 : WData.weightAll ds ≤ 1048576 := z
    obtain ⟨A, h1, h2⟩ := area_all ds _ hall p fun d hd => Nat.le_trans (weight_mem hd) z2
    have k : ∀ b ∈ A, b ∈ a :: A := fun b hb => List.mem_cons_of_mem _ hb
    refine ⟨a :: A, List.mem_cons_self .., fun b hb => ?_⟩
    rcases List.mem_cons.mp hb with e | m
    · rw [e]
      exact ⟨vs, line_of (by rw [wellAll_len hall]; exact Nat.le_trans (PySem.W.length_le_weightAllW ds) z2), fun u hu => (h1 u hu).mono k, .inl ho⟩
    · exact (h2 b m).mono k
  | .tuple ds, _, x, p, z => by
    obtain ⟨a, vs, rfl, ho, hall⟩ := well_tuple x
    have z2 : WData.weightAll ds ≤ 1048576 := z
    obtain ⟨A, h1, h2⟩ := area_all ds _ hall p fun d hd => Nat.le_trans (weight_mem hd) z2
    have k : ∀ b ∈ A, b ∈ a :: A := fun b hb => List.mem_cons_of_mem _ hb
    refine ⟨a :: A, List.mem_cons_self .., fun b hb => ?_⟩
    rcases List.mem_cons.mp hb with e | m
    · rw [e]
      exact ⟨vs, line_of (by rw [wellAll_len hall]; exact Nat.le_trans (PySem.W.length_le_weightAllW ds) z2), fun u hu => (h1 u hu).mono k, .inr ho⟩
    · exact (h2 b m).mono k
  | .float _, _, _, p, _ => Bool.noConfusion (show false = true from p)
  | .dict _, _, _, p, _ => Bool.noConfusion (show false = true from p)
  | .bytearray _, _, _, p, _ => Bool.noConfusion (show false = true from p)
  | .set _, _, _, p, _ => Bool.noConfusion (show false = true from p)
  | .frozenset _, _, _, p, _ => Bool.noConfusion (show false = true from p)
  | .obj _ _, _, _, p, _ => Bool.noConfusion (show false = true from p)
theorem area_all : ∀ (ds : List WData) (vs : List Value), WellAll P h vs ds → plWs ds = true → (∀ d ∈ ds, d.weight ≤ 1048576) → ∃ A : List Addr, (∀ u ∈ vs, OkU A u) ∧ ∀ a ∈ A, ArgOb h A a
  | [], _, x, _, _ => by
    cases x
    exact ⟨[], fun u m => absurd m (by simp), fun a m => absurd m (by simp)⟩
  | d :: ds, _, x, p, z => by
    obtain ⟨v, vs, rfl, x1, x2⟩ := well_cons x
    have q : plW d = true ∧ plWs ds = true := Bool.and_eq_true_iff.mp p
    obtain ⟨A, a1, a2⟩ := area_one d v x1 q.1 (z d (List.mem_cons_self ..))
    obtain ⟨B, b1, b2⟩ := area_all ds vs x2 q.2 fun e he => z e (List.mem_cons_of_mem _ he)
    have kA : ∀ b ∈ A, b ∈ A ++ B := fun b hb => List.mem_append.mpr (.inl hb)
    have kB : ∀ b ∈ B, b ∈ A ++ B := fun b hb => List.mem_append.mpr (.inr hb)
    refine ⟨A ++ B, fun u hu => ?_, fun b hb => ?_⟩
    · rcases List.mem_cons.mp hu with e | m
      · rw [e]
        exact a1.mono kA
      · exact (b1 u m).mono kB
    · rcases List.mem_append.mp hb with m | m
      · exact (a2 b m).mono kA
      · exact (b2 b m).mono kB
end
end
/-- what is tracked of an argument's object -/
def hoOf (o : Obj) : Option HO := match o.data with
  | .seq vs _ => if (o.cls == Value.type "list") = true then some (.frz o (.lst (vs.toList.map toV))) else some (.frz o (.tup (vs.toList.map toV)))
  | _ => none
def argH (K : PySem.W.Frag) (h : Heap) (A : List Addr) : Hp := fun b => if b ∈ A then (if (K.lookup b).isNone = true then (h.get? b).bind hoOf else none) else none
/-- nothing is tracked but what is known to the object -/
def OnlyF (H : Hp) : Prop := ∀ b, H b = none ∨ ∃ o u, H b = some (.frz o u)
theorem hoOf_lst (vs : List Value) : hoOf { cls := .type "list", data := .seq vs.toArray } = some (.frz { cls := .type "list", data := .seq vs.toArray } (.lst (vs.map toV))) := by
  show (if (Value.type "list" == Value.type "list") = true then some (HO.frz { cls := .type "list", data := .seq vs.toArray } (.lst (vs.toArray.toList.map toV))) else some (HO.frz { cls := .type "list", data := .seq vs.toArray } (.tup (vs.toArray.toList.map toV)))) = _
  rw [if_pos (beq_self_eq_true _)]
theorem hoOf_tup (vs : List Value) : hoOf { cls := .type "tuple", data := .seq vs.toArray } = some (.frz { cls := .type "tuple", data := .seq vs.toArray } (.tup (vs.map toV))) := by
  show (if (Value.type "tuple" == Value.type "list") = true then some (HO.frz { cls := .type "tuple", data := .seq vs.toArray } (.lst (vs.toArray.toList.map toV))) else some (HO.frz { cls := .type "tuple", data := .seq vs.toArray } (.tup (vs.toArray.toList.map toV)))) = _
  rw [if_neg (by decide)]
section
variable {P : Program} {w : World} {K : PySem.W.Frag} {h : Heap} {A : List Addr}
theorem argH_at {b : Addr} {o : Obj} (hb : b ∈ A) (hk : K.lookup b = none) (e : h.get? b = some o) : argH K h A b = hoOf o := by
  unfold argH
  rw [if_pos hb, hk, if_pos (show (none : Option Obj).isNone = true from rfl), e] <;> rfl
theorem of_argH {b : Addr} {u : HO} (q : argH K h A b = some u) : b ∈ A ∧ K.lookup b = none := by
  unfold argH at q
  by_cases hb : b ∈ A
  · rw [if_pos hb] at q
    cases hk : K.lookup b with
    | none => exact ⟨hb, rfl⟩
    | some o =>
      rw [hk, if_neg (by simp)] at q
      cases q
  · rw [if_neg hb] at q
    cases q
/-- what stands tracked -/
theorem argH_is (ar : ∀ a ∈ A, ArgOb h A a) {b : Addr} {u : HO} (q : argH K h A b = some u) : K.lookup b = none ∧ ∃ vs : List Value, vs.length ≤ sizeLine ∧ (∀ u ∈ vs, OkU A u) ∧
    ((h.get? b = some { cls := .type "list", data := .seq vs.toArray } ∧ u = .frz { cls := .type "list", data := .seq vs.toArray } (.lst (vs.map toV))) ∨
     (h.get? b = some { cls := .type "tuple", data := .seq vs.toArray } ∧ u = .frz { cls := .type "tuple", data := .seq vs.toArray } (.tup (vs.map toV)))) := by
  obtain ⟨hb, hk⟩ := of_argH q
  obtain ⟨vs, h1, h2, h3⟩ := ar b hb
  refine ⟨hk, vs, h1, h2, ?_⟩
  rcases h3 with e | e
  · rw [argH_at hb hk e, hoOf_lst] at q
    exact .inl ⟨e, (Option.some.inj q).symm⟩
  · rw [argH_at hb hk e, hoOf_tup] at q
    exact .inr ⟨e, (Option.some.inj q).symm⟩
theorem argH_only (ar : ∀ a ∈ A, ArgOb h A a) : OnlyF (argH K h A) := fun b => by
  cases q : argH K h A b with
  | none => exact .inl rfl
  | some u =>
    obtain ⟨_, vs, _, _, ⟨_, e⟩ | ⟨_, e⟩⟩ := argH_is ar q
    · exact .inr ⟨_, _, by rw [e]⟩
    · exact .inr ⟨_, _, by rw [e]⟩
theorem argH_ok (ar : ∀ a ∈ A, ArgOb h A a) : HOk P w (argH K h A) h := fun b u q => by
  obtain ⟨_, vs, h1, h2, ⟨e, rfl⟩ | ⟨e, rfl⟩⟩ := argH_is ar q
  · exact ⟨e, by rw [List.length_map]; exact h1, vs, _, vals_toV h2, e⟩
  · exact ⟨e, by rw [List.length_map]; exact h1, vs, vals_toV h2, _, e, rfl, _, rfl⟩
theorem seq_inj {c c' : Value} {vs us : List Value} (e : (some { cls := c, data := .seq vs.toArray } : Option Obj) = some { cls := c', data := .seq us.toArray }) : c = c' ∧ vs = us := by
  have e1 := Option.some.inj e
  have e2 : c = c' := congrArg Obj.cls e1
  have e3 : Data.seq vs.toArray = Data.seq us.toArray := congrArg Obj.data e1
  injection e3 with e4
  refine ⟨e2, ?_⟩
  have e5 := congrArg Array.toList e4
  simpa using e5
/-- a list argument -/
theorem argL (KX : K.In h) (ar : ∀ a ∈ A, ArgOb h A a) {a : Addr} {vs : List Value} (ha : a ∈ A) (e : h.get? a = some { cls := .type "list", data := .seq vs.toArray }) : (∀ u ∈ vs, OkU A u) ∧ SqL K (argH K h A) a (vs.map toV) := by
  obtain ⟨us, h1, h2, h3⟩ := ar a ha
  have hu : us = vs := by
    rcases h3 with q | q
    · rw [e] at q
      exact (seq_inj q).2.symm
    · rw [e] at q
      exact absurd (Value.type.inj (seq_inj q).1) (by decide)
  subst hu
  refine ⟨h2, ?_⟩
  cases hk : K.lookup a with
  | none => exact .inl (.inr ⟨_, by rw [argH_at ha hk e, hoOf_lst]⟩)
  | some o =>
    have e2 := KX a o hk
    rw [e] at e2
    obtain rfl := Option.some.inj e2
    exact .inr ⟨_, us.toArray, _, hk, rfl, rfl, rfl, by rw [List.size_toArray]; exact h1, by simpa using vals_toV h2⟩
theorem argT (KX : K.In h) (ar : ∀ a ∈ A, ArgOb h A a) {a : Addr} {vs : List Value} (ha : a ∈ A) (e : h.get? a = some { cls := .type "tuple", data := .seq vs.toArray }) : (∀ u ∈ vs, OkU A u) ∧ SqT K (argH K h A) a (vs.map toV) := by
  obtain ⟨us, h1, h2, h3⟩ := ar a ha
  have hu : us = vs := by
    rcases h3 with q | q
    · rw [e] at q
      exact absurd (Value.type.inj (seq_inj q).1) (by decide)
    · rw [e] at q
      exact (seq_inj q).2.symm
  subst hu
  refine ⟨h2, ?_⟩
  cases hk : K.lookup a with
  | none => exact .inl (.inr ⟨_, by rw [argH_at ha hk e, hoOf_tup]⟩)
  | some o =>
    have e2 := KX a o hk
    rw [e] at e2
    obtain rfl := Option.some.inj e2
    exact .inr ⟨_, us.toArray, _, hk, rfl, rfl, by rw [List.size_toArray]; exact h1, by simpa using vals_toV h2⟩
mutual
theorem dw_one {Pm : Params} (KX : K.In h) (ar : ∀ a ∈ A, ArgOb h A a) : ∀ (d : WData) (v : Value), Well Pm h v d → plW d = true → OkU A v → Dw K (argH K h A) (toV v) d
  | .none, _, x, _, _ => by
    cases x
    exact .non
  | .bool b, _, x, _, _ => by
    cases x
    exact .bl b
  | .int i, _, x, _, _ => by
    cases x
    exact .int i
  | .str s, _, x, _, _ => by
    cases x
    exact .str s
  | .bytes b, _, x, _, _ => by
    cases x
    have z := Dw.byt (K := K) (H := argH K h A) b.toArray
    exact z
  | .list ds, _, x, p, hu => by
    obtain ⟨a, vs, rfl, ho, hall⟩ := well_list x
    obtain ⟨h2, hs⟩ := argL KX ar hu ho
    exact .lst hs (dw_all KX ar ds _ hall p h2)
  | .tuple ds, _, x, p, hu => by
    obtain ⟨a, vs, rfl, ho, hall⟩ := well_tuple x
    obtain ⟨h2, hs⟩ := argT KX ar hu ho
    exact .tup hs (dw_all KX ar ds _ hall p h2)
  | .float _, _, _, p, _ => Bool.noConfusion (show false = true from p)
  | .dict _, _, _, p, _ => Bool.noConfusion (show false = true from p)
  | .bytearray _, _, _, p, _ => Bool.noConfusion (show false = true from p)
  | .set _, _, _, p, _ => Bool.noConfusion (show false = true from p)
  | .frozenset _, _, _, p, _ => Bool.noConfusion (show false = true from p)
  | .obj _ _, _, _, p, _ => Bool.noConfusion (show false = true from p)
theorem dw_all {Pm : Params} (KX : K.In h) (ar : ∀ a ∈ A, ArgOb h A a) : ∀ (ds : List WData) (vs : List Value), WellAll Pm h vs ds → plWs ds = true → (∀ u ∈ vs, OkU A u) → DwAll K (argH K h A) (vs.map toV) ds
  | [], _, x, _, _ => by
    cases x
    exact .nil
  | d :: ds, _, x, p, hu => by
    obtain ⟨v, vs, rfl, x1, x2⟩ := well_cons x
    have q : plW d = true ∧ plWs ds = true := Bool.and_eq_true_iff.mp p
    exact .cons (dw_one KX ar d v x1 q.1 (hu _ (List.mem_cons_self ..))) (dw_all KX ar ds vs x2 q.2 fun u m => hu u (List.mem_cons_of_mem _ m))
end
end
/-! ### the call -/
theorem spec_call {P : Program} {w : World} {K : PySem.W.Frag} {mg mb : Str → Option Value} {CX : CXT} {k : Nat} {fa : Addr} {fd : FuncData} {ps : List Str} {sp : Sp} {s₁ : Shared} {vals : List Value} {ds : List WData} {R : PySem.W.WRecords} {cl : Str → Option Addr} {d0 : WData}
    (KX : K.In s₁.heap) (hns : s₁.heap.Ns mainGlobals mg) (hb : s₁.heap.Ns builtinsNs mb) (hbb : ∀ x : Str, x ≠ "__name__" → mb x = bootBuiltins x) (hlim : s₁.heap.NoLimit) (hg : s₁.gens = #[])
    (hwl : WellAll w.params s₁.heap vals ds) (hpl : plWs ds = true) (hwt : ∀ d ∈ ds, d.weight ≤ 1048576) (hr : Room k callerA)
    (F : ∀ base : Heap, K.In base → base.Ns mainGlobals mg → FnOk P w K mg base CX k fa fd ps sp) (hbind : ∀ (s : Shared) (us : List Value), us.length = ps.length → BindsTo s fd ⟨us, []⟩ (ps.zip us)) (hlen : ds.length = ps.length)
    (hsp : ∀ (H : Hp) (xs : List V), OnlyF H → DwAll K H xs ds → sp xs H (fun v H' => Dw K H' v d0) fun _ _ _ => False)
    (hCX : ∀ H e s', CX [] H s₁ (fun _ _ _ => False) e s' → False) :
    codeAny (model P w) callerA (.call (.ref fa) ⟨vals, []⟩) (fun r s' => ∃ u as, r = .ok (.ret u) ∧ ReadsW R cl s'.heap u d0 as ∧ OldK s₁.heap s'.heap ∧ s'.os = s₁.os ∧ AllBare s'.gens) s₁ := by
  obtain ⟨A, ho, ar⟩ := area_all ds vals hwl hpl hwt
  have hO : OnlyF (argH K s₁.heap A) := argH_only ar
  have hok : HOk P w (argH K s₁.heap A) s₁.heap := argH_ok ar
  have hS := dw_all KX ar ds vals hwl hpl ho
  have hV := vals_toV ho
  have hK : ∀ b u, argH K s₁.heap A b = some u → K.lookup b = none := fun b u q => (argH_is ar q).1
  have noA : ∀ {b : Addr} {o : Obj} {es : Array DictEntry} {ep : Nat}, s₁.heap.get? b = some o → o.data = .dict es ep → argH K s₁.heap A b = none := fun {b o es ep} e d => by
    cases q : argH K s₁.heap A b with
    | none => rfl
    | some u =>
      obtain ⟨_, vs, _, _, ⟨e2, _⟩ | ⟨e2, _⟩⟩ := argH_is ar q
      · rw [e2] at e
        cases e
        have d' : Data.seq vs.toArray _ = Data.dict es ep := d
        cases d'
      · rw [e2] at e
        cases e
        have d' : Data.seq vs.toArray _ = Data.dict es ep := d
        cases d'
  generalize argH K s₁.heap A = H at hO hok hS hK noA
  have base_of : ∀ {b : Addr} {o : Obj}, s₁.heap.get? b = some o → H b = none → (hidT s₁.heap H).get? b = some o := fun e n => hidT_get e n
  have nsK : ∀ {b : Addr} {m : Str → Option Value}, s₁.heap.Ns b m → (hidT s₁.heap H).Ns b m := fun {b m} ⟨o, es, ep, e, d, r⟩ => ⟨o, es, ep, base_of e (noA e d), d, r⟩
  have nK : ∀ b o, K.lookup b = some o → H b = none := fun b o e => by
    cases q : H b with
    | none => rfl
    | some u =>
      rw [hK b u q] at e
      cases e
  have hKb : K.In (hidT s₁.heap H) := fun b o e => base_of (KX b o e) (nK b o e)
  have hM : Mod K mg (hidT s₁.heap H) := ⟨hKb, nsK hns, ⟨mb, nsK hb, hbb⟩, let ⟨mc, h1, h2⟩ := hlim; ⟨mc, nsK h1, h2⟩⟩
  have e0 : Env0 P w K mg (hidT s₁.heap H) callerA [] s₁ H := ⟨rfl, hM, fun b o e => of_hidT e, Nat.le_of_eq (hidT_size _ _), trivial, fun b hb => absurd (show b ∈ ([] : List Addr) from hb) (by simp), hok, .of_eq hg⟩
  have hl : vals.length = ps.length := by rw [wellAll_len hwl]; exact hlen
  refine codeAny_mono ((F _ hKb (nsK hns)).run callerA [] s₁ H ⟨vals, []⟩ vals (vals.map toV) _ _ hr e0 (hbind s₁ vals hl) hV (hsp H _ hO hS)) fun r s' x => ?_
  cases r with
  | error e => exact (hCX H e s' x).elim
  | ok fl =>
    cases fl with
    | next => exact False.elim x
    | brk => exact False.elim x
    | cont => exact False.elim x
    | ret u =>
      obtain ⟨v, H', os, bare, un, hok', r', q⟩ := x
      have kept : ∀ b o, s₁.heap.get? b = some o → s'.heap.get? b = some o := fun b o e => by
        cases q2 : H b with
        | none => exact un.keep b o e q2 (by intro z; exact absurd (show b ∈ ([] : List Addr) from z) (by simp)) (by simp)
        | some u2 =>
          rcases hO b with z | ⟨ob, u3, z⟩
          · rw [q2] at z
            cases z
          · have z2 := un.frzs b ob _ z
            obtain ⟨e1, _⟩ := hok b _ z
            obtain ⟨e2, _⟩ := hok' b _ z2
            rw [e] at e1
            cases e1
            exact e2
      have KX' : K.In s'.heap := fun b o e => kept b o (KX b o e)
      obtain ⟨as, hrd⟩ := Dw.reads (R := R) (cl := cl) hok' KX' d0 v u q r'
      exact ⟨u, as, rfl, hrd, OldK.of_keep kept, os, bare⟩
/-! ### the row -/
theorem layable_weight {ds : List WData} (h : WData.layableAll ds = true) : ∀ d ∈ ds, d.weight ≤ 1048576 := fun d hd =>
  (PySem.W.layableW_iff.mp (List.all_eq_true.mp h d hd)).2.2
theorem encAll_len : ∀ (cs : List Codec) (a : Codec.denoteAll cs), (Codec.encAll cs a).length = cs.length
  | [], _ => rfl
  | c :: cs, a => by
    show (Codec.encAll cs a.2).length + 1 = cs.length + 1
    rw [encAll_len cs a.2]
/-- the goal that k_headS leaves (case hc), from the promise of the row's def: whatever the arguments that the codecs let and the row asks for, the def gives what stands for enc (f ..) -/
theorem walk_spec {r : OpenSpec} {k : Nat} {q : Program} {loose : List Str} {XP : (Str → Option Value) → Heap → Prop} {YP : World → Heap → Prop} {d : DefRec} {K : Params → PySem.W.Frag} {CX : World → CXT} {ps : List Str} {sp : World → Sp}
    (hwell : r.wellSaid = true) (hdf : d.params.defaults = []) (hlen : r.args.length = ps.length) (hr : Room k callerA)
    (hY : ∀ (w : World) (h : Heap), YP w h → (K w.params).In h)
    (F : ∀ (w : World) (mg : Str → Option Value) (fa : Addr) (h : Heap), YP w h → (K w.params).In h → h.Ns mainGlobals mg → mg d.name = some (.ref fa) →
      ∃ fd : FuncData, (∀ (s : Shared) (us : List Value), us.length = ps.length → BindsTo s fd ⟨us, []⟩ (ps.zip us)) ∧
        ∀ base : Heap, (K w.params).In base → base.Ns mainGlobals mg → FnOk r.prog w (K w.params) mg base (CX w) k fa fd ps (sp w))
    (hsp : ∀ (w : World) (H : Hp) (xs : List V) (a : Codec.denoteAll r.args), OnlyF H → Codec.withinAll r.args a = true → Codec.app r.args r.asked a = true → DwAll (K w.params) H xs (Codec.encAll r.args a) →
      sp w xs H (fun v H' => Dw (K w.params) H' v (r.ret.enc (Codec.app r.args r.f a))) fun _ _ _ => False)
    (hCX : ∀ (w : World) (H : Hp) (s : Shared) (e : Value) (s' : Shared), CX w [] H s (fun _ _ _ => False) e s' → False) :
    PySem.W.WalkOS q loose XP YP r d [] (fun f vs => PySem.call f vs) := by
  intro w s_0 s₁ mg mb G Y fa o pm cd doc dV kV ho hd hcd hD hmg hg args vals as hpre hlay hrd hwl hlo
  obtain ⟨a, e1, e2⟩ := PySem.W.os_pre_some hpre
  obtain ⟨e3, hwi⟩ := Codec.encAll_of_decAll r.args args a e1
  subst e3
  have KX := hY w _ Y
  obtain ⟨fd, hb, hF⟩ := F w mg fa _ Y KX G.T.g hmg
  refine PySem.W.enter_call (codeAny_mono (spec_call (R := []) (cl := classAt s_0.heap) (d0 := r.ret.enc (Codec.app r.args r.f a)) KX G.T.g G.T.b G.T.builtins G.T.nolimit hg hwl (pl_encAll _ _) (layable_weight hlay) hr hF hb (by rw [encAll_len]; exact hlen)
    (fun H xs hO hS => hsp w H xs a hO hwi e2 hS) fun H e s' => hCX w H s₁ e s') fun r' s' hq => ?_)
  obtain ⟨u, as', rfl, h1, h2, h3, h4⟩ := hq
  exact ⟨.inl ⟨u, _, as', rfl, fun _ => rfl, h1, (OpenSpec.post_iff hwell hwi _ _).mpr rfl, fun z => Bool.noConfusion (show false = true from z)⟩, h2, h3, h4⟩
/-- the same where the promise hangs on the written part alone -/
theorem walk_specK {r : OpenSpec} {k : Nat} {q : Program} {loose : List Str} {XP : (Str → Option Value) → Heap → Prop} {YP : World → Heap → Prop} {d : DefRec} {K : Params → PySem.W.Frag} {CX : CXT} {ps : List Str} {sp : PySem.W.Frag → Sp}
    (hwell : r.wellSaid = true) (hdf : d.params.defaults = []) (hlen : r.args.length = ps.length) (hr : Room k callerA)
    (hY : ∀ (w : World) (h : Heap), YP w h → (K w.params).In h)
    (F : ∀ (w : World) (mg : Str → Option Value) (fa : Addr) (h : Heap), YP w h → (K w.params).In h → h.Ns mainGlobals mg → mg d.name = some (.ref fa) →
      ∃ fd : FuncData, (∀ (s : Shared) (us : List Value), us.length = ps.length → BindsTo s fd ⟨us, []⟩ (ps.zip us)) ∧
        ∀ base : Heap, (K w.params).In base → base.Ns mainGlobals mg → FnOk r.prog w (K w.params) mg base CX k fa fd ps (sp (K w.params)))
    (hsp : ∀ (K : PySem.W.Frag) (H : Hp) (xs : List V) (a : Codec.denoteAll r.args), OnlyF H → Codec.withinAll r.args a = true → Codec.app r.args r.asked a = true → DwAll K H xs (Codec.encAll r.args a) →
      sp K xs H (fun v H' => Dw K H' v (r.ret.enc (Codec.app r.args r.f a))) fun _ _ _ => False)
    (hCX : ∀ (H : Hp) (s : Shared) (e : Value) (s' : Shared), CX [] H s (fun _ _ _ => False) e s' → False) :
    PySem.W.WalkOS q loose XP YP r d [] (fun f vs => PySem.call f vs) :=
  walk_spec (K := K) (CX := fun _ => CX) (sp := fun w => sp (K w.params)) hwell hdf hlen hr hY F (fun w H xs a h1 h2 h3 h4 => hsp (K w.params) H xs a h1 h2 h3 h4) fun _ H s e s' => hCX H s e s'
end L2
-- rests on (row put in by the clerk, for the bench that shows a file only what it spells): KE.SpHead KE.OsShapes
end

end
section
namespace Mx
open Ux01

/-! ### sums -/
theorem foldl_add (l : List Nat) : ∀ z : Nat, l.foldl (fun a b => a + b) z = z + l.foldl (fun a b => a + b) 0 := by
  induction l with
  | nil => intro z; rfl
  | cons a l ih =>
    intro z
    rw [List.foldl_cons, List.foldl_cons, ih (z + a), ih (0 + a)]
    omega
theorem total_nil : total [] = 0 := rfl
theorem total_cons (a : Nat) (l : List Nat) : total (a :: l) = a + total l := by
  show List.foldl _ 0 (a :: l) = a + List.foldl _ 0 l
  rw [List.foldl_cons, foldl_add]
  omega
theorem total_append (l m : List Nat) : total (l ++ m) = total l + total m := by
  induction l with
  | nil => rw [List.nil_append, total_nil]; omega
  | cons a l ih => rw [List.cons_append, total_cons, total_cons, ih]; omega
theorem total_ints (l : List Nat) : (Ux01.ints l).sum = (total l : Int) := by
  induction l with
  | nil => rfl
  | cons a l ih =>
    show ((a : Int) :: Ux01.ints l).sum = _
    rw [List.sum_cons, ih, total_cons]
    omega

/-! ### ends -/
theorem taken_len {l : List Nat} (b : Bool) : (taken l b).length = l.length - 1 := by
  unfold taken
  cases b with
  | true => rw [if_pos rfl, List.length_dropLast]
  | false => rw [if_neg (by decide), List.length_drop]
theorem taken_false (l : List Nat) : taken l false = l.drop 1 := rfl
theorem taken_true (l : List Nat) : taken l true = l.dropLast := rfl
theorem coin_false (l : List Nat) : coin l false = l.headD 0 := rfl
theorem coin_true (l : List Nat) : coin l true = l.getLastD 0 := rfl
theorem snoc_of {l : List Nat} (h : l ≠ []) : taken l true ++ [coin l true] = l := by
  rw [taken_true, coin_true, List.getLastD_eq_getLast?, List.getLast?_eq_some_getLast h]
  exact List.dropLast_concat_getLast h
theorem cons_of {l : List Nat} (h : l ≠ []) : coin l false :: taken l false = l := by
  cases l with
  | nil => exact absurd rfl h
  | cons a l => rfl
theorem total_taken {l : List Nat} (h : l ≠ []) (b : Bool) : coin l b + total (taken l b) = total l := by
  cases b with
  | false =>
    have e := congrArg total (cons_of h)
    rw [total_cons] at e
    exact e
  | true =>
    have e := congrArg total (snoc_of h)
    rw [total_append, total_cons, total_nil] at e
    omega

/-! ### what the one at turn gets, by the row itself -/
def G : List Nat → Nat
  | [] => 0
  | a :: l => max (total (a :: l) - G (taken (a :: l) false)) (total (a :: l) - G (taken (a :: l) true))
termination_by l => l.length
decreasing_by
  · rw [taken_len]; simp only [List.length_cons]; omega
  · rw [taken_len]; simp only [List.length_cons]; omega
theorem G_nil : G [] = 0 := by rw [G]
theorem G_eq {l : List Nat} (h : l ≠ []) : G l = max (total l - G (taken l false)) (total l - G (taken l true)) := by
  cases l with
  | nil => exact absurd rfl h
  | cons a l => rw [G]
theorem G_le : ∀ (n : Nat) (l : List Nat), l.length ≤ n → G l ≤ total l
  | _, [], _ => by rw [G_nil]; omega
  | 0, a :: l, h => by simp only [List.length_cons] at h; omega
  | n + 1, a :: l, h => by rw [G_eq (by simp)]; omega
theorem G_total (l : List Nat) : G l ≤ total l := G_le l.length l (Nat.le_refl _)
/-- the lead by the row itself -/
def L (l : List Nat) : Int := 2 * (G l : Int) - (total l : Int)
theorem L_nil : L [] = 0 := by unfold L; rw [G_nil]; rfl
theorem by_L {l : List Nat} (h : l ≠ []) (b : Bool) : 2 * ((total l - G (taken l b) : Nat) : Int) - (total l : Int) = (coin l b : Int) - L (taken l b) := by
  have h1 := total_taken h b
  have h2 := G_total (taken l b)
  unfold L
  omega
theorem L_eq {l : List Nat} (h : l ≠ []) : L l = max ((coin l false : Int) - L (taken l false)) ((coin l true : Int) - L (taken l true)) := by
  rw [← by_L h false, ← by_L h true]
  unfold L
  rw [G_eq h]
  omega

/-! ### the tables -/
theorem cut_take (l : List Nat) {i k : Nat} (_h : i + (k + 1) ≤ l.length) : taken ((l.drop i).take (k + 1)) false = (l.drop (i + 1)).take k := by
  rw [taken_false, List.drop_take, List.drop_drop, Nat.add_sub_cancel]
theorem cut_last (l : List Nat) {i k : Nat} (h : i + (k + 1) ≤ l.length) : taken ((l.drop i).take (k + 1)) true = (l.drop i).take k := by
  rw [taken_true, List.dropLast_eq_take, List.length_take, List.length_drop, List.take_take]
  congr 1
  omega
theorem cut_ne (l : List Nat) {i k : Nat} (h : i + (k + 1) ≤ l.length) : (l.drop i).take (k + 1) ≠ [] := by
  intro e
  have e2 := congrArg List.length e
  rw [List.length_take, List.length_drop] at e2
  simp only [List.length_nil] at e2
  omega
theorem getD_map_range {f : Nat → Nat} {n i : Nat} (h : i < n) : ((List.range n).map f).getD i 0 = f i := by
  rw [List.getD_eq_getElem?_getD, List.getElem?_map, List.getElem?_range h]
  rfl
theorem getD_replicate' {n i v : Nat} (h : i < n) : (List.replicate n v).getD i 0 = v := by
  rw [List.getD_eq_getElem?_getD, List.getElem?_replicate, if_pos h]
  rfl
theorem gains_get (l : List Nat) : ∀ (k i : Nat), i + k ≤ l.length → (gains l k).getD i 0 = G ((l.drop i).take k)
  | 0, i, h => by
    rw [gains, getD_replicate' (by omega), List.take_zero, G_nil]
  | k + 1, i, h => by
    rw [gains]
    dsimp only
    rw [getD_map_range (by omega), gains_get l k (i + 1) (by omega), gains_get l k i (by omega), G_eq (cut_ne l h), cut_take l h, cut_last l h]
theorem headD_getD (l : List Nat) : l.headD 0 = l.getD 0 0 := by cases l <;> rfl
theorem gain_G (l : List Nat) : gain l = G l := by
  unfold gain
  rw [headD_getD, gains_get l l.length 0 (by omega), List.drop_zero, List.take_length]
theorem lead_L (l : List Nat) : Ux01.lead l = L l := by
  unfold Ux01.lead L
  rw [gain_G]
theorem by_G (l : List Nat) (b : Bool) : by_ l b = total l - G (taken l b) := by
  unfold by_
  rw [gain_G]
theorem by_lt {l : List Nat} (h : l ≠ []) (b c : Bool) : by_ l b < by_ l c ↔ (coin l b : Int) - L (taken l b) < (coin l c : Int) - L (taken l c) := by
  rw [← by_L h b, ← by_L h c, by_G, by_G]
  omega
/-- best games, by the row itself -/
def N : List Nat → Nat
  | [] => 1
  | [_] => 1
  | a :: b :: l => (if by_ (a :: b :: l) false < by_ (a :: b :: l) true then 0 else N (taken (a :: b :: l) false)) + (if by_ (a :: b :: l) true < by_ (a :: b :: l) false then 0 else N (taken (a :: b :: l) true))
termination_by l => l.length
decreasing_by
  · rw [taken_len]; simp only [List.length_cons]; omega
  · rw [taken_len]; simp only [List.length_cons]; omega
theorem N_small {l : List Nat} (h : l.length ≤ 1) : N l = 1 := by
  match l, h with
  | [], _ => rw [N]
  | [_], _ => rw [N]
theorem N_eq {l : List Nat} (h : 2 ≤ l.length) : N l = (if by_ l false < by_ l true then 0 else N (taken l false)) + (if by_ l true < by_ l false then 0 else N (taken l true)) := by
  match l, h with
  | a :: b :: l, _ => rw [N]
theorem counts_get (l : List Nat) : ∀ (k i : Nat), i + k ≤ l.length → (counts l k).getD i 0 = N ((l.drop i).take k)
  | 0, i, h => by
    rw [counts, getD_replicate' (by omega), List.take_zero, N_small (by simp)]
  | 1, i, h => by
    rw [counts, getD_replicate' (by omega), N_small (by rw [List.length_take]; omega)]
  | k + 2, i, h => by
    rw [counts]
    dsimp only
    rw [getD_map_range (by omega), counts_get l (k + 1) (i + 1) (by omega), counts_get l (k + 1) i (by omega),
      N_eq (l := (l.drop i).take (k + 2)) (by rw [List.length_take, List.length_drop]; omega), cut_take l (k := k + 1) h, cut_last l (k := k + 1) h]
theorem games_N (l : List Nat) : Ux01.games l = N l := by
  unfold Ux01.games
  rw [headD_getD, counts_get l l.length 0 (by omega), List.drop_zero, List.take_length]
end Mx

end
section
namespace Mx
open Ux01

theorem lefts_cons (b : Bool) (t : List Bool) : lefts (b :: t) = (if b = true then 0 else 1) + lefts t := by
  unfold lefts
  cases b with
  | true => simp
  | false => simp; omega
theorem lefts_le (t : List Bool) : lefts t ≤ t.length := List.length_filter_le _ _
theorem lie_fold : ∀ (t : List Bool) (c : List Nat), t.length ≤ c.length → lie ⟨c, t⟩ = t.foldl taken c
  | [], c, _ => by
    show (c.drop 0).take (c.length - 0) = c
    rw [List.drop_zero, Nat.sub_zero, List.take_length]
  | b :: t, c, h => by
    have hc : c ≠ [] := by intro e; subst e; simp at h
    have hl : (taken c b).length = c.length - 1 := taken_len b
    rw [List.length_cons] at h
    rw [List.foldl_cons, ← lie_fold t (taken c b) (by omega)]
    unfold lie
    dsimp only
    rw [lefts_cons, hl, List.length_cons]
    have h3 := lefts_le t
    cases b with
    | false =>
      rw [if_neg (by decide), taken_false, List.drop_drop]
      congr 1
      omega
    | true =>
      rw [if_pos rfl, taken_true, List.dropLast_eq_take, List.drop_take, List.take_take, Nat.zero_add]
      congr 1
      omega
theorem fold_len : ∀ (t : List Bool) (c : List Nat), (t.foldl taken c).length = c.length - t.length
  | [], c => rfl
  | b :: t, c => by
    rw [List.foldl_cons, fold_len t, taken_len, List.length_cons]
    omega
theorem coinsOf_snoc : ∀ (t : List Bool) (c : List Nat) (b : Bool), coinsOf c (t ++ [b]) = coinsOf c t ++ [coin (t.foldl taken c) b]
  | [], c, b => rfl
  | a :: t, c, b => by
    show coin c a :: coinsOf (taken c a) (t ++ [b]) = _
    rw [coinsOf_snoc t]
    rfl
theorem coinsOf_len : ∀ (t : List Bool) (c : List Nat), (coinsOf c t).length = t.length
  | [], _ => rfl
  | a :: t, c => by
    show (coinsOf (taken c a) t).length + 1 = t.length + 1
    rw [coinsOf_len t]
/-- what the program keeps: the coins that lie there, those taken, from which ends -/
structure M where
  cs : List Nat
  tk : List Nat
  en : List Bool
/-- it is the specification's state -/
structure Rel (r : Row) (m : M) : Prop where
  few : r.takes.length ≤ r.coins.length
  cs : m.cs = r.takes.foldl taken r.coins
  tk : m.tk = coinsOf r.coins r.takes
  en : m.en = r.takes
  len : r.coins.length ≤ 16
theorem Rel.lie {r : Row} {m : M} (R : Rel r m) : Ux01.lie r = m.cs := by
  rw [R.cs]
  exact lie_fold r.takes r.coins R.few
theorem Rel.len_cs {r : Row} {m : M} (R : Rel r m) : m.cs.length + m.tk.length ≤ 16 ∧ m.tk.length = m.en.length := by
  have h1 := R.len
  have h2 := R.few
  rw [R.cs, R.tk, R.en, fold_len, coinsOf_len]
  omega
def M0 : M := ⟨[1], [], []⟩
theorem rel0 : Rel init M0 := ⟨Nat.zero_le _, rfl, rfl, rfl, by decide⟩
def mtake (m : M) (b : Bool) : M := ⟨taken m.cs b, m.tk ++ [coin m.cs b], m.en ++ [b]⟩
def mback (m : M) : M := ⟨if m.en.getLastD false = true then m.cs ++ [m.tk.getLastD 0] else m.tk.getLastD 0 :: m.cs, m.tk.dropLast, m.en.dropLast⟩
theorem rel_take {r : Row} {m : M} (R : Rel r m) (h : m.cs ≠ []) (b : Bool) : Rel (takes r b).1 (mtake m b) ∧ (takes r b).2 = [(coin m.cs b : Int)] := by
  have h1 : r.takes.length < r.coins.length := by
    have e := congrArg List.length R.cs
    rw [fold_len] at e
    have h3 : 0 < m.cs.length := List.length_pos_iff.mpr h
    omega
  refine ⟨⟨?_, ?_, ?_, ?_, R.len⟩, ?_⟩
  · show (r.takes ++ [b]).length ≤ r.coins.length
    rw [List.length_append]
    exact h1
  · show taken m.cs b = (r.takes ++ [b]).foldl taken r.coins
    rw [List.foldl_append, ← R.cs]
    rfl
  · show m.tk ++ [coin m.cs b] = coinsOf r.coins (r.takes ++ [b])
    rw [coinsOf_snoc, R.tk, R.cs]
  · show m.en ++ [b] = r.takes ++ [b]
    rw [R.en]
  · show Ux01.ints [coin (Ux01.lie r) b] = _
    rw [R.lie]
    rfl
theorem rel_back {r : Row} {m : M} (R : Rel r m) (h : m.en ≠ []) : Rel { r with takes := r.takes.dropLast } (mback m) ∧
    coin (Ux01.lie { r with takes := r.takes.dropLast }) (r.takes.getLastD false) = m.tk.getLastD 0 := by
  obtain ⟨c, t⟩ := r
  have hen : m.en = t := R.en
  have hne : t ≠ [] := by rw [← hen]; exact h
  obtain ⟨t', b, rfl⟩ : ∃ t' b, t = t' ++ [b] := ⟨t.dropLast, t.getLast hne, (List.dropLast_concat_getLast hne).symm⟩
  have hfew : (t' ++ [b]).length ≤ c.length := R.few
  rw [List.length_append] at hfew
  have hf : t'.length + 1 ≤ c.length := hfew
  have hcs : m.cs = taken (t'.foldl taken c) b := by rw [R.cs]; show (t' ++ [b]).foldl taken c = _; rw [List.foldl_append]; rfl
  have htk : m.tk = coinsOf c t' ++ [coin (t'.foldl taken c) b] := by rw [R.tk]; exact coinsOf_snoc t' c b
  have hm : t'.foldl taken c ≠ [] := by
    intro e
    have e2 := congrArg List.length e
    rw [fold_len] at e2
    simp only [List.length_nil] at e2
    omega
  have hl : Ux01.lie ⟨c, t'⟩ = t'.foldl taken c := lie_fold t' c (by omega)
  have ed : (t' ++ [b]).dropLast = t' := List.dropLast_concat
  have eg : (t' ++ [b]).getLastD false = b := by simp
  have ek : m.tk.getLastD 0 = coin (t'.foldl taken c) b := by rw [htk]; simp
  refine ⟨⟨?_, ?_, ?_, ?_, R.len⟩, ?_⟩
  · show (t' ++ [b]).dropLast.length ≤ c.length
    rw [ed]; omega
  · show (if m.en.getLastD false = true then m.cs ++ [m.tk.getLastD 0] else m.tk.getLastD 0 :: m.cs) = (t' ++ [b]).dropLast.foldl taken c
    rw [ed, ek, hcs, hen, eg]
    cases b with
    | true => rw [if_pos rfl]; exact snoc_of hm
    | false => rw [if_neg (by decide)]; exact cons_of hm
  · show m.tk.dropLast = coinsOf c (t' ++ [b]).dropLast
    rw [ed, htk, List.dropLast_concat]
  · show m.en.dropLast = (t' ++ [b]).dropLast
    rw [hen]
  · show coin (Ux01.lie ⟨c, (t' ++ [b]).dropLast⟩) ((t' ++ [b]).getLastD false) = _
    rw [ed, eg, hl, ek]
/-- what each call answers, by what the program keeps -/
def mstep (m : M) : Ux01.Call → M × List Int
  | .row l => if isRow l = false then (m, [-1]) else (⟨l, [], []⟩, [(l.length : Int)])
  | .take e => if 1 < e then (m, [-1]) else if m.cs.isEmpty = true then (m, [-6]) else (mtake m (e == 1), [(coin m.cs (e == 1) : Int)])
  | .back => if m.en.isEmpty = true then (m, [-9]) else (mback m, [(m.tk.getLastD 0 : Int)])
  | .shows => (m, (m.cs.length : Int) :: Ux01.ints m.cs ++ [(total (odds m.tk) : Int), (total (evens m.tk) : Int), if m.tk.length % 2 = 0 then 1 else 2])
  | .lead => (m, Ux01.ints (told (L m.cs)))
  | .best => (m, if m.cs.isEmpty = true then [-6] else Ux01.ints (flag (Ux01.best m.cs) :: told (L (taken m.cs (Ux01.best m.cs)))))
  | .gets => (m, [(G m.cs : Int), ((total m.cs - G m.cs : Nat) : Int)])
  | .games => (m, [(N m.cs : Int)])
  | .play => if m.cs.isEmpty = true then (m, [-6]) else (mtake m (Ux01.best m.cs), [(coin m.cs (Ux01.best m.cs) : Int)])
  | .places => (m, [(total (odds m.cs) : Int), (total (evens m.cs) : Int)])
  | .greedy => (m, [((Ux01.greedy m.cs.length m.cs).1 : Int), ((Ux01.greedy m.cs.length m.cs).2 : Int)])
  | .beat => (m, if m.cs.isEmpty = true then [-6] else
      let b := decide (beatBy m.cs false < beatBy m.cs true)
      Ux01.ints [beatBy m.cs b, flag b])
  | .swap i j => (m, if i < 1 ∨ m.cs.length < i ∨ j < 1 ∨ m.cs.length < j then [-2] else Ux01.ints (told (L (swapped m.cs (i - 1) (j - 1)))))
theorem isEmpty_ne {α : Type} {l : List α} (h : ¬ l.isEmpty = true) : l ≠ [] := by
  intro e
  subst e
  exact h rfl
theorem rel_step {r : Row} {m : M} (R : Rel r m) (c : Ux01.Call) : Rel (Ux01.step r c).1 (mstep m c).1 ∧ (Ux01.step r c).2 = (mstep m c).2 := by
  have hl := R.lie
  cases c with
  | row l =>
    simp only [Ux01.step, mstep]
    split
    · exact ⟨R, rfl⟩
    · rename_i h
      refine ⟨⟨Nat.zero_le _, rfl, rfl, rfl, ?_⟩, rfl⟩
      have h2 : isRow l = true := by simpa using h
      unfold isRow at h2
      simp only [Bool.and_eq_true, decide_eq_true_eq] at h2
      exact h2.2.1
  | take e =>
    simp only [Ux01.step, mstep, hl]
    split
    · exact ⟨R, rfl⟩
    · split
      · exact ⟨R, rfl⟩
      · rename_i h
        exact rel_take R (isEmpty_ne h) _
  | back =>
    simp only [Ux01.step, mstep]
    rw [← R.en]
    split
    · exact ⟨R, rfl⟩
    · rename_i h
      have q := rel_back R (isEmpty_ne h)
      rw [← R.en] at q
      refine ⟨q.1, ?_⟩
      show Ux01.ints [coin _ _] = _
      rw [q.2]
      rfl
  | shows =>
    refine ⟨R, ?_⟩
    show counted (Ux01.lie r) ++ Ux01.ints [total (odds (coinsOf r.coins r.takes)), total (evens (coinsOf r.coins r.takes)), if r.takes.length % 2 = 0 then 1 else 2] = _
    rw [hl, ← R.tk, show r.takes.length = m.tk.length by rw [R.tk, coinsOf_len]]
    show _ = (m.cs.length : Int) :: Ux01.ints m.cs ++ [(total (odds m.tk) : Int), (total (evens m.tk) : Int), if m.tk.length % 2 = 0 then 1 else 2]
    by_cases h : m.tk.length % 2 = 0
    · rw [if_pos h, if_pos h]; rfl
    · rw [if_neg h, if_neg h]; rfl
  | lead =>
    refine ⟨R, ?_⟩
    show Ux01.ints (told (Ux01.lead (Ux01.lie r))) = _
    rw [hl, lead_L]
    rfl
  | best =>
    refine ⟨R, ?_⟩
    show (if (Ux01.lie r).isEmpty = true then _ else _) = _
    rw [hl]
    simp only [mstep, lead_L]
  | gets =>
    refine ⟨R, ?_⟩
    show Ux01.ints [gain (Ux01.lie r), total (Ux01.lie r) - gain (Ux01.lie r)] = _
    rw [hl, gain_G]
    rfl
  | games =>
    refine ⟨R, ?_⟩
    show Ux01.ints [Ux01.games (Ux01.lie r)] = _
    rw [hl, games_N]
    rfl
  | play =>
    simp only [Ux01.step, mstep, hl]
    split
    · exact ⟨R, rfl⟩
    · rename_i h
      exact rel_take R (isEmpty_ne h) _
  | places =>
    refine ⟨R, ?_⟩
    show Ux01.ints [total (odds (Ux01.lie r)), total (evens (Ux01.lie r))] = _
    rw [hl]
    rfl
  | greedy =>
    refine ⟨R, ?_⟩
    show Ux01.ints [(Ux01.greedy (Ux01.lie r).length (Ux01.lie r)).1, (Ux01.greedy (Ux01.lie r).length (Ux01.lie r)).2] = _
    rw [hl]
    rfl
  | beat =>
    refine ⟨R, ?_⟩
    show (if (Ux01.lie r).isEmpty = true then _ else _) = _
    rw [hl]
    rfl
  | swap i j =>
    refine ⟨R, ?_⟩
    show (if i < 1 ∨ (Ux01.lie r).length < i ∨ j < 1 ∨ (Ux01.lie r).length < j then _ else _) = _
    rw [hl]
    simp only [mstep, lead_L]
end Mx

end
section
namespace Mx
open Ux01

/-- a call written ahead of what is left -/
inductive Form : List Int → Ux01.Call → List Int → Prop where
  | row (vs : List Nat) (t : List Int) (h : vs.length ≤ 40) : Form (0 :: (vs.length : Int) :: (Ux01.ints vs ++ t)) (.row vs) t
  | take (e : Nat) (t : List Int) : Form (1 :: (e : Int) :: t) (.take e) t
  | back (t : List Int) : Form (2 :: t) .back t
  | shows (t : List Int) : Form (3 :: t) .shows t
  | lead (t : List Int) : Form (4 :: t) .lead t
  | best (t : List Int) : Form (5 :: t) .best t
  | gets (t : List Int) : Form (6 :: t) .gets t
  | games (t : List Int) : Form (7 :: t) .games t
  | play (t : List Int) : Form (8 :: t) .play t
  | places (t : List Int) : Form (9 :: t) .places t
  | greedy (t : List Int) : Form (10 :: t) .greedy t
  | beat (t : List Int) : Form (11 :: t) .beat t
  | swap (i j : Nat) (t : List Int) : Form (12 :: (i : Int) :: (j : Int) :: t) (.swap i j) t

theorem ints_toNat : ∀ {l : List Int}, (∀ x ∈ l, 0 ≤ x) → Ux01.ints (l.map Int.toNat) = l
  | [], _ => rfl
  | a :: l, h => by
    show ((a.toNat : Nat) : Int) :: Ux01.ints (l.map Int.toNat) = a :: l
    rw [ints_toNat fun x hx => h x (List.mem_cons_of_mem _ hx), Int.toNat_of_nonneg (h a List.mem_cons_self)]
theorem within_iff {lo hi z : Int} : PyInside.within lo hi z = true ↔ lo ≤ z ∧ z ≤ hi := by
  unfold PyInside.within
  rw [Bool.and_eq_true, decide_eq_true_eq, decide_eq_true_eq]
theorem nat_of {z : Int} (h : PyInside.within 0 4294967295 z = true) : Ux01Neutral.nat z = true := by
  have := within_iff.mp h
  unfold Ux01Neutral.nat
  rw [Bool.and_eq_true, decide_eq_true_eq, decide_eq_true_eq]
  omega
theorem all_nat {l : List Int} (h : l.all (PyInside.within 0 4294967295) = true) : l.all Ux01Neutral.nat = true := by
  rw [List.all_eq_true] at h ⊢
  exact fun x hx => nat_of (h x hx)
theorem nonneg_of {l : List Int} (h : l.all (PyInside.within 0 4294967295) = true) : ∀ x ∈ l, 0 ≤ x := by
  rw [List.all_eq_true] at h
  exact fun x hx => (within_iff.mp (h x hx)).1
/-- what the specification does with a call as it is read -/
abbrev nstep (r : Row) (c : List (List Int)) : Row × List Int := Ux01Neutral.step r ((PyUx01.whole c).headD [])
theorem nstep_row (r : Row) {vs : List Int} (h : vs.all (PyInside.within 0 4294967295) = true) : nstep r [[0], vs] = Ux01.step r (.row (vs.map Int.toNat)) := by
  show Ux01Neutral.step r (0 :: vs) = _
  have e : Ux01Neutral.callOf (0 :: vs) = some (.row (vs.map Int.toNat)) := by
    unfold Ux01Neutral.callOf
    have e2 : (0 :: vs).all Ux01Neutral.nat = true := by
      rw [List.all_cons, all_nat h]
      rfl
    rw [if_neg (by rw [e2]; decide)]
    rfl
  unfold Ux01Neutral.step
  rw [e]
  rfl
theorem nstep_take (r : Row) {x : Int} (h : PyInside.within 0 4294967295 x = true) : nstep r [[1, x]] = Ux01.step r (.take x.toNat) := by
  show Ux01Neutral.step r [1, x] = _
  have e : Ux01Neutral.callOf [1, x] = some (.take x.toNat) := by
    unfold Ux01Neutral.callOf
    have e2 : [1, x].all Ux01Neutral.nat = true := by
      rw [List.all_cons, List.all_cons, nat_of h]
      rfl
    rw [if_neg (by rw [e2]; decide)]
    rfl
  unfold Ux01Neutral.step
  rw [e]
  rfl
theorem nstep_swap (r : Row) {x y : Int} (h : PyInside.within 0 4294967295 x = true) (h2 : PyInside.within 0 4294967295 y = true) : nstep r [[12, x, y]] = Ux01.step r (.swap x.toNat y.toNat) := by
  show Ux01Neutral.step r [12, x, y] = _
  have e : Ux01Neutral.callOf [12, x, y] = some (.swap x.toNat y.toNat) := by
    unfold Ux01Neutral.callOf
    have e2 : [12, x, y].all Ux01Neutral.nat = true := by
      rw [List.all_cons, List.all_cons, List.all_cons, nat_of h, nat_of h2]
      rfl
    rw [if_neg (by rw [e2]; decide)]
    rfl
  unfold Ux01Neutral.step
  rw [e]
  rfl
theorem row_inv {l x t : List Int} (h : PyFlat.row l = some (x, t)) : l = (x.length : Int) :: (x ++ t) := by
  cases l with
  | nil => cases h
  | cons n r =>
    unfold PyFlat.row at h
    dsimp only at h
    split at h
    · rename_i c
      have e := Option.some.inj h
      have e1 : r.take n.toNat = x := congrArg Prod.fst e
      have e2 : r.drop n.toNat = t := congrArg Prod.snd e
      have e3 : x.length = n.toNat := by rw [← e1, List.length_take]; omega
      rw [e3, ← e1, ← e2, List.take_append_drop]
      congr 1
      omega
    · cases h
/-- a call as it is read, within its bounds: its form, and what the specification does with it -/
theorem call_inv {l t : List Int} {c : List (List Int)} (h : PyFlat.call PyUx01.shape l = some (c, t)) (hb : PyInside.call PyUx01.bound c = true) :
    ∃ x, Form l x t ∧ ∀ r, nstep r c = Ux01.step r x := by
  cases l with
  | nil => cases h
  | cons p r =>
    by_cases h0 : p = 0
    · subst h0
      have e : PyFlat.call PyUx01.shape (0 :: r) = (if r.length < 0 then none else match PyFlat.rows 1 (r.drop 0) with
        | none => none
        | some (xs, t) => some ((0 :: r.take 0) :: xs, t)) := rfl
      rw [e, if_neg (Nat.not_lt_zero _), List.drop_zero, List.take_zero] at h
      have e2 : PyFlat.rows 1 r = (match PyFlat.row r with
        | none => none
        | some (x, s) => some ([x], s)) := by
        show (match PyFlat.row r with
          | none => none
          | some (x, s) => match PyFlat.rows 0 s with
            | none => none
            | some (xs, t) => some (x :: xs, t)) = _
        cases PyFlat.row r <;> rfl
      rw [e2] at h
      cases hr : PyFlat.row r with
      | none => rw [hr] at h; cases h
      | some q =>
        obtain ⟨x, s⟩ := q
        rw [hr] at h
        have q := Option.some.inj h
        have q1 : [[0], x] = c := congrArg Prod.fst q
        have q2 : s = t := congrArg Prod.snd q
        subst q1 q2
        have hb2 : ((decide (0 ≤ x.length) && decide (x.length ≤ 40)) && x.all (PyInside.within 0 4294967295) && true) = true := hb
        simp only [Bool.and_eq_true, decide_eq_true_eq] at hb2
        have e4 := row_inv hr
        subst e4
        have e5 := ints_toNat (nonneg_of hb2.1.2)
        have f := Form.row (x.map Int.toNat) s (by rw [List.length_map]; exact hb2.1.1.2)
        rw [List.length_map, e5] at f
        exact ⟨_, f, fun r => nstep_row r hb2.1.2⟩
    · by_cases h1 : p = 1
      · subst h1
        have e : PyFlat.call PyUx01.shape (1 :: r) = (if r.length < 1 then none else some ([1 :: r.take 1], r.drop 1)) := rfl
        rw [e] at h
        cases r with
        | nil => cases h
        | cons x r =>
          rw [if_neg (by simp)] at h
          have q := Option.some.inj h
          have q1 : [[1, x]] = c := congrArg Prod.fst q
          have q2 : r = t := congrArg Prod.snd q
          subst q1 q2
          have hb2 : ((PyInside.within 0 4294967295 x && true) && true) = true := hb
          simp only [Bool.and_true] at hb2
          have f := Form.take x.toNat r
          rw [Int.toNat_of_nonneg (within_iff.mp hb2).1] at f
          exact ⟨_, f, fun r => nstep_take r hb2⟩
      · by_cases h12 : p = 12
        · subst h12
          have e : PyFlat.call PyUx01.shape (12 :: r) = (if r.length < 2 then none else some ([12 :: r.take 2], r.drop 2)) := rfl
          rw [e] at h
          match r, h with
          | [], h => cases h
          | [_], h => cases h
          | x :: y :: r, h =>
            rw [if_neg (by simp)] at h
            have q := Option.some.inj h
            have q1 : [[12, x, y]] = c := congrArg Prod.fst q
            have q2 : r = t := congrArg Prod.snd q
            subst q1 q2
            have hb2 : ((PyInside.within 0 4294967295 x && (PyInside.within 0 4294967295 y && true)) && true) = true := hb
            simp only [Bool.and_true, Bool.and_eq_true] at hb2
            have f := Form.swap x.toNat y.toNat r
            rw [Int.toNat_of_nonneg (within_iff.mp hb2.1).1, Int.toNat_of_nonneg (within_iff.mp hb2.2).1] at f
            exact ⟨_, f, fun r => nstep_swap r hb2.1 hb2.2⟩
        · have plain : PyUx01.shape p = some (0, 0) → r = t ∧ [[p]] = c := by
            intro hs
            unfold PyFlat.call at h
            dsimp only at h
            rw [hs] at h
            dsimp only at h
            rw [if_neg (Nat.not_lt_zero _)] at h
            have h' : some ((p :: r.take 0) :: [], r.drop 0) = some (c, t) := h
            rw [List.take_zero, List.drop_zero] at h'
            have q := Option.some.inj h'
            exact ⟨congrArg Prod.snd q, congrArg Prod.fst q⟩
          by_cases h2 : p = 2
          · subst h2; obtain ⟨e1, e2⟩ := plain rfl; subst e1 e2; exact ⟨_, .back r, fun _ => rfl⟩
          by_cases h3 : p = 3
          · subst h3; obtain ⟨e1, e2⟩ := plain rfl; subst e1 e2; exact ⟨_, .shows r, fun _ => rfl⟩
          by_cases h4 : p = 4
          · subst h4; obtain ⟨e1, e2⟩ := plain rfl; subst e1 e2; exact ⟨_, .lead r, fun _ => rfl⟩
          by_cases h5 : p = 5
          · subst h5; obtain ⟨e1, e2⟩ := plain rfl; subst e1 e2; exact ⟨_, .best r, fun _ => rfl⟩
          by_cases h6 : p = 6
          · subst h6; obtain ⟨e1, e2⟩ := plain rfl; subst e1 e2; exact ⟨_, .gets r, fun _ => rfl⟩
          by_cases h7 : p = 7
          · subst h7; obtain ⟨e1, e2⟩ := plain rfl; subst e1 e2; exact ⟨_, .games r, fun _ => rfl⟩
          by_cases h8 : p = 8
          · subst h8; obtain ⟨e1, e2⟩ := plain rfl; subst e1 e2; exact ⟨_, .play r, fun _ => rfl⟩
          by_cases h9 : p = 9
          · subst h9; obtain ⟨e1, e2⟩ := plain rfl; subst e1 e2; exact ⟨_, .places r, fun _ => rfl⟩
          by_cases h10 : p = 10
          · subst h10; obtain ⟨e1, e2⟩ := plain rfl; subst e1 e2; exact ⟨_, .greedy r, fun _ => rfl⟩
          by_cases h11 : p = 11
          · subst h11; obtain ⟨e1, e2⟩ := plain rfl; subst e1 e2; exact ⟨_, .beat r, fun _ => rfl⟩
          have hn : PyUx01.shape p = none := by
            unfold PyUx01.shape
            rw [if_neg h0, if_neg h1, if_neg h2, if_neg h3, if_neg h4, if_neg h5, if_neg h6, if_neg h7, if_neg h8, if_neg h9, if_neg h10, if_neg h11, if_neg h12]
          unfold PyFlat.call at h
          dsimp only at h
          rw [hn] at h
          cases h
theorem calls_inv {f : Nat} {l : List Int} {cs : List (List (List Int))} (h : PyFlat.calls PyUx01.shape f l = some cs) (hl : l ≠ []) :
    ∃ c t f' cs', PyFlat.call PyUx01.shape l = some (c, t) ∧ PyFlat.calls PyUx01.shape f' t = some cs' ∧ cs = c :: cs' := by
  match f, l, hl, h with
  | _, [], hl, _ => exact absurd rfl hl
  | 0, _ :: _, _, h => cases h
  | f + 1, p :: r, _, h =>
    rw [PyFlat.calls] at h
    cases hc : PyFlat.call PyUx01.shape (p :: r) with
    | none => rw [hc] at h; cases h
    | some q =>
      obtain ⟨c, t⟩ := q
      rw [hc] at h
      dsimp only at h
      cases hs : PyFlat.calls PyUx01.shape f t with
      | none => rw [hs] at h; cases h
      | some cs' =>
        rw [hs] at h
        exact ⟨c, t, f, cs', rfl, hs, (Option.some.inj h).symm⟩
/-- from m on the rest is answered by out -/
def Due (m : M) (rest out : List Int) : Prop := ∃ (r : Row) (f : Nat) (cs : List (List (List Int))), Rel r m ∧ PyFlat.calls PyUx01.shape f rest = some cs ∧ PyInside.calls PyUx01.bound cs = true ∧
  out = PyFlat.told (PyFlat.played (fun s c => Ux01Neutral.step s (c.headD [])) r (cs.map PyUx01.whole))
theorem due_nil {m : M} {out : List Int} (d : Due m [] out) : out = [] := by
  obtain ⟨r, f, cs, _, h, _, e⟩ := d
  have e2 : cs = [] := by
    cases f <;> exact (Option.some.inj h).symm
  subst e2
  exact e
theorem due_cons {m : M} {rest out : List Int} (d : Due m rest out) (hl : rest ≠ []) :
    ∃ x t out', Form rest x t ∧ out = ((mstep m x).2.length : Int) :: (mstep m x).2 ++ out' ∧ Due (mstep m x).1 t out' := by
  obtain ⟨r, f, cs, R, h, hb, e⟩ := d
  obtain ⟨c, t, f', cs', h1, h2, rfl⟩ := calls_inv h hl
  have hb2 : (PyInside.call PyUx01.bound c && cs'.all (PyInside.call PyUx01.bound)) = true := hb
  rw [Bool.and_eq_true] at hb2
  obtain ⟨x, hf, hs⟩ := call_inv h1 hb2.1
  obtain ⟨R2, ea⟩ := rel_step R x
  refine ⟨x, t, _, hf, ?_, (Ux01.step r x).1, f', cs', R2, h2, hb2.2, rfl⟩
  rw [e, ← ea]
  show PyFlat.told ((nstep r c).2 :: PyFlat.played _ (nstep r c).1 (cs'.map PyUx01.whole)) = _
  rw [hs r]
  rfl
theorem due_start {l : List Int} (h : PyUx01.answers_asked l = true) : Due M0 l (PyUx01.answers l) ∧ (PyUx01.answers l).length ≤ 10000000 := by
  unfold PyUx01.answers_asked at h
  cases hc : PyFlat.calls PyUx01.shape l.length l with
  | none => rw [hc] at h; cases h
  | some raw =>
    rw [hc] at h
    dsimp only at h
    simp only [Bool.and_eq_true] at h
    refine ⟨⟨init, l.length, raw, rel0, hc, h.1.1.2, ?_⟩, ?_⟩
    · unfold PyUx01.answers PyUx01.calls
      rw [hc]
      rfl
    · have h2 := h.2
      unfold PyFlat.short at h2
      exact of_decide_eq_true h2
end Mx

end
section
namespace Mx
open Ux01

/-! ### the program's tables of leads -/
theorem get_take_drop {α : Type} (l : List α) {i k j : Nat} (h : j < k) : ((l.drop i).take k)[j]? = l[i + j]? := by
  rw [List.getElem?_take_of_lt h, List.getElem?_drop]
theorem coin_cut_false (l : List Nat) {i k x : Nat} (hx : l[i]? = some x) : coin ((l.drop i).take (k + 1)) false = x := by
  rw [coin_false, headD_getD, List.getD_eq_getElem?_getD, get_take_drop l (Nat.succ_pos k), Nat.add_zero, hx]
  rfl
theorem coin_cut_true (l : List Nat) {i k y : Nat} (h : i + (k + 1) ≤ l.length) (hy : l[i + k]? = some y) : coin ((l.drop i).take (k + 1)) true = y := by
  rw [coin_true, List.getLastD_eq_getLast?, List.getLast?_eq_getElem?, List.length_take, List.length_drop]
  have e : min (k + 1) (l.length - i) - 1 = k := by omega
  rw [e, get_take_drop l (Nat.lt_succ_self k), hy]
  rfl
theorem L_cut (l : List Nat) {i k x y : Nat} (h : i + (k + 1) ≤ l.length) (hx : l[i]? = some x) (hy : l[i + k]? = some y) :
    L ((l.drop i).take (k + 1)) = max ((x : Int) - L ((l.drop (i + 1)).take k)) ((y : Int) - L ((l.drop i).take k)) := by
  rw [L_eq (cut_ne l h), cut_take l h, cut_last l h, coin_cut_false l hx, coin_cut_true l h hy]
/-- the leads of all stretches of k coins -/
def leads (l : List Nat) (k : Nat) : List Int := (List.range (l.length + 1 - k)).map fun i => L ((l.drop i).take k)
theorem leads_len (l : List Nat) (k : Nat) : (leads l k).length = l.length + 1 - k := by
  unfold leads
  rw [List.length_map, List.length_range]
theorem leads_get (l : List Nat) {k i : Nat} (h : i + k ≤ l.length) : (leads l k)[i]? = some (L ((l.drop i).take k)) := by
  unfold leads
  rw [List.getElem?_map, List.getElem?_range (by omega)]
  rfl
theorem leads_zero (l : List Nat) : leads l 0 = List.replicate (l.length + 1) 0 := by
  refine List.ext_getElem? fun i => ?_
  by_cases h : i < l.length + 1
  · rw [leads_get l (by omega), List.getElem?_replicate, if_pos h, List.take_zero, L_nil]
  · rw [List.getElem?_eq_none (by rw [leads_len]; omega), List.getElem?_eq_none (by rw [List.length_replicate]; omega)]
theorem leads_all (l : List Nat) : (leads l l.length)[0]? = some (L l) := by
  rw [leads_get l (by omega), List.drop_zero, List.take_length]
theorem leads_take (l : List Nat) {k i : Nat} (h : i + k ≤ l.length) : (leads l k).take (i + 1) = (leads l k).take i ++ [L ((l.drop i).take k)] := by
  rw [List.take_add_one, leads_get l h]
  rfl

/-! ### every second one -/
def oddsG {α : Type} : List α → List α
  | [] => []
  | [a] => [a]
  | a :: _ :: l => a :: oddsG l
theorem odds_G : ∀ l : List Nat, odds l = oddsG l
  | [] => rfl
  | [_] => rfl
  | a :: b :: l => by
    show a :: odds l = a :: oddsG l
    rw [odds_G l]
theorem oddsG_map {α β : Type} (f : α → β) : ∀ l : List α, oddsG (l.map f) = (oddsG l).map f
  | [] => rfl
  | [_] => rfl
  | a :: b :: l => by
    show f a :: oddsG (l.map f) = f a :: (oddsG l).map f
    rw [oddsG_map f l]
theorem oddsG_pick {α : Type} : ∀ l : List α, (List.range ((l.length + 1) / 2)).filterMap (fun k => l[2 * k]?) = oddsG l
  | [] => by simp [oddsG]
  | [a] => by simp [oddsG, List.range_succ]
  | a :: b :: l => by
    have e : ((a :: b :: l).length + 1) / 2 = (l.length + 1) / 2 + 1 := by
      simp only [List.length_cons]
      omega
    rw [e, List.range_succ_eq_map, List.filterMap_cons]
    show a :: _ = a :: oddsG l
    rw [List.filterMap_map, ← oddsG_pick l]
    congr 1
end Mx

end
section
namespace Mx
open Ux01

/-! ### greedy, by the row itself -/
def Gr (l : List Nat) : Nat × Nat := Ux01.greedy l.length l
theorem Gr_nil : Gr [] = (0, 0) := rfl
theorem Gr_eq {l : List Nat} (h : l ≠ []) : Gr l = (coin l (greedyEnd l) + (Gr (taken l (greedyEnd l))).2, (Gr (taken l (greedyEnd l))).1) := by
  unfold Gr
  rw [taken_len]
  cases l with
  | nil => exact absurd rfl h
  | cons a l =>
    rw [List.length_cons, Ux01.greedy]
    rfl
/-- the rest is behind the one at turn, then the other one -/
theorem Gr_total : ∀ (n : Nat) (l : List Nat), l.length = n → (Gr l).1 + (Gr l).2 = total l
  | 0, [], _ => rfl
  | n + 1, a :: l, h => by
    have ih := Gr_total n (taken (a :: l) (greedyEnd (a :: l))) (by rw [taken_len, h]; rfl)
    have e := total_taken (l := a :: l) (by simp) (greedyEnd (a :: l))
    rw [Gr_eq (by simp)]
    dsimp only
    omega
theorem greedyEnd_eq (l : List Nat) : greedyEnd l = decide (coin l false < coin l true) := rfl

/-! ### beat, by the row itself -/
theorem beat_fuel : ∀ (k k' : Nat) (l : List Nat), l.length ≤ k → l.length ≤ k' → Ux01.beat k l = Ux01.beat k' l
  | 0, 0, _, _, _ => rfl
  | 0, k' + 1, l, h, _ => by
    have e : l = [] := List.length_eq_zero_iff.mp (Nat.le_zero.mp h)
    subst e
    rw [Ux01.beat, Ux01.beat]
    rfl
  | k + 1, 0, l, _, h => by
    have e : l = [] := List.length_eq_zero_iff.mp (Nat.le_zero.mp h)
    subst e
    rw [Ux01.beat, Ux01.beat]
    rfl
  | k + 1, k' + 1, l, h, h' => by
    rw [Ux01.beat, Ux01.beat]
    have e : ∀ b, Ux01.beat k (taken (taken l b) (greedyEnd (taken l b))) = Ux01.beat k' (taken (taken l b) (greedyEnd (taken l b))) := fun b =>
      beat_fuel k k' _ (by rw [taken_len, taken_len]; omega) (by rw [taken_len, taken_len]; omega)
    dsimp only
    rw [e false, e true]
def B (l : List Nat) : Nat := Ux01.beat l.length l
theorem B_nil : B [] = 0 := rfl
theorem beatBy_B (l : List Nat) (b : Bool) : beatBy l b = coin l b + (if (taken l b).isEmpty = true then 0 else B (taken (taken l b) (greedyEnd (taken l b)))) := by
  unfold beatBy B
  dsimp only
  rw [beat_fuel (taken l b).length (taken (taken l b) (greedyEnd (taken l b))).length _ (by rw [taken_len]; omega) (Nat.le_refl _)]
theorem B_eq {l : List Nat} (h : l ≠ []) : B l = max (beatBy l false) (beatBy l true) := by
  have e : ∀ (b : Bool) (k : Nat), l.length = k + 1 → coin l b + (if (taken l b).isEmpty = true then 0 else Ux01.beat k (taken (taken l b) (greedyEnd (taken l b)))) = beatBy l b := fun b k hk => by
    unfold beatBy
    dsimp only
    rw [beat_fuel k (taken l b).length _ (by rw [taken_len, taken_len]; omega) (by rw [taken_len]; omega)]
  cases hl : l.length with
  | zero => exact absurd (List.length_eq_zero_iff.mp hl) h
  | succ k =>
    unfold B
    rw [hl, Ux01.beat]
    dsimp only
    rw [if_neg (by intro q; exact h (List.isEmpty_iff.mp q)), e false k hl, e true k hl]
/-- the empty row counts nothing, whatever the greedy one would take -/
theorem beatBy_B' (l : List Nat) (b : Bool) : beatBy l b = coin l b + B (taken (taken l b) (greedyEnd (taken l b))) := by
  rw [beatBy_B]
  by_cases h : (taken l b).isEmpty = true
  · rw [if_pos h, List.isEmpty_iff.mp h]
    rfl
  · rw [if_neg h]
end Mx

end
section
namespace Mx
open Ux01
theorem Form.cut {l t : List Int} {x : Ux01.Call} (h : Form l x t) : ∃ pre, l = pre ++ t ∧ Form pre x [] ∧ 0 < pre.length := by
  cases h with
  | row vs t h =>
    refine ⟨0 :: (vs.length : Int) :: Ux01.ints vs, rfl, ?_, by simp⟩
    have f := Form.row vs [] h
    rw [List.append_nil] at f
    exact f
  | take e t => exact ⟨[1, (e : Int)], rfl, .take e [], by simp⟩
  | back t => exact ⟨[2], rfl, .back [], by simp⟩
  | shows t => exact ⟨[3], rfl, .shows [], by simp⟩
  | lead t => exact ⟨[4], rfl, .lead [], by simp⟩
  | best t => exact ⟨[5], rfl, .best [], by simp⟩
  | gets t => exact ⟨[6], rfl, .gets [], by simp⟩
  | games t => exact ⟨[7], rfl, .games [], by simp⟩
  | play t => exact ⟨[8], rfl, .play [], by simp⟩
  | places t => exact ⟨[9], rfl, .places [], by simp⟩
  | greedy t => exact ⟨[10], rfl, .greedy [], by simp⟩
  | beat t => exact ⟨[11], rfl, .beat [], by simp⟩
  | swap i j t => exact ⟨[12, (i : Int), (j : Int)], rfl, .swap i j [], by simp⟩
theorem drop_get {α : Type} {l r : List α} {i : Nat} {x : α} (h : l.drop i = x :: r) : l[i]? = some x ∧ l.drop (i + 1) = r := by
  constructor
  · have e : (l.drop i)[0]? = some x := by rw [h]; rfl
    rw [List.getElem?_drop] at e
    exact e
  · rw [← List.drop_drop, h]
    rfl
end Mx

end
section
namespace Mx
open Ux01

/-! ### tables over all stretches of one size -/
def tab (f : List Nat → Int) (l : List Nat) (k : Nat) : List Int := (List.range (l.length + 1 - k)).map fun i => f ((l.drop i).take k)
theorem tab_len (f : List Nat → Int) (l : List Nat) (k : Nat) : (tab f l k).length = l.length + 1 - k := by
  unfold tab
  rw [List.length_map, List.length_range]
theorem tab_get (f : List Nat → Int) (l : List Nat) {k i : Nat} (h : i + k ≤ l.length) : (tab f l k)[i]? = some (f ((l.drop i).take k)) := by
  unfold tab
  rw [List.getElem?_map, List.getElem?_range (by omega)]
  rfl
theorem tab_zero (f : List Nat → Int) (l : List Nat) : tab f l 0 = List.replicate (l.length + 1) (f []) := by
  refine List.ext_getElem? fun i => ?_
  by_cases h : i < l.length + 1
  · rw [tab_get f l (by omega), List.getElem?_replicate, if_pos h, List.take_zero]
  · rw [List.getElem?_eq_none (by rw [tab_len]; omega), List.getElem?_eq_none (by rw [List.length_replicate]; omega)]
theorem tab_all (f : List Nat → Int) (l : List Nat) : (tab f l l.length)[0]? = some (f l) := by
  rw [tab_get f l (by omega), List.drop_zero, List.take_length]
theorem tab_take (f : List Nat → Int) (l : List Nat) {k i : Nat} (h : i + k ≤ l.length) : (tab f l k).take (i + 1) = (tab f l k).take i ++ [f ((l.drop i).take k)] := by
  rw [List.take_add_one, tab_get f l h]
  rfl
theorem tab_leads (l : List Nat) (k : Nat) : tab L l k = leads l k := rfl

/-! ### best games -/
def NI (l : List Nat) : Int := (N l : Int)
theorem NI_nil : NI [] = 1 := by
  unfold NI
  rw [N_small (by decide)]
  rfl
theorem NI_one (l : List Nat) : tab NI l 1 = List.replicate l.length 1 := by
  refine List.ext_getElem? fun i => ?_
  by_cases h : i < l.length
  · rw [tab_get NI l (by omega), List.getElem?_replicate, if_pos h]
    unfold NI
    rw [N_small (by rw [List.length_take]; omega)]
    rfl
  · rw [List.getElem?_eq_none (by rw [tab_len]; omega), List.getElem?_eq_none (by rw [List.length_replicate]; omega)]
/-- one step of the count, as it is added up -/
theorem NI_cut (l : List Nat) {i k x y : Nat} (h : i + (k + 1) ≤ l.length) (hk : 1 ≤ k) (hx : l[i]? = some x) (hy : l[i + k]? = some y) :
    NI ((l.drop i).take (k + 1)) = (if (y : Int) - L ((l.drop i).take k) ≤ (x : Int) - L ((l.drop (i + 1)).take k) then NI ((l.drop (i + 1)).take k) else 0)
      + (if (x : Int) - L ((l.drop (i + 1)).take k) ≤ (y : Int) - L ((l.drop i).take k) then NI ((l.drop i).take k) else 0) := by
  have hne := cut_ne l h
  have e1 := by_lt hne false true
  have e2 := by_lt hne true false
  rw [cut_take l h, cut_last l h, coin_cut_false l hx, coin_cut_true l h hy] at e1 e2
  unfold NI
  rw [N_eq (l := (l.drop i).take (k + 1)) (by rw [List.length_take, List.length_drop]; omega), cut_take l h, cut_last l h]
  by_cases c1 : by_ ((l.drop i).take (k + 1)) false < by_ ((l.drop i).take (k + 1)) true
  · have d1 := e1.mp c1
    rw [if_pos c1, if_neg (by omega), if_neg (by omega), if_pos (by omega)]
    omega
  · have d1 := fun z => c1 (e1.mpr z)
    by_cases c2 : by_ ((l.drop i).take (k + 1)) true < by_ ((l.drop i).take (k + 1)) false
    · have d2 := e2.mp c2
      rw [if_neg c1, if_pos c2, if_pos (by omega), if_neg (by omega)]
      omega
    · have d2 := fun z => c2 (e2.mpr z)
      rw [if_neg c1, if_neg c2, if_pos (by omega), if_pos (by omega)]
      omega

/-! ### what is taken by greed -/
def tg : Nat → List Nat → List Nat
  | 0, _ => []
  | k + 1, l => coin l (greedyEnd l) :: tg k (taken l (greedyEnd l))
def TG (l : List Nat) : List Nat := tg l.length l
theorem TG_nil : TG [] = [] := rfl
theorem TG_eq {l : List Nat} (h : l ≠ []) : TG l = coin l (greedyEnd l) :: TG (taken l (greedyEnd l)) := by
  unfold TG
  rw [taken_len]
  cases l with
  | nil => exact absurd rfl h
  | cons a l => rfl
theorem tg_len : ∀ (k : Nat) (l : List Nat), (tg k l).length = k
  | 0, _ => rfl
  | k + 1, l => by
    show (tg k _).length + 1 = k + 1
    rw [tg_len k]
theorem TG_len (l : List Nat) : (TG l).length = l.length := tg_len _ _
theorem odds_cons (a : Nat) (t : List Nat) : odds (a :: t) = a :: evens t := by
  cases t <;> rfl
theorem evens_cons (a : Nat) (t : List Nat) : evens (a :: t) = odds t := rfl
theorem TG_Gr : ∀ (n : Nat) (l : List Nat), l.length = n → total (odds (TG l)) = (Gr l).1 ∧ total (evens (TG l)) = (Gr l).2
  | 0, [], _ => ⟨rfl, rfl⟩
  | n + 1, a :: l, h => by
    have ih := TG_Gr n (taken (a :: l) (greedyEnd (a :: l))) (by rw [taken_len, h]; rfl)
    rw [TG_eq (by simp), Gr_eq (by simp), odds_cons, evens_cons, total_cons, ih.1, ih.2]
    exact ⟨rfl, rfl⟩

/-! ### behind the greedy one -/
def BI (l : List Nat) : Int := (B l : Int)
/-- the most that one gets where the greedy one is at turn -/
def OI (l : List Nat) : Int := BI (taken l (greedyEnd l))
theorem BI_nil : BI [] = 0 := rfl
theorem OI_nil : OI [] = 0 := rfl
theorem beatBy_O (l : List Nat) (b : Bool) : (beatBy l b : Int) = (coin l b : Int) + OI (taken l b) := by
  rw [beatBy_B']
  unfold OI BI
  omega
theorem BI_cut (l : List Nat) {i k x y : Nat} (h : i + (k + 1) ≤ l.length) (hx : l[i]? = some x) (hy : l[i + k]? = some y) :
    BI ((l.drop i).take (k + 1)) = max ((x : Int) + OI ((l.drop (i + 1)).take k)) ((y : Int) + OI ((l.drop i).take k)) := by
  have e1 := beatBy_O ((l.drop i).take (k + 1)) false
  have e2 := beatBy_O ((l.drop i).take (k + 1)) true
  rw [cut_take l h, coin_cut_false l hx] at e1
  rw [cut_last l h, coin_cut_true l h hy] at e2
  rw [← e1, ← e2]
  unfold BI
  rw [B_eq (cut_ne l h)]
  omega
theorem OI_cut_false (l : List Nat) {i k : Nat} (h : i + (k + 1) ≤ l.length) (hg : greedyEnd ((l.drop i).take (k + 1)) = false) : OI ((l.drop i).take (k + 1)) = BI ((l.drop (i + 1)).take k) := by
  unfold OI
  rw [hg, cut_take l h]
theorem OI_cut_true (l : List Nat) {i k : Nat} (h : i + (k + 1) ≤ l.length) (hg : greedyEnd ((l.drop i).take (k + 1)) = true) : OI ((l.drop i).take (k + 1)) = BI ((l.drop i).take k) := by
  unfold OI
  rw [hg, cut_last l h]
/-- who is at turn on the stretches of k coins -/
def sh (n k : Nat) : List Nat → Int := if (n - k) % 2 = 0 then OI else BI
theorem sh_nil (n k : Nat) : sh n k [] = 0 := by
  unfold sh
  split <;> rfl
theorem sh_all (n : Nat) : sh n n = OI := by
  unfold sh
  rw [Nat.sub_self, if_pos rfl]
theorem sh_even {n k : Nat} (h : k + 1 ≤ n) (e : (n - (k + 1)) % 2 = 0) : sh n k = BI ∧ sh n (k + 1) = OI := by
  unfold sh
  rw [if_pos e, if_neg (by omega)]
  exact ⟨rfl, rfl⟩
theorem sh_odd {n k : Nat} (h : k + 1 ≤ n) (e : ¬ (n - (k + 1)) % 2 = 0) : sh n k = OI ∧ sh n (k + 1) = BI := by
  unfold sh
  rw [if_neg e, if_pos (by omega)]
  exact ⟨rfl, rfl⟩

/-! ### swapped -/
theorem swapped_len (l : List Nat) (i j : Nat) : (swapped l i j).length = l.length := by
  unfold swapped
  rw [List.length_set, List.length_set]
end Mx

end
section

set_option Elab.async false
set_option linter.all false
set_option maxRecDepth 100000
set_option maxHeartbeats 2000000
namespace My
open PySem PySem.Spec PyProof.Rows L2
open PySem.W (Codec)

/-! ### rules that the layer has not -/
theorem pe_gint {X : Cx} {x : Str} {n : Int} {pos : Pos} (h : ∃ t, X.mg x = some (.int n t)) (hg : Gl X x) (hd : (x == ("__debug__" : Str)) = false := by decide) : PE X (.Name x pos) (tC (.int n)) := by
  obtain ⟨t, e⟩ := h
  exact pe_glob hg e ⟨t, rfl⟩ hd
def pickV (xs : List V) (lo hi st : Option Int) : List V :=
  (sliceRange (sliceBounds lo hi st xs.length).1 (sliceBounds lo hi st xs.length).2.1 (sliceBounds lo hi st xs.length).2.2).filterMap (fun k => xs[k]?)
theorem vals_pick {xs : List V} {us : List Value} (r : Vals xs us) : ∀ ks : List Nat, Vals (ks.filterMap fun k => xs[k]?) (ks.filterMap fun k => us[k]?)
  | [] => .nil
  | k :: ks => by
    have ih := vals_pick r ks
    cases e : xs[k]? with
    | none =>
      have e2 : us[k]? = none := by
        rw [List.getElem?_eq_none_iff] at e ⊢
        rw [← r.length]
        exact e
      rw [List.filterMap_cons_none e, List.filterMap_cons_none e2]
      exact ih
    | some v =>
      obtain ⟨u, hu, ru⟩ := r.get e
      rw [List.filterMap_cons_some e, List.filterMap_cons_some hu]
      exact .cons ru ih
/-- xs[lo:hi:st] of a list: a new list -/
def tSlS (K : PySem.W.Frag) (te : TE) (tl th : TO) (ts : TE) : TE := fun σ H Q => te σ H fun x H1 => tl σ H1 fun l H2 => th σ H2 fun u H3 => ts σ H3 fun k H4 => ∃ a xs n, x = .ref a ∧ k = .int n ∧ n ≠ 0 ∧ SqL K H4 a xs ∧
  ∀ p, H4 p = none → Q (.ref p) (upd H4 p (.lst (pickV xs l u (some n))))
theorem pe_sliceS {X : Cx} {e st : Expr} {te ts : TE} {lo hi : Option Expr} {tl th : TO} {pos p2 : Pos} (he : PE X e te) (hl : PO X lo tl) (hu : PO X hi th) (hk : PE X st ts) :
    PE X (.Subscript e (.Slice lo hi (some st) p2) pos) (tSlS X.K te tl th ts) := by
  intro pins s σ H Q I h
  refine Subscript_ (thn (he pins s σ H _ I h) fun v s1 ⟨x, H1, I1, r1, q1⟩ => ?_)
  refine wpAny_Slice (thn (hl pins s1 σ H1 _ I1 q1) fun vl s2 ⟨l, H2, I2, pl, q2⟩ => thn (hu pins s2 σ H2 _ I2 q2) fun vu s3 ⟨u, H3, I3, pu, q3⟩ => ?_)
  rw [evalPart_some]
  refine thn (hk pins s3 σ H3 _ I3 q3) fun vk s4 ⟨y, H4, I4, rk, q4⟩ => ?_
  obtain ⟨a, xs, n, rfl, rfl, hn, hx, q⟩ := q4
  cases r1
  obtain ⟨t, rfl⟩ := rk
  have I5 : Inv X pins σ H4 { s4 with heap := s4.heap.push { cls := .type "slice", data := .fields #[vl, vu, .int n t] } } := I4.kept (t' := s4.toks) fun b ob q => Heap.get?_push_of_some _ q
  obtain ⟨its, r, ht, hz⟩ := I5.list hx
  have hlen := r.length
  show wpAny (model X.prog X.w) X.A (subscriptTail e (.Slice lo hi (some st) p2) (.ref a) (.ref s4.heap.objs.size)) (EP X pins σ Q) X.xe { s4 with heap := s4.heap.push { cls := .type "slice", data := .fields #[vl, vu, .int n t] } }
  refine tail_any (ops := [.ref a, .ref s4.heap.objs.size]) ht.isList.typeIs slot_list_getitem.lookup ?_ (by with_unfolding_all rfl)
  refine wpAny_getItem_list_slice ht.isList (Heap.IsSliceOf.new ..) pl pu (IsPart.int n t) (by intro e; exact hn (Option.some.inj e)) ?_ (by rw [List.size_toArray] <;> omega)
  have e1 : slicePick its.toArray l u (some n) = ((sliceRange (sliceBounds l u (some n) xs.length).1 (sliceBounds l u (some n) xs.length).2.1 (sliceBounds l u (some n) xs.length).2.2).filterMap (fun k => its[k]?)).toArray := by
    unfold slicePick
    rw [List.size_toArray, ← hlen]
    simp
  have e2 := slicePick_size_le its.toArray l u (some n)
  rw [e1] at e2 ⊢
  have e3 := vals_pick r (sliceRange (sliceBounds l u (some n) xs.length).1 (sliceBounds l u (some n) xs.length).2.1 (sliceBounds l u (some n) xs.length).2.2)
  have e4 : (pickV xs l u (some n)).length ≤ sizeLine := by
    have e5 := e3.length
    rw [List.size_toArray, List.size_toArray, ← e5, ← hlen] at e2
    exact Nat.le_trans e2 hz
  exact ⟨.ref _, _, I5.laid (t' := s4.toks) (o := .lst (pickV xs l u (some n))) (fun b ob q => Heap.get?_push_of_some _ q) (Nat.le_refl _) ⟨e4, _, 0, e3, Heap.get?_push_size _ rfl⟩, rfl, q _ (I5.hok.fresh (Nat.le_refl _))⟩

/-! ### tests -/
theorem iteD {c A B : Prop} [Decidable c] (hc : c) (h : A) : if decide c = true then A else B := by
  rw [if_pos (decide_eq_true hc)]
  exact h
theorem iteDF {c A B : Prop} [Decidable c] (hc : ¬ c) (h : B) : if decide c = true then A else B := by
  rw [if_neg (by rw [decide_eq_false hc]; exact Bool.false_ne_true)]
  exact h
theorem iteN {c A B : Prop} [Decidable c] (hc : ¬ c) (h : A) : if (!decide c) = true then A else B := by
  rw [decide_eq_false hc]
  exact iteT h
theorem iteD2 {c A B : Prop} [Decidable c] (h1 : c → A) (h2 : ¬ c → B) : if decide c = true then A else B := by
  by_cases h : c
  · exact iteD h (h1 h)
  · exact iteDF h (h2 h)

/-! ### lists of numbers -/
abbrev IL (ns : List Int) : List V := ns.map V.int
abbrev NL (cs : List Nat) : List V := IL (Ux01.ints cs)
theorem ints_len (cs : List Nat) : (Ux01.ints cs).length = cs.length := by
  unfold Ux01.ints
  rw [List.length_map]
theorem NL_len (cs : List Nat) : (NL cs).length = cs.length := by
  rw [List.length_map, ints_len]
theorem IL_len (ns : List Int) : (IL ns).length = ns.length := List.length_map _
theorem NL_get {cs : List Nat} {i x : Nat} (h : cs[i]? = some x) : (NL cs)[i]? = some (.int (x : Int)) := by
  unfold NL IL Ux01.ints
  rw [List.getElem?_map, List.getElem?_map, h]
  rfl
theorem IL_get {ns : List Int} {i : Nat} {x : Int} (h : ns[i]? = some x) : (IL ns)[i]? = some (.int x) := by
  unfold IL
  rw [List.getElem?_map, h]
  rfl
theorem IL_app (a b : List Int) : IL (a ++ b) = IL a ++ IL b := List.map_append
theorem IL_snoc (a : List Int) (z : Int) : IL (a ++ [z]) = IL a ++ [.int z] := by
  rw [IL_app]
  rfl
theorem max_if (i j : Int) : (if j > i then j else i) = max i j := by
  split <;> omega
theorem min_if (i j : Int) : (if j < i then j else i) = min i j := by
  split <;> omega
theorem ints_app (a b : List Nat) : Ux01.ints (a ++ b) = Ux01.ints a ++ Ux01.ints b := List.map_append
theorem NL_app (a b : List Nat) : NL (a ++ b) = NL a ++ NL b := by
  unfold NL IL
  rw [ints_app, List.map_append]
theorem NL_drop (cs : List Nat) (k : Nat) : (NL cs).drop k = NL (cs.drop k) := by
  unfold NL IL Ux01.ints
  rw [List.map_drop, List.map_drop]
theorem NL_take (cs : List Nat) (k : Nat) : (NL cs).take k = NL (cs.take k) := by
  unfold NL IL Ux01.ints
  rw [List.map_take, List.map_take]
theorem IL_drop (cs : List Int) (k : Nat) : (IL cs).drop k = IL (cs.drop k) := by
  unfold IL
  rw [List.map_drop]
theorem IL_take (cs : List Int) (k : Nat) : (IL cs).take k = IL (cs.take k) := by
  unfold IL
  rw [List.map_take]
theorem cut_from (xs : List V) (k : Nat) : cutV xs (some (k : Int)) none = xs.drop k := by
  unfold cutV
  rw [HT.sIx_none, HT.sIx_nat]
  by_cases h : k ≤ xs.length
  · rw [Nat.min_eq_left h, List.take_of_length_le (by rw [List.length_drop]; omega)]
  · rw [Nat.min_eq_right (by omega), List.drop_length, List.drop_of_length_le (by omega), List.take_nil]
theorem cut_init (xs : List V) : cutV xs none (some (-1)) = xs.dropLast := by
  unfold cutV
  rw [HT.sIx_none, List.drop_zero, List.dropLast_eq_take]
  congr 1
  show (if (-1 : Int) < 0 then (-1 + (xs.length : Int)).toNat else min (-1 : Int).toNat xs.length) - 0 = _
  rw [if_pos (by decide)]
  omega
theorem cut_mid (xs : List V) {i j : Nat} (hj : j ≤ xs.length) : cutV xs (some (i : Int)) (some (j : Int)) = (xs.drop i).take (j - i) := by
  unfold cutV
  rw [HT.sIx_nat, HT.sIx_nat, Nat.min_eq_left hj]
  by_cases h : i ≤ xs.length
  · rw [Nat.min_eq_left h]
  · rw [Nat.min_eq_right (by omega), List.drop_length, List.drop_of_length_le (by omega), List.take_nil, List.take_nil]
theorem atI_end {cs : List Nat} (h : cs ≠ []) : atI (NL cs) (-1) = some (.int (Ux01.coin cs true : Int)) := by
  have e := Mx.snoc_of h
  have e2 : NL cs = NL (Ux01.taken cs true) ++ [V.int (Ux01.coin cs true : Int)] := by
    rw [← congrArg NL e, NL_app]
    rfl
  rw [e2]
  exact atI_last _ _
theorem at0 {cs : List Nat} (h : cs ≠ []) : atI (NL cs) 0 = some (.int (Ux01.coin cs false : Int)) := by
  cases cs with
  | nil => exact absurd rfl h
  | cons a l => exact atI_nat (j := 0) rfl
/-- every second one, by the places that the model names -/
theorem pick_two {α : Type} (l : List α) (s : Nat) : (sliceRange ((min s l.length : Nat) : Int) (l.length : Int) 2).filterMap (fun k => l[k]?) = Mx.oddsG (l.drop s) := by
  unfold sliceRange
  dsimp only
  rw [if_pos (by decide), List.filterMap_map, ← Mx.oddsG_pick (l.drop s), List.length_drop]
  by_cases h : s < l.length
  · rw [if_pos (by omega)]
    have e : (((l.length : Int) - ((min s l.length : Nat) : Int) + 2 - 1) / 2).toNat = (l.length - s + 1) / 2 := by omega
    rw [e]
    congr 1
    funext k
    show l[_]? = (l.drop s)[2 * k]?
    rw [List.getElem?_drop]
    congr 1
    show (((min s l.length : Nat) : Int) + 2 * (k : Int)).toNat = s + 2 * k
    omega
  · rw [if_neg (by omega)]
    have e : l.length - s = 0 := by omega
    rw [e]
    rfl
theorem pick2 (cs : List Nat) (s : Nat) : pickV (NL cs) (some (s : Int)) none (some 2) = NL (Mx.oddsG (cs.drop s)) := by
  unfold pickV
  have e : sliceBounds (some (s : Int)) none (some 2) (NL cs).length = (((min s (NL cs).length : Nat) : Int), ((NL cs).length : Int), 2) := by
    unfold sliceBounds
    simp only [Option.getD_some, show (2 : Int) > 0 by decide, if_true]
    refine Prod.ext ?_ rfl
    show max 0 (min (if (s : Int) < 0 then (s : Int) + ((NL cs).length : Int) else (s : Int)) ((NL cs).length : Int)) = _
    rw [if_neg (by omega)]
    omega
  rw [e]
  dsimp only
  rw [pick_two, NL_drop]
  unfold NL IL Ux01.ints
  rw [Mx.oddsG_map, Mx.oddsG_map]

/-! ### heaps -/
theorem Same.new {H : Hp} {q : Addr} {o : HO} (h : H q = none) : Same H (upd H q o) := fun b u e => by
  rw [upd_ne (ne_of_none e h)]
  exact e

/-! ### the text by places -/
def top (i : Nat) : Stmt := PySem.Challenge.pw_eitherend_s01_answers.main.body.getD i (.Pass ⟨0, 0, 0, 0⟩)
abbrev s_can_lie : Stmt := top 25
abbrev s_end_coin : Stmt := top 26
abbrev s_without_end : Stmt := top 27
abbrev s_lead_of : Stmt := top 28
abbrev s_leads_of_size : Stmt := top 29
abbrev s_games_of : Stmt := top 30
abbrev s_games_of_size : Stmt := top 31
abbrev s_best_end : Stmt := top 32
abbrev s_greedy_end : Stmt := top 33
abbrev s_taken_by_greed : Stmt := top 34
abbrev s_share_behind_greedy : Stmt := top 35
abbrev s_shares_left_by_greedy : Stmt := top 36
abbrev s_shares_of_taking : Stmt := top 37
abbrev s_is_place : Stmt := top 38
abbrev s_swapped : Stmt := top 39
abbrev s_as_told : Stmt := top 40
abbrev s_call_size : Stmt := top 41
abbrev s_answer : Stmt := top 42
abbrev s_answers : Stmt := top 43
abbrev s_m_init : Stmt := inClass (top 24) 0
abbrev s_m_lay : Stmt := inClass (top 24) 1
abbrev s_m_take : Stmt := inClass (top 24) 2
abbrev s_m_back : Stmt := inClass (top 24) 3
abbrev s_m_shows : Stmt := inClass (top 24) 4
abbrev s_m_lead : Stmt := inClass (top 24) 5
abbrev s_m_best : Stmt := inClass (top 24) 6
abbrev s_m_gets : Stmt := inClass (top 24) 7
abbrev s_m_games : Stmt := inClass (top 24) 8
abbrev s_m_play : Stmt := inClass (top 24) 9
abbrev s_m_places : Stmt := inClass (top 24) 10
abbrev s_m_greedy : Stmt := inClass (top 24) 11
abbrev s_m_beat : Stmt := inClass (top 24) 12
abbrev s_m_swap : Stmt := inClass (top 24) 13
theorem sc_can_lie : FnScope ["coins"] ["coins"] (defScope s_can_lie) := ⟨rfl, rfl, rfl, by decide +kernel, rfl, by decide +kernel, by decide +kernel⟩
theorem sc_end_coin : FnScope ["coins", "end"] ["coins", "end"] (defScope s_end_coin) := ⟨rfl, rfl, rfl, by decide +kernel, rfl, by decide +kernel, by decide +kernel⟩
theorem sc_without_end : FnScope ["coins", "end"] ["coins", "end"] (defScope s_without_end) := ⟨rfl, rfl, rfl, by decide +kernel, rfl, by decide +kernel, by decide +kernel⟩
theorem sc_lead_of : FnScope ["coins", "leads", "size"] ["coins"] (defScope s_lead_of) := ⟨rfl, rfl, rfl, by decide +kernel, rfl, by decide +kernel, by decide +kernel⟩
theorem sc_leads_of_size : FnScope ["coins", "size", "shorter", "leads", "start", "by_left", "by_right"] ["coins", "size", "shorter"] (defScope s_leads_of_size) := ⟨rfl, rfl, rfl, by decide +kernel, rfl, by decide +kernel, by decide +kernel⟩
theorem sc_games_of : FnScope ["coins", "games", "leads", "size"] ["coins"] (defScope s_games_of) := ⟨rfl, rfl, rfl, by decide +kernel, rfl, by decide +kernel, by decide +kernel⟩
theorem sc_games_of_size : FnScope ["coins", "size", "shorter", "games", "counts", "start", "by_left", "by_right", "count"] ["coins", "size", "shorter", "games"] (defScope s_games_of_size) := ⟨rfl, rfl, rfl, by decide +kernel, rfl, by decide +kernel, by decide +kernel⟩
theorem sc_best_end : FnScope ["coins", "by_left", "by_right"] ["coins"] (defScope s_best_end) := ⟨rfl, rfl, rfl, by decide +kernel, rfl, by decide +kernel, by decide +kernel⟩
theorem sc_greedy_end : FnScope ["coins"] ["coins"] (defScope s_greedy_end) := ⟨rfl, rfl, rfl, by decide +kernel, rfl, by decide +kernel, by decide +kernel⟩
theorem sc_taken_by_greed : FnScope ["coins", "taken", "rest", "end"] ["coins"] (defScope s_taken_by_greed) := ⟨rfl, rfl, rfl, by decide +kernel, rfl, by decide +kernel, by decide +kernel⟩
theorem sc_share_behind_greedy : FnScope ["coins", "shares", "size"] ["coins"] (defScope s_share_behind_greedy) := ⟨rfl, rfl, rfl, by decide +kernel, rfl, by decide +kernel, by decide +kernel⟩
theorem sc_shares_left_by_greedy : FnScope ["coins", "size", "shorter", "shares", "start"] ["coins", "size", "shorter"] (defScope s_shares_left_by_greedy) := ⟨rfl, rfl, rfl, by decide +kernel, rfl, by decide +kernel, by decide +kernel⟩
theorem sc_shares_of_taking : FnScope ["coins", "size", "shorter", "shares", "start", "by_left", "by_right"] ["coins", "size", "shorter"] (defScope s_shares_of_taking) := ⟨rfl, rfl, rfl, by decide +kernel, rfl, by decide +kernel, by decide +kernel⟩
theorem sc_is_place : FnScope ["coins", "place"] ["coins", "place"] (defScope s_is_place) := ⟨rfl, rfl, rfl, by decide +kernel, rfl, by decide +kernel, by decide +kernel⟩
theorem sc_swapped : FnScope ["coins", "i", "j", "changed"] ["coins", "i", "j"] (defScope s_swapped) := ⟨rfl, rfl, rfl, by decide +kernel, rfl, by decide +kernel, by decide +kernel⟩
theorem sc_as_told : FnScope ["lead"] ["lead"] (defScope s_as_told) := ⟨rfl, rfl, rfl, by decide +kernel, rfl, by decide +kernel, by decide +kernel⟩
theorem sc_call_size : FnScope ["calls", "at"] ["calls", "at"] (defScope s_call_size) := ⟨rfl, rfl, rfl, by decide +kernel, rfl, by decide +kernel, by decide +kernel⟩
theorem sc_answer : FnScope ["row", "call", "number"] ["row", "call"] (defScope s_answer) := ⟨rfl, rfl, rfl, by decide +kernel, rfl, by decide +kernel, by decide +kernel⟩
theorem sc_answers : FnScope ["calls", "row", "told", "at", "behind", "numbers"] ["calls"] (defScope s_answers) := ⟨rfl, rfl, rfl, by decide +kernel, rfl, by decide +kernel, by decide +kernel⟩
theorem sc_m_init : FnScope ["self"] ["self"] (defScope s_m_init) := ⟨rfl, rfl, rfl, by decide +kernel, rfl, by decide +kernel, by decide +kernel⟩
theorem sc_m_lay : FnScope ["self", "coins"] ["self", "coins"] (defScope s_m_lay) := ⟨rfl, rfl, rfl, by decide +kernel, rfl, by decide +kernel, by decide +kernel⟩
theorem sc_m_take : FnScope ["self", "end", "coin"] ["self", "end"] (defScope s_m_take) := ⟨rfl, rfl, rfl, by decide +kernel, rfl, by decide +kernel, by decide +kernel⟩
theorem sc_m_back : FnScope ["self", "coin", "end"] ["self"] (defScope s_m_back) := ⟨rfl, rfl, rfl, by decide +kernel, rfl, by decide +kernel, by decide +kernel⟩
theorem sc_m_shows : FnScope ["self", "beginner_has", "other_has", "at_turn"] ["self"] (defScope s_m_shows) := ⟨rfl, rfl, rfl, by decide +kernel, rfl, by decide +kernel, by decide +kernel⟩
theorem sc_m_lead : FnScope ["self"] ["self"] (defScope s_m_lead) := ⟨rfl, rfl, rfl, by decide +kernel, rfl, by decide +kernel, by decide +kernel⟩
theorem sc_m_best : FnScope ["self", "end"] ["self"] (defScope s_m_best) := ⟨rfl, rfl, rfl, by decide +kernel, rfl, by decide +kernel, by decide +kernel⟩
theorem sc_m_gets : FnScope ["self", "in_all", "share"] ["self"] (defScope s_m_gets) := ⟨rfl, rfl, rfl, by decide +kernel, rfl, by decide +kernel, by decide +kernel⟩
theorem sc_m_games : FnScope ["self"] ["self"] (defScope s_m_games) := ⟨rfl, rfl, rfl, by decide +kernel, rfl, by decide +kernel, by decide +kernel⟩
theorem sc_m_play : FnScope ["self"] ["self"] (defScope s_m_play) := ⟨rfl, rfl, rfl, by decide +kernel, rfl, by decide +kernel, by decide +kernel⟩
theorem sc_m_places : FnScope ["self"] ["self"] (defScope s_m_places) := ⟨rfl, rfl, rfl, by decide +kernel, rfl, by decide +kernel, by decide +kernel⟩
theorem sc_m_greedy : FnScope ["self", "taken"] ["self"] (defScope s_m_greedy) := ⟨rfl, rfl, rfl, by decide +kernel, rfl, by decide +kernel, by decide +kernel⟩
theorem sc_m_beat : FnScope ["self", "by_left", "by_right"] ["self"] (defScope s_m_beat) := ⟨rfl, rfl, rfl, by decide +kernel, rfl, by decide +kernel, by decide +kernel⟩
theorem sc_m_swap : FnScope ["self", "i", "j"] ["self", "i", "j"] (defScope s_m_swap) := ⟨rfl, rfl, rfl, by decide +kernel, rfl, by decide +kernel, by decide +kernel⟩
structure Ads where
  C : Addr
  f_can_lie : Addr
  d_can_lie : FuncData
  f_end_coin : Addr
  d_end_coin : FuncData
  f_without_end : Addr
  d_without_end : FuncData
  f_lead_of : Addr
  d_lead_of : FuncData
  f_leads_of_size : Addr
  d_leads_of_size : FuncData
  f_games_of : Addr
  d_games_of : FuncData
  f_games_of_size : Addr
  d_games_of_size : FuncData
  f_best_end : Addr
  d_best_end : FuncData
  f_greedy_end : Addr
  d_greedy_end : FuncData
  f_taken_by_greed : Addr
  d_taken_by_greed : FuncData
  f_share_behind_greedy : Addr
  d_share_behind_greedy : FuncData
  f_shares_left_by_greedy : Addr
  d_shares_left_by_greedy : FuncData
  f_shares_of_taking : Addr
  d_shares_of_taking : FuncData
  f_is_place : Addr
  d_is_place : FuncData
  f_swapped : Addr
  d_swapped : FuncData
  f_as_told : Addr
  d_as_told : FuncData
  f_call_size : Addr
  d_call_size : FuncData
  f_answer : Addr
  d_answer : FuncData
  f_answers : Addr
  d_answers : FuncData
  f_m_init : Addr
  d_m_init : FuncData
  f_m_lay : Addr
  d_m_lay : FuncData
  f_m_take : Addr
  d_m_take : FuncData
  f_m_back : Addr
  d_m_back : FuncData
  f_m_shows : Addr
  d_m_shows : FuncData
  f_m_lead : Addr
  d_m_lead : FuncData
  f_m_best : Addr
  d_m_best : FuncData
  f_m_gets : Addr
  d_m_gets : FuncData
  f_m_games : Addr
  d_m_games : FuncData
  f_m_play : Addr
  d_m_play : FuncData
  f_m_places : Addr
  d_m_places : FuncData
  f_m_greedy : Addr
  d_m_greedy : FuncData
  f_m_beat : Addr
  d_m_beat : FuncData
  f_m_swap : Addr
  d_m_swap : FuncData
structure Txt (K : PySem.W.Frag) (mg : Str → Option Value) (A : Ads) : Prop where
  cl : Cls K A.C
  mkc : Mk K A.C A.f_m_init
  g_cls : mg "Row" = some (.ref A.C)
  no_coins : NoAttr K A.C "coins"
  no_ends : NoAttr K A.C "ends"
  no_taken : NoAttr K A.C "taken"
  c_BACK : ∃ t, mg "BACK" = some (.int (2) t)
  c_BEAT : ∃ t, mg "BEAT" = some (.int (11) t)
  c_BEST : ∃ t, mg "BEST" = some (.int (5) t)
  c_GAMES : ∃ t, mg "GAMES" = some (.int (7) t)
  c_GETS : ∃ t, mg "GETS" = some (.int (6) t)
  c_GREEDY : ∃ t, mg "GREEDY" = some (.int (10) t)
  c_LEAD : ∃ t, mg "LEAD" = some (.int (4) t)
  c_LEFT : ∃ t, mg "LEFT" = some (.int (0) t)
  c_MOST_COINS : ∃ t, mg "MOST_COINS" = some (.int (16) t)
  c_MOST_VALUE : ∃ t, mg "MOST_VALUE" = some (.int (1000) t)
  c_NOTHING_TAKEN : ∃ t, mg "NOTHING_TAKEN" = some (.int (-9) t)
  c_NO_COIN : ∃ t, mg "NO_COIN" = some (.int (-6) t)
  c_NO_SUCH_END : ∃ t, mg "NO_SUCH_END" = some (.int (-1) t)
  c_NO_SUCH_PLACE : ∃ t, mg "NO_SUCH_PLACE" = some (.int (-2) t)
  c_NO_SUCH_ROW : ∃ t, mg "NO_SUCH_ROW" = some (.int (-1) t)
  c_PLACES : ∃ t, mg "PLACES" = some (.int (9) t)
  c_PLAY : ∃ t, mg "PLAY" = some (.int (8) t)
  c_RIGHT : ∃ t, mg "RIGHT" = some (.int (1) t)
  c_ROW : ∃ t, mg "ROW" = some (.int (0) t)
  c_SHOWS : ∃ t, mg "SHOWS" = some (.int (3) t)
  c_SWAP : ∃ t, mg "SWAP" = some (.int (12) t)
  c_TAKE : ∃ t, mg "TAKE" = some (.int (1) t)
  n_len : mg "len" = none
  n_list : mg "list" = none
  n_max : mg "max" = none
  n_range : mg "range" = none
  n_sum : mg "sum" = none
  F_can_lie : Fun K "can_lie" "can_lie" s_can_lie A.f_can_lie A.d_can_lie
  b_can_lie : Binds K A.d_can_lie ["coins"] []
  g_can_lie : mg "can_lie" = some (.ref A.f_can_lie)
  k_can_lie : PySem.W.keepIn K (.ref A.f_can_lie) = true
  F_end_coin : Fun K "end_coin" "end_coin" s_end_coin A.f_end_coin A.d_end_coin
  b_end_coin : Binds K A.d_end_coin ["coins", "end"] []
  g_end_coin : mg "end_coin" = some (.ref A.f_end_coin)
  k_end_coin : PySem.W.keepIn K (.ref A.f_end_coin) = true
  F_without_end : Fun K "without_end" "without_end" s_without_end A.f_without_end A.d_without_end
  b_without_end : Binds K A.d_without_end ["coins", "end"] []
  g_without_end : mg "without_end" = some (.ref A.f_without_end)
  k_without_end : PySem.W.keepIn K (.ref A.f_without_end) = true
  F_lead_of : Fun K "lead_of" "lead_of" s_lead_of A.f_lead_of A.d_lead_of
  b_lead_of : Binds K A.d_lead_of ["coins"] []
  g_lead_of : mg "lead_of" = some (.ref A.f_lead_of)
  k_lead_of : PySem.W.keepIn K (.ref A.f_lead_of) = true
  F_leads_of_size : Fun K "leads_of_size" "leads_of_size" s_leads_of_size A.f_leads_of_size A.d_leads_of_size
  b_leads_of_size : Binds K A.d_leads_of_size ["coins", "size", "shorter"] []
  g_leads_of_size : mg "leads_of_size" = some (.ref A.f_leads_of_size)
  k_leads_of_size : PySem.W.keepIn K (.ref A.f_leads_of_size) = true
  F_games_of : Fun K "games_of" "games_of" s_games_of A.f_games_of A.d_games_of
  b_games_of : Binds K A.d_games_of ["coins"] []
  g_games_of : mg "games_of" = some (.ref A.f_games_of)
  k_games_of : PySem.W.keepIn K (.ref A.f_games_of) = true
  F_games_of_size : Fun K "games_of_size" "games_of_size" s_games_of_size A.f_games_of_size A.d_games_of_size
  b_games_of_size : Binds K A.d_games_of_size ["coins", "size", "shorter", "games"] []
  g_games_of_size : mg "games_of_size" = some (.ref A.f_games_of_size)
  k_games_of_size : PySem.W.keepIn K (.ref A.f_games_of_size) = true
  F_best_end : Fun K "best_end" "best_end" s_best_end A.f_best_end A.d_best_end
  b_best_end : Binds K A.d_best_end ["coins"] []
  g_best_end : mg "best_end" = some (.ref A.f_best_end)
  k_best_end : PySem.W.keepIn K (.ref A.f_best_end) = true
  F_greedy_end : Fun K "greedy_end" "greedy_end" s_greedy_end A.f_greedy_end A.d_greedy_end
  b_greedy_end : Binds K A.d_greedy_end ["coins"] []
  g_greedy_end : mg "greedy_end" = some (.ref A.f_greedy_end)
  k_greedy_end : PySem.W.keepIn K (.ref A.f_greedy_end) = true
  F_taken_by_greed : Fun K "taken_by_greed" "taken_by_greed" s_taken_by_greed A.f_taken_by_greed A.d_taken_by_greed
  b_taken_by_greed : Binds K A.d_taken_by_greed ["coins"] []
  g_taken_by_greed : mg "taken_by_greed" = some (.ref A.f_taken_by_greed)
  k_taken_by_greed : PySem.W.keepIn K (.ref A.f_taken_by_greed) = true
  F_share_behind_greedy : Fun K "share_behind_greedy" "share_behind_greedy" s_share_behind_greedy A.f_share_behind_greedy A.d_share_behind_greedy
  b_share_behind_greedy : Binds K A.d_share_behind_greedy ["coins"] []
  g_share_behind_greedy : mg "share_behind_greedy" = some (.ref A.f_share_behind_greedy)
  k_share_behind_greedy : PySem.W.keepIn K (.ref A.f_share_behind_greedy) = true
  F_shares_left_by_greedy : Fun K "shares_left_by_greedy" "shares_left_by_greedy" s_shares_left_by_greedy A.f_shares_left_by_greedy A.d_shares_left_by_greedy
  b_shares_left_by_greedy : Binds K A.d_shares_left_by_greedy ["coins", "size", "shorter"] []
  g_shares_left_by_greedy : mg "shares_left_by_greedy" = some (.ref A.f_shares_left_by_greedy)
  k_shares_left_by_greedy : PySem.W.keepIn K (.ref A.f_shares_left_by_greedy) = true
  F_shares_of_taking : Fun K "shares_of_taking" "shares_of_taking" s_shares_of_taking A.f_shares_of_taking A.d_shares_of_taking
  b_shares_of_taking : Binds K A.d_shares_of_taking ["coins", "size", "shorter"] []
  g_shares_of_taking : mg "shares_of_taking" = some (.ref A.f_shares_of_taking)
  k_shares_of_taking : PySem.W.keepIn K (.ref A.f_shares_of_taking) = true
  F_is_place : Fun K "is_place" "is_place" s_is_place A.f_is_place A.d_is_place
  b_is_place : Binds K A.d_is_place ["coins", "place"] []
  g_is_place : mg "is_place" = some (.ref A.f_is_place)
  k_is_place : PySem.W.keepIn K (.ref A.f_is_place) = true
  F_swapped : Fun K "swapped" "swapped" s_swapped A.f_swapped A.d_swapped
  b_swapped : Binds K A.d_swapped ["coins", "i", "j"] []
  g_swapped : mg "swapped" = some (.ref A.f_swapped)
  k_swapped : PySem.W.keepIn K (.ref A.f_swapped) = true
  F_as_told : Fun K "as_told" "as_told" s_as_told A.f_as_told A.d_as_told
  b_as_told : Binds K A.d_as_told ["lead"] []
  g_as_told : mg "as_told" = some (.ref A.f_as_told)
  k_as_told : PySem.W.keepIn K (.ref A.f_as_told) = true
  F_call_size : Fun K "call_size" "call_size" s_call_size A.f_call_size A.d_call_size
  b_call_size : Binds K A.d_call_size ["calls", "at"] []
  g_call_size : mg "call_size" = some (.ref A.f_call_size)
  k_call_size : PySem.W.keepIn K (.ref A.f_call_size) = true
  F_answer : Fun K "answer" "answer" s_answer A.f_answer A.d_answer
  b_answer : Binds K A.d_answer ["row", "call"] []
  g_answer : mg "answer" = some (.ref A.f_answer)
  k_answer : PySem.W.keepIn K (.ref A.f_answer) = true
  F_answers : Fun K "answers" "answers" s_answers A.f_answers A.d_answers
  b_answers : Binds K A.d_answers ["calls"] []
  g_answers : mg "answers" = some (.ref A.f_answers)
  k_answers : PySem.W.keepIn K (.ref A.f_answers) = true
  F_m_init : Fun K "__init__" "Row.__init__" s_m_init A.f_m_init A.d_m_init
  b_m_init : Binds K A.d_m_init ["self"] []
  F_m_lay : Fun K "lay" "Row.lay" s_m_lay A.f_m_lay A.d_m_lay
  b_m_lay : Binds K A.d_m_lay ["self", "coins"] []
  me_m_lay : Meth K A.C "lay" A.f_m_lay
  F_m_take : Fun K "take" "Row.take" s_m_take A.f_m_take A.d_m_take
  b_m_take : Binds K A.d_m_take ["self", "end"] []
  me_m_take : Meth K A.C "take" A.f_m_take
  F_m_back : Fun K "back" "Row.back" s_m_back A.f_m_back A.d_m_back
  b_m_back : Binds K A.d_m_back ["self"] []
  me_m_back : Meth K A.C "back" A.f_m_back
  F_m_shows : Fun K "shows" "Row.shows" s_m_shows A.f_m_shows A.d_m_shows
  b_m_shows : Binds K A.d_m_shows ["self"] []
  me_m_shows : Meth K A.C "shows" A.f_m_shows
  F_m_lead : Fun K "lead" "Row.lead" s_m_lead A.f_m_lead A.d_m_lead
  b_m_lead : Binds K A.d_m_lead ["self"] []
  me_m_lead : Meth K A.C "lead" A.f_m_lead
  F_m_best : Fun K "best" "Row.best" s_m_best A.f_m_best A.d_m_best
  b_m_best : Binds K A.d_m_best ["self"] []
  me_m_best : Meth K A.C "best" A.f_m_best
  F_m_gets : Fun K "gets" "Row.gets" s_m_gets A.f_m_gets A.d_m_gets
  b_m_gets : Binds K A.d_m_gets ["self"] []
  me_m_gets : Meth K A.C "gets" A.f_m_gets
  F_m_games : Fun K "games" "Row.games" s_m_games A.f_m_games A.d_m_games
  b_m_games : Binds K A.d_m_games ["self"] []
  me_m_games : Meth K A.C "games" A.f_m_games
  F_m_play : Fun K "play" "Row.play" s_m_play A.f_m_play A.d_m_play
  b_m_play : Binds K A.d_m_play ["self"] []
  me_m_play : Meth K A.C "play" A.f_m_play
  F_m_places : Fun K "places" "Row.places" s_m_places A.f_m_places A.d_m_places
  b_m_places : Binds K A.d_m_places ["self"] []
  me_m_places : Meth K A.C "places" A.f_m_places
  F_m_greedy : Fun K "greedy" "Row.greedy" s_m_greedy A.f_m_greedy A.d_m_greedy
  b_m_greedy : Binds K A.d_m_greedy ["self"] []
  me_m_greedy : Meth K A.C "greedy" A.f_m_greedy
  F_m_beat : Fun K "beat" "Row.beat" s_m_beat A.f_m_beat A.d_m_beat
  b_m_beat : Binds K A.d_m_beat ["self"] []
  me_m_beat : Meth K A.C "beat" A.f_m_beat
  F_m_swap : Fun K "swap" "Row.swap" s_m_swap A.f_m_swap A.d_m_swap
  b_m_swap : Binds K A.d_m_swap ["self", "i", "j"] []
  me_m_swap : Meth K A.C "swap" A.f_m_swap
end My

end
section
set_option Elab.async false
set_option linter.all false
set_option maxRecDepth 100000
set_option maxHeartbeats 2000000

namespace My
open PySem PySem.Spec PyProof.Rows L2
open PySem.W (Codec)
theorem NL_dropLast (cs : List Nat) : (NL cs).dropLast = NL cs.dropLast := by
  unfold NL IL Ux01.ints
  rw [List.map_dropLast, List.map_dropLast]
theorem NL_taken_false (cs : List Nat) : cutV (NL cs) (some 1) none = NL (Ux01.taken cs false) := by
  show cutV (NL cs) (some ((1 : Nat) : Int)) none = _
  rw [cut_from, NL_drop, Mx.taken_false]
theorem NL_taken_true (cs : List Nat) : cutV (NL cs) none (some (-1)) = NL (Ux01.taken cs true) := by
  rw [cut_init, NL_dropLast, Mx.taken_true]
section
variable {P : Program} {w : World} {K : PySem.W.Frag} {mg : Str → Option Value} {base : Heap} {A : Ads}

/-! ### end_coin -/
def sp_end_coin (K : PySem.W.Frag) : Sp := fun vs H Q _ => ∃ (a : Addr) (cs : List Nat) (b : Bool), vs = [.ref a, .int (Ux01.flag b : Int)] ∧ SqL K H a (NL cs) ∧ cs ≠ [] ∧ Q (.int (Ux01.coin cs b : Int)) H
theorem ok_end_coin (T : Txt K mg A) : FnOk P w K mg base CX0 1 A.f_end_coin A.d_end_coin ["coins", "end"] (sp_end_coin K) := by
  refine T.F_end_coin.ok sc_end_coin (fun vs H Q E h => ?_) (fun cdv Ar outer s H vs Q E hr h => ?_)
  · obtain ⟨a, cs, b, rfl, _⟩ := h
    rfl
  · obtain ⟨a, cs, b, rfl, hs, hne, k⟩ := h
    refine ⟨_, (pss_cons (ps_if (pt_cmp (pc_eqI (pv 1) (pe_gint T.c_LEFT rfl))) (pss_one (ps_ret (pe_ix ix_list (pv 0) pe_int (fun _ _ => rfl)))) pss_nil)
      (pss_one (ps_ret (pe_ix ix_list (pv 0) (pe_un un_neg pe_int) (fun _ _ => rfl))))), ?_⟩
    refine ⟨_, rfl, _, _, rfl, rfl, _, rfl, ?_⟩
    cases b with
    | false => exact iteD rfl ⟨_, rfl, _, _, _, _, rfl, rfl, hs, at0 hne, k⟩
    | true => exact iteDF (by decide) ⟨_, rfl, _, rfl, _, _, _, _, rfl, rfl, hs, atI_end hne, k⟩

/-! ### without_end -/
def sp_without_end (K : PySem.W.Frag) : Sp := fun vs H Q _ => ∃ (a : Addr) (cs : List Nat) (b : Bool), vs = [.ref a, .int (Ux01.flag b : Int)] ∧ SqL K H a (NL cs) ∧
  ∀ p, H p = none → Q (.ref p) (upd H p (.lst (NL (Ux01.taken cs b))))
theorem ok_without_end (T : Txt K mg A) : FnOk P w K mg base CX0 1 A.f_without_end A.d_without_end ["coins", "end"] (sp_without_end K) := by
  refine T.F_without_end.ok sc_without_end (fun vs H Q E h => ?_) (fun cdv Ar outer s H vs Q E hr h => ?_)
  · obtain ⟨a, cs, b, rfl, _⟩ := h
    rfl
  · obtain ⟨a, cs, b, rfl, hs, k⟩ := h
    refine ⟨_, (pss_cons (ps_if (pt_cmp (pc_eqI (pv 1) (pe_gint T.c_LEFT rfl))) (pss_one (ps_ret (pe_slice sl_list (pv 0) (po_some pe_int) po_none))) pss_nil)
      (pss_one (ps_ret (pe_slice sl_list (pv 0) po_none (po_some (pe_un un_neg pe_int)))))), ?_⟩
    refine ⟨_, rfl, _, _, rfl, rfl, _, rfl, ?_⟩
    cases b with
    | false => exact iteD rfl ⟨_, rfl, _, rfl, _, _, rfl, hs, fun p hp => by rw [NL_taken_false]; exact k p hp⟩
    | true => exact iteDF (by decide) ⟨_, rfl, _, rfl, _, rfl, _, _, rfl, hs, fun p hp => by rw [show ((-1 : Int)) = -1 from rfl, NL_taken_true]; exact k p hp⟩

/-! ### as_told -/
def sp_as_told (K : PySem.W.Frag) : Sp := fun vs H Q _ => ∃ z : Int, vs = [.int z] ∧ ∀ p, H p = none → Q (.ref p) (upd H p (.lst (NL (Ux01.told z))))
theorem ok_as_told (T : Txt K mg A) : FnOk P w K mg base CX0 1 A.f_as_told A.d_as_told ["lead"] (sp_as_told K) := by
  refine T.F_as_told.ok sc_as_told (fun vs H Q E h => ?_) (fun cdv Ar outer s H vs Q E hr h => ?_)
  · obtain ⟨z, rfl, _⟩ := h
    rfl
  · obtain ⟨z, rfl, k⟩ := h
    refine ⟨_, (pss_cons (ps_if (pt_cmp (pc_eqI (pv 0) pe_int)) (pss_one (ps_ret (pe_lst (pa_cons pe_int (pa_cons pe_int pa_nil))))) pss_nil)
      (pss_cons (ps_if (pt_cmp (pc_gt (pv 0) pe_int)) (pss_one (ps_ret (pe_lst (pa_cons pe_int (pa_cons (pv 0) pa_nil))))) pss_nil)
      (pss_one (ps_ret (pe_lst (pa_cons pe_int (pa_cons (pe_un un_neg (pv 0)) pa_nil))))))), ?_⟩
    have two : 2 ≤ sizeLine := by decide
    refine ⟨_, rfl, _, _, rfl, rfl, _, rfl, iteD2 (fun h => ⟨two, fun p hp => ?_⟩) (fun h => ⟨_, rfl, _, _, rfl, rfl, _, rfl, iteD2 (fun h2 => ⟨_, rfl, two, fun p hp => ?_⟩) (fun h2 => ⟨_, rfl, _, rfl, two, fun p hp => ?_⟩)⟩)⟩
    · have e : NL (Ux01.told z) = [.int 0, .int 0] := by
        subst h
        rfl
      rw [e] at k
      exact k p hp
    · have e : NL (Ux01.told z) = [.int 1, .int z] := by
        unfold Ux01.told
        rw [if_neg h, if_pos h2]
        show [V.int 1, V.int (z.natAbs : Int)] = _
        rw [show (z.natAbs : Int) = z by omega]
      rw [e] at k
      exact k p hp
    · have e : NL (Ux01.told z) = [.int 2, .int (-z)] := by
        unfold Ux01.told
        rw [if_neg h, if_neg h2]
        show [V.int 2, V.int (z.natAbs : Int)] = _
        rw [show (z.natAbs : Int) = -z by omega]
      rw [e] at k
      exact k p hp

/-! ### can_lie -/
theorem isRow_max {cs : List Nat} {m : Int} (hm : m ∈ Ux01.ints cs) (hle : ∀ y, y ∈ Ux01.ints cs → y ≤ m) (h1 : 1 ≤ cs.length) (h2 : cs.length ≤ 16) : Ux01.isRow cs = decide (m ≤ 1000) := by
  unfold Ux01.isRow
  have e1 : cs.isEmpty = false := by
    cases cs with
    | nil => simp at h1
    | cons a l => rfl
  rw [e1, decide_eq_true h2]
  show (true && (true && cs.all fun x => decide (x ≤ 1000))) = _
  rw [Bool.true_and, Bool.true_and, Bool.eq_iff_iff, List.all_eq_true, decide_eq_true_eq]
  constructor
  · intro h
    obtain ⟨x, hx, e⟩ := List.mem_map.mp hm
    have := of_decide_eq_true (h x hx)
    omega
  · intro h x hx
    have := hle (x : Int) (List.mem_map.mpr ⟨x, hx, rfl⟩)
    exact decide_eq_true (by omega)
def sp_can_lie (K : PySem.W.Frag) : Sp := fun vs H Q _ => ∃ (a : Addr) (cs : List Nat), vs = [.ref a] ∧ SqL K H a (NL cs) ∧ Q (.bl (Ux01.isRow cs)) H
theorem ok_can_lie (T : Txt K mg A) : FnOk P w K mg base CX0 1 A.f_can_lie A.d_can_lie ["coins"] (sp_can_lie K) := by
  refine T.F_can_lie.ok sc_can_lie (fun vs H Q E h => ?_) (fun cdv Ar outer s H vs Q E hr h => ?_)
  · obtain ⟨a, cs, rfl, _⟩ := h
    rfl
  · obtain ⟨a, cs, rfl, hs, k⟩ := h
    refine ⟨_, (pss_one (ps_ret (pe_and (pe_chain op_le op_le pe_int (pe_callB call_len_seq rfl T.n_len PySem.boot_len (pa_cons (pv 0) pa_nil)) (pe_gint T.c_MOST_COINS rfl)) (pe_one (pe_cmp (pc_le (pe_callB (cr_max rfl) rfl T.n_max PyProof.Rows.boot_max (pa_cons (pv 0) pa_nil)) (pe_gint T.c_MOST_VALUE rfl))))))), ?_⟩
    have el := NL_len cs
    refine ⟨_, rfl, _, _, rfl, .inl hs, _, _, rfl, rfl, _, rfl, iteD2 (fun h1 => ⟨_, _, rfl, rfl, _, rfl, iteD2 (fun h2 => ⟨_, rfl, a, Ux01.ints cs, rfl, hs, ?_, fun m hm hle => ⟨_, _, rfl, rfl, ?_⟩⟩) (fun h2 => ?_)⟩) (fun h1 => ⟨_, rfl, iteF ?_⟩)⟩
    · rw [ints_len]
      omega
    · show Q (.bl (decide (m ≤ 1000))) H
      rw [← isRow_max hm hle (by omega) (by omega)]
      exact k
    · have e : Ux01.isRow cs = false := by
        unfold Ux01.isRow
        rw [decide_eq_false (show ¬ cs.length ≤ 16 by omega), Bool.false_and, Bool.and_false]
      rw [e] at k
      exact k
    · have e : Ux01.isRow cs = false := by
        have e2 : cs = [] := List.length_eq_zero_iff.mp (by omega)
        subst e2
        rfl
      rw [e] at k
      exact k

/-! ### leads_of_size -/
def sp_leads_of_size (K : PySem.W.Frag) : Sp := fun vs H Q _ => ∃ (a b : Addr) (cs : List Nat) (k : Nat) (z : Int), vs = [.ref a, .int z, .ref b] ∧ z = (k : Int) + 1 ∧ SqL K H a (NL cs) ∧ SqL K H b (IL (Mx.leads cs k)) ∧ k + 1 ≤ cs.length ∧ cs.length ≤ 16 ∧
  ∀ (H' : Hp) (p : Addr), Same H H' → H p = none → H' p = some (.lst (IL (Mx.leads cs (k + 1)))) → Q (.ref p) H'
theorem ok_leads_of_size (T : Txt K mg A) : FnOk P w K mg base CX0 1 A.f_leads_of_size A.d_leads_of_size ["coins", "size", "shorter"] (sp_leads_of_size K) := by
  refine T.F_leads_of_size.ok sc_leads_of_size (fun vs H Q E h => ?_) (fun cdv Ar outer s H vs Q E hr h => ?_)
  · obtain ⟨a, b, cs, k, z, rfl, _⟩ := h
    rfl
  · obtain ⟨a, b, cs, n, z, rfl, hz, hs, hb, hn, h16, k⟩ := h
    refine ⟨_, (pss_cons (ps_set (i := 3) sc_leads_of_size.nd rfl (Or.inl rfl) (pe_lst pa_nil))
      (pss_cons (ps_for PassesOwn.never rfl (pi_range1 rfl T.n_range (pa_cons (pe_op op_add (pe_op op_sub (pe_callB call_len_seq rfl T.n_len PySem.boot_len (pa_cons (pv 0) pa_nil)) (pv 1)) pe_int) pa_nil)) (pg_name (i := 4) sc_leads_of_size.nd rfl (Or.inl rfl))
        (pss_cons (ps_set (i := 5) sc_leads_of_size.nd rfl (Or.inl rfl) (pe_op op_sub (pe_ix ix_list (pv 0) (pv 4) (fun _ _ => rfl)) (pe_ix ix_list (pv 2) (pe_op op_add (pv 4) pe_int) (fun _ _ => rfl))))
      (pss_cons (ps_set (i := 6) sc_leads_of_size.nd rfl (Or.inl rfl) (pe_op op_sub (pe_ix ix_list (pv 0) (pe_op op_sub (pe_op op_add (pv 4) (pv 1)) pe_int) (fun _ _ => rfl)) (pe_ix ix_list (pv 2) (pv 4) (fun _ _ => rfl))))
      (pss_one (ps_expr (pe_bm PySem.F.plainAttrs_list PySem.F.slot_list_append PySem.F.type_list_append mt_append (pv 3) (pa_cons (pe_callB (call_max2 rfl) rfl T.n_max PyProof.Rows.boot_max (pa_cons (pv 5) (pa_cons (pv 6) pa_nil))) pa_nil)))))))
      (pss_one (ps_ret (pv 3))))), ?_⟩
    have el := NL_len cs
    refine ⟨Nat.zero_le _, fun q hq => ?_⟩
    have s0 : Same H (upd H q (.lst [])) := Same.new hq
    refine ⟨_, rfl, _, _, rfl, .inl (s0.seq hs), _, rfl, _, _, rfl, rfl, _, _, rfl, rfl, _, rfl, ?_, ?_, for_range (fun i σ H' => ∃ v4 v5 v6 : Option V, σ = [some (.ref a), some (.int z), some (.ref b), some (.ref q), v4, v5, v6] ∧
      H' q = some (.lst (IL ((Mx.leads cs (n + 1)).take i))) ∧ Same H H') ⟨none, none, none, rfl, upd_same, s0⟩ ?_ ?_⟩
    · omega
    · omega
    · rintro i σ H' hi ⟨v4, v5, v6, rfl, hq', s1⟩
      have hi2 : i + (n + 1) ≤ cs.length := by omega
      obtain ⟨x, hx⟩ : ∃ x, cs[i]? = some x := ⟨_, List.getElem?_eq_getElem (by omega)⟩
      obtain ⟨y, hy⟩ : ∃ y, cs[i + n]? = some y := ⟨_, List.getElem?_eq_getElem (by omega)⟩
      refine ⟨_, rfl, _, rfl, _, _, _, _, rfl, rfl, s1.seq hs, at_of (j := i) (by omega) (NL_get hx), _, rfl, _, rfl, _, _, rfl, rfl, _, _, _, _, rfl, rfl, s1.seq hb, at_of (j := i + 1) (by omega) (IL_get (Mx.leads_get cs (by omega))), _, _, rfl, rfl, ?_⟩
      refine ⟨_, rfl, _, rfl, _, rfl, _, _, rfl, rfl, _, _, rfl, rfl, _, _, _, _, rfl, rfl, s1.seq hs, at_of (j := i + n) (by omega) (NL_get hy), _, rfl, _, rfl, _, _, _, _, rfl, rfl, s1.seq hb, at_of (j := i) (by omega) (IL_get (Mx.leads_get cs (by omega))), _, _, rfl, rfl, ?_⟩
      refine ⟨_, rfl, .inl ⟨rfl, _, SqL.of hq'⟩, _, rfl, _, rfl, _, _, rfl, q, _, _, rfl, rfl, hq', ?_, _, _, _, rfl, ?_, ?_⟩
      · rw [IL_len, List.length_take, Mx.leads_len]
        exact Nat.lt_of_le_of_lt (Nat.min_le_right _ _) (Nat.lt_of_le_of_lt (show _ ≤ 16 by omega) (by decide))
      · rw [upd_same, Mx.leads_take cs hi2, IL_snoc, Mx.L_cut cs hi2 hx hy, max_if]
      · exact fun c o e => by rw [upd_ne (ne_of_none e hq)]; exact s1 c o e
    · rintro σ H' ⟨v4, v5, v6, rfl, hq', s1⟩
      refine ⟨_, rfl, k H' q s1 hq ?_⟩
      rw [hq', List.take_of_length_le (by rw [Mx.leads_len]; omega)]

/-! ### lead_of -/
def sp_lead_of (K : PySem.W.Frag) : Sp := fun vs H Q _ => ∃ (a : Addr) (cs : List Nat), vs = [.ref a] ∧ SqL K H a (NL cs) ∧ cs.length ≤ 16 ∧ ∀ H' : Hp, Same H H' → Q (.int (Mx.L cs)) H'
theorem ok_lead_of (T : Txt K mg A) : FnOk P w K mg base CX0 2 A.f_lead_of A.d_lead_of ["coins"] (sp_lead_of K) := by
  refine T.F_lead_of.ok sc_lead_of (fun vs H Q E h => ?_) (fun cdv Ar outer s H vs Q E hr h => ?_)
  · obtain ⟨a, cs, rfl, _⟩ := h
    rfl
  · obtain ⟨a, cs, rfl, hs, h16, k⟩ := h
    refine ⟨_, (pss_cons (ps_set (i := 1) sc_lead_of.nd rfl (Or.inl rfl) (pe_op op_rep (pe_lst (pa_cons pe_int pa_nil)) (pe_op op_add (pe_callB call_len_seq rfl T.n_len PySem.boot_len (pa_cons (pv 0) pa_nil)) pe_int)))
      (pss_cons (ps_for PassesOwn.never rfl (pi_range2 rfl T.n_range (pa_cons pe_int (pa_cons (pe_op op_add (pe_callB call_len_seq rfl T.n_len PySem.boot_len (pa_cons (pv 0) pa_nil)) pe_int) pa_nil))) (pg_name (i := 2) sc_lead_of.nd rfl (Or.inl rfl))
        (pss_one (ps_set (i := 1) sc_lead_of.nd rfl (Or.inl rfl) (pe_call (ok_leads_of_size T) (hr.mono (by decide)) rfl T.g_leads_of_size T.k_leads_of_size T.b_leads_of_size .nil pass0 (pa_cons (pv 0) (pa_cons (pv 2) (pa_cons (pv 1) pa_nil)))))))
      (pss_one (ps_ret (pe_ix ix_list (pv 1) pe_int (fun _ _ => rfl)))))), ?_⟩
    have el := NL_len cs
    have eN : ((NL cs).length : Int) + 1 = ((cs.length + 1 : Nat) : Int) := by omega
    refine ⟨(by show 1 ≤ sizeLine; decide), fun l hl => ?_⟩
    have s0 : Same H (upd H l (.lst [.int 0])) := Same.new hl
    refine ⟨_, rfl, _, _, rfl, .inl (s0.seq hs), _, _, rfl, rfl, l, _, _, rfl, rfl, upd_same, ?_, ?_, ?_, fun q hq => ?_⟩
    · omega
    · omega
    · show 1 * _ ≤ sizeLine
      exact Nat.le_trans (show _ ≤ 17 by omega) (by decide)
    have hq0 : H q = none := s0.free hq
    have s1 : Same H (upd (upd H l (.lst [.int 0])) q (.lst (List.replicate (((NL cs).length : Int) + 1).toNat [V.int 0]).flatten)) := s0.trans (Same.new hq)
    refine ⟨_, rfl, _, _, rfl, .inl (s1.seq hs), _, _, rfl, rfl, _, _, rfl, ⟨by decide, by decide, ?_, ?_⟩, for_range (fun i σ H' => ∃ (q : Addr) (v2 : Option V), σ = [some (.ref a), some (.ref q), v2] ∧
      H' q = some (.lst (IL (Mx.leads cs i))) ∧ Same H H') ⟨q, none, rfl, ?_, s1⟩ ?_ ?_⟩
    · omega
    · omega
    · rw [upd_same, Mx.leads_zero, eN, Int.toNat_natCast, IL, List.map_replicate]
      congr 2
      generalize cs.length + 1 = m
      induction m with
      | zero => rfl
      | succ m ih => rw [List.replicate_succ, List.flatten_cons, ih, List.replicate_succ]; rfl
    · rintro i σ H' hi ⟨p, v2, rfl, hp, s2⟩
      exact ⟨_, rfl, _, rfl, _, rfl, a, p, cs, i, _, rfl, by omega, s2.seq hs, SqL.of hp, by omega, h16, fun H2 p2 s3 _ h2 => ⟨p2, _, rfl, h2, s2.trans s3⟩⟩
    · rintro σ H' ⟨p, v2, rfl, hp, s2⟩
      have en : (((NL cs).length : Int) + 1 - 1).toNat = cs.length := by omega
      rw [en] at hp
      exact ⟨_, rfl, _, _, _, _, rfl, rfl, SqL.of hp, atI_nat (j := 0) (IL_get (Mx.leads_all cs)), k H' s2⟩

/-! ### best_end -/
theorem best_flag {cs : List Nat} (h : cs ≠ []) : Ux01.best cs = decide ((Ux01.coin cs false : Int) - Mx.L (Ux01.taken cs false) < (Ux01.coin cs true : Int) - Mx.L (Ux01.taken cs true)) := by
  unfold Ux01.best
  rw [decide_eq_decide]
  exact Mx.by_lt h false true
def sp_best_end (K : PySem.W.Frag) : Sp := fun vs H Q _ => ∃ (a : Addr) (cs : List Nat), vs = [.ref a] ∧ SqL K H a (NL cs) ∧ cs ≠ [] ∧ cs.length ≤ 16 ∧ ∀ H' : Hp, Same H H' → Q (.int (Ux01.flag (Ux01.best cs) : Int)) H'
theorem ok_best_end (T : Txt K mg A) : FnOk P w K mg base CX0 3 A.f_best_end A.d_best_end ["coins"] (sp_best_end K) := by
  refine T.F_best_end.ok sc_best_end (fun vs H Q E h => ?_) (fun cdv Ar outer s H vs Q E hr h => ?_)
  · obtain ⟨a, cs, rfl, _⟩ := h
    rfl
  · obtain ⟨a, cs, rfl, hs, hne, h16, k⟩ := h
    refine ⟨_, (pss_cons (ps_set (i := 1) sc_best_end.nd rfl (Or.inl rfl) (pe_op op_sub (pe_ix ix_list (pv 0) pe_int (fun _ _ => rfl)) (pe_call (ok_lead_of T) (hr.mono (by decide)) rfl T.g_lead_of T.k_lead_of T.b_lead_of .nil pass0 (pa_cons (pe_slice sl_list (pv 0) (po_some pe_int) po_none) pa_nil))))
      (pss_cons (ps_set (i := 2) sc_best_end.nd rfl (Or.inl rfl) (pe_op op_sub (pe_ix ix_list (pv 0) (pe_un un_neg pe_int) (fun _ _ => rfl)) (pe_call (ok_lead_of T) (hr.mono (by decide)) rfl T.g_lead_of T.k_lead_of T.b_lead_of .nil pass0 (pa_cons (pe_slice sl_list (pv 0) po_none (po_some (pe_un un_neg pe_int))) pa_nil))))
      (pss_cons (ps_if (pt_cmp (pc_ge (pv 1) (pv 2))) (pss_one (ps_ret (pe_gint T.c_LEFT rfl))) pss_nil)
      (pss_one (ps_ret (pe_gint T.c_RIGHT rfl)))))), ?_⟩
    refine ⟨_, rfl, _, _, _, _, rfl, rfl, hs, at0 hne, _, rfl, _, rfl, _, _, rfl, hs, fun p hp => ?_⟩
    rw [NL_taken_false]
    refine ⟨p, _, rfl, SqL.of upd_same, by rw [Mx.taken_len]; omega, fun H1 s1 => ⟨_, _, rfl, rfl, ?_⟩⟩
    have s1' : Same H H1 := (Same.new hp).trans s1
    refine ⟨_, rfl, _, rfl, _, _, _, _, rfl, rfl, s1'.seq hs, atI_end hne, _, rfl, _, rfl, _, rfl, _, _, rfl, s1'.seq hs, fun p2 hp2 => ?_⟩
    rw [show ((-1 : Int)) = -1 from rfl, NL_taken_true]
    refine ⟨p2, _, rfl, SqL.of upd_same, by rw [Mx.taken_len]; omega, fun H2 s2 => ⟨_, _, rfl, rfl, ?_⟩⟩
    have s2' : Same H H2 := s1'.trans ((Same.new hp2).trans s2)
    have k2 := k H2 s2'
    rw [best_flag hne] at k2
    refine ⟨_, rfl, _, rfl, _, _, rfl, rfl, _, rfl, iteD2 (fun h => ?_) (fun h => ?_)⟩
    · rw [decide_eq_false (by omega)] at k2
      exact k2
    · rw [decide_eq_true (by omega)] at k2
      exact k2
end
end My

end
section
set_option Elab.async false
set_option linter.all false
set_option maxRecDepth 100000
set_option maxHeartbeats 2000000

namespace My
open PySem PySem.Spec PyProof.Rows L2
open PySem.W (Codec)
theorem rep_flat (v : Int) : ∀ m : Nat, (List.replicate m [V.int v]).flatten = IL (List.replicate m v)
  | 0 => rfl
  | m + 1 => by
    rw [List.replicate_succ, List.flatten_cons, rep_flat v m, List.replicate_succ]
    rfl
theorem ixN_nat {n j : Nat} {z : Int} (e : z = (j : Int)) (h : j < n) : ixN n z = some j := by
  subst e
  unfold ixN
  rw [if_pos (by omega), if_pos (by omega)]
  simp
theorem NL_set (cs : List Nat) (i x : Nat) : (NL cs).set i (.int (x : Int)) = NL (cs.set i x) := by
  unfold NL IL Ux01.ints
  rw [List.map_set, List.map_set]
theorem cut_at (cs : List Nat) {a b : Int} {i k : Nat} (ha : a = (i : Int)) (hb : b = ((i + k : Nat) : Int)) (h : i + k ≤ cs.length) : cutV (NL cs) (some a) (some b) = NL ((cs.drop i).take k) := by
  subst ha
  subst hb
  rw [cut_mid _ (by rw [NL_len]; exact h), NL_drop, NL_take, Nat.add_sub_cancel_left]
section
variable {P : Program} {w : World} {K : PySem.W.Frag} {mg : Str → Option Value} {base : Heap} {A : Ads}

/-! ### games_of_size -/
def sp_games_of_size (K : PySem.W.Frag) : Sp := fun vs H Q _ => ∃ (a b g : Addr) (cs : List Nat) (k : Nat) (z : Int), vs = [.ref a, .int z, .ref b, .ref g] ∧ z = (k : Int) + 1 ∧ SqL K H a (NL cs) ∧ SqL K H b (IL (Mx.leads cs k)) ∧ SqL K H g (IL (Mx.tab Mx.NI cs k)) ∧ k + 1 ≤ cs.length ∧ cs.length ≤ 16 ∧
  ∀ (H' : Hp) (p : Addr), Same H H' → H p = none → H' p = some (.lst (IL (Mx.tab Mx.NI cs (k + 1)))) → Q (.ref p) H'
theorem ok_games_of_size (T : Txt K mg A) : FnOk P w K mg base CX0 1 A.f_games_of_size A.d_games_of_size ["coins", "size", "shorter", "games"] (sp_games_of_size K) := by
  refine T.F_games_of_size.ok sc_games_of_size (fun vs H Q E h => ?_) (fun cdv Ar outer s H vs Q E hr h => ?_)
  · obtain ⟨a, b, g, cs, k, z, rfl, _⟩ := h
    rfl
  · obtain ⟨a, b, g, cs, n, z, rfl, hz, hs, hb, hg, hn, h16, k⟩ := h
    refine ⟨_, (pss_cons (ps_if (pt_cmp (pc_eqI (pv 1) pe_int)) (pss_one (ps_ret (pe_op op_rep (pe_lst (pa_cons pe_int pa_nil)) (pe_callB call_len_seq rfl T.n_len PySem.boot_len (pa_cons (pv 0) pa_nil))))) pss_nil)
      (pss_cons (ps_set (i := 4) sc_games_of_size.nd rfl (Or.inl rfl) (pe_lst pa_nil))
      (pss_cons (ps_for PassesOwn.never rfl (pi_range1 rfl T.n_range (pa_cons (pe_op op_add (pe_op op_sub (pe_callB call_len_seq rfl T.n_len PySem.boot_len (pa_cons (pv 0) pa_nil)) (pv 1)) pe_int) pa_nil)) (pg_name (i := 5) sc_games_of_size.nd rfl (Or.inl rfl))
        (pss_cons (ps_set (i := 6) sc_games_of_size.nd rfl (Or.inl rfl) (pe_op op_sub (pe_ix ix_list (pv 0) (pv 5) (fun _ _ => rfl)) (pe_ix ix_list (pv 2) (pe_op op_add (pv 5) pe_int) (fun _ _ => rfl))))
      (pss_cons (ps_set (i := 7) sc_games_of_size.nd rfl (Or.inl rfl) (pe_op op_sub (pe_ix ix_list (pv 0) (pe_op op_sub (pe_op op_add (pv 5) (pv 1)) pe_int) (fun _ _ => rfl)) (pe_ix ix_list (pv 2) (pv 5) (fun _ _ => rfl))))
      (pss_cons (ps_set (i := 8) sc_games_of_size.nd rfl (Or.inl rfl) pe_int)
      (pss_cons (ps_if (pt_cmp (pc_ge (pv 6) (pv 7))) (pss_one (ps_aug (i := 8) sc_games_of_size.nd rfl (Or.inl rfl) (pe_ix ix_list (pv 3) (pe_op op_add (pv 5) pe_int) (fun _ _ => rfl)) iop_add)) pss_nil)
      (pss_cons (ps_if (pt_cmp (pc_ge (pv 7) (pv 6))) (pss_one (ps_aug (i := 8) sc_games_of_size.nd rfl (Or.inl rfl) (pe_ix ix_list (pv 3) (pv 5) (fun _ _ => rfl)) iop_add)) pss_nil)
      (pss_one (ps_expr (pe_bm PySem.F.plainAttrs_list PySem.F.slot_list_append PySem.F.type_list_append mt_append (pv 4) (pa_cons (pv 8) pa_nil))))))))))
      (pss_one (ps_ret (pv 4)))))), ?_⟩
    have el := NL_len cs
    refine ⟨_, rfl, _, _, rfl, rfl, _, rfl, iteD2 (fun h1 => ⟨(by show 1 ≤ sizeLine; decide), fun l hl => ?_⟩) (fun h1 => ?_)⟩
    · have s0 : Same H (upd H l (.lst [.int 1])) := Same.new hl
      refine ⟨_, rfl, _, _, rfl, .inl (s0.seq hs), l, _, _, rfl, rfl, upd_same, ?_, ?_, ?_, fun q hq => ?_⟩
      · omega
      · omega
      · show 1 * _ ≤ sizeLine
        exact Nat.le_trans (show _ ≤ 17 by omega) (by decide)
      · refine k _ q (s0.trans (Same.new hq)) (s0.free hq) ?_
        have e0 : n = 0 := by omega
        subst e0
        rw [upd_same, Mx.NI_one, el, Int.toNat_natCast, rep_flat]
    · refine ⟨Nat.zero_le _, fun q hq => ?_⟩
      have s0 : Same H (upd H q (.lst [])) := Same.new hq
      refine ⟨_, rfl, _, _, rfl, .inl (s0.seq hs), _, rfl, _, _, rfl, rfl, _, _, rfl, rfl, _, rfl, ?_, ?_, for_range (fun i σ H' => ∃ v5 v6 v7 v8 : Option V, σ = [some (.ref a), some (.int z), some (.ref b), some (.ref g), some (.ref q), v5, v6, v7, v8] ∧
        H' q = some (.lst (IL ((Mx.tab Mx.NI cs (n + 1)).take i))) ∧ Same H H') ⟨none, none, none, none, rfl, upd_same, s0⟩ ?_ ?_⟩
      · omega
      · omega
      · rintro i σ H' hi ⟨v5, v6, v7, v8, rfl, hq', s1⟩
        have hi2 : i + (n + 1) ≤ cs.length := by omega
        have n1 : 1 ≤ n := by omega
        obtain ⟨x, hx⟩ : ∃ x, cs[i]? = some x := ⟨_, List.getElem?_eq_getElem (by omega)⟩
        obtain ⟨y, hy⟩ : ∃ y, cs[i + n]? = some y := ⟨_, List.getElem?_eq_getElem (by omega)⟩
        have sz : (IL ((Mx.tab Mx.NI cs (n + 1)).take i)).length < sizeLine := by
          rw [IL_len, List.length_take, Mx.tab_len]
          exact Nat.lt_of_le_of_lt (Nat.min_le_right _ _) (Nat.lt_of_le_of_lt (show _ ≤ 16 by omega) (by decide))
        have sm : ∀ o, Same H (upd H' q o) := fun o c u e => by
          rw [upd_ne (ne_of_none e hq)]
          exact s1 c u e
        have fin : ∀ zz : Int, zz = Mx.NI ((cs.drop i).take (n + 1)) → upd H' q (.lst (IL ((Mx.tab Mx.NI cs (n + 1)).take i) ++ [.int zz])) q = some (.lst (IL ((Mx.tab Mx.NI cs (n + 1)).take (i + 1)))) := fun zz e => by
          rw [upd_same, Mx.tab_take Mx.NI cs hi2, IL_snoc, e]
        have ec := Mx.NI_cut cs hi2 n1 hx hy
        refine ⟨_, rfl, _, rfl, _, _, _, _, rfl, rfl, s1.seq hs, at_of (j := i) (by omega) (NL_get hx), _, rfl, _, rfl, _, _, rfl, rfl, _, _, _, _, rfl, rfl, s1.seq hb, at_of (j := i + 1) (by omega) (IL_get (Mx.leads_get cs (by omega))), _, _, rfl, rfl, ?_⟩
        refine ⟨_, rfl, _, rfl, _, rfl, _, _, rfl, rfl, _, _, rfl, rfl, _, _, _, _, rfl, rfl, s1.seq hs, at_of (j := i + n) (by omega) (NL_get hy), _, rfl, _, rfl, _, _, _, _, rfl, rfl, s1.seq hb, at_of (j := i) (by omega) (IL_get (Mx.leads_get cs (by omega))), _, _, rfl, rfl, ?_⟩
        have g1 : (IL (Mx.tab Mx.NI cs n))[i + 1]? = some (.int (Mx.NI ((cs.drop (i + 1)).take n))) := IL_get (Mx.tab_get Mx.NI cs (by omega))
        have g0 : (IL (Mx.tab Mx.NI cs n))[i]? = some (.int (Mx.NI ((cs.drop i).take n))) := IL_get (Mx.tab_get Mx.NI cs (by omega))
        refine ⟨_, rfl, _, rfl, _, _, rfl, rfl, _, rfl, iteD2 (fun c1 => ?_) (fun c1 => ?_)⟩
        · refine ⟨_, rfl, _, rfl, _, rfl, _, _, rfl, rfl, _, _, _, _, rfl, rfl, s1.seq hg, at_of (j := i + 1) (by omega) g1, _, _, rfl, rfl, ?_⟩
          refine ⟨_, rfl, _, rfl, _, _, rfl, rfl, _, rfl, iteD2 (fun c2 => ?_) (fun c2 => ?_)⟩
          · refine ⟨_, rfl, _, rfl, _, rfl, _, _, _, _, rfl, rfl, s1.seq hg, at_of (j := i) (by omega) g0, _, _, rfl, rfl, ?_⟩
            refine ⟨_, rfl, .inl ⟨rfl, _, SqL.of hq'⟩, _, rfl, q, _, _, rfl, rfl, hq', sz, _, _, _, _, rfl, fin _ ?_, sm _⟩
            rw [ec, if_pos (by omega), if_pos (by omega)]
            omega
          · refine ⟨_, rfl, .inl ⟨rfl, _, SqL.of hq'⟩, _, rfl, q, _, _, rfl, rfl, hq', sz, _, _, _, _, rfl, fin _ ?_, sm _⟩
            rw [ec, if_pos (by omega), if_neg (by omega)]
            omega
        · refine ⟨_, rfl, _, rfl, _, _, rfl, rfl, _, rfl, iteD2 (fun c2 => ?_) (fun c2 => ?_)⟩
          · refine ⟨_, rfl, _, rfl, _, rfl, _, _, _, _, rfl, rfl, s1.seq hg, at_of (j := i) (by omega) g0, _, _, rfl, rfl, ?_⟩
            refine ⟨_, rfl, .inl ⟨rfl, _, SqL.of hq'⟩, _, rfl, q, _, _, rfl, rfl, hq', sz, _, _, _, _, rfl, fin _ ?_, sm _⟩
            rw [ec, if_neg (by omega), if_pos (by omega)]
          · exfalso
            omega
      · rintro σ H' ⟨v5, v6, v7, v8, rfl, hq', s1⟩
        refine ⟨_, rfl, k H' q s1 hq ?_⟩
        rw [hq', List.take_of_length_le (by rw [Mx.tab_len]; omega)]

/-! ### games_of -/
def sp_games_of (K : PySem.W.Frag) : Sp := fun vs H Q _ => ∃ (a : Addr) (cs : List Nat), vs = [.ref a] ∧ SqL K H a (NL cs) ∧ cs.length ≤ 16 ∧ ∀ H' : Hp, Same H H' → Q (.int (Mx.NI cs)) H'
theorem ok_games_of (T : Txt K mg A) : FnOk P w K mg base CX0 2 A.f_games_of A.d_games_of ["coins"] (sp_games_of K) := by
  refine T.F_games_of.ok sc_games_of (fun vs H Q E h => ?_) (fun cdv Ar outer s H vs Q E hr h => ?_)
  · obtain ⟨a, cs, rfl, _⟩ := h
    rfl
  · obtain ⟨a, cs, rfl, hs, h16, k⟩ := h
    refine ⟨_, (pss_cons (ps_set (i := 1) sc_games_of.nd rfl (Or.inl rfl) (pe_op op_rep (pe_lst (pa_cons pe_int pa_nil)) (pe_op op_add (pe_callB call_len_seq rfl T.n_len PySem.boot_len (pa_cons (pv 0) pa_nil)) pe_int)))
      (pss_cons (ps_set (i := 2) sc_games_of.nd rfl (Or.inl rfl) (pe_op op_rep (pe_lst (pa_cons pe_int pa_nil)) (pe_op op_add (pe_callB call_len_seq rfl T.n_len PySem.boot_len (pa_cons (pv 0) pa_nil)) pe_int)))
      (pss_cons (ps_for PassesOwn.never rfl (pi_range2 rfl T.n_range (pa_cons pe_int (pa_cons (pe_op op_add (pe_callB call_len_seq rfl T.n_len PySem.boot_len (pa_cons (pv 0) pa_nil)) pe_int) pa_nil))) (pg_name (i := 3) sc_games_of.nd rfl (Or.inl rfl))
        (pss_cons (ps_set (i := 1) sc_games_of.nd rfl (Or.inl rfl) (pe_call (ok_games_of_size T) (hr.mono (by decide)) rfl T.g_games_of_size T.k_games_of_size T.b_games_of_size .nil pass0 (pa_cons (pv 0) (pa_cons (pv 3) (pa_cons (pv 2) (pa_cons (pv 1) pa_nil))))))
      (pss_one (ps_set (i := 2) sc_games_of.nd rfl (Or.inl rfl) (pe_call (ok_leads_of_size T) (hr.mono (by decide)) rfl T.g_leads_of_size T.k_leads_of_size T.b_leads_of_size .nil pass0 (pa_cons (pv 0) (pa_cons (pv 3) (pa_cons (pv 2) pa_nil))))))))
      (pss_one (ps_ret (pe_ix ix_list (pv 1) pe_int (fun _ _ => rfl))))))), ?_⟩
    have el := NL_len cs
    have eN : ((NL cs).length : Int) + 1 = ((cs.length + 1 : Nat) : Int) := by omega
    have one : 1 ≤ sizeLine := by decide
    have sz : 1 * (((NL cs).length : Int) + 1).toNat ≤ sizeLine := Nat.le_trans (show _ ≤ 17 by omega) (by decide)
    refine ⟨one, fun l hl => ?_⟩
    have s0 : Same H (upd H l (.lst [.int 1])) := Same.new hl
    refine ⟨_, rfl, _, _, rfl, .inl (s0.seq hs), _, _, rfl, rfl, l, _, _, rfl, rfl, upd_same, ?_, ?_, sz, fun q hq => ?_⟩
    · omega
    · omega
    have hq0 : H q = none := s0.free hq
    have s1 : Same H (upd (upd H l (.lst [.int 1])) q (.lst (List.replicate (((NL cs).length : Int) + 1).toNat [V.int 1]).flatten)) := s0.trans (Same.new hq)
    have hq1 : upd (upd H l (.lst [.int 1])) q (.lst (List.replicate (((NL cs).length : Int) + 1).toNat [V.int 1]).flatten) q = some (.lst (IL (Mx.tab Mx.NI cs 0))) := by
      rw [upd_same, Mx.tab_zero, Mx.NI_nil, eN, Int.toNat_natCast, rep_flat]
    generalize upd (upd H l (.lst [.int 1])) q (.lst (List.replicate (((NL cs).length : Int) + 1).toNat [V.int 1]).flatten) = H1 at s1 hq1
    refine ⟨one, fun l2 hl2 => ?_⟩
    have s2 : Same H (upd H1 l2 (.lst [.int 0])) := s1.trans (Same.new hl2)
    refine ⟨_, rfl, _, _, rfl, .inl (s2.seq hs), _, _, rfl, rfl, l2, _, _, rfl, rfl, upd_same, ?_, ?_, sz, fun p hp => ?_⟩
    · omega
    · omega
    have s3 : Same H1 (upd (upd H1 l2 (.lst [.int 0])) p (.lst (List.replicate (((NL cs).length : Int) + 1).toNat [V.int 0]).flatten)) := (Same.new hl2).trans (Same.new hp)
    have hp1 : upd (upd H1 l2 (.lst [.int 0])) p (.lst (List.replicate (((NL cs).length : Int) + 1).toNat [V.int 0]).flatten) p = some (.lst (IL (Mx.leads cs 0))) := by
      rw [upd_same, Mx.leads_zero, eN, Int.toNat_natCast, rep_flat]
    have hq2 := s3 _ _ hq1
    have s4 := s1.trans s3
    generalize upd (upd H1 l2 (.lst [.int 0])) p (.lst (List.replicate (((NL cs).length : Int) + 1).toNat [V.int 0]).flatten) = H2 at hp1 hq2 s4
    refine ⟨_, rfl, _, _, rfl, .inl (s4.seq hs), _, _, rfl, rfl, _, _, rfl, ⟨by decide, by decide, ?_, ?_⟩, for_range (fun i σ H' => ∃ (q p : Addr) (v3 : Option V), σ = [some (.ref a), some (.ref q), some (.ref p), v3] ∧
      H' q = some (.lst (IL (Mx.tab Mx.NI cs i))) ∧ H' p = some (.lst (IL (Mx.leads cs i))) ∧ Same H H') ⟨q, p, none, rfl, hq2, hp1, s4⟩ ?_ ?_⟩
    · omega
    · omega
    · rintro i σ H' hi ⟨q, p, v3, rfl, hq, hp, s5⟩
      refine ⟨_, rfl, _, rfl, _, rfl, _, rfl, a, p, q, cs, i, _, rfl, by omega, s5.seq hs, SqL.of hp, SqL.of hq, by omega, h16, fun H3 q3 s6 _ h3 => ?_⟩
      refine ⟨_, rfl, _, rfl, _, rfl, a, p, cs, i, _, rfl, by omega, s6.seq (s5.seq hs), SqL.of (s6 _ _ hp), by omega, h16, fun H4 p4 s7 _ h4 => ?_⟩
      exact ⟨q3, p4, _, rfl, s7 _ _ h3, h4, s5.trans (s6.trans s7)⟩
    · rintro σ H' ⟨q, p, v3, rfl, hq, hp, s5⟩
      have en : (((NL cs).length : Int) + 1 - 1).toNat = cs.length := by omega
      rw [en] at hq
      exact ⟨_, rfl, _, _, _, _, rfl, rfl, SqL.of hq, atI_nat (j := 0) (IL_get (Mx.tab_all Mx.NI cs)), k H' s5⟩

/-! ### greedy_end -/
def sp_greedy_end (K : PySem.W.Frag) : Sp := fun vs H Q _ => ∃ (a : Addr) (cs : List Nat), vs = [.ref a] ∧ SqL K H a (NL cs) ∧ cs ≠ [] ∧ Q (.int (Ux01.flag (Ux01.greedyEnd cs) : Int)) H
theorem ok_greedy_end (T : Txt K mg A) : FnOk P w K mg base CX0 1 A.f_greedy_end A.d_greedy_end ["coins"] (sp_greedy_end K) := by
  refine T.F_greedy_end.ok sc_greedy_end (fun vs H Q E h => ?_) (fun cdv Ar outer s H vs Q E hr h => ?_)
  · obtain ⟨a, cs, rfl, _⟩ := h
    rfl
  · obtain ⟨a, cs, rfl, hs, hne, k⟩ := h
    refine ⟨_, (pss_cons (ps_if (pt_cmp (pc_ge (pe_ix ix_list (pv 0) pe_int (fun _ _ => rfl)) (pe_ix ix_list (pv 0) (pe_un un_neg pe_int) (fun _ _ => rfl)))) (pss_one (ps_ret (pe_gint T.c_LEFT rfl))) pss_nil)
      (pss_one (ps_ret (pe_gint T.c_RIGHT rfl)))), ?_⟩
    rw [Mx.greedyEnd_eq] at k
    refine ⟨_, rfl, _, _, _, _, rfl, rfl, hs, at0 hne, _, rfl, _, rfl, _, _, _, _, rfl, rfl, hs, atI_end hne, _, _, rfl, rfl, _, rfl, iteD2 (fun h => ?_) (fun h => ?_)⟩
    · rw [decide_eq_false (by omega)] at k
      exact k
    · rw [decide_eq_true (by omega)] at k
      exact k

/-! ### taken_by_greed -/
def sp_taken_by_greed : Sp := fun vs H Q _ => ∃ (a : Addr) (cs : List Nat), vs = [.ref a] ∧ H a = some (.lst (NL cs)) ∧ cs.length ≤ 16 ∧
  ∀ (H' : Hp) (p : Addr), Same H H' → H p = none → H' p = some (.lst (NL (Mx.TG cs))) → Q (.ref p) H'
def restLen (σ : L2.St) (H : Hp) : Nat := match σ[2]? with
  | some (some (V.ref r)) => match H r with
    | some (.lst xs) => xs.length
    | _ => 0
  | _ => 0
theorem restLen_eq {H : Hp} {r : Addr} {xs : List V} {x y z : Option V} (h : H r = some (.lst xs)) : restLen [x, y, some (.ref r), z] H = xs.length := by
  show (match H r with
    | some (.lst xs) => xs.length
    | _ => 0) = _
  rw [h]
theorem ok_taken_by_greed (T : Txt K mg A) : FnOk P w K mg base CX0 2 A.f_taken_by_greed A.d_taken_by_greed ["coins"] sp_taken_by_greed := by
  refine T.F_taken_by_greed.ok sc_taken_by_greed (fun vs H Q E h => ?_) (fun cdv Ar outer s H vs Q E hr h => ?_)
  · obtain ⟨a, cs, rfl, _⟩ := h
    rfl
  · obtain ⟨a, cs, rfl, ha, h16, k⟩ := h
    refine ⟨_, (pss_cons (ps_set (i := 1) sc_taken_by_greed.nd rfl (Or.inl rfl) (pe_lst pa_nil))
      (pss_cons (ps_set (i := 2) sc_taken_by_greed.nd rfl (Or.inl rfl) (pv 0))
      (pss_cons (ps_while PassesOwn.never (pt_cmp (pc_gt (pe_callB call_len_seq rfl T.n_len PySem.boot_len (pa_cons (pv 2) pa_nil)) pe_int)) (pss_cons (ps_set (i := 3) sc_taken_by_greed.nd rfl (Or.inl rfl) (pe_call (ok_greedy_end T) (hr.mono (by decide)) rfl T.g_greedy_end T.k_greedy_end T.b_greedy_end .nil pass0 (pa_cons (pv 2) pa_nil)))
      (pss_cons (ps_expr (pe_bm PySem.F.plainAttrs_list PySem.F.slot_list_append PySem.F.type_list_append mt_append (pv 1) (pa_cons (pe_call (ok_end_coin T) (hr.mono (by decide)) rfl T.g_end_coin T.k_end_coin T.b_end_coin .nil pass0 (pa_cons (pv 2) (pa_cons (pv 3) pa_nil))) pa_nil)))
      (pss_one (ps_set (i := 2) sc_taken_by_greed.nd rfl (Or.inl rfl) (pe_call (ok_without_end T) (hr.mono (by decide)) rfl T.g_without_end T.k_without_end T.b_without_end .nil pass0 (pa_cons (pv 2) (pa_cons (pv 3) pa_nil))))))))
      (pss_one (ps_ret (pv 1)))))), ?_⟩
    refine ⟨Nat.zero_le _, fun t ht => ?_⟩
    have s0 : Same H (upd H t (.lst [])) := Same.new ht
    refine ⟨_, rfl, ?_⟩
    refine while_by (fun σ H' => ∃ (r : Addr) (rs done : List Nat) (v3 : Option V), σ = [some (.ref a), some (.ref t), some (.ref r), v3] ∧ H' r = some (.lst (NL rs)) ∧ H' t = some (.lst (NL done)) ∧ r ≠ t ∧ done ++ Mx.TG rs = Mx.TG cs ∧ Same H H') restLen
      ⟨a, cs, [], none, rfl, s0 _ _ ha, upd_same, ne_of_none ha ht, rfl, s0⟩ ?_ ?_
    · rintro σ H1 ⟨r, rs, done, v3, rfl, hr1, ht1, nrt, et, s1⟩
      have el := NL_len rs
      refine ⟨_, rfl, r, _, rfl, .inl (SqL.of hr1), _, _, rfl, rfl, _, rfl, iteD2 (fun hlt => ?_) (fun hge => ?_)⟩
      · have hne : rs ≠ [] := by
          intro e
          subst e
          have e2 : (NL []).length = 0 := NL_len []
          omega
        have sz : (NL done).length < sizeLine := by
          rw [NL_len]
          have e4 := congrArg List.length et
          rw [List.length_append, Mx.TG_len, Mx.TG_len] at e4
          exact Nat.lt_of_le_of_lt (show _ ≤ 16 by omega) (by decide)
        refine ⟨_, rfl, r, rs, rfl, SqL.of hr1, hne, ?_⟩
        refine ⟨_, rfl, .inl ⟨rfl, _, SqL.of ht1⟩, _, rfl, _, rfl, r, rs, Ux01.greedyEnd rs, rfl, SqL.of hr1, hne, t, _, _, rfl, rfl, ht1, sz, ?_⟩
        have hr2 : upd H1 t (.lst (NL done ++ [.int (Ux01.coin rs (Ux01.greedyEnd rs) : Int)])) r = some (.lst (NL rs)) := by
          rw [upd_ne nrt]
          exact hr1
        have ht2 : upd H1 t (.lst (NL done ++ [.int (Ux01.coin rs (Ux01.greedyEnd rs) : Int)])) t = some (.lst (NL (done ++ [Ux01.coin rs (Ux01.greedyEnd rs)]))) := by
          rw [upd_same, NL_app]
          rfl
        have s2 : Same H (upd H1 t (.lst (NL done ++ [.int (Ux01.coin rs (Ux01.greedyEnd rs) : Int)]))) := fun c o e => by
          rw [upd_ne (ne_of_none e ht)]
          exact s1 c o e
        generalize upd H1 t (.lst (NL done ++ [.int (Ux01.coin rs (Ux01.greedyEnd rs) : Int)])) = H2 at hr2 ht2 s2
        refine ⟨_, rfl, _, rfl, r, rs, Ux01.greedyEnd rs, rfl, SqL.of hr2, fun p hp => ⟨⟨p, _, _, _, rfl, upd_same, (Same.new hp) _ _ ht2, (ne_of_none ht2 hp).symm, ?_, s2.trans (Same.new hp)⟩, ?_⟩⟩
        · rw [List.append_assoc, ← et, Mx.TG_eq hne]
          rfl
        · have e1 : restLen [some (.ref a), some (.ref t), some (.ref r), v3] H1 = (NL rs).length := restLen_eq hr1
          rw [e1]
          refine Nat.lt_of_le_of_lt (Nat.le_of_eq (restLen_eq upd_same)) ?_
          rw [NL_len, NL_len, Mx.taken_len]
          omega
      · have e0 : rs = [] := List.length_eq_zero_iff.mp (by omega)
        subst e0
        rw [Mx.TG_nil, List.append_nil] at et
        subst et
        exact ⟨_, rfl, k H1 t s1 ht ht1⟩
    · rintro σ H' Q1 Q2 hm ⟨v, e1, p', ys, e3, hq, i, j, e4, e5, c, e6, q⟩
      exact ⟨v, e1, p', ys, e3, hq, i, j, e4, e5, c, e6, hm _ _ q⟩

/-! ### shares_of_taking -/
def sp_shares_of_taking (K : PySem.W.Frag) : Sp := fun vs H Q _ => ∃ (a b : Addr) (cs : List Nat) (k : Nat) (z : Int), vs = [.ref a, .int z, .ref b] ∧ z = (k : Int) + 1 ∧ SqL K H a (NL cs) ∧ SqL K H b (IL (Mx.tab Mx.OI cs k)) ∧ k + 1 ≤ cs.length ∧ cs.length ≤ 16 ∧
  ∀ (H' : Hp) (p : Addr), Same H H' → H p = none → H' p = some (.lst (IL (Mx.tab Mx.BI cs (k + 1)))) → Q (.ref p) H'
theorem ok_shares_of_taking (T : Txt K mg A) : FnOk P w K mg base CX0 1 A.f_shares_of_taking A.d_shares_of_taking ["coins", "size", "shorter"] (sp_shares_of_taking K) := by
  refine T.F_shares_of_taking.ok sc_shares_of_taking (fun vs H Q E h => ?_) (fun cdv Ar outer s H vs Q E hr h => ?_)
  · obtain ⟨a, b, cs, k, z, rfl, _⟩ := h
    rfl
  · obtain ⟨a, b, cs, n, z, rfl, hz, hs, hb, hn, h16, k⟩ := h
    refine ⟨_, (pss_cons (ps_set (i := 3) sc_shares_of_taking.nd rfl (Or.inl rfl) (pe_lst pa_nil))
      (pss_cons (ps_for PassesOwn.never rfl (pi_range1 rfl T.n_range (pa_cons (pe_op op_add (pe_op op_sub (pe_callB call_len_seq rfl T.n_len PySem.boot_len (pa_cons (pv 0) pa_nil)) (pv 1)) pe_int) pa_nil)) (pg_name (i := 4) sc_shares_of_taking.nd rfl (Or.inl rfl))
        (pss_cons (ps_set (i := 5) sc_shares_of_taking.nd rfl (Or.inl rfl) (pe_op op_add (pe_ix ix_list (pv 0) (pv 4) (fun _ _ => rfl)) (pe_ix ix_list (pv 2) (pe_op op_add (pv 4) pe_int) (fun _ _ => rfl))))
      (pss_cons (ps_set (i := 6) sc_shares_of_taking.nd rfl (Or.inl rfl) (pe_op op_add (pe_ix ix_list (pv 0) (pe_op op_sub (pe_op op_add (pv 4) (pv 1)) pe_int) (fun _ _ => rfl)) (pe_ix ix_list (pv 2) (pv 4) (fun _ _ => rfl))))
      (pss_one (ps_expr (pe_bm PySem.F.plainAttrs_list PySem.F.slot_list_append PySem.F.type_list_append mt_append (pv 3) (pa_cons (pe_callB (call_max2 rfl) rfl T.n_max PyProof.Rows.boot_max (pa_cons (pv 5) (pa_cons (pv 6) pa_nil))) pa_nil)))))))
      (pss_one (ps_ret (pv 3))))), ?_⟩
    have el := NL_len cs
    refine ⟨Nat.zero_le _, fun q hq => ?_⟩
    have s0 : Same H (upd H q (.lst [])) := Same.new hq
    refine ⟨_, rfl, _, _, rfl, .inl (s0.seq hs), _, rfl, _, _, rfl, rfl, _, _, rfl, rfl, _, rfl, ?_, ?_, for_range (fun i σ H' => ∃ v4 v5 v6 : Option V, σ = [some (.ref a), some (.int z), some (.ref b), some (.ref q), v4, v5, v6] ∧
      H' q = some (.lst (IL ((Mx.tab Mx.BI cs (n + 1)).take i))) ∧ Same H H') ⟨none, none, none, rfl, upd_same, s0⟩ ?_ ?_⟩
    · omega
    · omega
    · rintro i σ H' hi ⟨v4, v5, v6, rfl, hq', s1⟩
      have hi2 : i + (n + 1) ≤ cs.length := by omega
      obtain ⟨x, hx⟩ : ∃ x, cs[i]? = some x := ⟨_, List.getElem?_eq_getElem (by omega)⟩
      obtain ⟨y, hy⟩ : ∃ y, cs[i + n]? = some y := ⟨_, List.getElem?_eq_getElem (by omega)⟩
      refine ⟨_, rfl, _, rfl, _, _, _, _, rfl, rfl, s1.seq hs, at_of (j := i) (by omega) (NL_get hx), _, rfl, _, rfl, _, _, rfl, rfl, _, _, _, _, rfl, rfl, s1.seq hb, at_of (j := i + 1) (by omega) (IL_get (Mx.tab_get Mx.OI cs (by omega))), _, _, rfl, rfl, ?_⟩
      refine ⟨_, rfl, _, rfl, _, rfl, _, _, rfl, rfl, _, _, rfl, rfl, _, _, _, _, rfl, rfl, s1.seq hs, at_of (j := i + n) (by omega) (NL_get hy), _, rfl, _, rfl, _, _, _, _, rfl, rfl, s1.seq hb, at_of (j := i) (by omega) (IL_get (Mx.tab_get Mx.OI cs (by omega))), _, _, rfl, rfl, ?_⟩
      refine ⟨_, rfl, .inl ⟨rfl, _, SqL.of hq'⟩, _, rfl, _, rfl, _, _, rfl, q, _, _, rfl, rfl, hq', ?_, _, _, _, rfl, ?_, ?_⟩
      · rw [IL_len, List.length_take, Mx.tab_len]
        exact Nat.lt_of_le_of_lt (Nat.min_le_right _ _) (Nat.lt_of_le_of_lt (show _ ≤ 16 by omega) (by decide))
      · rw [upd_same, Mx.tab_take Mx.BI cs hi2, IL_snoc, Mx.BI_cut cs hi2 hx hy, max_if]
      · exact fun c o e => by rw [upd_ne (ne_of_none e hq)]; exact s1 c o e
    · rintro σ H' ⟨v4, v5, v6, rfl, hq', s1⟩
      refine ⟨_, rfl, k H' q s1 hq ?_⟩
      rw [hq', List.take_of_length_le (by rw [Mx.tab_len]; omega)]

/-! ### shares_left_by_greedy -/
def sp_shares_left_by_greedy (K : PySem.W.Frag) : Sp := fun vs H Q _ => ∃ (a b : Addr) (cs : List Nat) (k : Nat) (z : Int), vs = [.ref a, .int z, .ref b] ∧ z = (k : Int) + 1 ∧ SqL K H a (NL cs) ∧ SqL K H b (IL (Mx.tab Mx.BI cs k)) ∧ k + 1 ≤ cs.length ∧ cs.length ≤ 16 ∧
  ∀ (H' : Hp) (p : Addr), Same H H' → H p = none → H' p = some (.lst (IL (Mx.tab Mx.OI cs (k + 1)))) → Q (.ref p) H'
theorem ok_shares_left_by_greedy (T : Txt K mg A) : FnOk P w K mg base CX0 2 A.f_shares_left_by_greedy A.d_shares_left_by_greedy ["coins", "size", "shorter"] (sp_shares_left_by_greedy K) := by
  refine T.F_shares_left_by_greedy.ok sc_shares_left_by_greedy (fun vs H Q E h => ?_) (fun cdv Ar outer s H vs Q E hr h => ?_)
  · obtain ⟨a, b, cs, k, z, rfl, _⟩ := h
    rfl
  · obtain ⟨a, b, cs, n, z, rfl, hz, hs, hb, hn, h16, k⟩ := h
    refine ⟨_, (pss_cons (ps_set (i := 3) sc_shares_left_by_greedy.nd rfl (Or.inl rfl) (pe_lst pa_nil))
      (pss_cons (ps_for PassesOwn.never rfl (pi_range1 rfl T.n_range (pa_cons (pe_op op_add (pe_op op_sub (pe_callB call_len_seq rfl T.n_len PySem.boot_len (pa_cons (pv 0) pa_nil)) (pv 1)) pe_int) pa_nil)) (pg_name (i := 4) sc_shares_left_by_greedy.nd rfl (Or.inl rfl))
        (pss_one (ps_if (pt_cmp (pc_eqI (pe_call (ok_greedy_end T) (hr.mono (by decide)) rfl T.g_greedy_end T.k_greedy_end T.b_greedy_end .nil pass0 (pa_cons (pe_slice sl_list (pv 0) (po_some (pv 4)) (po_some (pe_op op_add (pv 4) (pv 1)))) pa_nil)) (pe_gint T.c_LEFT rfl))) (pss_one (ps_expr (pe_bm PySem.F.plainAttrs_list PySem.F.slot_list_append PySem.F.type_list_append mt_append (pv 3) (pa_cons (pe_ix ix_list (pv 2) (pe_op op_add (pv 4) pe_int) (fun _ _ => rfl)) pa_nil)))) (pss_one (ps_expr (pe_bm PySem.F.plainAttrs_list PySem.F.slot_list_append PySem.F.type_list_append mt_append (pv 3) (pa_cons (pe_ix ix_list (pv 2) (pv 4) (fun _ _ => rfl)) pa_nil)))))))
      (pss_one (ps_ret (pv 3))))), ?_⟩
    have el := NL_len cs
    refine ⟨Nat.zero_le _, fun q hq => ?_⟩
    have s0 : Same H (upd H q (.lst [])) := Same.new hq
    refine ⟨_, rfl, _, _, rfl, .inl (s0.seq hs), _, rfl, _, _, rfl, rfl, _, _, rfl, rfl, _, rfl, ?_, ?_, for_range (fun i σ H' => ∃ v4 : Option V, σ = [some (.ref a), some (.int z), some (.ref b), some (.ref q), v4] ∧
      H' q = some (.lst (IL ((Mx.tab Mx.OI cs (n + 1)).take i))) ∧ Same H H') ⟨none, rfl, upd_same, s0⟩ ?_ ?_⟩
    · omega
    · omega
    · rintro i σ H' hi ⟨v4, rfl, hq', s1⟩
      have hi2 : i + (n + 1) ≤ cs.length := by omega
      refine ⟨_, rfl, _, rfl, _, rfl, _, rfl, _, rfl, _, _, rfl, rfl, _, rfl, a, _, rfl, s1.seq hs, fun p hp => ?_⟩
      rw [cut_at cs (a := 0 + (i : Int)) (b := 0 + (i : Int) + z) (i := i) (k := n + 1) (by omega) (by omega) hi2]
      refine ⟨p, _, rfl, SqL.of upd_same, Mx.cut_ne cs hi2, ?_⟩
      have s2 : Same H (upd H' p (.lst (NL ((cs.drop i).take (n + 1))))) := s1.trans (Same.new hp)
      have hq2 : upd H' p (.lst (NL ((cs.drop i).take (n + 1)))) q = some (.lst (IL ((Mx.tab Mx.OI cs (n + 1)).take i))) := (Same.new hp) _ _ hq'
      generalize upd H' p (.lst (NL ((cs.drop i).take (n + 1)))) = H2 at s2 hq2
      have sz : (IL ((Mx.tab Mx.OI cs (n + 1)).take i)).length < sizeLine := by
        rw [IL_len, List.length_take, Mx.tab_len]
        exact Nat.lt_of_le_of_lt (Nat.min_le_right _ _) (Nat.lt_of_le_of_lt (show _ ≤ 16 by omega) (by decide))
      have sm : ∀ o, Same H (upd H2 q o) := fun o c u e => by
        rw [upd_ne (ne_of_none e hq)]
        exact s2 c u e
      have fin : ∀ zz : Int, zz = Mx.OI ((cs.drop i).take (n + 1)) → upd H2 q (.lst (IL ((Mx.tab Mx.OI cs (n + 1)).take i) ++ [.int zz])) q = some (.lst (IL ((Mx.tab Mx.OI cs (n + 1)).take (i + 1)))) := fun zz e => by
        rw [upd_same, Mx.tab_take Mx.OI cs hi2, IL_snoc, e]
      refine ⟨_, _, rfl, rfl, _, rfl, ?_⟩
      cases hg : Ux01.greedyEnd ((cs.drop i).take (n + 1)) with
      | false =>
        exact iteD rfl ⟨_, rfl, .inl ⟨rfl, _, SqL.of hq2⟩, _, rfl, _, rfl, _, _, rfl, rfl, _, _, _, _, rfl, rfl, s2.seq hb, at_of (j := i + 1) (by omega) (IL_get (Mx.tab_get Mx.BI cs (by omega))), q, _, _, rfl, rfl, hq2, sz, _, rfl, fin _ (Mx.OI_cut_false cs hi2 hg).symm, sm _⟩
      | true =>
        exact iteDF (by decide) ⟨_, rfl, .inl ⟨rfl, _, SqL.of hq2⟩, _, rfl, _, rfl, _, _, _, _, rfl, rfl, s2.seq hb, at_of (j := i) (by omega) (IL_get (Mx.tab_get Mx.BI cs (by omega))), q, _, _, rfl, rfl, hq2, sz, _, rfl, fin _ (Mx.OI_cut_true cs hi2 hg).symm, sm _⟩
    · rintro σ H' ⟨v4, rfl, hq', s1⟩
      refine ⟨_, rfl, k H' q s1 hq ?_⟩
      rw [hq', List.take_of_length_le (by rw [Mx.tab_len]; omega)]

/-! ### share_behind_greedy -/
def sp_share_behind_greedy (K : PySem.W.Frag) : Sp := fun vs H Q _ => ∃ (a : Addr) (cs : List Nat), vs = [.ref a] ∧ SqL K H a (NL cs) ∧ cs.length ≤ 16 ∧ ∀ H' : Hp, Same H H' → Q (.int (Mx.OI cs)) H'
theorem ok_share_behind_greedy (T : Txt K mg A) : FnOk P w K mg base CX0 3 A.f_share_behind_greedy A.d_share_behind_greedy ["coins"] (sp_share_behind_greedy K) := by
  refine T.F_share_behind_greedy.ok sc_share_behind_greedy (fun vs H Q E h => ?_) (fun cdv Ar outer s H vs Q E hr h => ?_)
  · obtain ⟨a, cs, rfl, _⟩ := h
    rfl
  · obtain ⟨a, cs, rfl, hs, h16, k⟩ := h
    refine ⟨_, (pss_cons (ps_set (i := 1) sc_share_behind_greedy.nd rfl (Or.inl rfl) (pe_op op_rep (pe_lst (pa_cons pe_int pa_nil)) (pe_op op_add (pe_callB call_len_seq rfl T.n_len PySem.boot_len (pa_cons (pv 0) pa_nil)) pe_int)))
      (pss_cons (ps_for PassesOwn.never rfl (pi_range2 rfl T.n_range (pa_cons pe_int (pa_cons (pe_op op_add (pe_callB call_len_seq rfl T.n_len PySem.boot_len (pa_cons (pv 0) pa_nil)) pe_int) pa_nil))) (pg_name (i := 2) sc_share_behind_greedy.nd rfl (Or.inl rfl))
        (pss_one (ps_if (pt_cmp (pc_eqI (pe_op op_mod (pe_op op_sub (pe_callB call_len_seq rfl T.n_len PySem.boot_len (pa_cons (pv 0) pa_nil)) (pv 2)) pe_int) pe_int)) (pss_one (ps_set (i := 1) sc_share_behind_greedy.nd rfl (Or.inl rfl) (pe_call (ok_shares_left_by_greedy T) (hr.mono (by decide)) rfl T.g_shares_left_by_greedy T.k_shares_left_by_greedy T.b_shares_left_by_greedy .nil pass0 (pa_cons (pv 0) (pa_cons (pv 2) (pa_cons (pv 1) pa_nil)))))) (pss_one (ps_set (i := 1) sc_share_behind_greedy.nd rfl (Or.inl rfl) (pe_call (ok_shares_of_taking T) (hr.mono (by decide)) rfl T.g_shares_of_taking T.k_shares_of_taking T.b_shares_of_taking .nil pass0 (pa_cons (pv 0) (pa_cons (pv 2) (pa_cons (pv 1) pa_nil)))))))))
      (pss_one (ps_ret (pe_ix ix_list (pv 1) pe_int (fun _ _ => rfl)))))), ?_⟩
    have el := NL_len cs
    have eN : ((NL cs).length : Int) + 1 = ((cs.length + 1 : Nat) : Int) := by omega
    have sz : 1 * (((NL cs).length : Int) + 1).toNat ≤ sizeLine := Nat.le_trans (show _ ≤ 17 by omega) (by decide)
    refine ⟨(by show 1 ≤ sizeLine; decide), fun l hl => ?_⟩
    have s0 : Same H (upd H l (.lst [.int 0])) := Same.new hl
    refine ⟨_, rfl, _, _, rfl, .inl (s0.seq hs), _, _, rfl, rfl, l, _, _, rfl, rfl, upd_same, ?_, ?_, sz, fun q hq => ?_⟩
    · omega
    · omega
    have s1 : Same H (upd (upd H l (.lst [.int 0])) q (.lst (List.replicate (((NL cs).length : Int) + 1).toNat [V.int 0]).flatten)) := s0.trans (Same.new hq)
    have hq1 : upd (upd H l (.lst [.int 0])) q (.lst (List.replicate (((NL cs).length : Int) + 1).toNat [V.int 0]).flatten) q = some (.lst (IL (Mx.tab (Mx.sh cs.length 0) cs 0))) := by
      rw [upd_same, Mx.tab_zero, Mx.sh_nil, eN, Int.toNat_natCast, rep_flat]
    generalize upd (upd H l (.lst [.int 0])) q (.lst (List.replicate (((NL cs).length : Int) + 1).toNat [V.int 0]).flatten) = H1 at s1 hq1
    refine ⟨_, rfl, _, _, rfl, .inl (s1.seq hs), _, _, rfl, rfl, _, _, rfl, ⟨by decide, by decide, ?_, ?_⟩, for_range (fun i σ H' => ∃ (q : Addr) (v2 : Option V), σ = [some (.ref a), some (.ref q), v2] ∧
      H' q = some (.lst (IL (Mx.tab (Mx.sh cs.length i) cs i))) ∧ Same H H') ⟨q, none, rfl, hq1, s1⟩ ?_ ?_⟩
    · omega
    · omega
    · rintro i σ H' hi ⟨p, v2, rfl, hp, s2⟩
      have hi2 : i + 1 ≤ cs.length := by omega
      refine ⟨_, rfl, a, _, rfl, .inl (s2.seq hs), _, rfl, _, _, rfl, rfl, _, _, rfl, rfl, (by show (0 : Int) < 2; decide), _, _, rfl, rfl, _, rfl, iteD2 (fun c => ?_) (fun c => ?_)⟩
      · have e := Mx.sh_even hi2 (by omega)
        rw [e.1] at hp
        refine ⟨_, rfl, _, rfl, _, rfl, a, p, cs, i, _, rfl, by omega, s2.seq hs, SqL.of hp, hi2, h16, fun H2 p2 s3 _ h2 => ⟨p2, _, rfl, ?_, s2.trans s3⟩⟩
        rw [e.2]
        exact h2
      · have e := Mx.sh_odd hi2 (by omega)
        rw [e.1] at hp
        refine ⟨_, rfl, _, rfl, _, rfl, a, p, cs, i, _, rfl, by omega, s2.seq hs, SqL.of hp, hi2, h16, fun H2 p2 s3 _ h2 => ⟨p2, _, rfl, ?_, s2.trans s3⟩⟩
        rw [e.2]
        exact h2
    · rintro σ H' ⟨p, v2, rfl, hp, s2⟩
      have en : (((NL cs).length : Int) + 1 - 1).toNat = cs.length := by omega
      rw [en, Mx.sh_all] at hp
      exact ⟨_, rfl, _, _, _, _, rfl, rfl, SqL.of hp, atI_nat (j := 0) (IL_get (Mx.tab_all Mx.OI cs)), k H' s2⟩

/-! ### is_place -/
def sp_is_place (K : PySem.W.Frag) : Sp := fun vs H Q _ => ∃ (a : Addr) (cs : List Nat) (i : Nat), vs = [.ref a, .int (i : Int)] ∧ SqL K H a (NL cs) ∧ Q (.bl (decide (1 ≤ i ∧ i ≤ cs.length))) H
theorem ok_is_place (T : Txt K mg A) : FnOk P w K mg base CX0 1 A.f_is_place A.d_is_place ["coins", "place"] (sp_is_place K) := by
  refine T.F_is_place.ok sc_is_place (fun vs H Q E h => ?_) (fun cdv Ar outer s H vs Q E hr h => ?_)
  · obtain ⟨a, cs, i, rfl, _⟩ := h
    rfl
  · obtain ⟨a, cs, i, rfl, hs, k⟩ := h
    refine ⟨_, (pss_one (ps_ret (pe_chain op_le op_le pe_int (pv 1) (pe_callB call_len_seq rfl T.n_len PySem.boot_len (pa_cons (pv 0) pa_nil))))), ?_⟩
    have el := NL_len cs
    refine ⟨_, rfl, _, _, rfl, rfl, _, rfl, iteD2 (fun h1 => ⟨_, rfl, a, _, rfl, .inl hs, _, _, rfl, rfl, ?_⟩) (fun h1 => ?_)⟩
    · have e : decide (1 ≤ i ∧ i ≤ cs.length) = decide ((i : Int) ≤ ((NL cs).length : Int)) := by
        rw [decide_eq_decide]
        omega
      rw [e] at k
      exact k
    · rw [decide_eq_false (by omega)] at k
      exact k

/-! ### swapped -/
def sp_swapped (K : PySem.W.Frag) : Sp := fun vs H Q _ => ∃ (a : Addr) (cs : List Nat) (i j : Nat), vs = [.ref a, .int (i : Int), .int (j : Int)] ∧ SqL K H a (NL cs) ∧ (1 ≤ i ∧ i ≤ cs.length) ∧ (1 ≤ j ∧ j ≤ cs.length) ∧
  ∀ (H' : Hp) (p : Addr), Same H H' → H p = none → H' p = some (.lst (NL (Ux01.swapped cs (i - 1) (j - 1)))) → Q (.ref p) H'
theorem ok_swapped (T : Txt K mg A) : FnOk P w K mg base CX0 1 A.f_swapped A.d_swapped ["coins", "i", "j"] (sp_swapped K) := by
  refine T.F_swapped.ok sc_swapped (fun vs H Q E h => ?_) (fun cdv Ar outer s H vs Q E hr h => ?_)
  · obtain ⟨a, cs, i, j, rfl, _⟩ := h
    rfl
  · obtain ⟨a, cs, i, j, rfl, hs, hi, hj, k⟩ := h
    refine ⟨_, (pss_cons (ps_set (i := 3) sc_swapped.nd rfl (Or.inl rfl) (pe_callTy call_list_of rfl T.n_list PyProof.Rows.boot_list (pa_cons (pv 0) pa_nil)))
      (pss_cons (ps_asg (pe_ix ix_list (pv 0) (pe_op op_sub (pv 2) pe_int) (fun _ _ => rfl)) (pg_sub (pv 3) (pe_op op_sub (pv 1) pe_int) set_list))
      (pss_cons (ps_asg (pe_ix ix_list (pv 0) (pe_op op_sub (pv 1) pe_int) (fun _ _ => rfl)) (pg_sub (pv 3) (pe_op op_sub (pv 2) pe_int) set_list))
      (pss_one (ps_ret (pv 3)))))), ?_⟩
    obtain ⟨x, hx⟩ : ∃ x, cs[i - 1]? = some x := ⟨_, List.getElem?_eq_getElem (by omega)⟩
    obtain ⟨y, hy⟩ : ∃ y, cs[j - 1]? = some y := ⟨_, List.getElem?_eq_getElem (by omega)⟩
    refine ⟨_, rfl, a, _, rfl, .inl hs, fun q hq => ?_⟩
    have s1 : Same H (upd H q (.lst (NL cs))) := Same.new hq
    refine ⟨_, rfl, _, rfl, _, _, rfl, rfl, _, _, _, _, rfl, rfl, s1.seq hs, at_of (j := j - 1) (by omega) (NL_get hy), _, rfl, _, rfl, _, _, rfl, rfl, q, _, _, i - 1, rfl, rfl, upd_same, ixN_nat (by omega) (by rw [NL_len]; omega), ?_⟩
    have s2 : Same H (upd (upd H q (.lst (NL cs))) q (.lst ((NL cs).set (i - 1) (.int (y : Int))))) := fun c o e => by
      rw [upd_ne (ne_of_none e hq), upd_ne (ne_of_none e hq)]
      exact e
    have h2 : upd (upd H q (.lst (NL cs))) q (.lst ((NL cs).set (i - 1) (.int (y : Int)))) q = some (.lst (NL (cs.set (i - 1) y))) := by
      rw [upd_same, NL_set]
    generalize upd (upd H q (.lst (NL cs))) q (.lst ((NL cs).set (i - 1) (.int (y : Int)))) = H2 at s2 h2
    refine ⟨_, rfl, _, rfl, _, _, rfl, rfl, _, _, _, _, rfl, rfl, s2.seq hs, at_of (j := i - 1) (by omega) (NL_get hx), _, rfl, _, rfl, _, _, rfl, rfl, q, _, _, j - 1, rfl, rfl, h2, ixN_nat (by omega) (by rw [NL_len, List.length_set]; omega), ?_⟩
    refine ⟨_, rfl, k _ q (fun c o e => by rw [upd_ne (ne_of_none e hq)]; exact s2 c o e) hq ?_⟩
    rw [upd_same, NL_set]
    unfold Ux01.swapped
    rw [List.getD_eq_getElem?_getD, List.getD_eq_getElem?_getD, hx, hy]
    rfl
end
end My

end
section
set_option Elab.async false
set_option linter.all false
set_option maxRecDepth 100000
set_option maxHeartbeats 2000000

namespace My
open PySem PySem.Spec PyProof.Rows L2
open PySem.W (Codec)
/-! ### the object -/
def rf (a b c : Addr) : List (Str × V) := [("coins", .ref a), ("taken", .ref b), ("ends", .ref c)]
theorem ne_ct : ¬ ("coins" : Str) = "taken" := by decide +kernel
theorem ne_ce : ¬ ("coins" : Str) = "ends" := by decide +kernel
theorem ne_te : ¬ ("taken" : Str) = "ends" := by decide +kernel
def rf1 (a : Addr) : List (Str × V) := [("coins", .ref a)]
def rf2 (a b : Addr) : List (Str × V) := [("coins", .ref a), ("taken", .ref b)]
theorem rf_put0 (a : Addr) : putF "coins" (.ref a) [] = rf1 a := rfl
theorem rf_put1 (a b : Addr) : putF "taken" (.ref b) (rf1 a) = rf2 a b := by
  show (if ("coins" : Str) = "taken" then _ else _) = _
  rw [if_neg ne_ct]
  rfl
theorem rf_put2 (a b c : Addr) : putF "ends" (.ref c) (rf2 a b) = rf a b c := by
  show (if ("coins" : Str) = "ends" then _ else _ :: (if ("taken" : Str) = "ends" then _ else _)) = _
  rw [if_neg ne_ce, if_neg ne_te]
  rfl
theorem rf_coins (a b c : Addr) : (rf a b c).lookup ("coins" : Str) = some (.ref a) := by
  rw [← rf_put2, ← rf_put1, ← rf_put0, lookup_putF, if_neg ne_ce, lookup_putF, if_neg ne_ct, lookup_putF, if_pos rfl]
theorem rf_taken (a b c : Addr) : (rf a b c).lookup ("taken" : Str) = some (.ref b) := by
  rw [← rf_put2, ← rf_put1, ← rf_put0, lookup_putF, if_neg ne_te, lookup_putF, if_pos rfl]
theorem rf_ends (a b c : Addr) : (rf a b c).lookup ("ends" : Str) = some (.ref c) := by
  rw [← rf_put2, lookup_putF, if_pos rfl]
theorem rf_no (a b c : Addr) {m : Str} (h1 : ¬ m = "coins") (h2 : ¬ m = "taken") (h3 : ¬ m = "ends") : (rf a b c).lookup m = none := by
  rw [← rf_put2, ← rf_put1, ← rf_put0, lookup_putF, if_neg h3, lookup_putF, if_neg h2, lookup_putF, if_neg h1]
  rfl
theorem rf_setc (a b c x : Addr) : putF "coins" (.ref x) (rf a b c) = rf x b c := by
  show (if ("coins" : Str) = "coins" then _ else _) = _
  rw [if_pos rfl]
  rfl
theorem rf_sett (a b c x : Addr) : putF "taken" (.ref x) (rf a b c) = rf a x c := by
  show (if ("coins" : Str) = "taken" then _ else _ :: (if ("taken" : Str) = "taken" then _ else _)) = _
  rw [if_neg ne_ct, if_pos rfl]
  rfl
theorem rf_sete (a b c x : Addr) : putF "ends" (.ref x) (rf a b c) = rf a b x := by
  show (if ("coins" : Str) = "ends" then _ else _ :: (if ("taken" : Str) = "ends" then _ else _ :: (if ("ends" : Str) = "ends" then _ else _))) = _
  rw [if_neg ne_ce, if_neg ne_te, if_pos rfl]
  rfl
def ends (en : List Bool) : List Int := en.map fun b => (Ux01.flag b : Int)
abbrev EL (en : List Bool) : List V := IL (ends en)
/-- the row stands at p: its three lists, no two of them one -/
structure At (A : Ads) (H : Hp) (pp dx aa bb cc : Addr) (m : Mx.M) : Prop where
  p : H pp = some (.ins A.C dx (rf aa bb cc))
  a : H aa = some (.lst (NL m.cs))
  b : H bb = some (.lst (NL m.tk))
  c : H cc = some (.lst (EL m.en))
  ab : aa ≠ bb
  ac : aa ≠ cc
  bc : bb ≠ cc
theorem no_ins {C dx : Addr} {fs : List (Str × V)} {xs : List V} : HO.ins C dx fs ≠ HO.lst xs := by
  intro z
  cases z
section
variable {A : Ads} {H H' : Hp} {p dx a b c : Addr} {m : Mx.M} {S : Addr → Prop}
theorem At.pa (h : At A H p dx a b c m) : p ≠ a := ne_of h.p h.a no_ins
theorem At.pb (h : At A H p dx a b c m) : p ≠ b := ne_of h.p h.b no_ins
theorem At.pc (h : At A H p dx a b c m) : p ≠ c := ne_of h.p h.c no_ins
theorem At.same (h : At A H p dx a b c m) (s : Same H H') : At A H' p dx a b c m := ⟨s _ _ h.p, s _ _ h.a, s _ _ h.b, s _ _ h.c, h.ab, h.ac, h.bc⟩
theorem At.setc (h : At A H p dx a b c m) {q : Addr} {cs : List Nat} (hq : H q = some (.lst (NL cs))) (qb : q ≠ b) (qc : q ≠ c) :
    At A (upd H p (.ins A.C dx (putF "coins" (.ref q) (rf a b c)))) p dx q b c ⟨cs, m.tk, m.en⟩ := by
  rw [rf_setc]
  exact ⟨upd_same, by rw [upd_ne (ne_of h.p hq no_ins).symm]; exact hq, by rw [upd_ne h.pb.symm]; exact h.b, by rw [upd_ne h.pc.symm]; exact h.c, qb, qc, h.bc⟩
theorem At.sett (h : At A H p dx a b c m) {q : Addr} {tk : List Nat} (hq : H q = some (.lst (NL tk))) (qa : a ≠ q) (qc : q ≠ c) :
    At A (upd H p (.ins A.C dx (putF "taken" (.ref q) (rf a b c)))) p dx a q c ⟨m.cs, tk, m.en⟩ := by
  rw [rf_sett]
  exact ⟨upd_same, by rw [upd_ne h.pa.symm]; exact h.a, by rw [upd_ne (ne_of h.p hq no_ins).symm]; exact hq, by rw [upd_ne h.pc.symm]; exact h.c, qa, h.ac, qc⟩
theorem At.sete (h : At A H p dx a b c m) {q : Addr} {en : List Bool} (hq : H q = some (.lst (EL en))) (qa : a ≠ q) (qb : b ≠ q) :
    At A (upd H p (.ins A.C dx (putF "ends" (.ref q) (rf a b c)))) p dx a b q ⟨m.cs, m.tk, en⟩ := by
  rw [rf_sete]
  exact ⟨upd_same, by rw [upd_ne h.pa.symm]; exact h.a, by rw [upd_ne h.pb.symm]; exact h.b, by rw [upd_ne (ne_of h.p hq no_ins).symm]; exact hq, h.ab, qa, qb⟩
theorem At.wrb (h : At A H p dx a b c m) {tk : List Nat} {xs : List V} (e : xs = NL tk) : At A (upd H b (.lst xs)) p dx a b c ⟨m.cs, tk, m.en⟩ := by
  subst e
  exact ⟨by rw [upd_ne h.pb]; exact h.p, by rw [upd_ne h.ab]; exact h.a, upd_same, by rw [upd_ne h.bc.symm]; exact h.c, h.ab, h.ac, h.bc⟩
theorem At.wrc (h : At A H p dx a b c m) {en : List Bool} {xs : List V} (e : xs = EL en) : At A (upd H c (.lst xs)) p dx a b c ⟨m.cs, m.tk, en⟩ := by
  subst e
  exact ⟨by rw [upd_ne h.pc]; exact h.p, by rw [upd_ne h.ac]; exact h.a, by rw [upd_ne h.bc]; exact h.b, upd_same, h.ab, h.ac, h.bc⟩
/-- what the caller keeps aside stays -/
def Fr (S : Addr → Prop) (H H' : Hp) : Prop := ∀ x o, S x → H x = some o → H' x = some o
def Dom (S : Addr → Prop) (H : Hp) : Prop := ∀ x, S x → ∃ o, H x = some o
theorem Fr.refl : Fr S H H := fun _ _ _ e => e
theorem Fr.trans {H2 : Hp} (h : Fr S H H') (h2 : Fr S H' H2) : Fr S H H2 := fun x o hs e => h2 x o hs (h x o hs e)
theorem Fr.upd {x : Addr} {o : HO} (h : ¬ S x) : Fr S H (upd H x o) := fun y u hy e => by
  have n : y ≠ x := fun q => h (by rw [← q]; exact hy)
  rw [upd_ne n]
  exact e
theorem Fr.same (s : Same H H') : Fr S H H' := fun x o _ e => s x o e
theorem Dom.fr (d : Dom S H) (f : Fr S H H') : Dom S H' := fun x hs => let ⟨o, e⟩ := d x hs; ⟨o, f x o hs e⟩
theorem Dom.fresh (d : Dom S H) {x : Addr} (h : H x = none) : ¬ S x := fun hs => by
  obtain ⟨o, e⟩ := d x hs
  rw [h] at e
  cases e
structure RowAt (A : Ads) (S : Addr → Prop) (H : Hp) (p : Addr) (m : Mx.M) : Prop where
  ex : ∃ dx a b c, At A H p dx a b c m ∧ ¬ S p ∧ ¬ S a ∧ ¬ S b ∧ ¬ S c
  few : m.cs.length + m.tk.length ≤ 16
  en : m.tk.length = m.en.length
theorem RowAt.same (r : RowAt A S H p m) (s : Same H H') : RowAt A S H' p m :=
  ⟨let ⟨dx, a, b, c, h, q⟩ := r.ex; ⟨dx, a, b, c, h.same s, q⟩, r.few, r.en⟩
theorem RowAt.less {S' : Addr → Prop} (r : RowAt A S H p m) (h : ∀ x, S' x → S x) : RowAt A S' H p m :=
  ⟨let ⟨dx, a, b, c, q, h1, h2, h3, h4⟩ := r.ex; ⟨dx, a, b, c, q, fun z => h1 (h _ z), fun z => h2 (h _ z), fun z => h3 (h _ z), fun z => h4 (h _ z)⟩, r.few, r.en⟩
theorem At.out (h : At A H p dx a b c m) {y : Addr} {o : HO} (h1 : p ≠ y) (h2 : a ≠ y) (h3 : b ≠ y) (h4 : c ≠ y) : At A (L2.upd H y o) p dx a b c m :=
  ⟨by rw [upd_ne h1]; exact h.p, by rw [upd_ne h2]; exact h.a, by rw [upd_ne h3]; exact h.b, by rw [upd_ne h4]; exact h.c, h.ab, h.ac, h.bc⟩
theorem RowAt.out (r : RowAt A S H p m) {y : Addr} {o : HO} (hy : S y) : RowAt A S (L2.upd H y o) p m :=
  ⟨let ⟨dx, a, b, c, q, h1, h2, h3, h4⟩ := r.ex; ⟨dx, a, b, c, q.out (fun e => h1 (e ▸ hy)) (fun e => h2 (e ▸ hy)) (fun e => h3 (e ▸ hy)) (fun e => h4 (e ▸ hy)), h1, h2, h3, h4⟩, r.few, r.en⟩
end
/-- what a method promises: the call x answered, the row behind it -/
def Post (A : Ads) (S : Addr → Prop) (H : Hp) (p : Addr) (m : Mx.M) (x : Ux01.Call) (Q : VK) : Prop :=
  ∀ (H' : Hp) (q : Addr), RowAt A S H' p (Mx.mstep m x).1 → ¬ S q → H' q = some (.lst (IL (Mx.mstep m x).2)) → Fr S H H' → Q (.ref q) H'
def sp0 (A : Ads) (x : Ux01.Call) : Sp := fun vs H Q _ => ∃ (p : Addr) (m : Mx.M) (S : Addr → Prop), vs = [.ref p] ∧ RowAt A S H p m ∧ Dom S H ∧ Post A S H p m x Q
def sp_m_take (A : Ads) : Sp := fun vs H Q _ => ∃ (p : Addr) (m : Mx.M) (S : Addr → Prop) (e : Nat), vs = [.ref p, .int (e : Int)] ∧ RowAt A S H p m ∧ Dom S H ∧ Post A S H p m (.take e) Q
def sp_m_lay (A : Ads) : Sp := fun vs H Q _ => ∃ (p : Addr) (m : Mx.M) (S : Addr → Prop) (l : List Nat) (v : Addr), vs = [.ref p, .ref v] ∧ H v = some (.lst (NL l)) ∧ S v ∧ RowAt A S H p m ∧ Dom S H ∧ Post A S H p m (.row l) Q
def sp_m_init (A : Ads) : Sp := fun vs H Q _ => ∃ (p dx : Addr), vs = [.ref p] ∧ H p = some (.ins A.C dx []) ∧ ∀ (H' : Hp) (a b c : Addr), At A H' p dx a b c Mx.M0 → H a = none → H b = none → H c = none →
  (∀ x o, H x = some o → x ≠ p → H' x = some o) → Q .non H'
section
variable {P : Program} {w : World} {K : PySem.W.Frag} {mg : Str → Option Value} {base : Heap} {A : Ads}

/-! ### __init__ -/
theorem ok_m_init (T : Txt K mg A) : FnOk P w K mg base CX0 1 A.f_m_init A.d_m_init ["self"] (sp_m_init A) := by
  refine T.F_m_init.ok sc_m_init (fun vs H Q E h => ?_) (fun cdv Ar outer s H vs Q E hr h => ?_)
  · obtain ⟨p, dx, rfl, _⟩ := h
    rfl
  · obtain ⟨p, dx, rfl, hp, k⟩ := h
    refine ⟨_, (pss_cons (ps_fld (pv 0) (pe_lst (pa_cons pe_int pa_nil)) rfl)
      (pss_cons (ps_fld (pv 0) (pe_lst pa_nil) rfl)
      (pss_one (ps_fld (pv 0) (pe_lst pa_nil) rfl)))), ?_⟩
    refine ⟨(by show 1 ≤ sizeLine; decide), fun a ha => ⟨_, rfl, p, A.C, dx, [], rfl, Same.new ha _ _ hp, T.cl, T.no_coins, (by show 0 < 1000; decide), ?_⟩⟩
    rw [rf_put0]
    have pa : p ≠ a := ne_of_none hp ha
    refine ⟨Nat.zero_le _, fun b hb => ⟨_, rfl, p, A.C, dx, _, rfl, Same.new hb _ _ upd_same, T.cl, T.no_taken, (by show 1 < 1000; decide), ?_⟩⟩
    rw [rf_put1]
    have pb : p ≠ b := ne_of_none upd_same hb
    have ab : a ≠ b := ne_of_none (show upd (upd H a _) p _ a = some _ by rw [upd_ne pa.symm]; exact upd_same) hb
    have hb0 : H b = none := by
      rw [upd_ne pb.symm, upd_ne ab.symm] at hb
      exact hb
    refine ⟨Nat.zero_le _, fun c hc => ⟨_, rfl, p, A.C, dx, _, rfl, Same.new hc _ _ upd_same, T.cl, T.no_ends, (by show 2 < 1000; decide), ?_⟩⟩
    rw [rf_put2]
    have pc : p ≠ c := ne_of_none upd_same hc
    have bc : b ≠ c := ne_of_none (show upd (upd (upd (upd H a _) p _) b _) p _ b = some _ by rw [upd_ne pb.symm]; exact upd_same) hc
    have ac : a ≠ c := ne_of_none (show upd (upd (upd (upd H a _) p _) b _) p _ a = some _ by rw [upd_ne pa.symm, upd_ne ab, upd_ne pa.symm]; exact upd_same) hc
    have hc0 : H c = none := by
      rw [upd_ne pc.symm, upd_ne bc.symm, upd_ne pc.symm, upd_ne ac.symm] at hc
      exact hc
    refine k _ a b c ⟨upd_same, ?_, ?_, ?_, ab, ac, bc⟩ ha hb0 hc0 fun x o e hx => ?_
    · rw [upd_ne pa.symm, upd_ne ac, upd_ne pa.symm, upd_ne ab, upd_ne pa.symm]
      exact upd_same
    · rw [upd_ne pb.symm, upd_ne bc, upd_ne pb.symm]
      exact upd_same
    · rw [upd_ne pc.symm]
      exact upd_same
    · rw [upd_ne hx, upd_ne (ne_of_none e hc0), upd_ne hx, upd_ne (ne_of_none e hb0), upd_ne hx, upd_ne (ne_of_none e ha)]
      exact e

/-! ### lay -/
theorem ok_m_lay (T : Txt K mg A) : FnOk P w K mg base CX0 2 A.f_m_lay A.d_m_lay ["self", "coins"] (sp_m_lay A) := by
  refine T.F_m_lay.ok sc_m_lay (fun vs H Q E h => ?_) (fun cdv Ar outer s H vs Q E hr h => ?_)
  · obtain ⟨p, m, S, l, v, rfl, _⟩ := h
    rfl
  · obtain ⟨p, m, S, l, v, rfl, hv, Sv, R, D, k⟩ := h
    obtain ⟨⟨dx, a, b, c, h, Sp, Sa, Sb, Sc⟩, few, en⟩ := id R
    refine ⟨_, (pss_cons (ps_if (pt_not (pt_val (pe_call (ok_can_lie T) (hr.mono (by decide)) rfl T.g_can_lie T.k_can_lie T.b_can_lie .nil pass0 (pa_cons (pv 1) pa_nil)))) (pss_one (ps_ret (pe_lst (pa_cons (pe_gint T.c_NO_SUCH_ROW rfl) pa_nil)))) pss_nil)
      (pss_cons (ps_fld (pv 0) (pe_callTy call_list_of rfl T.n_list PyProof.Rows.boot_list (pa_cons (pv 1) pa_nil)) rfl)
      (pss_cons (ps_fld (pv 0) (pe_lst pa_nil) rfl)
      (pss_cons (ps_fld (pv 0) (pe_lst pa_nil) rfl)
      (pss_one (ps_ret (pe_lst (pa_cons (pe_callB call_len_seq rfl T.n_len PySem.boot_len (pa_cons (pv 1) pa_nil)) pa_nil)))))))), ?_⟩
    have one : 1 ≤ sizeLine := by decide
    refine ⟨_, rfl, v, l, rfl, SqL.of hv, _, rfl, ?_⟩
    by_cases hrow : Ux01.isRow l = true
    · rw [hrow]
      refine iteF ⟨_, rfl, v, _, rfl, .inl (SqL.of hv), fun q hq => ⟨_, rfl, p, A.C, dx, _, rfl, Same.new hq _ _ h.p, T.cl, T.no_coins, (by show 3 < 1000; decide), ?_⟩⟩
      have Sq : ¬ S q := D.fresh hq
      have h1 := (h.same (Same.new (o := .lst (NL l)) hq)).setc upd_same (ne_of_none h.b hq).symm (ne_of_none h.c hq).symm
      have f1 : Fr S H (upd (upd H q (.lst (NL l))) p (.ins A.C dx (putF "coins" (.ref q) (rf a b c)))) := (Fr.upd Sq).trans (Fr.upd Sp)
      generalize upd (upd H q (.lst (NL l))) p (.ins A.C dx (putF "coins" (.ref q) (rf a b c))) = H1 at h1 f1
      refine ⟨Nat.zero_le _, fun t ht => ⟨_, rfl, p, A.C, dx, _, rfl, Same.new ht _ _ h1.p, T.cl, T.no_taken, (by show 3 < 1000; decide), ?_⟩⟩
      have St : ¬ S t := (D.fr f1).fresh ht
      have h2 := (h1.same (Same.new (o := .lst []) ht)).sett (tk := []) upd_same (ne_of_none h1.a ht) (ne_of_none h1.c ht).symm
      have f2 : Fr S H (upd (upd H1 t (.lst [])) p (.ins A.C dx (putF "taken" (.ref t) (rf q b c)))) := f1.trans ((Fr.upd St).trans (Fr.upd Sp))
      generalize upd (upd H1 t (.lst [])) p (.ins A.C dx (putF "taken" (.ref t) (rf q b c))) = H2 at h2 f2
      refine ⟨Nat.zero_le _, fun u hu => ⟨_, rfl, p, A.C, dx, _, rfl, Same.new hu _ _ h2.p, T.cl, T.no_ends, (by show 3 < 1000; decide), ?_⟩⟩
      have Su : ¬ S u := (D.fr f2).fresh hu
      have h3 := (h2.same (Same.new (o := .lst []) hu)).sete (en := []) upd_same (ne_of_none h2.a hu) (ne_of_none h2.b hu)
      have f3 : Fr S H (upd (upd H2 u (.lst [])) p (.ins A.C dx (putF "ends" (.ref u) (rf q t c)))) := f2.trans ((Fr.upd Su).trans (Fr.upd Sp))
      generalize upd (upd H2 u (.lst [])) p (.ins A.C dx (putF "ends" (.ref u) (rf q t c))) = H3 at h3 f3
      refine ⟨_, rfl, v, _, rfl, .inl (SqL.of (f3 v _ Sv hv)), one, fun r hr => ?_⟩
      have Sr : ¬ S r := (D.fr f3).fresh hr
      have es : Mx.mstep m (.row l) = (⟨l, [], []⟩, [(l.length : Int)]) := by
        show (if Ux01.isRow l = false then _ else _) = _
        rw [if_neg (by rw [hrow]; exact Bool.noConfusion)]
      unfold Post at k
      rw [es] at k
      have e16 : l.length ≤ 16 := by
        unfold Ux01.isRow at hrow
        simp only [Bool.and_eq_true, decide_eq_true_eq] at hrow
        exact hrow.2.1
      refine k _ r ⟨⟨dx, q, t, u, h3.same (Same.new hr), Sp, Sq, St, Su⟩, by simpa using e16, rfl⟩ Sr ?_ (f3.trans (Fr.upd Sr))
      rw [upd_same, NL_len]
      rfl
    · have hf : Ux01.isRow l = false := by simpa using hrow
      rw [hf]
      refine iteT ⟨one, fun r hr => ?_⟩
      have es : Mx.mstep m (.row l) = (m, [-1]) := by
        show (if Ux01.isRow l = false then _ else _) = _
        rw [if_pos hf]
      unfold Post at k
      rw [es] at k
      exact k _ r (R.same (Same.new hr)) (D.fresh hr) upd_same (Fr.same (Same.new hr))

/-! ### take -/
theorem ends_snoc (en : List Bool) (b : Bool) : EL en ++ [.int (Ux01.flag b : Int)] = EL (en ++ [b]) := by
  unfold EL IL ends
  rw [List.map_append, List.map_append]
  rfl
theorem NL_snoc (tk : List Nat) (x : Nat) : NL tk ++ [.int (x : Int)] = NL (tk ++ [x]) := by
  rw [NL_app]
  rfl
theorem ok_m_take (T : Txt K mg A) : FnOk P w K mg base CX0 2 A.f_m_take A.d_m_take ["self", "end"] (sp_m_take A) := by
  refine T.F_m_take.ok sc_m_take (fun vs H Q E h => ?_) (fun cdv Ar outer s H vs Q E hr h => ?_)
  · obtain ⟨p, m, S, e, rfl, _⟩ := h
    rfl
  · obtain ⟨p, m, S, e, rfl, R, D, k⟩ := h
    obtain ⟨⟨dx, a, b, c, h, Sp, Sa, Sb, Sc⟩, few, en⟩ := id R
    refine ⟨_, (pss_cons (ps_if (PW.pt (pw_and (pt_cmp (pc_neI (pv 1) (pe_gint T.c_LEFT rfl))) (pw_and1 (pt_cmp (pc_neI (pv 1) (pe_gint T.c_RIGHT rfl)))))) (pss_one (ps_ret (pe_lst (pa_cons (pe_gint T.c_NO_SUCH_END rfl) pa_nil)))) pss_nil)
      (pss_cons (ps_if (pt_cmp (pc_eqI (pe_callB call_len_seq rfl T.n_len PySem.boot_len (pa_cons (pe_fld (pv 0) rfl) pa_nil)) pe_int)) (pss_one (ps_ret (pe_lst (pa_cons (pe_gint T.c_NO_COIN rfl) pa_nil)))) pss_nil)
      (pss_cons (ps_set (i := 2) sc_m_take.nd rfl (Or.inl rfl) (pe_call (ok_end_coin T) (hr.mono (by decide)) rfl T.g_end_coin T.k_end_coin T.b_end_coin .nil pass0 (pa_cons (pe_fld (pv 0) rfl) (pa_cons (pv 1) pa_nil))))
      (pss_cons (ps_fld (pv 0) (pe_call (ok_without_end T) (hr.mono (by decide)) rfl T.g_without_end T.k_without_end T.b_without_end .nil pass0 (pa_cons (pe_fld (pv 0) rfl) (pa_cons (pv 1) pa_nil))) rfl)
      (pss_cons (ps_expr (pe_bm PySem.F.plainAttrs_list PySem.F.slot_list_append PySem.F.type_list_append mt_append (pe_fld (pv 0) rfl) (pa_cons (pv 2) pa_nil)))
      (pss_cons (ps_expr (pe_bm PySem.F.plainAttrs_list PySem.F.slot_list_append PySem.F.type_list_append mt_append (pe_fld (pv 0) rfl) (pa_cons (pv 1) pa_nil)))
      (pss_one (ps_ret (pe_lst (pa_cons (pv 2) pa_nil)))))))))), ?_⟩
    have one : 1 ≤ sizeLine := by decide
    have el := NL_len m.cs
    unfold Post at k
    by_cases he : 1 < e
    · have es : Mx.mstep m (.take e) = (m, [-1]) := by
        show (if 1 < e then _ else _) = _
        rw [if_pos he]
      rw [es] at k
      refine ⟨_, rfl, _, _, rfl, rfl, _, rfl, iteN (by omega) ⟨_, rfl, _, _, rfl, rfl, _, rfl, iteN (by omega) ⟨one, fun r hr => ?_⟩⟩⟩
      exact k _ r (R.same (Same.new hr)) (D.fresh hr) upd_same (Fr.same (Same.new hr))
    · obtain ⟨f, hf⟩ : ∃ f : Bool, e = Ux01.flag f ∧ (e == 1) = f := by
        rcases (show e = 0 ∨ e = 1 by omega) with rfl | rfl
        · exact ⟨false, rfl, rfl⟩
        · exact ⟨true, rfl, rfl⟩
      obtain ⟨rfl, hf⟩ := hf
      have go : ∀ {X Y : Prop}, Y → if (!decide (((Ux01.flag f : Nat) : Int) = 0)) = true then (∃ v, some (some (V.int ((Ux01.flag f : Nat) : Int))) = some (some v) ∧ ∃ i j, v = .int i ∧ V.int 1 = .int j ∧ ∃ c, V.bl (!decide (i = j)) = .bl c ∧ if c = true then X else Y) else Y := by
        intro X Y y
        cases f with
        | false => exact iteNS rfl y
        | true => exact iteN (by decide) ⟨_, rfl, _, _, rfl, rfl, _, rfl, iteNS rfl y⟩
      refine ⟨_, rfl, _, _, rfl, rfl, _, rfl, ?_⟩
      refine go ?_
      refine ⟨_, rfl, p, A.C, dx, _, _, rfl, h.p, T.cl, T.no_coins, rf_coins _ _ _, a, _, rfl, .inl (SqL.of h.a), _, _, rfl, rfl, _, rfl, iteD2 (fun hz => ⟨one, fun r hr => ?_⟩) (fun hz => ?_)⟩
      · have e0 : m.cs = [] := List.length_eq_zero_iff.mp (by omega)
        have es : Mx.mstep m (.take (Ux01.flag f)) = (m, [-6]) := by
          show (if 1 < Ux01.flag f then _ else _) = _
          rw [if_neg he, if_pos (by rw [e0]; rfl)]
        rw [es] at k
        exact k _ r (R.same (Same.new hr)) (D.fresh hr) upd_same (Fr.same (Same.new hr))
      · have hne : m.cs ≠ [] := fun z => hz (by rw [el, z]; rfl)
        have es : Mx.mstep m (.take (Ux01.flag f)) = (Mx.mtake m f, [(Ux01.coin m.cs f : Int)]) := by
          show (if 1 < Ux01.flag f then _ else _) = _
          rw [if_neg he, if_neg (by intro z; exact hne (List.isEmpty_iff.mp z)), hf]
        rw [es] at k
        refine ⟨_, rfl, p, A.C, dx, _, _, rfl, h.p, T.cl, T.no_coins, rf_coins _ _ _, _, rfl, a, m.cs, f, rfl, SqL.of h.a, hne, ?_⟩
        refine ⟨_, rfl, p, A.C, dx, _, _, rfl, h.p, T.cl, T.no_coins, rf_coins _ _ _, _, rfl, a, m.cs, f, rfl, SqL.of h.a, fun q hq => ⟨_, rfl, p, A.C, dx, _, rfl, Same.new hq _ _ h.p, T.cl, T.no_coins, (by show 3 < 1000; decide), ?_⟩⟩
        have Sq : ¬ S q := D.fresh hq
        have h1 := (h.same (Same.new (o := .lst (NL (Ux01.taken m.cs f))) hq)).setc upd_same (ne_of_none h.b hq).symm (ne_of_none h.c hq).symm
        have f1 : Fr S H (upd (upd H q (.lst (NL (Ux01.taken m.cs f)))) p (.ins A.C dx (putF "coins" (.ref q) (rf a b c)))) := (Fr.upd Sq).trans (Fr.upd Sp)
        generalize upd (upd H q (.lst (NL (Ux01.taken m.cs f)))) p (.ins A.C dx (putF "coins" (.ref q) (rf a b c))) = H1 at h1 f1
        have sz1 : (NL m.tk).length < sizeLine := by rw [NL_len]; exact Nat.lt_of_le_of_lt (show _ ≤ 16 by omega) (by decide)
        refine ⟨_, rfl, p, A.C, dx, _, _, rfl, h1.p, T.cl, T.no_taken, rf_taken _ _ _, .inl ⟨rfl, _, SqL.of h1.b⟩, _, rfl, b, _, _, rfl, rfl, h1.b, sz1, ?_⟩
        have h2 := h1.wrb (NL_snoc m.tk (Ux01.coin m.cs f))
        have f2 : Fr S H (upd H1 b (.lst (NL m.tk ++ [.int (Ux01.coin m.cs f : Int)]))) := f1.trans (Fr.upd Sb)
        generalize upd H1 b (.lst (NL m.tk ++ [.int (Ux01.coin m.cs f : Int)])) = H2 at h2 f2
        have sz2 : (EL m.en).length < sizeLine := by rw [IL_len, ends, List.length_map]; exact Nat.lt_of_le_of_lt (show _ ≤ 16 by omega) (by decide)
        refine ⟨_, rfl, p, A.C, dx, _, _, rfl, h2.p, T.cl, T.no_ends, rf_ends _ _ _, .inl ⟨rfl, _, SqL.of h2.c⟩, _, rfl, c, _, _, rfl, rfl, h2.c, sz2, ?_⟩
        have h3 := h2.wrc (ends_snoc m.en f)
        have f3 : Fr S H (upd H2 c (.lst (EL m.en ++ [.int (Ux01.flag f : Int)]))) := f2.trans (Fr.upd Sc)
        generalize upd H2 c (.lst (EL m.en ++ [.int (Ux01.flag f : Int)])) = H3 at h3 f3
        refine ⟨_, rfl, one, fun r hr => ?_⟩
        have Sr : ¬ S r := (D.fr f3).fresh hr
        refine k _ r ⟨⟨dx, q, b, c, h3.same (Same.new hr), Sp, Sq, Sb, Sc⟩, ?_, ?_⟩ Sr upd_same (f3.trans (Fr.upd Sr))
        · show (Ux01.taken m.cs f).length + (m.tk ++ [Ux01.coin m.cs f]).length ≤ 16
          have e1 : (m.tk ++ [Ux01.coin m.cs f]).length = m.tk.length + 1 := by simp
          have e2 : 0 < m.cs.length := List.length_pos_iff.mpr hne
          rw [Mx.taken_len, e1]
          omega
        · show (m.tk ++ [Ux01.coin m.cs f]).length = (m.en ++ [f]).length
          simp [en]
end
end My

end
section
set_option Elab.async false
set_option linter.all false
set_option maxRecDepth 100000
set_option maxHeartbeats 2000000

namespace My
open PySem PySem.Spec PyProof.Rows L2
open PySem.W (Codec)
theorem EL_dropLast (en : List Bool) : (EL en).dropLast = EL en.dropLast := by
  unfold EL IL ends
  rw [List.map_dropLast, List.map_dropLast]
theorem NL_last {tk : List Nat} (h : tk ≠ []) : (NL tk)[(NL tk).length - 1]? = some (.int (tk.getLastD 0 : Int)) := by
  rw [NL_len]
  refine NL_get ?_
  rw [← List.getLast?_eq_getElem?, List.getLastD_eq_getLast?, List.getLast?_eq_some_getLast h]
  rfl
theorem EL_last {en : List Bool} (h : en ≠ []) : (EL en)[(EL en).length - 1]? = some (.int (Ux01.flag (en.getLastD false) : Int)) := by
  have e : (EL en).length = en.length := by rw [IL_len, ends, List.length_map]
  have e2 : en[en.length - 1]? = some (en.getLastD false) := by
    rw [← List.getLast?_eq_getElem?, List.getLastD_eq_getLast?, List.getLast?_eq_some_getLast h]
    rfl
  rw [e]
  unfold EL IL ends
  rw [List.getElem?_map, List.getElem?_map, e2]
  rfl
theorem pick_odds (cs : List Nat) : pickV (NL cs) (some 0) none (some 2) = NL (Ux01.odds cs) := by
  have e := pick2 cs 0
  rw [List.drop_zero, ← Mx.odds_G] at e
  exact e
theorem pick_evens (cs : List Nat) : pickV (NL cs) (some 1) none (some 2) = NL (Ux01.evens cs) := by
  have e := pick2 cs 1
  rw [← Mx.odds_G] at e
  exact e
theorem small20 {n : Nat} (h : n ≤ 40) : n ≤ sizeLine := Nat.le_trans h (by decide)
section
variable {P : Program} {w : World} {K : PySem.W.Frag} {mg : Str → Option Value} {base : Heap} {A : Ads}

/-! ### back -/
theorem ok_m_back (T : Txt K mg A) : FnOk P w K mg base CX0 1 A.f_m_back A.d_m_back ["self"] (sp0 A .back) := by
  refine T.F_m_back.ok sc_m_back (fun vs H Q E h => ?_) (fun cdv Ar outer s H vs Q E hr h => ?_)
  · obtain ⟨p, m, S, rfl, _⟩ := h
    rfl
  · obtain ⟨p, m, S, rfl, R, D, k⟩ := h
    obtain ⟨⟨dx, a, b, c, h, Sp, Sa, Sb, Sc⟩, few, en⟩ := id R
    refine ⟨_, (pss_cons (ps_if (pt_cmp (pc_eqI (pe_callB call_len_seq rfl T.n_len PySem.boot_len (pa_cons (pe_fld (pv 0) rfl) pa_nil)) pe_int)) (pss_one (ps_ret (pe_lst (pa_cons (pe_gint T.c_NOTHING_TAKEN rfl) pa_nil)))) pss_nil)
      (pss_cons (ps_set (i := 1) sc_m_back.nd rfl (Or.inl rfl) (pe_bm0 PySem.F.plainAttrs_list PySem.F.slot_list_pop PySem.F.type_list_pop mt_pop (pe_fld (pv 0) rfl)))
      (pss_cons (ps_set (i := 2) sc_m_back.nd rfl (Or.inl rfl) (pe_bm0 PySem.F.plainAttrs_list PySem.F.slot_list_pop PySem.F.type_list_pop mt_pop (pe_fld (pv 0) rfl)))
      (pss_cons (ps_if (pt_cmp (pc_eqI (pv 2) (pe_gint T.c_LEFT rfl))) (pss_one (ps_fld (pv 0) (pe_op op_cat (pe_lst (pa_cons (pv 1) pa_nil)) (pe_fld (pv 0) rfl)) rfl)) (pss_one (ps_fld (pv 0) (pe_op op_cat (pe_fld (pv 0) rfl) (pe_lst (pa_cons (pv 1) pa_nil))) rfl)))
      (pss_one (ps_ret (pe_lst (pa_cons (pv 1) pa_nil)))))))), ?_⟩
    have one : 1 ≤ sizeLine := by decide
    have el := NL_len m.tk
    unfold Post at k
    refine ⟨_, rfl, p, A.C, dx, _, _, rfl, h.p, T.cl, T.no_taken, rf_taken _ _ _, b, _, rfl, .inl (SqL.of h.b), _, _, rfl, rfl, _, rfl, iteD2 (fun hz => ⟨one, fun r hr => ?_⟩) (fun hz => ?_)⟩
    · have e0 : m.en = [] := List.length_eq_zero_iff.mp (by omega)
      have es : Mx.mstep m .back = (m, [-9]) := by
        show (if m.en.isEmpty = true then _ else _) = _
        rw [if_pos (by rw [e0]; rfl)]
      rw [es] at k
      exact k _ r (R.same (Same.new hr)) (D.fresh hr) upd_same (Fr.same (Same.new hr))
    · have tne : m.tk ≠ [] := fun z => hz (by rw [el, z]; rfl)
      have ene : m.en ≠ [] := fun z => tne (List.length_eq_zero_iff.mp (by rw [en, z]; rfl))
      have es : Mx.mstep m .back = (Mx.mback m, [(m.tk.getLastD 0 : Int)]) := by
        show (if m.en.isEmpty = true then _ else _) = _
        rw [if_neg (by intro z; exact ene (List.isEmpty_iff.mp z))]
      rw [es] at k
      refine ⟨_, rfl, p, A.C, dx, _, _, rfl, h.p, T.cl, T.no_taken, rf_taken _ _ _, .inl ⟨rfl, _, SqL.of h.b⟩, b, _, _, rfl, rfl, h.b, NL_last tne, ?_⟩
      have h1 := h.wrb (NL_dropLast m.tk)
      have f1 : Fr S H (upd H b (.lst (NL m.tk).dropLast)) := Fr.upd Sb
      generalize upd H b (.lst (NL m.tk).dropLast) = H1 at h1 f1
      refine ⟨_, rfl, p, A.C, dx, _, _, rfl, h1.p, T.cl, T.no_ends, rf_ends _ _ _, .inl ⟨rfl, _, SqL.of h1.c⟩, c, _, _, rfl, rfl, h1.c, EL_last ene, ?_⟩
      have h2 := h1.wrc (EL_dropLast m.en)
      have f2 : Fr S H (upd H1 c (.lst (EL m.en).dropLast)) := f1.trans (Fr.upd Sc)
      generalize upd H1 c (.lst (EL m.en).dropLast) = H2 at h2 f2
      have e16 : (m.tk.getLastD 0 :: m.cs).length + m.tk.dropLast.length ≤ 16 := by
        have e1 : 0 < m.tk.length := List.length_pos_iff.mpr tne
        rw [List.length_dropLast, List.length_cons]
        omega
      have fin : ∀ (H' : Hp) (q : Addr), At A H' p dx q b c (Mx.mback m) → ¬ S q → Fr S H H' → ∀ r, H' r = none → Q (.ref r) (upd H' r (.lst [.int (m.tk.getLastD 0 : Int)])) := fun H' q hA Sq hF r hr => by
        have Sr : ¬ S r := (D.fr hF).fresh hr
        refine k _ r ⟨⟨dx, q, b, c, hA.same (Same.new hr), Sp, Sq, Sb, Sc⟩, ?_, ?_⟩ Sr upd_same (hF.trans (Fr.upd Sr))
        · show (if m.en.getLastD false = true then m.cs ++ [m.tk.getLastD 0] else m.tk.getLastD 0 :: m.cs).length + m.tk.dropLast.length ≤ 16
          split
          · rw [List.length_append]
            exact e16
          · exact e16
        · show m.tk.dropLast.length = m.en.dropLast.length
          rw [List.length_dropLast, List.length_dropLast, en]
      have few' : m.cs.length ≤ 16 := by omega
      refine ⟨_, rfl, _, _, rfl, rfl, _, rfl, ?_⟩
      cases hf : m.en.getLastD false with
      | false =>
        refine iteD rfl ⟨_, rfl, one, fun l hl => ?_⟩
        have h3 := h2.same (Same.new (o := .lst [.int (m.tk.getLastD 0 : Int)]) hl)
        refine ⟨_, rfl, p, A.C, dx, _, _, rfl, h3.p, T.cl, T.no_coins, rf_coins _ _ _, l, a, _, _, rfl, rfl, upd_same, h3.a, ?_, fun q hq => ?_⟩
        · rw [NL_len]
          exact small20 (show 1 + m.cs.length ≤ 40 by omega)
        have Sl : ¬ S l := (D.fr f2).fresh hl
        have f3 := f2.trans (Fr.upd (S := S) (o := .lst [.int (m.tk.getLastD 0 : Int)]) Sl)
        have Sq : ¬ S q := (D.fr f3).fresh hq
        have h4 := h3.same (Same.new (o := .lst ([.int (m.tk.getLastD 0 : Int)] ++ NL m.cs)) hq)
        refine ⟨_, rfl, p, A.C, dx, _, rfl, h4.p, T.cl, T.no_coins, (by show 3 < 1000; decide), ?_⟩
        have h5 := h4.setc (q := q) (cs := m.tk.getLastD 0 :: m.cs) upd_same (ne_of_none h3.b hq).symm (ne_of_none h3.c hq).symm
        refine ⟨_, rfl, one, fun r hr => fin _ q ?_ Sq (f3.trans ((Fr.upd Sq).trans (Fr.upd Sp))) r hr⟩
        unfold Mx.mback
        rw [hf, if_neg (by decide)]
        exact h5
      | true =>
        refine iteDF (by decide) ⟨_, rfl, p, A.C, dx, _, _, rfl, h2.p, T.cl, T.no_coins, rf_coins _ _ _, _, rfl, one, fun l hl => ?_⟩
        have h3 := h2.same (Same.new (o := .lst [.int (m.tk.getLastD 0 : Int)]) hl)
        refine ⟨a, l, _, _, rfl, rfl, h3.a, upd_same, ?_, fun q hq => ?_⟩
        · rw [NL_len]
          exact small20 (show m.cs.length + 1 ≤ 40 by omega)
        have Sl : ¬ S l := (D.fr f2).fresh hl
        have f3 := f2.trans (Fr.upd (S := S) (o := .lst [.int (m.tk.getLastD 0 : Int)]) Sl)
        have Sq : ¬ S q := (D.fr f3).fresh hq
        have h4 := h3.same (Same.new (o := .lst (NL m.cs ++ [.int (m.tk.getLastD 0 : Int)])) hq)
        refine ⟨_, rfl, p, A.C, dx, _, rfl, h4.p, T.cl, T.no_coins, (by show 3 < 1000; decide), ?_⟩
        have h5 := h4.setc (q := q) (cs := m.cs ++ [m.tk.getLastD 0]) (by rw [upd_same, NL_snoc]) (ne_of_none h3.b hq).symm (ne_of_none h3.c hq).symm
        refine ⟨_, rfl, one, fun r hr => fin _ q ?_ Sq (f3.trans ((Fr.upd Sq).trans (Fr.upd Sp))) r hr⟩
        unfold Mx.mback
        rw [hf, if_pos rfl]
        exact h5

/-! ### shows -/
theorem ok_m_shows (T : Txt K mg A) : FnOk P w K mg base CX0 1 A.f_m_shows A.d_m_shows ["self"] (sp0 A .shows) := by
  refine T.F_m_shows.ok sc_m_shows (fun vs H Q E h => ?_) (fun cdv Ar outer s H vs Q E hr h => ?_)
  · obtain ⟨p, m, S, rfl, _⟩ := h
    rfl
  · obtain ⟨p, m, S, rfl, R, D, k⟩ := h
    obtain ⟨⟨dx, a, b, c, h, Sp, Sa, Sb, Sc⟩, few, en⟩ := id R
    refine ⟨_, (pss_cons (ps_set (i := 1) sc_m_shows.nd rfl (Or.inl rfl) (pe_callB (cr_sum rfl) rfl T.n_sum PyProof.Rows.boot_sum (pa_cons (pe_sliceS (pe_fld (pv 0) rfl) (po_some pe_int) po_none pe_int) pa_nil)))
      (pss_cons (ps_set (i := 2) sc_m_shows.nd rfl (Or.inl rfl) (pe_callB (cr_sum rfl) rfl T.n_sum PyProof.Rows.boot_sum (pa_cons (pe_sliceS (pe_fld (pv 0) rfl) (po_some pe_int) po_none pe_int) pa_nil)))
      (pss_cons (ps_set (i := 3) sc_m_shows.nd rfl (Or.inl rfl) (pe_op op_add pe_int (pe_op op_mod (pe_callB call_len_seq rfl T.n_len PySem.boot_len (pa_cons (pe_fld (pv 0) rfl) pa_nil)) pe_int)))
      (pss_one (ps_ret (pe_op op_cat (pe_op op_cat (pe_lst (pa_cons (pe_callB call_len_seq rfl T.n_len PySem.boot_len (pa_cons (pe_fld (pv 0) rfl) pa_nil)) pa_nil)) (pe_fld (pv 0) rfl)) (pe_lst (pa_cons (pv 1) (pa_cons (pv 2) (pa_cons (pv 3) pa_nil)))))))))), ?_⟩
    have one : 1 ≤ sizeLine := by decide
    refine ⟨_, rfl, p, A.C, dx, _, _, rfl, h.p, T.cl, T.no_taken, rf_taken _ _ _, _, rfl, b, _, _, rfl, rfl, (by decide), SqL.of h.b, fun q1 hq1 => ?_⟩
    rw [pick_odds]
    have s1 : Same H (upd H q1 (.lst (NL (Ux01.odds m.tk)))) := Same.new hq1
    refine ⟨q1, Ux01.ints (Ux01.odds m.tk), rfl, SqL.of upd_same, ?_⟩
    generalize upd H q1 (.lst (NL (Ux01.odds m.tk))) = H1 at s1
    have h1 := h.same s1
    refine ⟨_, rfl, p, A.C, dx, _, _, rfl, h1.p, T.cl, T.no_taken, rf_taken _ _ _, _, rfl, b, _, _, rfl, rfl, (by decide), SqL.of h1.b, fun q2 hq2 => ?_⟩
    rw [pick_evens]
    have s2 : Same H (upd H1 q2 (.lst (NL (Ux01.evens m.tk)))) := s1.trans (Same.new hq2)
    refine ⟨q2, Ux01.ints (Ux01.evens m.tk), rfl, SqL.of upd_same, ?_⟩
    generalize upd H1 q2 (.lst (NL (Ux01.evens m.tk))) = H2 at s2
    have h2 := h.same s2
    refine ⟨_, rfl, p, A.C, dx, _, _, rfl, h2.p, T.cl, T.no_taken, rf_taken _ _ _, b, _, rfl, .inl (SqL.of h2.b), _, _, rfl, rfl, (by show (0 : Int) < 2; decide), _, _, rfl, rfl, ?_⟩
    refine ⟨_, rfl, p, A.C, dx, _, _, rfl, h2.p, T.cl, T.no_coins, rf_coins _ _ _, a, _, rfl, .inl (SqL.of h2.a), one, fun l1 hl1 => ?_⟩
    have h3 := h2.same (Same.new (o := .lst [.int ((NL m.cs).length : Int)]) hl1)
    refine ⟨_, rfl, p, A.C, dx, _, _, rfl, h3.p, T.cl, T.no_coins, rf_coins _ _ _, l1, a, _, _, rfl, rfl, upd_same, h3.a, ?_, fun l2 hl2 => ?_⟩
    · rw [NL_len]
      exact small20 (show 1 + _ ≤ 40 by omega)
    refine ⟨_, rfl, _, rfl, _, rfl, (by show 3 ≤ sizeLine; decide), fun l3 hl3 => ?_⟩
    refine ⟨l2, l3, _, _, rfl, rfl, Same.new hl3 _ _ upd_same, upd_same, ?_, fun r hr => ?_⟩
    · rw [List.length_append, NL_len]
      exact small20 (show 1 + _ + 3 ≤ 40 by omega)
    refine k _ r (R.same (s2.trans ((Same.new hl1).trans ((Same.new hl2).trans ((Same.new hl3).trans (Same.new hr)))))) (D.fresh (s2.free ((Same.new hl1).free ((Same.new hl2).free ((Same.new hl3).free hr))))) ?_
      (Fr.same (s2.trans ((Same.new hl1).trans ((Same.new hl2).trans ((Same.new hl3).trans (Same.new hr))))))
    have e1 : 1 + ((NL m.tk).length : Int) % 2 = if m.tk.length % 2 = 0 then 1 else 2 := by
      rw [NL_len]
      split <;> omega
    have e2 : IL (Mx.mstep m .shows).2 = [V.int (m.cs.length : Int)] ++ NL m.cs ++ [V.int (Ux01.total (Ux01.odds m.tk) : Int), V.int (Ux01.total (Ux01.evens m.tk) : Int), V.int (if m.tk.length % 2 = 0 then 1 else 2)] := by
      show IL ((m.cs.length : Int) :: Ux01.ints m.cs ++ [(Ux01.total (Ux01.odds m.tk) : Int), (Ux01.total (Ux01.evens m.tk) : Int), if m.tk.length % 2 = 0 then 1 else 2]) = _
      unfold IL
      rw [List.map_append]
      rfl
    rw [upd_same, e2]
    dsimp only
    rw [e1, Mx.total_ints, Mx.total_ints, NL_len]

/-! ### lead -/
theorem ok_m_lead (T : Txt K mg A) : FnOk P w K mg base CX0 3 A.f_m_lead A.d_m_lead ["self"] (sp0 A .lead) := by
  refine T.F_m_lead.ok sc_m_lead (fun vs H Q E h => ?_) (fun cdv Ar outer s H vs Q E hr h => ?_)
  · obtain ⟨p, m, S, rfl, _⟩ := h
    rfl
  · obtain ⟨p, m, S, rfl, R, D, k⟩ := h
    obtain ⟨⟨dx, a, b, c, h, Sp, Sa, Sb, Sc⟩, few, en⟩ := id R
    refine ⟨_, (pss_one (ps_ret (pe_call (ok_as_told T) (hr.mono (by decide)) rfl T.g_as_told T.k_as_told T.b_as_told .nil pass0 (pa_cons (pe_call (ok_lead_of T) (hr.mono (by decide)) rfl T.g_lead_of T.k_lead_of T.b_lead_of .nil pass0 (pa_cons (pe_fld (pv 0) rfl) pa_nil)) pa_nil)))), ?_⟩
    refine ⟨_, rfl, p, A.C, dx, _, _, rfl, h.p, T.cl, T.no_coins, rf_coins _ _ _, a, m.cs, rfl, SqL.of h.a, by omega, fun H1 s1 => ⟨_, rfl, fun r hr => ?_⟩⟩
    exact k _ r (R.same (s1.trans (Same.new hr))) (D.fresh (s1.free hr)) upd_same (Fr.same (s1.trans (Same.new hr)))

/-! ### best -/
theorem ok_m_best (T : Txt K mg A) : FnOk P w K mg base CX0 4 A.f_m_best A.d_m_best ["self"] (sp0 A .best) := by
  refine T.F_m_best.ok sc_m_best (fun vs H Q E h => ?_) (fun cdv Ar outer s H vs Q E hr h => ?_)
  · obtain ⟨p, m, S, rfl, _⟩ := h
    rfl
  · obtain ⟨p, m, S, rfl, R, D, k⟩ := h
    obtain ⟨⟨dx, a, b, c, h, Sp, Sa, Sb, Sc⟩, few, en⟩ := id R
    refine ⟨_, (pss_cons (ps_if (pt_cmp (pc_eqI (pe_callB call_len_seq rfl T.n_len PySem.boot_len (pa_cons (pe_fld (pv 0) rfl) pa_nil)) pe_int)) (pss_one (ps_ret (pe_lst (pa_cons (pe_gint T.c_NO_COIN rfl) pa_nil)))) pss_nil)
      (pss_cons (ps_set (i := 1) sc_m_best.nd rfl (Or.inl rfl) (pe_call (ok_best_end T) (hr.mono (by decide)) rfl T.g_best_end T.k_best_end T.b_best_end .nil pass0 (pa_cons (pe_fld (pv 0) rfl) pa_nil)))
      (pss_one (ps_ret (pe_op op_cat (pe_lst (pa_cons (pv 1) pa_nil)) (pe_call (ok_as_told T) (hr.mono (by decide)) rfl T.g_as_told T.k_as_told T.b_as_told .nil pass0 (pa_cons (pe_call (ok_lead_of T) (hr.mono (by decide)) rfl T.g_lead_of T.k_lead_of T.b_lead_of .nil pass0 (pa_cons (pe_call (ok_without_end T) (hr.mono (by decide)) rfl T.g_without_end T.k_without_end T.b_without_end .nil pass0 (pa_cons (pe_fld (pv 0) rfl) (pa_cons (pv 1) pa_nil))) pa_nil)) pa_nil))))))), ?_⟩
    have one : 1 ≤ sizeLine := by decide
    have el := NL_len m.cs
    unfold Post at k
    refine ⟨_, rfl, p, A.C, dx, _, _, rfl, h.p, T.cl, T.no_coins, rf_coins _ _ _, a, _, rfl, .inl (SqL.of h.a), _, _, rfl, rfl, _, rfl, iteD2 (fun hz => ⟨one, fun r hr => ?_⟩) (fun hz => ?_)⟩
    · have e0 : m.cs = [] := List.length_eq_zero_iff.mp (by omega)
      have es : Mx.mstep m .best = (m, [-6]) := by
        show (m, if m.cs.isEmpty = true then _ else _) = _
        rw [if_pos (by rw [e0]; rfl)]
      rw [es] at k
      exact k _ r (R.same (Same.new hr)) (D.fresh hr) upd_same (Fr.same (Same.new hr))
    · have hne : m.cs ≠ [] := fun z => hz (by rw [el, z]; rfl)
      have es : Mx.mstep m .best = (m, Ux01.ints (Ux01.flag (Ux01.best m.cs) :: Ux01.told (Mx.L (Ux01.taken m.cs (Ux01.best m.cs))))) := by
        show (m, if m.cs.isEmpty = true then _ else _) = _
        rw [if_neg (by intro z; exact hne (List.isEmpty_iff.mp z))]
      rw [es] at k
      refine ⟨_, rfl, p, A.C, dx, _, _, rfl, h.p, T.cl, T.no_coins, rf_coins _ _ _, a, m.cs, rfl, SqL.of h.a, hne, by omega, fun H1 s1 => ?_⟩
      refine ⟨_, rfl, one, fun l hl => ?_⟩
      have s2 : Same H (upd H1 l (.lst [.int (Ux01.flag (Ux01.best m.cs) : Int)])) := s1.trans (Same.new hl)
      have h2 := h.same s2
      refine ⟨_, rfl, p, A.C, dx, _, _, rfl, h2.p, T.cl, T.no_coins, rf_coins _ _ _, _, rfl, a, m.cs, _, rfl, SqL.of h2.a, fun q hq => ?_⟩
      refine ⟨q, _, rfl, SqL.of upd_same, by rw [Mx.taken_len]; omega, fun H3 s3 => ⟨_, rfl, fun t ht => ?_⟩⟩
      have s4 := (Same.new (o := .lst (NL (Ux01.taken m.cs (Ux01.best m.cs)))) hq).trans (s3.trans (Same.new (o := .lst (NL (Ux01.told (Mx.L (Ux01.taken m.cs (Ux01.best m.cs)))))) ht))
      refine ⟨l, t, _, _, rfl, rfl, s4 _ _ upd_same, upd_same, ?_, fun r hr => ?_⟩
      · rw [NL_len]
        exact small20 (show 1 + 2 ≤ 40 by decide)
      have s5 := s2.trans (s4.trans (Same.new (o := .lst ([.int (Ux01.flag (Ux01.best m.cs) : Int)] ++ NL (Ux01.told (Mx.L (Ux01.taken m.cs (Ux01.best m.cs)))))) hr))
      exact k _ r (R.same s5) (D.fresh ((s2.trans s4).free hr)) upd_same (Fr.same s5)

/-! ### gets -/
theorem ok_m_gets (T : Txt K mg A) : FnOk P w K mg base CX0 3 A.f_m_gets A.d_m_gets ["self"] (sp0 A .gets) := by
  refine T.F_m_gets.ok sc_m_gets (fun vs H Q E h => ?_) (fun cdv Ar outer s H vs Q E hr h => ?_)
  · obtain ⟨p, m, S, rfl, _⟩ := h
    rfl
  · obtain ⟨p, m, S, rfl, R, D, k⟩ := h
    obtain ⟨⟨dx, a, b, c, h, Sp, Sa, Sb, Sc⟩, few, en⟩ := id R
    refine ⟨_, (pss_cons (ps_set (i := 1) sc_m_gets.nd rfl (Or.inl rfl) (pe_callB (cr_sum rfl) rfl T.n_sum PyProof.Rows.boot_sum (pa_cons (pe_fld (pv 0) rfl) pa_nil)))
      (pss_cons (ps_set (i := 2) sc_m_gets.nd rfl (Or.inl rfl) (pe_op op_fdiv (pe_op op_add (pv 1) (pe_call (ok_lead_of T) (hr.mono (by decide)) rfl T.g_lead_of T.k_lead_of T.b_lead_of .nil pass0 (pa_cons (pe_fld (pv 0) rfl) pa_nil))) pe_int))
      (pss_one (ps_ret (pe_lst (pa_cons (pv 2) (pa_cons (pe_op op_sub (pv 1) (pv 2)) pa_nil))))))), ?_⟩
    refine ⟨_, rfl, p, A.C, dx, _, _, rfl, h.p, T.cl, T.no_coins, rf_coins _ _ _, a, Ux01.ints m.cs, rfl, SqL.of h.a, ?_⟩
    refine ⟨_, rfl, _, rfl, p, A.C, dx, _, _, rfl, h.p, T.cl, T.no_coins, rf_coins _ _ _, a, m.cs, rfl, SqL.of h.a, by omega, fun H1 s1 => ⟨_, _, rfl, rfl, _, _, rfl, rfl, ⟨by decide, by decide⟩, ?_⟩⟩
    refine ⟨_, rfl, _, rfl, _, rfl, _, _, rfl, rfl, (by show 2 ≤ sizeLine; decide), fun r hr => ?_⟩
    refine k _ r (R.same (s1.trans (Same.new hr))) (D.fresh (s1.free hr)) ?_ (Fr.same (s1.trans (Same.new hr)))
    have e1 : ((Ux01.ints m.cs).sum + Mx.L m.cs) / 2 = (Mx.G m.cs : Int) := by
      rw [Mx.total_ints]
      unfold Mx.L
      omega
    have e2 := Mx.G_total m.cs
    have e3 : (Ux01.ints m.cs).sum - (Mx.G m.cs : Int) = ((Ux01.total m.cs - Mx.G m.cs : Nat) : Int) := by
      rw [Mx.total_ints]
      omega
    rw [upd_same]
    dsimp only
    rw [e1, e3]
    rfl
end
end My

end
section
set_option Elab.async false
set_option linter.all false
set_option maxRecDepth 100000
set_option maxHeartbeats 2000000

namespace My
open PySem PySem.Spec PyProof.Rows L2
open PySem.W (Codec)
section
variable {P : Program} {w : World} {K : PySem.W.Frag} {mg : Str → Option Value} {base : Heap} {A : Ads}

/-! ### games -/
theorem ok_m_games (T : Txt K mg A) : FnOk P w K mg base CX0 3 A.f_m_games A.d_m_games ["self"] (sp0 A .games) := by
  refine T.F_m_games.ok sc_m_games (fun vs H Q E h => ?_) (fun cdv Ar outer s H vs Q E hr h => ?_)
  · obtain ⟨p, m, S, rfl, _⟩ := h
    rfl
  · obtain ⟨p, m, S, rfl, R, D, k⟩ := h
    obtain ⟨⟨dx, a, b, c, h, Sp, Sa, Sb, Sc⟩, few, en⟩ := id R
    refine ⟨_, (pss_one (ps_ret (pe_lst (pa_cons (pe_call (ok_games_of T) (hr.mono (by decide)) rfl T.g_games_of T.k_games_of T.b_games_of .nil pass0 (pa_cons (pe_fld (pv 0) rfl) pa_nil)) pa_nil)))), ?_⟩
    have one : 1 ≤ sizeLine := by decide
    refine ⟨_, rfl, p, A.C, dx, _, _, rfl, h.p, T.cl, T.no_coins, rf_coins _ _ _, a, m.cs, rfl, SqL.of h.a, by omega, fun H1 s1 => ⟨one, fun r hr => ?_⟩⟩
    exact k _ r (R.same (s1.trans (Same.new hr))) (D.fresh (s1.free hr)) upd_same (Fr.same (s1.trans (Same.new hr)))

/-! ### play -/
theorem ok_m_play (T : Txt K mg A) : FnOk P w K mg base CX0 4 A.f_m_play A.d_m_play ["self"] (sp0 A .play) := by
  refine T.F_m_play.ok sc_m_play (fun vs H Q E h => ?_) (fun cdv Ar outer s H vs Q E hr h => ?_)
  · obtain ⟨p, m, S, rfl, _⟩ := h
    rfl
  · obtain ⟨p, m, S, rfl, R, D, k⟩ := h
    obtain ⟨⟨dx, a, b, c, h, Sp, Sa, Sb, Sc⟩, few, en⟩ := id R
    refine ⟨_, (pss_cons (ps_if (pt_cmp (pc_eqI (pe_callB call_len_seq rfl T.n_len PySem.boot_len (pa_cons (pe_fld (pv 0) rfl) pa_nil)) pe_int)) (pss_one (ps_ret (pe_lst (pa_cons (pe_gint T.c_NO_COIN rfl) pa_nil)))) pss_nil)
      (pss_one (ps_ret (pe_meth (pv 0) T.cl T.me_m_take (ok_m_take T) (hr.mono (by decide)) T.b_m_take .nil pass0 (pa_cons (pe_call (ok_best_end T) (hr.mono (by decide)) rfl T.g_best_end T.k_best_end T.b_best_end .nil pass0 (pa_cons (pe_fld (pv 0) rfl) pa_nil)) pa_nil))))), ?_⟩
    have one : 1 ≤ sizeLine := by decide
    have el := NL_len m.cs
    unfold Post at k
    refine ⟨_, rfl, p, A.C, dx, _, _, rfl, h.p, T.cl, T.no_coins, rf_coins _ _ _, a, _, rfl, .inl (SqL.of h.a), _, _, rfl, rfl, _, rfl, iteD2 (fun hz => ⟨one, fun r hr => ?_⟩) (fun hz => ?_)⟩
    · have e0 : m.cs = [] := List.length_eq_zero_iff.mp (by omega)
      have es : Mx.mstep m .play = (m, [-6]) := by
        show (if m.cs.isEmpty = true then _ else _) = _
        rw [if_pos (by rw [e0]; rfl)]
      rw [es] at k
      exact k _ r (R.same (Same.new hr)) (D.fresh hr) upd_same (Fr.same (Same.new hr))
    · have hne : m.cs ≠ [] := fun z => hz (by rw [el, z]; rfl)
      have es : Mx.mstep m .play = Mx.mstep m (.take (Ux01.flag (Ux01.best m.cs))) := by
        show (if m.cs.isEmpty = true then _ else _) = (if 1 < Ux01.flag (Ux01.best m.cs) then _ else if m.cs.isEmpty = true then _ else _)
        have e2 : m.cs.isEmpty = false := by
          cases e : m.cs with
          | nil => exact absurd e hne
          | cons _ _ => rfl
        rw [e2]
        cases Ux01.best m.cs <;> rfl
      rw [es] at k
      refine ⟨_, rfl, p, dx, _, rfl, h.p, rf_no _ _ _ (by decide +kernel) (by decide +kernel) (by decide +kernel), ?_⟩
      refine ⟨_, rfl, p, A.C, dx, _, _, rfl, h.p, T.cl, T.no_coins, rf_coins _ _ _, a, m.cs, rfl, SqL.of h.a, hne, by omega, fun H1 s1 => ?_⟩
      exact ⟨p, m, S, _, rfl, R.same s1, D.fr (Fr.same s1), fun H' q R' Sq hq f => k H' q R' Sq hq ((Fr.same s1).trans f)⟩

/-! ### places -/
theorem ok_m_places (T : Txt K mg A) : FnOk P w K mg base CX0 1 A.f_m_places A.d_m_places ["self"] (sp0 A .places) := by
  refine T.F_m_places.ok sc_m_places (fun vs H Q E h => ?_) (fun cdv Ar outer s H vs Q E hr h => ?_)
  · obtain ⟨p, m, S, rfl, _⟩ := h
    rfl
  · obtain ⟨p, m, S, rfl, R, D, k⟩ := h
    obtain ⟨⟨dx, a, b, c, h, Sp, Sa, Sb, Sc⟩, few, en⟩ := id R
    refine ⟨_, (pss_one (ps_ret (pe_lst (pa_cons (pe_callB (cr_sum rfl) rfl T.n_sum PyProof.Rows.boot_sum (pa_cons (pe_sliceS (pe_fld (pv 0) rfl) (po_some pe_int) po_none pe_int) pa_nil)) (pa_cons (pe_callB (cr_sum rfl) rfl T.n_sum PyProof.Rows.boot_sum (pa_cons (pe_sliceS (pe_fld (pv 0) rfl) (po_some pe_int) po_none pe_int) pa_nil)) pa_nil))))), ?_⟩
    refine ⟨_, rfl, p, A.C, dx, _, _, rfl, h.p, T.cl, T.no_coins, rf_coins _ _ _, _, rfl, a, _, _, rfl, rfl, (by decide), SqL.of h.a, fun q1 hq1 => ?_⟩
    rw [pick_odds]
    have s1 : Same H (upd H q1 (.lst (NL (Ux01.odds m.cs)))) := Same.new hq1
    refine ⟨q1, Ux01.ints (Ux01.odds m.cs), rfl, SqL.of upd_same, ?_⟩
    generalize upd H q1 (.lst (NL (Ux01.odds m.cs))) = H1 at s1
    have h1 := h.same s1
    refine ⟨_, rfl, p, A.C, dx, _, _, rfl, h1.p, T.cl, T.no_coins, rf_coins _ _ _, _, rfl, a, _, _, rfl, rfl, (by decide), SqL.of h1.a, fun q2 hq2 => ?_⟩
    rw [pick_evens]
    have s2 : Same H (upd H1 q2 (.lst (NL (Ux01.evens m.cs)))) := s1.trans (Same.new hq2)
    refine ⟨q2, Ux01.ints (Ux01.evens m.cs), rfl, SqL.of upd_same, ?_⟩
    generalize upd H1 q2 (.lst (NL (Ux01.evens m.cs))) = H2 at s2
    refine ⟨(by show 2 ≤ sizeLine; decide), fun r hr => ?_⟩
    refine k _ r (R.same (s2.trans (Same.new hr))) (D.fresh (s2.free hr)) ?_ (Fr.same (s2.trans (Same.new hr)))
    rw [upd_same, Mx.total_ints, Mx.total_ints]
    rfl

/-! ### greedy -/
theorem ok_m_greedy (T : Txt K mg A) : FnOk P w K mg base CX0 3 A.f_m_greedy A.d_m_greedy ["self"] (sp0 A .greedy) := by
  refine T.F_m_greedy.ok sc_m_greedy (fun vs H Q E h => ?_) (fun cdv Ar outer s H vs Q E hr h => ?_)
  · obtain ⟨p, m, S, rfl, _⟩ := h
    rfl
  · obtain ⟨p, m, S, rfl, R, D, k⟩ := h
    obtain ⟨⟨dx, a, b, c, h, Sp, Sa, Sb, Sc⟩, few, en⟩ := id R
    refine ⟨_, (pss_cons (ps_set (i := 1) sc_m_greedy.nd rfl (Or.inl rfl) (pe_call (ok_taken_by_greed T) (hr.mono (by decide)) rfl T.g_taken_by_greed T.k_taken_by_greed T.b_taken_by_greed .nil pass0 (pa_cons (pe_fld (pv 0) rfl) pa_nil)))
      (pss_one (ps_ret (pe_lst (pa_cons (pe_callB (cr_sum rfl) rfl T.n_sum PyProof.Rows.boot_sum (pa_cons (pe_sliceS (pv 1) (po_some pe_int) po_none pe_int) pa_nil)) (pa_cons (pe_callB (cr_sum rfl) rfl T.n_sum PyProof.Rows.boot_sum (pa_cons (pe_sliceS (pv 1) (po_some pe_int) po_none pe_int) pa_nil)) pa_nil)))))), ?_⟩
    refine ⟨_, rfl, p, A.C, dx, _, _, rfl, h.p, T.cl, T.no_coins, rf_coins _ _ _, a, m.cs, rfl, h.a, by omega, fun H0 t s0 nt ht => ?_⟩
    refine ⟨_, rfl, _, rfl, t, _, _, rfl, rfl, (by decide), SqL.of ht, fun q1 hq1 => ?_⟩
    rw [pick_odds]
    have s1 : Same H (upd H0 q1 (.lst (NL (Ux01.odds (Mx.TG m.cs))))) := s0.trans (Same.new hq1)
    have ht1 := (Same.new (o := .lst (NL (Ux01.odds (Mx.TG m.cs)))) hq1) _ _ ht
    refine ⟨q1, Ux01.ints (Ux01.odds (Mx.TG m.cs)), rfl, SqL.of upd_same, ?_⟩
    generalize upd H0 q1 (.lst (NL (Ux01.odds (Mx.TG m.cs)))) = H1 at s1 ht1
    refine ⟨_, rfl, _, rfl, t, _, _, rfl, rfl, (by decide), SqL.of ht1, fun q2 hq2 => ?_⟩
    rw [pick_evens]
    have s2 : Same H (upd H1 q2 (.lst (NL (Ux01.evens (Mx.TG m.cs))))) := s1.trans (Same.new hq2)
    refine ⟨q2, Ux01.ints (Ux01.evens (Mx.TG m.cs)), rfl, SqL.of upd_same, ?_⟩
    generalize upd H1 q2 (.lst (NL (Ux01.evens (Mx.TG m.cs)))) = H2 at s2
    refine ⟨(by show 2 ≤ sizeLine; decide), fun r hr => ?_⟩
    refine k _ r (R.same (s2.trans (Same.new hr))) (D.fresh (s2.free hr)) ?_ (Fr.same (s2.trans (Same.new hr)))
    have e := Mx.TG_Gr m.cs.length m.cs rfl
    rw [upd_same, Mx.total_ints, Mx.total_ints, e.1, e.2]
    rfl

/-! ### beat -/
theorem ok_m_beat (T : Txt K mg A) : FnOk P w K mg base CX0 4 A.f_m_beat A.d_m_beat ["self"] (sp0 A .beat) := by
  refine T.F_m_beat.ok sc_m_beat (fun vs H Q E h => ?_) (fun cdv Ar outer s H vs Q E hr h => ?_)
  · obtain ⟨p, m, S, rfl, _⟩ := h
    rfl
  · obtain ⟨p, m, S, rfl, R, D, k⟩ := h
    obtain ⟨⟨dx, a, b, c, h, Sp, Sa, Sb, Sc⟩, few, en⟩ := id R
    refine ⟨_, (pss_cons (ps_if (pt_cmp (pc_eqI (pe_callB call_len_seq rfl T.n_len PySem.boot_len (pa_cons (pe_fld (pv 0) rfl) pa_nil)) pe_int)) (pss_one (ps_ret (pe_lst (pa_cons (pe_gint T.c_NO_COIN rfl) pa_nil)))) pss_nil)
      (pss_cons (ps_set (i := 1) sc_m_beat.nd rfl (Or.inl rfl) (pe_op op_add (pe_ix ix_list (pe_fld (pv 0) rfl) pe_int (fun _ _ => rfl)) (pe_call (ok_share_behind_greedy T) (hr.mono (by decide)) rfl T.g_share_behind_greedy T.k_share_behind_greedy T.b_share_behind_greedy .nil pass0 (pa_cons (pe_slice sl_list (pe_fld (pv 0) rfl) (po_some pe_int) po_none) pa_nil))))
      (pss_cons (ps_set (i := 2) sc_m_beat.nd rfl (Or.inl rfl) (pe_op op_add (pe_ix ix_list (pe_fld (pv 0) rfl) (pe_un un_neg pe_int) (fun _ _ => rfl)) (pe_call (ok_share_behind_greedy T) (hr.mono (by decide)) rfl T.g_share_behind_greedy T.k_share_behind_greedy T.b_share_behind_greedy .nil pass0 (pa_cons (pe_slice sl_list (pe_fld (pv 0) rfl) po_none (po_some (pe_un un_neg pe_int))) pa_nil))))
      (pss_cons (ps_if (pt_cmp (pc_ge (pv 1) (pv 2))) (pss_one (ps_ret (pe_lst (pa_cons (pv 1) (pa_cons (pe_gint T.c_LEFT rfl) pa_nil))))) pss_nil)
      (pss_one (ps_ret (pe_lst (pa_cons (pv 2) (pa_cons (pe_gint T.c_RIGHT rfl) pa_nil))))))))), ?_⟩
    have one : 1 ≤ sizeLine := by decide
    have two : 2 ≤ sizeLine := by decide
    have el := NL_len m.cs
    unfold Post at k
    refine ⟨_, rfl, p, A.C, dx, _, _, rfl, h.p, T.cl, T.no_coins, rf_coins _ _ _, a, _, rfl, .inl (SqL.of h.a), _, _, rfl, rfl, _, rfl, iteD2 (fun hz => ⟨one, fun r hr => ?_⟩) (fun hz => ?_)⟩
    · have e0 : m.cs = [] := List.length_eq_zero_iff.mp (by omega)
      have es : Mx.mstep m .beat = (m, [-6]) := by
        show (m, if m.cs.isEmpty = true then _ else _) = _
        rw [if_pos (by rw [e0]; rfl)]
      rw [es] at k
      exact k _ r (R.same (Same.new hr)) (D.fresh hr) upd_same (Fr.same (Same.new hr))
    · have hne : m.cs ≠ [] := fun z => hz (by rw [el, z]; rfl)
      have es : Mx.mstep m .beat = (m, Ux01.ints [Ux01.beatBy m.cs (decide (Ux01.beatBy m.cs false < Ux01.beatBy m.cs true)), Ux01.flag (decide (Ux01.beatBy m.cs false < Ux01.beatBy m.cs true))]) := by
        show (m, if m.cs.isEmpty = true then _ else _) = _
        rw [if_neg (by intro z; exact hne (List.isEmpty_iff.mp z))]
      rw [es] at k
      have b0 := Mx.beatBy_O m.cs false
      have b1 := Mx.beatBy_O m.cs true
      refine ⟨_, rfl, p, A.C, dx, _, _, rfl, h.p, T.cl, T.no_coins, rf_coins _ _ _, _, _, _, _, rfl, rfl, SqL.of h.a, at0 hne, ?_⟩
      refine ⟨_, rfl, p, A.C, dx, _, _, rfl, h.p, T.cl, T.no_coins, rf_coins _ _ _, _, rfl, a, _, rfl, SqL.of h.a, fun q hq => ?_⟩
      rw [NL_taken_false]
      refine ⟨q, _, rfl, SqL.of upd_same, by rw [Mx.taken_len]; omega, fun H1 s1 => ⟨_, _, rfl, rfl, ?_⟩⟩
      have s1' : Same H H1 := (Same.new hq).trans s1
      have h1 := h.same s1'
      refine ⟨_, rfl, p, A.C, dx, _, _, rfl, h1.p, T.cl, T.no_coins, rf_coins _ _ _, _, rfl, _, _, _, _, rfl, rfl, SqL.of h1.a, atI_end hne, ?_⟩
      refine ⟨_, rfl, p, A.C, dx, _, _, rfl, h1.p, T.cl, T.no_coins, rf_coins _ _ _, _, rfl, _, rfl, a, _, rfl, SqL.of h1.a, fun q2 hq2 => ?_⟩
      rw [show ((-1 : Int)) = -1 from rfl, NL_taken_true]
      refine ⟨q2, _, rfl, SqL.of upd_same, by rw [Mx.taken_len]; omega, fun H2 s2 => ⟨_, _, rfl, rfl, ?_⟩⟩
      have s2' : Same H H2 := s1'.trans ((Same.new hq2).trans s2)
      refine ⟨_, rfl, _, rfl, _, _, rfl, rfl, _, rfl, iteD2 (fun hc => ⟨_, rfl, two, fun r hr => ?_⟩) (fun hc => ⟨_, rfl, two, fun r hr => ?_⟩)⟩
      · rw [decide_eq_false (show ¬ Ux01.beatBy m.cs false < Ux01.beatBy m.cs true by omega)] at k
        refine k _ r (R.same (s2'.trans (Same.new hr))) (D.fresh (s2'.free hr)) ?_ (Fr.same (s2'.trans (Same.new hr)))
        rw [upd_same]
        dsimp only
        rw [← b0]
        rfl
      · rw [decide_eq_true (show Ux01.beatBy m.cs false < Ux01.beatBy m.cs true by omega)] at k
        refine k _ r (R.same (s2'.trans (Same.new hr))) (D.fresh (s2'.free hr)) ?_ (Fr.same (s2'.trans (Same.new hr)))
        rw [upd_same]
        dsimp only
        rw [← b1]
        rfl

/-! ### swap -/
def sp_m_swap (A : Ads) : Sp := fun vs H Q _ => ∃ (p : Addr) (m : Mx.M) (S : Addr → Prop) (i j : Nat), vs = [.ref p, .int (i : Int), .int (j : Int)] ∧ RowAt A S H p m ∧ Dom S H ∧ Post A S H p m (.swap i j) Q
theorem ok_m_swap (T : Txt K mg A) : FnOk P w K mg base CX0 3 A.f_m_swap A.d_m_swap ["self", "i", "j"] (sp_m_swap A) := by
  refine T.F_m_swap.ok sc_m_swap (fun vs H Q E h => ?_) (fun cdv Ar outer s H vs Q E hr h => ?_)
  · obtain ⟨p, m, S, i, j, rfl, _⟩ := h
    rfl
  · obtain ⟨p, m, S, i, j, rfl, R, D, k⟩ := h
    obtain ⟨⟨dx, a, b, c, h, Sp, Sa, Sb, Sc⟩, few, en⟩ := id R
    refine ⟨_, (pss_cons (ps_if (PW.pt (pw_or (pt_not (pt_val (pe_call (ok_is_place T) (hr.mono (by decide)) rfl T.g_is_place T.k_is_place T.b_is_place .nil pass0 (pa_cons (pe_fld (pv 0) rfl) (pa_cons (pv 1) pa_nil))))) (pw_or1 (pt_not (pt_val (pe_call (ok_is_place T) (hr.mono (by decide)) rfl T.g_is_place T.k_is_place T.b_is_place .nil pass0 (pa_cons (pe_fld (pv 0) rfl) (pa_cons (pv 2) pa_nil)))))))) (pss_one (ps_ret (pe_lst (pa_cons (pe_gint T.c_NO_SUCH_PLACE rfl) pa_nil)))) pss_nil)
      (pss_one (ps_ret (pe_call (ok_as_told T) (hr.mono (by decide)) rfl T.g_as_told T.k_as_told T.b_as_told .nil pass0 (pa_cons (pe_call (ok_lead_of T) (hr.mono (by decide)) rfl T.g_lead_of T.k_lead_of T.b_lead_of .nil pass0 (pa_cons (pe_call (ok_swapped T) (hr.mono (by decide)) rfl T.g_swapped T.k_swapped T.b_swapped .nil pass0 (pa_cons (pe_fld (pv 0) rfl) (pa_cons (pv 1) (pa_cons (pv 2) pa_nil)))) pa_nil)) pa_nil))))), ?_⟩
    have one : 1 ≤ sizeLine := by decide
    unfold Post at k
    have bad : ¬ ((1 ≤ i ∧ i ≤ m.cs.length) ∧ (1 ≤ j ∧ j ≤ m.cs.length)) → ∀ r, H r = none → Q (.ref r) (upd H r (.lst [.int (-2)])) := fun z r hr => by
      have es : Mx.mstep m (.swap i j) = (m, [-2]) := by
        show (m, if i < 1 ∨ m.cs.length < i ∨ j < 1 ∨ m.cs.length < j then _ else _) = _
        rw [if_pos (by omega)]
      rw [es] at k
      exact k _ r (R.same (Same.new hr)) (D.fresh hr) upd_same (Fr.same (Same.new hr))
    refine ⟨_, rfl, p, A.C, dx, _, _, rfl, h.p, T.cl, T.no_coins, rf_coins _ _ _, _, rfl, a, m.cs, i, rfl, SqL.of h.a, _, rfl, ?_⟩
    by_cases hi : 1 ≤ i ∧ i ≤ m.cs.length
    · refine iteNS hi ⟨_, rfl, p, A.C, dx, _, _, rfl, h.p, T.cl, T.no_coins, rf_coins _ _ _, _, rfl, a, m.cs, j, rfl, SqL.of h.a, _, rfl, ?_⟩
      by_cases hj : 1 ≤ j ∧ j ≤ m.cs.length
      · refine iteNS hj ?_
        have es : Mx.mstep m (.swap i j) = (m, Ux01.ints (Ux01.told (Mx.L (Ux01.swapped m.cs (i - 1) (j - 1))))) := by
          show (m, if i < 1 ∨ m.cs.length < i ∨ j < 1 ∨ m.cs.length < j then _ else _) = _
          rw [if_neg (by omega)]
        rw [es] at k
        refine ⟨_, rfl, p, A.C, dx, _, _, rfl, h.p, T.cl, T.no_coins, rf_coins _ _ _, _, rfl, _, rfl, a, m.cs, i, j, rfl, SqL.of h.a, hi, hj, fun H1 q s1 _ hq => ?_⟩
        refine ⟨q, _, rfl, SqL.of hq, by rw [Mx.swapped_len]; omega, fun H2 s2 => ⟨_, rfl, fun r hr => ?_⟩⟩
        have s3 := s1.trans s2
        exact k _ r (R.same (s3.trans (Same.new hr))) (D.fresh (s3.free hr)) upd_same (Fr.same (s3.trans (Same.new hr)))
      · exact iteN hj ⟨one, fun r hr => bad (fun z => hj z.2) r hr⟩
    · exact iteN hi (iteT ⟨one, fun r hr => bad (fun z => hi z.1) r hr⟩)
end
end My

end
section
set_option Elab.async false
set_option linter.all false
set_option maxRecDepth 100000
set_option maxHeartbeats 2000000

namespace My
open PySem PySem.Spec PyProof.Rows L2
open PySem.W (Codec)
section
variable {P : Program} {w : World} {K : PySem.W.Frag} {mg : Str → Option Value} {base : Heap} {A : Ads}

/-! ### call_size -/
def sp_call_size (K : PySem.W.Frag) : Sp := fun vs H Q _ => ∃ (a : Addr) (ns : List Int) (i : Nat) (x : Ux01.Call) (pre t : List Int), vs = [.ref a, .int (i : Int)] ∧ SqL K H a (IL ns) ∧ ns.drop i = pre ++ t ∧ Mx.Form pre x [] ∧ Q (.int (pre.length : Int)) H
theorem ok_call_size (T : Txt K mg A) : FnOk P w K mg base CX0 1 A.f_call_size A.d_call_size ["calls", "at"] (sp_call_size K) := by
  refine T.F_call_size.ok sc_call_size (fun vs H Q E h => ?_) (fun cdv Ar outer s H vs Q E hr h => ?_)
  · obtain ⟨a, ns, i, x, pre, t, rfl, _⟩ := h
    rfl
  · obtain ⟨a, ns, i, x, pre, t, rfl, hs, hd, hf, k⟩ := h
    refine ⟨_, (pss_cons (ps_if (pt_cmp (pc_eqI (pe_ix ix_list (pv 0) (pv 1) (fun _ _ => rfl)) (pe_gint T.c_ROW rfl))) (pss_one (ps_ret (pe_op op_add pe_int (pe_ix ix_list (pv 0) (pe_op op_add (pv 1) pe_int) (fun _ _ => rfl))))) pss_nil)
      (pss_cons (ps_if (pt_cmp (pc_eqI (pe_ix ix_list (pv 0) (pv 1) (fun _ _ => rfl)) (pe_gint T.c_TAKE rfl))) (pss_one (ps_ret pe_int)) pss_nil)
      (pss_cons (ps_if (pt_cmp (pc_eqI (pe_ix ix_list (pv 0) (pv 1) (fun _ _ => rfl)) (pe_gint T.c_SWAP rfl))) (pss_one (ps_ret pe_int)) pss_nil)
      (pss_one (ps_ret pe_int))))), ?_⟩
    obtain ⟨n, r, hn⟩ : ∃ n r, pre = n :: r := by cases hf <;> exact ⟨_, _, rfl⟩
    have hg : ns[i]? = some n := (Mx.drop_get (by rw [hd, hn]; rfl)).1
    have h0 : atI (IL ns) (i : Int) = some (.int n) := atI_nat (IL_get hg)
    refine ⟨_, rfl, _, rfl, _, _, _, _, rfl, rfl, hs, h0, _, _, rfl, rfl, _, rfl, iteD2 (fun c0 => ?_) (fun c0 => ⟨_, rfl, _, rfl, _, _, _, _, rfl, rfl, hs, h0, _, _, rfl, rfl, _, rfl, iteD2 (fun c1 => ?_) (fun c1 => ⟨_, rfl, _, rfl, _, _, _, _, rfl, rfl, hs, h0, _, _, rfl, rfl, _, rfl, iteD2 (fun c2 => ?_) (fun c2 => ?_)⟩)⟩)⟩
    · subst c0
      subst hn
      cases hf with
      | row vs _ hl =>
        have h1 : ns[i + 1]? = some (vs.length : Int) := (Mx.drop_get (Mx.drop_get (show ns.drop i = 0 :: _ from hd)).2).1
        refine ⟨_, rfl, _, rfl, _, _, rfl, rfl, _, _, _, _, rfl, rfl, hs, at_of (j := i + 1) (by omega) (IL_get h1), _, _, rfl, rfl, ?_⟩
        have e : ((0 :: (vs.length : Int) :: (Ux01.ints vs ++ [])).length : Int) = 2 + (vs.length : Int) := by
          simp only [List.length_cons, List.append_nil, ints_len]
          omega
        rw [e] at k
        exact k
    · subst c1
      subst hn
      cases hf with
      | take e _ => exact k
    · subst c2
      subst hn
      cases hf with
      | swap i j _ => exact k
    · subst hn
      cases hf with
      | row vs _ hl => exact absurd rfl c0
      | take e _ => exact absurd rfl c1
      | swap i j _ => exact absurd rfl c2
      | _ => exact k

/-! ### answer -/
def sp_answer (A : Ads) : Sp := fun vs H Q _ => ∃ (p c : Addr) (m : Mx.M) (S : Addr → Prop) (ns : List Int) (x : Ux01.Call), vs = [.ref p, .ref c] ∧ H c = some (.lst (IL ns)) ∧ Mx.Form ns x [] ∧ RowAt A S H p m ∧ Dom S H ∧ Post A S H p m x Q
theorem ok_answer (T : Txt K mg A) : FnOk P w K mg base CX0 5 A.f_answer A.d_answer ["row", "call"] (sp_answer A) := by
  refine T.F_answer.ok sc_answer (fun vs H Q E h => ?_) (fun cdv Ar outer s H vs Q E hr h => ?_)
  · obtain ⟨p, c, m, S, ns, x, rfl, _⟩ := h
    rfl
  · obtain ⟨p, v, m, S, ns, x, rfl, hv, hf, R, D, k⟩ := h
    obtain ⟨⟨dx, a, b, c, h, Sp, Sa, Sb, Sc⟩, few, en⟩ := id R
    refine ⟨_, (pss_cons (ps_set (i := 2) sc_answer.nd rfl (Or.inl rfl) (pe_ix ix_list (pv 1) pe_int (fun _ _ => rfl)))
      (pss_cons (ps_if (pt_cmp (pc_eqI (pv 2) (pe_gint T.c_ROW rfl))) (pss_one (ps_ret (pe_meth (pv 0) T.cl T.me_m_lay (ok_m_lay T) (hr.mono (by decide)) T.b_m_lay .nil pass0 (pa_cons (pe_slice sl_list (pv 1) (po_some pe_int) po_none) pa_nil)))) pss_nil)
      (pss_cons (ps_if (pt_cmp (pc_eqI (pv 2) (pe_gint T.c_TAKE rfl))) (pss_one (ps_ret (pe_meth (pv 0) T.cl T.me_m_take (ok_m_take T) (hr.mono (by decide)) T.b_m_take .nil pass0 (pa_cons (pe_ix ix_list (pv 1) pe_int (fun _ _ => rfl)) pa_nil)))) pss_nil)
      (pss_cons (ps_if (pt_cmp (pc_eqI (pv 2) (pe_gint T.c_BACK rfl))) (pss_one (ps_ret (pe_meth0 (pv 0) T.cl T.me_m_back (ok_m_back T) (hr.mono (by decide)) T.b_m_back .nil pass0))) pss_nil)
      (pss_cons (ps_if (pt_cmp (pc_eqI (pv 2) (pe_gint T.c_SHOWS rfl))) (pss_one (ps_ret (pe_meth0 (pv 0) T.cl T.me_m_shows (ok_m_shows T) (hr.mono (by decide)) T.b_m_shows .nil pass0))) pss_nil)
      (pss_cons (ps_if (pt_cmp (pc_eqI (pv 2) (pe_gint T.c_LEAD rfl))) (pss_one (ps_ret (pe_meth0 (pv 0) T.cl T.me_m_lead (ok_m_lead T) (hr.mono (by decide)) T.b_m_lead .nil pass0))) pss_nil)
      (pss_cons (ps_if (pt_cmp (pc_eqI (pv 2) (pe_gint T.c_BEST rfl))) (pss_one (ps_ret (pe_meth0 (pv 0) T.cl T.me_m_best (ok_m_best T) (hr.mono (by decide)) T.b_m_best .nil pass0))) pss_nil)
      (pss_cons (ps_if (pt_cmp (pc_eqI (pv 2) (pe_gint T.c_GETS rfl))) (pss_one (ps_ret (pe_meth0 (pv 0) T.cl T.me_m_gets (ok_m_gets T) (hr.mono (by decide)) T.b_m_gets .nil pass0))) pss_nil)
      (pss_cons (ps_if (pt_cmp (pc_eqI (pv 2) (pe_gint T.c_GAMES rfl))) (pss_one (ps_ret (pe_meth0 (pv 0) T.cl T.me_m_games (ok_m_games T) (hr.mono (by decide)) T.b_m_games .nil pass0))) pss_nil)
      (pss_cons (ps_if (pt_cmp (pc_eqI (pv 2) (pe_gint T.c_PLAY rfl))) (pss_one (ps_ret (pe_meth0 (pv 0) T.cl T.me_m_play (ok_m_play T) (hr.mono (by decide)) T.b_m_play .nil pass0))) pss_nil)
      (pss_cons (ps_if (pt_cmp (pc_eqI (pv 2) (pe_gint T.c_PLACES rfl))) (pss_one (ps_ret (pe_meth0 (pv 0) T.cl T.me_m_places (ok_m_places T) (hr.mono (by decide)) T.b_m_places .nil pass0))) pss_nil)
      (pss_cons (ps_if (pt_cmp (pc_eqI (pv 2) (pe_gint T.c_GREEDY rfl))) (pss_one (ps_ret (pe_meth0 (pv 0) T.cl T.me_m_greedy (ok_m_greedy T) (hr.mono (by decide)) T.b_m_greedy .nil pass0))) pss_nil)
      (pss_cons (ps_if (pt_cmp (pc_eqI (pv 2) (pe_gint T.c_BEAT rfl))) (pss_one (ps_ret (pe_meth0 (pv 0) T.cl T.me_m_beat (ok_m_beat T) (hr.mono (by decide)) T.b_m_beat .nil pass0))) pss_nil)
      (pss_cons (ps_if (pt_cmp (pc_eqI (pv 2) (pe_gint T.c_SWAP rfl))) (pss_one (ps_ret (pe_meth (pv 0) T.cl T.me_m_swap (ok_m_swap T) (hr.mono (by decide)) T.b_m_swap .nil pass0 (pa_cons (pe_ix ix_list (pv 1) pe_int (fun _ _ => rfl)) (pa_cons (pe_ix ix_list (pv 1) pe_int (fun _ _ => rfl)) pa_nil))))) pss_nil)
      (pss_one ps_never))))))))))))))), ?_⟩
    obtain ⟨n, r, hn⟩ : ∃ n r, ns = n :: r := by cases hf <;> exact ⟨_, _, rfl⟩
    refine ⟨_, rfl, _, _, _, _, rfl, rfl, SqL.of hv, atI_nat (j := 0) (IL_get (x := n) (by rw [hn]; rfl)), ?_⟩
    subst hn
    cases hf with
    | row l _ hl =>
      refine ⟨_, rfl, _, _, rfl, rfl, _, rfl, iteD rfl ⟨_, rfl, p, dx, _, rfl, h.p, rf_no _ _ _ (by decide +kernel) (by decide +kernel) (by decide +kernel), _, rfl, _, rfl, v, _, rfl, SqL.of hv, fun q hq => ?_⟩⟩
      have e : cutV (IL (0 :: (l.length : Int) :: (Ux01.ints l ++ []))) (some 2) none = NL l := by
        show cutV (IL (0 :: (l.length : Int) :: (Ux01.ints l ++ []))) (some ((2 : Nat) : Int)) none = NL l
        rw [cut_from, IL_drop, List.append_nil]
        rfl
      rw [e]
      have R2 : RowAt A (fun y => S y ∨ y = q) (upd H q (.lst (NL l))) p m :=
        ⟨⟨dx, a, b, c, h.same (Same.new hq), fun z => z.elim Sp (ne_of_none h.p hq), fun z => z.elim Sa (ne_of_none h.a hq), fun z => z.elim Sb (ne_of_none h.b hq), fun z => z.elim Sc (ne_of_none h.c hq)⟩, few, en⟩
      refine ⟨p, m, fun y => S y ∨ y = q, l, q, rfl, upd_same, .inr rfl, R2, fun y hy => ?_, fun H' r R3 Sr hr f3 => k H' r (R3.less fun y => .inl) (fun z => Sr (.inl z)) hr ((Fr.upd (D.fresh hq)).trans fun y o sy => f3 y o (.inl sy))⟩
      rcases hy with hy | rfl
      · exact (D.fr (Fr.same (Same.new hq))) y hy
      · exact ⟨_, upd_same⟩
    | take e _ =>
      refine ⟨_, rfl, _, _, rfl, rfl, _, rfl, iteDF (by decide) ⟨_, rfl, _, _, rfl, rfl, _, rfl, iteD rfl ?_⟩⟩
      exact ⟨_, rfl, p, dx, _, rfl, h.p, rf_no _ _ _ (by decide +kernel) (by decide +kernel) (by decide +kernel), _, rfl, v, _, _, _, rfl, rfl, SqL.of hv, atI_nat (j := 1) rfl, p, m, S, e, rfl, R, D, k⟩
    | back _ =>
      iterate 2 refine ⟨_, rfl, _, _, rfl, rfl, _, rfl, iteDF (by decide) ?_⟩
      exact ⟨_, rfl, _, _, rfl, rfl, _, rfl, iteD rfl ⟨_, rfl, p, dx, _, rfl, h.p, rf_no _ _ _ (by decide +kernel) (by decide +kernel) (by decide +kernel), p, m, S, rfl, R, D, k⟩⟩
    | shows _ =>
      iterate 3 refine ⟨_, rfl, _, _, rfl, rfl, _, rfl, iteDF (by decide) ?_⟩
      exact ⟨_, rfl, _, _, rfl, rfl, _, rfl, iteD rfl ⟨_, rfl, p, dx, _, rfl, h.p, rf_no _ _ _ (by decide +kernel) (by decide +kernel) (by decide +kernel), p, m, S, rfl, R, D, k⟩⟩
    | lead _ =>
      iterate 4 refine ⟨_, rfl, _, _, rfl, rfl, _, rfl, iteDF (by decide) ?_⟩
      exact ⟨_, rfl, _, _, rfl, rfl, _, rfl, iteD rfl ⟨_, rfl, p, dx, _, rfl, h.p, rf_no _ _ _ (by decide +kernel) (by decide +kernel) (by decide +kernel), p, m, S, rfl, R, D, k⟩⟩
    | best _ =>
      iterate 5 refine ⟨_, rfl, _, _, rfl, rfl, _, rfl, iteDF (by decide) ?_⟩
      exact ⟨_, rfl, _, _, rfl, rfl, _, rfl, iteD rfl ⟨_, rfl, p, dx, _, rfl, h.p, rf_no _ _ _ (by decide +kernel) (by decide +kernel) (by decide +kernel), p, m, S, rfl, R, D, k⟩⟩
    | gets _ =>
      iterate 6 refine ⟨_, rfl, _, _, rfl, rfl, _, rfl, iteDF (by decide) ?_⟩
      exact ⟨_, rfl, _, _, rfl, rfl, _, rfl, iteD rfl ⟨_, rfl, p, dx, _, rfl, h.p, rf_no _ _ _ (by decide +kernel) (by decide +kernel) (by decide +kernel), p, m, S, rfl, R, D, k⟩⟩
    | games _ =>
      iterate 7 refine ⟨_, rfl, _, _, rfl, rfl, _, rfl, iteDF (by decide) ?_⟩
      exact ⟨_, rfl, _, _, rfl, rfl, _, rfl, iteD rfl ⟨_, rfl, p, dx, _, rfl, h.p, rf_no _ _ _ (by decide +kernel) (by decide +kernel) (by decide +kernel), p, m, S, rfl, R, D, k⟩⟩
    | play _ =>
      iterate 8 refine ⟨_, rfl, _, _, rfl, rfl, _, rfl, iteDF (by decide) ?_⟩
      exact ⟨_, rfl, _, _, rfl, rfl, _, rfl, iteD rfl ⟨_, rfl, p, dx, _, rfl, h.p, rf_no _ _ _ (by decide +kernel) (by decide +kernel) (by decide +kernel), p, m, S, rfl, R, D, k⟩⟩
    | places _ =>
      iterate 9 refine ⟨_, rfl, _, _, rfl, rfl, _, rfl, iteDF (by decide) ?_⟩
      exact ⟨_, rfl, _, _, rfl, rfl, _, rfl, iteD rfl ⟨_, rfl, p, dx, _, rfl, h.p, rf_no _ _ _ (by decide +kernel) (by decide +kernel) (by decide +kernel), p, m, S, rfl, R, D, k⟩⟩
    | greedy _ =>
      iterate 10 refine ⟨_, rfl, _, _, rfl, rfl, _, rfl, iteDF (by decide) ?_⟩
      exact ⟨_, rfl, _, _, rfl, rfl, _, rfl, iteD rfl ⟨_, rfl, p, dx, _, rfl, h.p, rf_no _ _ _ (by decide +kernel) (by decide +kernel) (by decide +kernel), p, m, S, rfl, R, D, k⟩⟩
    | beat _ =>
      iterate 11 refine ⟨_, rfl, _, _, rfl, rfl, _, rfl, iteDF (by decide) ?_⟩
      exact ⟨_, rfl, _, _, rfl, rfl, _, rfl, iteD rfl ⟨_, rfl, p, dx, _, rfl, h.p, rf_no _ _ _ (by decide +kernel) (by decide +kernel) (by decide +kernel), p, m, S, rfl, R, D, k⟩⟩
    | swap i j _ =>
      iterate 12 refine ⟨_, rfl, _, _, rfl, rfl, _, rfl, iteDF (by decide) ?_⟩
      exact ⟨_, rfl, _, _, rfl, rfl, _, rfl, iteD rfl ⟨_, rfl, p, dx, _, rfl, h.p, rf_no _ _ _ (by decide +kernel) (by decide +kernel) (by decide +kernel), _, rfl, v, _, _, _, rfl, rfl, SqL.of hv, atI_nat (j := 1) rfl, _, rfl, v, _, _, _, rfl, rfl, SqL.of hv, atI_nat (j := 2) rfl, p, m, S, i, j, rfl, R, D, k⟩⟩

/-! ### answers -/
def sp_answers (K : PySem.W.Frag) : Sp := fun vs H Q _ => ∃ (a : Addr) (ns out : List Int), vs = [.ref a] ∧ SqL K H a (IL ns) ∧ ns.length ≤ 2000 ∧ Mx.Due Mx.M0 ns out ∧ out.length ≤ 10000000 ∧ ∀ (H' : Hp) (p : Addr), H' p = some (.lst (IL out)) → Q (.ref p) H'
def left (n : Nat) (σ : L2.St) : Nat := match σ[3]? with
  | some (some (V.int i)) => n - i.toNat
  | _ => 0
theorem ok_answers (T : Txt K mg A) : FnOk P w K mg base CX0 6 A.f_answers A.d_answers ["calls"] (sp_answers K) := by
  refine T.F_answers.ok sc_answers (fun vs H Q E h => ?_) (fun cdv Ar outer s H vs Q E hr h => ?_)
  · obtain ⟨a, ns, out, rfl, _⟩ := h
    rfl
  · obtain ⟨a, ns, out, rfl, hs, hlen, due, hout, k⟩ := h
    refine ⟨_, (pss_cons (ps_set (i := 1) sc_answers.nd rfl (Or.inl rfl) (pe_make0 T.mkc (ok_m_init T) (hr.mono (by decide)) rfl T.g_cls T.b_m_init .nil pass0))
      (pss_cons (ps_set (i := 2) sc_answers.nd rfl (Or.inl rfl) (pe_lst pa_nil))
      (pss_cons (ps_set (i := 3) sc_answers.nd rfl (Or.inl rfl) pe_int)
      (pss_cons (ps_while PassesOwn.never (pt_cmp (pc_lt (pv 3) (pe_callB call_len_seq rfl T.n_len PySem.boot_len (pa_cons (pv 0) pa_nil)))) (pss_cons (ps_set (i := 4) sc_answers.nd rfl (Or.inl rfl) (pe_op op_add (pv 3) (pe_call (ok_call_size T) (hr.mono (by decide)) rfl T.g_call_size T.k_call_size T.b_call_size .nil pass0 (pa_cons (pv 0) (pa_cons (pv 3) pa_nil)))))
      (pss_cons (ps_set (i := 5) sc_answers.nd rfl (Or.inl rfl) (pe_call (ok_answer T) (hr.mono (by decide)) rfl T.g_answer T.k_answer T.b_answer .nil pass0 (pa_cons (pv 1) (pa_cons (pe_slice sl_list (pv 0) (po_some (pv 3)) (po_some (pv 4))) pa_nil))))
      (pss_cons (ps_expr (pe_bm PySem.F.plainAttrs_list PySem.F.slot_list_append PySem.F.type_list_append mt_append (pv 2) (pa_cons (pe_callB call_len_seq rfl T.n_len PySem.boot_len (pa_cons (pv 5) pa_nil)) pa_nil)))
      (pss_cons (ps_expr (pe_bm PySem.F.plainAttrs_list PySem.F.slot_list_extend PySem.F.type_list_extend mt_extend (pv 2) (pa_cons (pv 5) pa_nil)))
      (pss_one (ps_set (i := 3) sc_answers.nd rfl (Or.inl rfl) (pv 4))))))))
      (pss_one (ps_ret (pv 2))))))), ?_⟩
    intro x dx nx ndx nex
    refine ⟨x, dx, rfl, upd_same, fun H1 c1 c2 c3 hA n1 n2 n3 kp => ⟨rfl, ?_⟩⟩
    have s0 : Same H (upd (upd H dx (.own x)) x (.ins A.C dx [])) := fun b o e => by
      rw [upd_ne (ne_of_none e nx), upd_ne (ne_of_none e ndx)]
      exact e
    have s1 : Same H H1 := fun b o e => kp b o (s0 b o e) (ne_of_none e nx)
    refine ⟨Nat.zero_le _, fun t ht => ?_⟩
    have s2 : Same H (upd H1 t (.lst [])) := s1.trans (Same.new ht)
    have ht0 : H t = none := s1.free ht
    let S : Addr → Prop := fun y => y = t ∨ H y ≠ none
    have nS : ∀ {y o}, H y = none → H1 y = some o → ¬ S y := fun {y o} h1 h2 z => z.elim (ne_of_none h2 ht) (fun q => q h1)
    have R0 : RowAt A S (upd H1 t (.lst [])) x Mx.M0 := ⟨⟨dx, c1, c2, c3, hA.same (Same.new ht), nS nx hA.p, nS (s0.free n1) hA.a, nS (s0.free n2) hA.b, nS (s0.free n3) hA.c⟩, by decide, rfl⟩
    have D0 : ∀ {H' : Hp} {o : HO}, Same H H' → H' t = some o → Dom S H' := fun {H' o} sm ht' y hy => by
      rcases hy with rfl | hy
      · exact ⟨_, ht'⟩
      · cases e : H y with
        | none => exact absurd e hy
        | some o => exact ⟨o, sm y o e⟩
    have fs : ∀ {H' H'' : Hp}, Fr S H' H'' → Same H H' → Same H H'' := fun {H' H''} f sm y o e => f y o (.inr (by rw [e]; intro z; cases z)) (sm y o e)
    have St : S t := .inl rfl
    refine while_by (fun σ H' => ∃ (i : Nat) (m : Mx.M) (done rest : List Int) (v4 v5 : Option V), σ = [some (.ref a), some (.ref x), some (.ref t), some (.int (i : Int)), v4, v5] ∧ i ≤ ns.length ∧ RowAt A S H' x m ∧
      H' t = some (.lst (IL done)) ∧ Mx.Due m (ns.drop i) rest ∧ out = done ++ rest ∧ Same H H') (fun σ _ => left ns.length σ) ⟨0, Mx.M0, [], out, none, none, rfl, Nat.zero_le _, R0, upd_same, due, rfl, s2⟩ ?_ ?_
    · rintro σ H2 ⟨i, m, done, rest, v4, v5, rfl, hi, R, hT, du, eo, sm⟩
      have hs2 := sm.seq hs
      have eil := IL_len ns
      refine ⟨_, rfl, _, rfl, a, _, rfl, .inl hs2, _, _, rfl, rfl, _, rfl, iteD2 (fun hlt => ?_) (fun hge => ?_)⟩
      · have hne : ns.drop i ≠ [] := by
          intro e
          have e2 := congrArg List.length e
          rw [List.length_drop] at e2
          simp only [List.length_nil] at e2
          omega
        obtain ⟨c, tl, rest', hf, er, du'⟩ := Mx.due_cons du hne
        obtain ⟨pre, ep, hf', hpos⟩ := hf.cut
        have lp : i + pre.length ≤ ns.length := by
          have e2 := congrArg List.length ep
          rw [List.length_drop, List.length_append] at e2
          omega
        refine ⟨_, rfl, _, rfl, _, rfl, a, ns, i, c, pre, tl, rfl, hs2, ep, hf', _, _, rfl, rfl, ?_⟩
        refine ⟨_, rfl, _, rfl, _, rfl, _, rfl, _, rfl, _, rfl, a, _, rfl, hs2, fun q hq => ?_⟩
        have ec : cutV (IL ns) (some (i : Int)) (some ((i : Int) + (pre.length : Int))) = IL pre := by
          have e3 : (i : Int) + (pre.length : Int) = ((i + pre.length : Nat) : Int) := by omega
          rw [e3, cut_mid _ (by rw [eil]; exact lp), IL_drop, IL_take, ep, Nat.add_sub_cancel_left, List.take_left]
        rw [ec]
        have D2 : Dom S H2 := D0 sm hT
        have f2 : Fr S H2 (upd H2 q (.lst (IL pre))) := Fr.upd (D2.fresh hq)
        refine ⟨x, q, m, S, pre, c, rfl, upd_same, hf', R.same (Same.new hq), D2.fr f2, fun H3 r R3 Sr hr f3 => ?_⟩
        have f4 : Fr S H2 H3 := f2.trans f3
        have sm3 : Same H H3 := fs f4 sm
        have hT3 := f4 t _ St hT
        have nrt : r ≠ t := fun e => Sr (e ▸ St)
        have el : done.length + (1 + (Mx.mstep m c).2.length) ≤ 10000000 := by
          have e4 := congrArg List.length eo
          rw [er, List.length_append, List.length_append, List.length_cons] at e4
          omega
        refine ⟨_, rfl, .inl ⟨rfl, _, SqL.of hT3⟩, _, rfl, r, _, rfl, .inl (SqL.of hr), t, _, _, rfl, rfl, hT3, ?_, ?_⟩
        · rw [IL_len]
          exact Nat.lt_of_le_of_lt (show _ ≤ 10000000 by omega) (by decide)
        refine ⟨_, rfl, .inl ⟨rfl, _, SqL.of upd_same⟩, _, rfl, t, r, _, _, rfl, rfl, upd_same, (by rw [upd_ne nrt]; exact hr), ?_, ?_⟩
        · rw [List.length_append, IL_len, IL_len]
          refine Nat.le_trans (show _ ≤ 10000000 from ?_) (by decide)
          show done.length + 1 + _ ≤ _
          omega
        refine ⟨_, rfl, ⟨i + pre.length, (Mx.mstep m c).1, done ++ ((Mx.mstep m c).2.length : Int) :: (Mx.mstep m c).2, rest', _, _, rfl, lp, (R3.out St).out St, ?_, ?_, ?_, ?_⟩, ?_⟩
        · rw [upd_same, IL_len]
          unfold IL
          rw [List.map_append, List.map_cons, List.append_assoc]
          rfl
        · have e5 : ns.drop (i + pre.length) = tl := by
            rw [← List.drop_drop, ep, List.drop_left]
          rw [e5]
          exact du'
        · rw [eo, er, List.append_assoc]
        · exact fun y o e => by rw [upd_ne (ne_of_none e ht0), upd_ne (ne_of_none e ht0)]; exact sm3 y o e
        · show ns.length - ((i + pre.length : Nat) : Int).toNat < ns.length - ((i : Nat) : Int).toNat
          rw [Int.toNat_natCast, Int.toNat_natCast]
          omega
      · have e0 : ns.drop i = [] := List.drop_of_length_le (by omega)
        rw [e0] at du
        have e1 := Mx.due_nil du
        subst e1
        rw [List.append_nil] at eo
        subst eo
        exact ⟨_, rfl, k H2 t hT⟩
    · rintro σ H' Q1 Q2 hm ⟨v, e1, w', e2, p', ys, e3, hq, i, j, e4, e5, c, e6, q⟩
      exact ⟨v, e1, w', e2, p', ys, e3, hq, i, j, e4, e5, c, e6, hm _ _ q⟩
end
end My

end
set_option Elab.async false
set_option linter.all false
set_option maxRecDepth 100000
set_option maxHeartbeats 2000000

namespace My
open PySem PySem.Spec PyProof.Rows L2
open PySem.W (Codec)
theorem all_mk {P : Program} {w : World} {K : PySem.W.Frag} {h : Heap} {mg : Str → Option Value} {fa : Addr} (X : K.In h) (G : h.Ns mainGlobals mg) (hfa : mg "answers" = some (.ref fa))
    {C f_can_lie f_end_coin f_without_end f_lead_of f_leads_of_size f_games_of f_games_of_size f_best_end f_greedy_end f_taken_by_greed f_share_behind_greedy f_shares_left_by_greedy f_shares_of_taking f_is_place f_swapped f_as_told f_call_size f_answer f_answers f_m_init f_m_lay f_m_take f_m_back f_m_shows f_m_lead f_m_best f_m_gets f_m_games f_m_play f_m_places f_m_greedy f_m_beat f_m_swap : Addr} {od_can_lie an_can_lie od_end_coin an_end_coin od_without_end an_without_end od_lead_of an_lead_of od_leads_of_size an_leads_of_size od_games_of an_games_of od_games_of_size an_games_of_size od_best_end an_best_end od_greedy_end an_greedy_end od_taken_by_greed an_taken_by_greed od_share_behind_greedy an_share_behind_greedy od_shares_left_by_greedy an_shares_left_by_greedy od_shares_of_taking an_shares_of_taking od_is_place an_is_place od_swapped an_swapped od_as_told an_as_told od_call_size an_call_size od_answer an_answer od_answers an_answers od_m_init an_m_init od_m_lay an_m_lay od_m_take an_m_take od_m_back an_m_back od_m_shows an_m_shows od_m_lead an_m_lead od_m_best an_m_best od_m_gets an_m_gets od_m_games an_m_games od_m_play an_m_play od_m_places an_m_places od_m_greedy an_m_greedy od_m_beat an_m_beat od_m_swap an_m_swap : Option Addr} {sl_can_lie sl_end_coin sl_without_end sl_lead_of sl_leads_of_size sl_games_of sl_games_of_size sl_best_end sl_greedy_end sl_taken_by_greed sl_share_behind_greedy sl_shares_left_by_greedy sl_shares_of_taking sl_is_place sl_swapped sl_as_told sl_call_size sl_answer sl_answers sl_m_init sl_m_lay sl_m_take sl_m_back sl_m_shows sl_m_lead sl_m_best sl_m_gets sl_m_games sl_m_play sl_m_places sl_m_greedy sl_m_beat sl_m_swap : Array (Option Value)} {oc_can_lie kV_can_lie dc_can_lie pm_can_lie cd_can_lie ct_can_lie oc_end_coin kV_end_coin dc_end_coin pm_end_coin cd_end_coin ct_end_coin oc_without_end kV_without_end dc_without_end pm_without_end cd_without_end ct_without_end oc_lead_of kV_lead_of dc_lead_of pm_lead_of cd_lead_of ct_lead_of oc_leads_of_size kV_leads_of_size dc_leads_of_size pm_leads_of_size cd_leads_of_size ct_leads_of_size oc_games_of kV_games_of dc_games_of pm_games_of cd_games_of ct_games_of oc_games_of_size kV_games_of_size dc_games_of_size pm_games_of_size cd_games_of_size ct_games_of_size oc_best_end kV_best_end dc_best_end pm_best_end cd_best_end ct_best_end oc_greedy_end kV_greedy_end dc_greedy_end pm_greedy_end cd_greedy_end ct_greedy_end oc_taken_by_greed kV_taken_by_greed dc_taken_by_greed pm_taken_by_greed cd_taken_by_greed ct_taken_by_greed oc_share_behind_greedy kV_share_behind_greedy dc_share_behind_greedy pm_share_behind_greedy cd_share_behind_greedy ct_share_behind_greedy oc_shares_left_by_greedy kV_shares_left_by_greedy dc_shares_left_by_greedy pm_shares_left_by_greedy cd_shares_left_by_greedy ct_shares_left_by_greedy oc_shares_of_taking kV_shares_of_taking dc_shares_of_taking pm_shares_of_taking cd_shares_of_taking ct_shares_of_taking oc_is_place kV_is_place dc_is_place pm_is_place cd_is_place ct_is_place oc_swapped kV_swapped dc_swapped pm_swapped cd_swapped ct_swapped oc_as_told kV_as_told dc_as_told pm_as_told cd_as_told ct_as_told oc_call_size kV_call_size dc_call_size pm_call_size cd_call_size ct_call_size oc_answer kV_answer dc_answer pm_answer cd_answer ct_answer oc_answers kV_answers dc_answers pm_answers cd_answers ct_answers oc_m_init kV_m_init dc_m_init pm_m_init cd_m_init ct_m_init oc_m_lay kV_m_lay dc_m_lay pm_m_lay cd_m_lay ct_m_lay oc_m_take kV_m_take dc_m_take pm_m_take cd_m_take ct_m_take oc_m_back kV_m_back dc_m_back pm_m_back cd_m_back ct_m_back oc_m_shows kV_m_shows dc_m_shows pm_m_shows cd_m_shows ct_m_shows oc_m_lead kV_m_lead dc_m_lead pm_m_lead cd_m_lead ct_m_lead oc_m_best kV_m_best dc_m_best pm_m_best cd_m_best ct_m_best oc_m_gets kV_m_gets dc_m_gets pm_m_gets cd_m_gets ct_m_gets oc_m_games kV_m_games dc_m_games pm_m_games cd_m_games ct_m_games oc_m_play kV_m_play dc_m_play pm_m_play cd_m_play ct_m_play oc_m_places kV_m_places dc_m_places pm_m_places cd_m_places ct_m_places oc_m_greedy kV_m_greedy dc_m_greedy pm_m_greedy cd_m_greedy ct_m_greedy oc_m_beat kV_m_beat dc_m_beat pm_m_beat cd_m_beat ct_m_beat oc_m_swap kV_m_swap dc_m_swap pm_m_swap cd_m_swap ct_m_swap : Value} {t_BACK t_BEAT t_BEST t_GAMES t_GETS t_GREEDY t_LEAD t_LEFT t_MOST_COINS t_MOST_VALUE t_NOTHING_TAKEN t_NO_COIN t_NO_SUCH_END t_NO_SUCH_PLACE t_NO_SUCH_ROW t_PLACES t_PLAY t_RIGHT t_ROW t_SHOWS t_SWAP t_TAKE : Tok}
    (aC : PySem.W.nsIn K mainGlobals "Row" = some (some (.ref C)))
    (a_can_lie : PySem.W.nsIn K mainGlobals "can_lie" = some (some (.ref f_can_lie)))
    (l_can_lie : K.lookup f_can_lie = some ⟨oc_can_lie, od_can_lie, .func (PySem.W.fnOf "can_lie" "can_lie" (defArgs s_can_lie) (defBody s_can_lie) (defScope s_can_lie) .none kV_can_lie dc_can_lie pm_can_lie an_can_lie cd_can_lie ct_can_lie), sl_can_lie⟩)
    (c_can_lie : PySem.W.codeIn K cd_can_lie "can_lie" = true)
    (k_can_lie : PySem.W.keepIn K (.ref f_can_lie) = true)
    (a_end_coin : PySem.W.nsIn K mainGlobals "end_coin" = some (some (.ref f_end_coin)))
    (l_end_coin : K.lookup f_end_coin = some ⟨oc_end_coin, od_end_coin, .func (PySem.W.fnOf "end_coin" "end_coin" (defArgs s_end_coin) (defBody s_end_coin) (defScope s_end_coin) .none kV_end_coin dc_end_coin pm_end_coin an_end_coin cd_end_coin ct_end_coin), sl_end_coin⟩)
    (c_end_coin : PySem.W.codeIn K cd_end_coin "end_coin" = true)
    (k_end_coin : PySem.W.keepIn K (.ref f_end_coin) = true)
    (a_without_end : PySem.W.nsIn K mainGlobals "without_end" = some (some (.ref f_without_end)))
    (l_without_end : K.lookup f_without_end = some ⟨oc_without_end, od_without_end, .func (PySem.W.fnOf "without_end" "without_end" (defArgs s_without_end) (defBody s_without_end) (defScope s_without_end) .none kV_without_end dc_without_end pm_without_end an_without_end cd_without_end ct_without_end), sl_without_end⟩)
    (c_without_end : PySem.W.codeIn K cd_without_end "without_end" = true)
    (k_without_end : PySem.W.keepIn K (.ref f_without_end) = true)
    (a_lead_of : PySem.W.nsIn K mainGlobals "lead_of" = some (some (.ref f_lead_of)))
    (l_lead_of : K.lookup f_lead_of = some ⟨oc_lead_of, od_lead_of, .func (PySem.W.fnOf "lead_of" "lead_of" (defArgs s_lead_of) (defBody s_lead_of) (defScope s_lead_of) .none kV_lead_of dc_lead_of pm_lead_of an_lead_of cd_lead_of ct_lead_of), sl_lead_of⟩)
    (c_lead_of : PySem.W.codeIn K cd_lead_of "lead_of" = true)
    (k_lead_of : PySem.W.keepIn K (.ref f_lead_of) = true)
    (a_leads_of_size : PySem.W.nsIn K mainGlobals "leads_of_size" = some (some (.ref f_leads_of_size)))
    (l_leads_of_size : K.lookup f_leads_of_size = some ⟨oc_leads_of_size, od_leads_of_size, .func (PySem.W.fnOf "leads_of_size" "leads_of_size" (defArgs s_leads_of_size) (defBody s_leads_of_size) (defScope s_leads_of_size) .none kV_leads_of_size dc_leads_of_size pm_leads_of_size an_leads_of_size cd_leads_of_size ct_leads_of_size), sl_leads_of_size⟩)
    (c_leads_of_size : PySem.W.codeIn K cd_leads_of_size "leads_of_size" = true)
    (k_leads_of_size : PySem.W.keepIn K (.ref f_leads_of_size) = true)
    (a_games_of : PySem.W.nsIn K mainGlobals "games_of" = some (some (.ref f_games_of)))
    (l_games_of : K.lookup f_games_of = some ⟨oc_games_of, od_games_of, .func (PySem.W.fnOf "games_of" "games_of" (defArgs s_games_of) (defBody s_games_of) (defScope s_games_of) .none kV_games_of dc_games_of pm_games_of an_games_of cd_games_of ct_games_of), sl_games_of⟩)
    (c_games_of : PySem.W.codeIn K cd_games_of "games_of" = true)
    (k_games_of : PySem.W.keepIn K (.ref f_games_of) = true)
    (a_games_of_size : PySem.W.nsIn K mainGlobals "games_of_size" = some (some (.ref f_games_of_size)))
    (l_games_of_size : K.lookup f_games_of_size = some ⟨oc_games_of_size, od_games_of_size, .func (PySem.W.fnOf "games_of_size" "games_of_size" (defArgs s_games_of_size) (defBody s_games_of_size) (defScope s_games_of_size) .none kV_games_of_size dc_games_of_size pm_games_of_size an_games_of_size cd_games_of_size ct_games_of_size), sl_games_of_size⟩)
    (c_games_of_size : PySem.W.codeIn K cd_games_of_size "games_of_size" = true)
    (k_games_of_size : PySem.W.keepIn K (.ref f_games_of_size) = true)
    (a_best_end : PySem.W.nsIn K mainGlobals "best_end" = some (some (.ref f_best_end)))
    (l_best_end : K.lookup f_best_end = some ⟨oc_best_end, od_best_end, .func (PySem.W.fnOf "best_end" "best_end" (defArgs s_best_end) (defBody s_best_end) (defScope s_best_end) .none kV_best_end dc_best_end pm_best_end an_best_end cd_best_end ct_best_end), sl_best_end⟩)
    (c_best_end : PySem.W.codeIn K cd_best_end "best_end" = true)
    (k_best_end : PySem.W.keepIn K (.ref f_best_end) = true)
    (a_greedy_end : PySem.W.nsIn K mainGlobals "greedy_end" = some (some (.ref f_greedy_end)))
    (l_greedy_end : K.lookup f_greedy_end = some ⟨oc_greedy_end, od_greedy_end, .func (PySem.W.fnOf "greedy_end" "greedy_end" (defArgs s_greedy_end) (defBody s_greedy_end) (defScope s_greedy_end) .none kV_greedy_end dc_greedy_end pm_greedy_end an_greedy_end cd_greedy_end ct_greedy_end), sl_greedy_end⟩)
    (c_greedy_end : PySem.W.codeIn K cd_greedy_end "greedy_end" = true)
    (k_greedy_end : PySem.W.keepIn K (.ref f_greedy_end) = true)
    (a_taken_by_greed : PySem.W.nsIn K mainGlobals "taken_by_greed" = some (some (.ref f_taken_by_greed)))
    (l_taken_by_greed : K.lookup f_taken_by_greed = some ⟨oc_taken_by_greed, od_taken_by_greed, .func (PySem.W.fnOf "taken_by_greed" "taken_by_greed" (defArgs s_taken_by_greed) (defBody s_taken_by_greed) (defScope s_taken_by_greed) .none kV_taken_by_greed dc_taken_by_greed pm_taken_by_greed an_taken_by_greed cd_taken_by_greed ct_taken_by_greed), sl_taken_by_greed⟩)
    (c_taken_by_greed : PySem.W.codeIn K cd_taken_by_greed "taken_by_greed" = true)
    (k_taken_by_greed : PySem.W.keepIn K (.ref f_taken_by_greed) = true)
    (a_share_behind_greedy : PySem.W.nsIn K mainGlobals "share_behind_greedy" = some (some (.ref f_share_behind_greedy)))
    (l_share_behind_greedy : K.lookup f_share_behind_greedy = some ⟨oc_share_behind_greedy, od_share_behind_greedy, .func (PySem.W.fnOf "share_behind_greedy" "share_behind_greedy" (defArgs s_share_behind_greedy) (defBody s_share_behind_greedy) (defScope s_share_behind_greedy) .none kV_share_behind_greedy dc_share_behind_greedy pm_share_behind_greedy an_share_behind_greedy cd_share_behind_greedy ct_share_behind_greedy), sl_share_behind_greedy⟩)
    (c_share_behind_greedy : PySem.W.codeIn K cd_share_behind_greedy "share_behind_greedy" = true)
    (k_share_behind_greedy : PySem.W.keepIn K (.ref f_share_behind_greedy) = true)
    (a_shares_left_by_greedy : PySem.W.nsIn K mainGlobals "shares_left_by_greedy" = some (some (.ref f_shares_left_by_greedy)))
    (l_shares_left_by_greedy : K.lookup f_shares_left_by_greedy = some ⟨oc_shares_left_by_greedy, od_shares_left_by_greedy, .func (PySem.W.fnOf "shares_left_by_greedy" "shares_left_by_greedy" (defArgs s_shares_left_by_greedy) (defBody s_shares_left_by_greedy) (defScope s_shares_left_by_greedy) .none kV_shares_left_by_greedy dc_shares_left_by_greedy pm_shares_left_by_greedy an_shares_left_by_greedy cd_shares_left_by_greedy ct_shares_left_by_greedy), sl_shares_left_by_greedy⟩)
    (c_shares_left_by_greedy : PySem.W.codeIn K cd_shares_left_by_greedy "shares_left_by_greedy" = true)
    (k_shares_left_by_greedy : PySem.W.keepIn K (.ref f_shares_left_by_greedy) = true)
    (a_shares_of_taking : PySem.W.nsIn K mainGlobals "shares_of_taking" = some (some (.ref f_shares_of_taking)))
    (l_shares_of_taking : K.lookup f_shares_of_taking = some ⟨oc_shares_of_taking, od_shares_of_taking, .func (PySem.W.fnOf "shares_of_taking" "shares_of_taking" (defArgs s_shares_of_taking) (defBody s_shares_of_taking) (defScope s_shares_of_taking) .none kV_shares_of_taking dc_shares_of_taking pm_shares_of_taking an_shares_of_taking cd_shares_of_taking ct_shares_of_taking), sl_shares_of_taking⟩)
    (c_shares_of_taking : PySem.W.codeIn K cd_shares_of_taking "shares_of_taking" = true)
    (k_shares_of_taking : PySem.W.keepIn K (.ref f_shares_of_taking) = true)
    (a_is_place : PySem.W.nsIn K mainGlobals "is_place" = some (some (.ref f_is_place)))
    (l_is_place : K.lookup f_is_place = some ⟨oc_is_place, od_is_place, .func (PySem.W.fnOf "is_place" "is_place" (defArgs s_is_place) (defBody s_is_place) (defScope s_is_place) .none kV_is_place dc_is_place pm_is_place an_is_place cd_is_place ct_is_place), sl_is_place⟩)
    (c_is_place : PySem.W.codeIn K cd_is_place "is_place" = true)
    (k_is_place : PySem.W.keepIn K (.ref f_is_place) = true)
    (a_swapped : PySem.W.nsIn K mainGlobals "swapped" = some (some (.ref f_swapped)))
    (l_swapped : K.lookup f_swapped = some ⟨oc_swapped, od_swapped, .func (PySem.W.fnOf "swapped" "swapped" (defArgs s_swapped) (defBody s_swapped) (defScope s_swapped) .none kV_swapped dc_swapped pm_swapped an_swapped cd_swapped ct_swapped), sl_swapped⟩)
    (c_swapped : PySem.W.codeIn K cd_swapped "swapped" = true)
    (k_swapped : PySem.W.keepIn K (.ref f_swapped) = true)
    (a_as_told : PySem.W.nsIn K mainGlobals "as_told" = some (some (.ref f_as_told)))
    (l_as_told : K.lookup f_as_told = some ⟨oc_as_told, od_as_told, .func (PySem.W.fnOf "as_told" "as_told" (defArgs s_as_told) (defBody s_as_told) (defScope s_as_told) .none kV_as_told dc_as_told pm_as_told an_as_told cd_as_told ct_as_told), sl_as_told⟩)
    (c_as_told : PySem.W.codeIn K cd_as_told "as_told" = true)
    (k_as_told : PySem.W.keepIn K (.ref f_as_told) = true)
    (a_call_size : PySem.W.nsIn K mainGlobals "call_size" = some (some (.ref f_call_size)))
    (l_call_size : K.lookup f_call_size = some ⟨oc_call_size, od_call_size, .func (PySem.W.fnOf "call_size" "call_size" (defArgs s_call_size) (defBody s_call_size) (defScope s_call_size) .none kV_call_size dc_call_size pm_call_size an_call_size cd_call_size ct_call_size), sl_call_size⟩)
    (c_call_size : PySem.W.codeIn K cd_call_size "call_size" = true)
    (k_call_size : PySem.W.keepIn K (.ref f_call_size) = true)
    (a_answer : PySem.W.nsIn K mainGlobals "answer" = some (some (.ref f_answer)))
    (l_answer : K.lookup f_answer = some ⟨oc_answer, od_answer, .func (PySem.W.fnOf "answer" "answer" (defArgs s_answer) (defBody s_answer) (defScope s_answer) .none kV_answer dc_answer pm_answer an_answer cd_answer ct_answer), sl_answer⟩)
    (c_answer : PySem.W.codeIn K cd_answer "answer" = true)
    (k_answer : PySem.W.keepIn K (.ref f_answer) = true)
    (a_answers : PySem.W.nsIn K mainGlobals "answers" = some (some (.ref f_answers)))
    (l_answers : K.lookup f_answers = some ⟨oc_answers, od_answers, .func (PySem.W.fnOf "answers" "answers" (defArgs s_answers) (defBody s_answers) (defScope s_answers) .none kV_answers dc_answers pm_answers an_answers cd_answers ct_answers), sl_answers⟩)
    (c_answers : PySem.W.codeIn K cd_answers "answers" = true)
    (k_answers : PySem.W.keepIn K (.ref f_answers) = true)
    (a_m_init : PySem.W.findIn K (.ref C) "__init__" = some (some (.ref f_m_init)))
    (i_m_init : PySem.W.isFn K (.ref f_m_init) = true)
    (l_m_init : K.lookup f_m_init = some ⟨oc_m_init, od_m_init, .func (PySem.W.fnOf "__init__" "Row.__init__" (defArgs s_m_init) (defBody s_m_init) (defScope s_m_init) .none kV_m_init dc_m_init pm_m_init an_m_init cd_m_init ct_m_init), sl_m_init⟩)
    (c_m_init : PySem.W.codeIn K cd_m_init "Row.__init__" = true)
    (k_m_init : PySem.W.keepIn K (.ref f_m_init) = true)
    (a_m_lay : PySem.W.findIn K (.ref C) "lay" = some (some (.ref f_m_lay)))
    (i_m_lay : PySem.W.isFn K (.ref f_m_lay) = true)
    (l_m_lay : K.lookup f_m_lay = some ⟨oc_m_lay, od_m_lay, .func (PySem.W.fnOf "lay" "Row.lay" (defArgs s_m_lay) (defBody s_m_lay) (defScope s_m_lay) .none kV_m_lay dc_m_lay pm_m_lay an_m_lay cd_m_lay ct_m_lay), sl_m_lay⟩)
    (c_m_lay : PySem.W.codeIn K cd_m_lay "Row.lay" = true)
    (k_m_lay : PySem.W.keepIn K (.ref f_m_lay) = true)
    (a_m_take : PySem.W.findIn K (.ref C) "take" = some (some (.ref f_m_take)))
    (i_m_take : PySem.W.isFn K (.ref f_m_take) = true)
    (l_m_take : K.lookup f_m_take = some ⟨oc_m_take, od_m_take, .func (PySem.W.fnOf "take" "Row.take" (defArgs s_m_take) (defBody s_m_take) (defScope s_m_take) .none kV_m_take dc_m_take pm_m_take an_m_take cd_m_take ct_m_take), sl_m_take⟩)
    (c_m_take : PySem.W.codeIn K cd_m_take "Row.take" = true)
    (k_m_take : PySem.W.keepIn K (.ref f_m_take) = true)
    (a_m_back : PySem.W.findIn K (.ref C) "back" = some (some (.ref f_m_back)))
    (i_m_back : PySem.W.isFn K (.ref f_m_back) = true)
    (l_m_back : K.lookup f_m_back = some ⟨oc_m_back, od_m_back, .func (PySem.W.fnOf "back" "Row.back" (defArgs s_m_back) (defBody s_m_back) (defScope s_m_back) .none kV_m_back dc_m_back pm_m_back an_m_back cd_m_back ct_m_back), sl_m_back⟩)
    (c_m_back : PySem.W.codeIn K cd_m_back "Row.back" = true)
    (k_m_back : PySem.W.keepIn K (.ref f_m_back) = true)
    (a_m_shows : PySem.W.findIn K (.ref C) "shows" = some (some (.ref f_m_shows)))
    (i_m_shows : PySem.W.isFn K (.ref f_m_shows) = true)
    (l_m_shows : K.lookup f_m_shows = some ⟨oc_m_shows, od_m_shows, .func (PySem.W.fnOf "shows" "Row.shows" (defArgs s_m_shows) (defBody s_m_shows) (defScope s_m_shows) .none kV_m_shows dc_m_shows pm_m_shows an_m_shows cd_m_shows ct_m_shows), sl_m_shows⟩)
    (c_m_shows : PySem.W.codeIn K cd_m_shows "Row.shows" = true)
    (k_m_shows : PySem.W.keepIn K (.ref f_m_shows) = true)
    (a_m_lead : PySem.W.findIn K (.ref C) "lead" = some (some (.ref f_m_lead)))
    (i_m_lead : PySem.W.isFn K (.ref f_m_lead) = true)
    (l_m_lead : K.lookup f_m_lead = some ⟨oc_m_lead, od_m_lead, .func (PySem.W.fnOf "lead" "Row.lead" (defArgs s_m_lead) (defBody s_m_lead) (defScope s_m_lead) .none kV_m_lead dc_m_lead pm_m_lead an_m_lead cd_m_lead ct_m_lead), sl_m_lead⟩)
    (c_m_lead : PySem.W.codeIn K cd_m_lead "Row.lead" = true)
    (k_m_lead : PySem.W.keepIn K (.ref f_m_lead) = true)
    (a_m_best : PySem.W.findIn K (.ref C) "best" = some (some (.ref f_m_best)))
    (i_m_best : PySem.W.isFn K (.ref f_m_best) = true)
    (l_m_best : K.lookup f_m_best = some ⟨oc_m_best, od_m_best, .func (PySem.W.fnOf "best" "Row.best" (defArgs s_m_best) (defBody s_m_best) (defScope s_m_best) .none kV_m_best dc_m_best pm_m_best an_m_best cd_m_best ct_m_best), sl_m_best⟩)
    (c_m_best : PySem.W.codeIn K cd_m_best "Row.best" = true)
    (k_m_best : PySem.W.keepIn K (.ref f_m_best) = true)
    (a_m_gets : PySem.W.findIn K (.ref C) "gets" = some (some (.ref f_m_gets)))
    (i_m_gets : PySem.W.isFn K (.ref f_m_gets) = true)
    (l_m_gets : K.lookup f_m_gets = some ⟨oc_m_gets, od_m_gets, .func (PySem.W.fnOf "gets" "Row.gets" (defArgs s_m_gets) (defBody s_m_gets) (defScope s_m_gets) .none kV_m_gets dc_m_gets pm_m_gets an_m_gets cd_m_gets ct_m_gets), sl_m_gets⟩)
    (c_m_gets : PySem.W.codeIn K cd_m_gets "Row.gets" = true)
    (k_m_gets : PySem.W.keepIn K (.ref f_m_gets) = true)
    (a_m_games : PySem.W.findIn K (.ref C) "games" = some (some (.ref f_m_games)))
    (i_m_games : PySem.W.isFn K (.ref f_m_games) = true)
    (l_m_games : K.lookup f_m_games = some ⟨oc_m_games, od_m_games, .func (PySem.W.fnOf "games" "Row.games" (defArgs s_m_games) (defBody s_m_games) (defScope s_m_games) .none kV_m_games dc_m_games pm_m_games an_m_games cd_m_games ct_m_games), sl_m_games⟩)
    (c_m_games : PySem.W.codeIn K cd_m_games "Row.games" = true)
    (k_m_games : PySem.W.keepIn K (.ref f_m_games) = true)
    (a_m_play : PySem.W.findIn K (.ref C) "play" = some (some (.ref f_m_play)))
    (i_m_play : PySem.W.isFn K (.ref f_m_play) = true)
    (l_m_play : K.lookup f_m_play = some ⟨oc_m_play, od_m_play, .func (PySem.W.fnOf "play" "Row.play" (defArgs s_m_play) (defBody s_m_play) (defScope s_m_play) .none kV_m_play dc_m_play pm_m_play an_m_play cd_m_play ct_m_play), sl_m_play⟩)
    (c_m_play : PySem.W.codeIn K cd_m_play "Row.play" = true)
    (k_m_play : PySem.W.keepIn K (.ref f_m_play) = true)
    (a_m_places : PySem.W.findIn K (.ref C) "places" = some (some (.ref f_m_places)))
    (i_m_places : PySem.W.isFn K (.ref f_m_places) = true)
    (l_m_places : K.lookup f_m_places = some ⟨oc_m_places, od_m_places, .func (PySem.W.fnOf "places" "Row.places" (defArgs s_m_places) (defBody s_m_places) (defScope s_m_places) .none kV_m_places dc_m_places pm_m_places an_m_places cd_m_places ct_m_places), sl_m_places⟩)
    (c_m_places : PySem.W.codeIn K cd_m_places "Row.places" = true)
    (k_m_places : PySem.W.keepIn K (.ref f_m_places) = true)
    (a_m_greedy : PySem.W.findIn K (.ref C) "greedy" = some (some (.ref f_m_greedy)))
    (i_m_greedy : PySem.W.isFn K (.ref f_m_greedy) = true)
    (l_m_greedy : K.lookup f_m_greedy = some ⟨oc_m_greedy, od_m_greedy, .func (PySem.W.fnOf "greedy" "Row.greedy" (defArgs s_m_greedy) (defBody s_m_greedy) (defScope s_m_greedy) .none kV_m_greedy dc_m_greedy pm_m_greedy an_m_greedy cd_m_greedy ct_m_greedy), sl_m_greedy⟩)
    (c_m_greedy : PySem.W.codeIn K cd_m_greedy "Row.greedy" = true)
    (k_m_greedy : PySem.W.keepIn K (.ref f_m_greedy) = true)
    (a_m_beat : PySem.W.findIn K (.ref C) "beat" = some (some (.ref f_m_beat)))
    (i_m_beat : PySem.W.isFn K (.ref f_m_beat) = true)
    (l_m_beat : K.lookup f_m_beat = some ⟨oc_m_beat, od_m_beat, .func (PySem.W.fnOf "beat" "Row.beat" (defArgs s_m_beat) (defBody s_m_beat) (defScope s_m_beat) .none kV_m_beat dc_m_beat pm_m_beat an_m_beat cd_m_beat ct_m_beat), sl_m_beat⟩)
    (c_m_beat : PySem.W.codeIn K cd_m_beat "Row.beat" = true)
    (k_m_beat : PySem.W.keepIn K (.ref f_m_beat) = true)
    (a_m_swap : PySem.W.findIn K (.ref C) "swap" = some (some (.ref f_m_swap)))
    (i_m_swap : PySem.W.isFn K (.ref f_m_swap) = true)
    (l_m_swap : K.lookup f_m_swap = some ⟨oc_m_swap, od_m_swap, .func (PySem.W.fnOf "swap" "Row.swap" (defArgs s_m_swap) (defBody s_m_swap) (defScope s_m_swap) .none kV_m_swap dc_m_swap pm_m_swap an_m_swap cd_m_swap ct_m_swap), sl_m_swap⟩)
    (c_m_swap : PySem.W.codeIn K cd_m_swap "Row.swap" = true)
    (k_m_swap : PySem.W.keepIn K (.ref f_m_swap) = true)
    (pg : PySem.W.plainGet K C Str.empty = true)
    (hd : PySem.W.hasDictIn K C = true)
    (po : PySem.W.plainOver K C = true)
    (sa : PySem.W.findIn K (.ref C) "__setattr__" = some (some (.builtin "object.__setattr__")))
    (mk : PySem.W.makesIn K C = true)
    (kc : PySem.W.keepIn K (.ref C) = true)
    (nf_coins : PySem.W.findIn K (.ref C) "coins" = some none)
    (nf_ends : PySem.W.findIn K (.ref C) "ends" = some none)
    (nf_taken : PySem.W.findIn K (.ref C) "taken" = some none)
    (u_BACK : PySem.W.nsIn K mainGlobals "BACK" = some (some (.int (2) t_BACK)))
    (u_BEAT : PySem.W.nsIn K mainGlobals "BEAT" = some (some (.int (11) t_BEAT)))
    (u_BEST : PySem.W.nsIn K mainGlobals "BEST" = some (some (.int (5) t_BEST)))
    (u_GAMES : PySem.W.nsIn K mainGlobals "GAMES" = some (some (.int (7) t_GAMES)))
    (u_GETS : PySem.W.nsIn K mainGlobals "GETS" = some (some (.int (6) t_GETS)))
    (u_GREEDY : PySem.W.nsIn K mainGlobals "GREEDY" = some (some (.int (10) t_GREEDY)))
    (u_LEAD : PySem.W.nsIn K mainGlobals "LEAD" = some (some (.int (4) t_LEAD)))
    (u_LEFT : PySem.W.nsIn K mainGlobals "LEFT" = some (some (.int (0) t_LEFT)))
    (u_MOST_COINS : PySem.W.nsIn K mainGlobals "MOST_COINS" = some (some (.int (16) t_MOST_COINS)))
    (u_MOST_VALUE : PySem.W.nsIn K mainGlobals "MOST_VALUE" = some (some (.int (1000) t_MOST_VALUE)))
    (u_NOTHING_TAKEN : PySem.W.nsIn K mainGlobals "NOTHING_TAKEN" = some (some (.int (-9) t_NOTHING_TAKEN)))
    (u_NO_COIN : PySem.W.nsIn K mainGlobals "NO_COIN" = some (some (.int (-6) t_NO_COIN)))
    (u_NO_SUCH_END : PySem.W.nsIn K mainGlobals "NO_SUCH_END" = some (some (.int (-1) t_NO_SUCH_END)))
    (u_NO_SUCH_PLACE : PySem.W.nsIn K mainGlobals "NO_SUCH_PLACE" = some (some (.int (-2) t_NO_SUCH_PLACE)))
    (u_NO_SUCH_ROW : PySem.W.nsIn K mainGlobals "NO_SUCH_ROW" = some (some (.int (-1) t_NO_SUCH_ROW)))
    (u_PLACES : PySem.W.nsIn K mainGlobals "PLACES" = some (some (.int (9) t_PLACES)))
    (u_PLAY : PySem.W.nsIn K mainGlobals "PLAY" = some (some (.int (8) t_PLAY)))
    (u_RIGHT : PySem.W.nsIn K mainGlobals "RIGHT" = some (some (.int (1) t_RIGHT)))
    (u_ROW : PySem.W.nsIn K mainGlobals "ROW" = some (some (.int (0) t_ROW)))
    (u_SHOWS : PySem.W.nsIn K mainGlobals "SHOWS" = some (some (.int (3) t_SHOWS)))
    (u_SWAP : PySem.W.nsIn K mainGlobals "SWAP" = some (some (.int (12) t_SWAP)))
    (u_TAKE : PySem.W.nsIn K mainGlobals "TAKE" = some (some (.int (1) t_TAKE)))
    (z_len : PySem.W.nsIn K mainGlobals "len" = some none)
    (z_list : PySem.W.nsIn K mainGlobals "list" = some none)
    (z_max : PySem.W.nsIn K mainGlobals "max" = some none)
    (z_range : PySem.W.nsIn K mainGlobals "range" = some none)
    (z_sum : PySem.W.nsIn K mainGlobals "sum" = some none)
    : ∃ fd : FuncData, (∀ (s : Shared) (us : List Value), us.length = (["calls"] : List Str).length → BindsTo s fd ⟨us, []⟩ ((["calls"] : List Str).zip us)) ∧ ∀ base : Heap, K.In base → base.Ns mainGlobals mg → FnOk P w K mg base CX0 6 fa fd ["calls"] (sp_answers K) := by
  have e := hfa.symm.trans (PySem.W.mg_of X G a_answers)
  have e2 : f_answers = fa := by cases e; rfl
  subst e2
  have F_can_lie := fun_mk (st := s_can_lie) l_can_lie c_can_lie k_can_lie
  have b_can_lie := F_can_lie.binds (ps := ["coins"]) fun _ _ _ _ _ _ us hl => match us, hl with | [_], _ => rfl
  have F_end_coin := fun_mk (st := s_end_coin) l_end_coin c_end_coin k_end_coin
  have b_end_coin := F_end_coin.binds (ps := ["coins", "end"]) fun _ _ _ _ _ _ us hl => match us, hl with | [_, _], _ => rfl
  have F_without_end := fun_mk (st := s_without_end) l_without_end c_without_end k_without_end
  have b_without_end := F_without_end.binds (ps := ["coins", "end"]) fun _ _ _ _ _ _ us hl => match us, hl with | [_, _], _ => rfl
  have F_lead_of := fun_mk (st := s_lead_of) l_lead_of c_lead_of k_lead_of
  have b_lead_of := F_lead_of.binds (ps := ["coins"]) fun _ _ _ _ _ _ us hl => match us, hl with | [_], _ => rfl
  have F_leads_of_size := fun_mk (st := s_leads_of_size) l_leads_of_size c_leads_of_size k_leads_of_size
  have b_leads_of_size := F_leads_of_size.binds (ps := ["coins", "size", "shorter"]) fun _ _ _ _ _ _ us hl => match us, hl with | [_, _, _], _ => rfl
  have F_games_of := fun_mk (st := s_games_of) l_games_of c_games_of k_games_of
  have b_games_of := F_games_of.binds (ps := ["coins"]) fun _ _ _ _ _ _ us hl => match us, hl with | [_], _ => rfl
  have F_games_of_size := fun_mk (st := s_games_of_size) l_games_of_size c_games_of_size k_games_of_size
  have b_games_of_size := F_games_of_size.binds (ps := ["coins", "size", "shorter", "games"]) fun _ _ _ _ _ _ us hl => match us, hl with | [_, _, _, _], _ => rfl
  have F_best_end := fun_mk (st := s_best_end) l_best_end c_best_end k_best_end
  have b_best_end := F_best_end.binds (ps := ["coins"]) fun _ _ _ _ _ _ us hl => match us, hl with | [_], _ => rfl
  have F_greedy_end := fun_mk (st := s_greedy_end) l_greedy_end c_greedy_end k_greedy_end
  have b_greedy_end := F_greedy_end.binds (ps := ["coins"]) fun _ _ _ _ _ _ us hl => match us, hl with | [_], _ => rfl
  have F_taken_by_greed := fun_mk (st := s_taken_by_greed) l_taken_by_greed c_taken_by_greed k_taken_by_greed
  have b_taken_by_greed := F_taken_by_greed.binds (ps := ["coins"]) fun _ _ _ _ _ _ us hl => match us, hl with | [_], _ => rfl
  have F_share_behind_greedy := fun_mk (st := s_share_behind_greedy) l_share_behind_greedy c_share_behind_greedy k_share_behind_greedy
  have b_share_behind_greedy := F_share_behind_greedy.binds (ps := ["coins"]) fun _ _ _ _ _ _ us hl => match us, hl with | [_], _ => rfl
  have F_shares_left_by_greedy := fun_mk (st := s_shares_left_by_greedy) l_shares_left_by_greedy c_shares_left_by_greedy k_shares_left_by_greedy
  have b_shares_left_by_greedy := F_shares_left_by_greedy.binds (ps := ["coins", "size", "shorter"]) fun _ _ _ _ _ _ us hl => match us, hl with | [_, _, _], _ => rfl
  have F_shares_of_taking := fun_mk (st := s_shares_of_taking) l_shares_of_taking c_shares_of_taking k_shares_of_taking
  have b_shares_of_taking := F_shares_of_taking.binds (ps := ["coins", "size", "shorter"]) fun _ _ _ _ _ _ us hl => match us, hl with | [_, _, _], _ => rfl
  have F_is_place := fun_mk (st := s_is_place) l_is_place c_is_place k_is_place
  have b_is_place := F_is_place.binds (ps := ["coins", "place"]) fun _ _ _ _ _ _ us hl => match us, hl with | [_, _], _ => rfl
  have F_swapped := fun_mk (st := s_swapped) l_swapped c_swapped k_swapped
  have b_swapped := F_swapped.binds (ps := ["coins", "i", "j"]) fun _ _ _ _ _ _ us hl => match us, hl with | [_, _, _], _ => rfl
  have F_as_told := fun_mk (st := s_as_told) l_as_told c_as_told k_as_told
  have b_as_told := F_as_told.binds (ps := ["lead"]) fun _ _ _ _ _ _ us hl => match us, hl with | [_], _ => rfl
  have F_call_size := fun_mk (st := s_call_size) l_call_size c_call_size k_call_size
  have b_call_size := F_call_size.binds (ps := ["calls", "at"]) fun _ _ _ _ _ _ us hl => match us, hl with | [_, _], _ => rfl
  have F_answer := fun_mk (st := s_answer) l_answer c_answer k_answer
  have b_answer := F_answer.binds (ps := ["row", "call"]) fun _ _ _ _ _ _ us hl => match us, hl with | [_, _], _ => rfl
  have F_answers := fun_mk (st := s_answers) l_answers c_answers k_answers
  have b_answers := F_answers.binds (ps := ["calls"]) fun _ _ _ _ _ _ us hl => match us, hl with | [_], _ => rfl
  have F_m_init := fun_mk (st := s_m_init) l_m_init c_m_init k_m_init
  have b_m_init := F_m_init.binds (ps := ["self"]) fun _ _ _ _ _ _ us hl => match us, hl with | [_], _ => rfl
  have F_m_lay := fun_mk (st := s_m_lay) l_m_lay c_m_lay k_m_lay
  have b_m_lay := F_m_lay.binds (ps := ["self", "coins"]) fun _ _ _ _ _ _ us hl => match us, hl with | [_, _], _ => rfl
  have F_m_take := fun_mk (st := s_m_take) l_m_take c_m_take k_m_take
  have b_m_take := F_m_take.binds (ps := ["self", "end"]) fun _ _ _ _ _ _ us hl => match us, hl with | [_, _], _ => rfl
  have F_m_back := fun_mk (st := s_m_back) l_m_back c_m_back k_m_back
  have b_m_back := F_m_back.binds (ps := ["self"]) fun _ _ _ _ _ _ us hl => match us, hl with | [_], _ => rfl
  have F_m_shows := fun_mk (st := s_m_shows) l_m_shows c_m_shows k_m_shows
  have b_m_shows := F_m_shows.binds (ps := ["self"]) fun _ _ _ _ _ _ us hl => match us, hl with | [_], _ => rfl
  have F_m_lead := fun_mk (st := s_m_lead) l_m_lead c_m_lead k_m_lead
  have b_m_lead := F_m_lead.binds (ps := ["self"]) fun _ _ _ _ _ _ us hl => match us, hl with | [_], _ => rfl
  have F_m_best := fun_mk (st := s_m_best) l_m_best c_m_best k_m_best
  have b_m_best := F_m_best.binds (ps := ["self"]) fun _ _ _ _ _ _ us hl => match us, hl with | [_], _ => rfl
  have F_m_gets := fun_mk (st := s_m_gets) l_m_gets c_m_gets k_m_gets
  have b_m_gets := F_m_gets.binds (ps := ["self"]) fun _ _ _ _ _ _ us hl => match us, hl with | [_], _ => rfl
  have F_m_games := fun_mk (st := s_m_games) l_m_games c_m_games k_m_games
  have b_m_games := F_m_games.binds (ps := ["self"]) fun _ _ _ _ _ _ us hl => match us, hl with | [_], _ => rfl
  have F_m_play := fun_mk (st := s_m_play) l_m_play c_m_play k_m_play
  have b_m_play := F_m_play.binds (ps := ["self"]) fun _ _ _ _ _ _ us hl => match us, hl with | [_], _ => rfl
  have F_m_places := fun_mk (st := s_m_places) l_m_places c_m_places k_m_places
  have b_m_places := F_m_places.binds (ps := ["self"]) fun _ _ _ _ _ _ us hl => match us, hl with | [_], _ => rfl
  have F_m_greedy := fun_mk (st := s_m_greedy) l_m_greedy c_m_greedy k_m_greedy
  have b_m_greedy := F_m_greedy.binds (ps := ["self"]) fun _ _ _ _ _ _ us hl => match us, hl with | [_], _ => rfl
  have F_m_beat := fun_mk (st := s_m_beat) l_m_beat c_m_beat k_m_beat
  have b_m_beat := F_m_beat.binds (ps := ["self"]) fun _ _ _ _ _ _ us hl => match us, hl with | [_], _ => rfl
  have F_m_swap := fun_mk (st := s_m_swap) l_m_swap c_m_swap k_m_swap
  have b_m_swap := F_m_swap.binds (ps := ["self", "i", "j"]) fun _ _ _ _ _ _ us hl => match us, hl with | [_, _, _], _ => rfl
  have T : Txt K mg { C := C, f_can_lie := f_can_lie, d_can_lie := _, f_end_coin := f_end_coin, d_end_coin := _, f_without_end := f_without_end, d_without_end := _, f_lead_of := f_lead_of, d_lead_of := _, f_leads_of_size := f_leads_of_size, d_leads_of_size := _, f_games_of := f_games_of, d_games_of := _, f_games_of_size := f_games_of_size, d_games_of_size := _, f_best_end := f_best_end, d_best_end := _, f_greedy_end := f_greedy_end, d_greedy_end := _, f_taken_by_greed := f_taken_by_greed, d_taken_by_greed := _, f_share_behind_greedy := f_share_behind_greedy, d_share_behind_greedy := _, f_shares_left_by_greedy := f_shares_left_by_greedy, d_shares_left_by_greedy := _, f_shares_of_taking := f_shares_of_taking, d_shares_of_taking := _, f_is_place := f_is_place, d_is_place := _, f_swapped := f_swapped, d_swapped := _, f_as_told := f_as_told, d_as_told := _, f_call_size := f_call_size, d_call_size := _, f_answer := f_answer, d_answer := _, f_answers := f_answers, d_answers := _, f_m_init := f_m_init, d_m_init := _, f_m_lay := f_m_lay, d_m_lay := _, f_m_take := f_m_take, d_m_take := _, f_m_back := f_m_back, d_m_back := _, f_m_shows := f_m_shows, d_m_shows := _, f_m_lead := f_m_lead, d_m_lead := _, f_m_best := f_m_best, d_m_best := _, f_m_gets := f_m_gets, d_m_gets := _, f_m_games := f_m_games, d_m_games := _, f_m_play := f_m_play, d_m_play := _, f_m_places := f_m_places, d_m_places := _, f_m_greedy := f_m_greedy, d_m_greedy := _, f_m_beat := f_m_beat, d_m_beat := _, f_m_swap := f_m_swap, d_m_swap := _ } :=
    { cl := ⟨pg, hd, po, sa⟩
      mkc := ⟨mk, a_m_init, i_m_init, kc⟩
      g_cls := PySem.W.mg_of X G aC
      no_coins := nf_coins
      no_ends := nf_ends
      no_taken := nf_taken
      c_BACK := ⟨_, PySem.W.mg_of X G u_BACK⟩
      c_BEAT := ⟨_, PySem.W.mg_of X G u_BEAT⟩
      c_BEST := ⟨_, PySem.W.mg_of X G u_BEST⟩
      c_GAMES := ⟨_, PySem.W.mg_of X G u_GAMES⟩
      c_GETS := ⟨_, PySem.W.mg_of X G u_GETS⟩
      c_GREEDY := ⟨_, PySem.W.mg_of X G u_GREEDY⟩
      c_LEAD := ⟨_, PySem.W.mg_of X G u_LEAD⟩
      c_LEFT := ⟨_, PySem.W.mg_of X G u_LEFT⟩
      c_MOST_COINS := ⟨_, PySem.W.mg_of X G u_MOST_COINS⟩
      c_MOST_VALUE := ⟨_, PySem.W.mg_of X G u_MOST_VALUE⟩
      c_NOTHING_TAKEN := ⟨_, PySem.W.mg_of X G u_NOTHING_TAKEN⟩
      c_NO_COIN := ⟨_, PySem.W.mg_of X G u_NO_COIN⟩
      c_NO_SUCH_END := ⟨_, PySem.W.mg_of X G u_NO_SUCH_END⟩
      c_NO_SUCH_PLACE := ⟨_, PySem.W.mg_of X G u_NO_SUCH_PLACE⟩
      c_NO_SUCH_ROW := ⟨_, PySem.W.mg_of X G u_NO_SUCH_ROW⟩
      c_PLACES := ⟨_, PySem.W.mg_of X G u_PLACES⟩
      c_PLAY := ⟨_, PySem.W.mg_of X G u_PLAY⟩
      c_RIGHT := ⟨_, PySem.W.mg_of X G u_RIGHT⟩
      c_ROW := ⟨_, PySem.W.mg_of X G u_ROW⟩
      c_SHOWS := ⟨_, PySem.W.mg_of X G u_SHOWS⟩
      c_SWAP := ⟨_, PySem.W.mg_of X G u_SWAP⟩
      c_TAKE := ⟨_, PySem.W.mg_of X G u_TAKE⟩
      n_len := PySem.W.mg_none_of X G z_len
      n_list := PySem.W.mg_none_of X G z_list
      n_max := PySem.W.mg_none_of X G z_max
      n_range := PySem.W.mg_none_of X G z_range
      n_sum := PySem.W.mg_none_of X G z_sum
      F_can_lie := F_can_lie
      b_can_lie := b_can_lie
      g_can_lie := PySem.W.mg_of X G a_can_lie
      k_can_lie := k_can_lie
      F_end_coin := F_end_coin
      b_end_coin := b_end_coin
      g_end_coin := PySem.W.mg_of X G a_end_coin
      k_end_coin := k_end_coin
      F_without_end := F_without_end
      b_without_end := b_without_end
      g_without_end := PySem.W.mg_of X G a_without_end
      k_without_end := k_without_end
      F_lead_of := F_lead_of
      b_lead_of := b_lead_of
      g_lead_of := PySem.W.mg_of X G a_lead_of
      k_lead_of := k_lead_of
      F_leads_of_size := F_leads_of_size
      b_leads_of_size := b_leads_of_size
      g_leads_of_size := PySem.W.mg_of X G a_leads_of_size
      k_leads_of_size := k_leads_of_size
      F_games_of := F_games_of
      b_games_of := b_games_of
      g_games_of := PySem.W.mg_of X G a_games_of
      k_games_of := k_games_of
      F_games_of_size := F_games_of_size
      b_games_of_size := b_games_of_size
      g_games_of_size := PySem.W.mg_of X G a_games_of_size
      k_games_of_size := k_games_of_size
      F_best_end := F_best_end
      b_best_end := b_best_end
      g_best_end := PySem.W.mg_of X G a_best_end
      k_best_end := k_best_end
      F_greedy_end := F_greedy_end
      b_greedy_end := b_greedy_end
      g_greedy_end := PySem.W.mg_of X G a_greedy_end
      k_greedy_end := k_greedy_end
      F_taken_by_greed := F_taken_by_greed
      b_taken_by_greed := b_taken_by_greed
      g_taken_by_greed := PySem.W.mg_of X G a_taken_by_greed
      k_taken_by_greed := k_taken_by_greed
      F_share_behind_greedy := F_share_behind_greedy
      b_share_behind_greedy := b_share_behind_greedy
      g_share_behind_greedy := PySem.W.mg_of X G a_share_behind_greedy
      k_share_behind_greedy := k_share_behind_greedy
      F_shares_left_by_greedy := F_shares_left_by_greedy
      b_shares_left_by_greedy := b_shares_left_by_greedy
      g_shares_left_by_greedy := PySem.W.mg_of X G a_shares_left_by_greedy
      k_shares_left_by_greedy := k_shares_left_by_greedy
      F_shares_of_taking := F_shares_of_taking
      b_shares_of_taking := b_shares_of_taking
      g_shares_of_taking := PySem.W.mg_of X G a_shares_of_taking
      k_shares_of_taking := k_shares_of_taking
      F_is_place := F_is_place
      b_is_place := b_is_place
      g_is_place := PySem.W.mg_of X G a_is_place
      k_is_place := k_is_place
      F_swapped := F_swapped
      b_swapped := b_swapped
      g_swapped := PySem.W.mg_of X G a_swapped
      k_swapped := k_swapped
      F_as_told := F_as_told
      b_as_told := b_as_told
      g_as_told := PySem.W.mg_of X G a_as_told
      k_as_told := k_as_told
      F_call_size := F_call_size
      b_call_size := b_call_size
      g_call_size := PySem.W.mg_of X G a_call_size
      k_call_size := k_call_size
      F_answer := F_answer
      b_answer := b_answer
      g_answer := PySem.W.mg_of X G a_answer
      k_answer := k_answer
      F_answers := F_answers
      b_answers := b_answers
      g_answers := PySem.W.mg_of X G a_answers
      k_answers := k_answers
      F_m_init := F_m_init
      b_m_init := b_m_init
      F_m_lay := F_m_lay
      b_m_lay := b_m_lay
      me_m_lay := ⟨a_m_lay, i_m_lay, k_m_lay⟩
      F_m_take := F_m_take
      b_m_take := b_m_take
      me_m_take := ⟨a_m_take, i_m_take, k_m_take⟩
      F_m_back := F_m_back
      b_m_back := b_m_back
      me_m_back := ⟨a_m_back, i_m_back, k_m_back⟩
      F_m_shows := F_m_shows
      b_m_shows := b_m_shows
      me_m_shows := ⟨a_m_shows, i_m_shows, k_m_shows⟩
      F_m_lead := F_m_lead
      b_m_lead := b_m_lead
      me_m_lead := ⟨a_m_lead, i_m_lead, k_m_lead⟩
      F_m_best := F_m_best
      b_m_best := b_m_best
      me_m_best := ⟨a_m_best, i_m_best, k_m_best⟩
      F_m_gets := F_m_gets
      b_m_gets := b_m_gets
      me_m_gets := ⟨a_m_gets, i_m_gets, k_m_gets⟩
      F_m_games := F_m_games
      b_m_games := b_m_games
      me_m_games := ⟨a_m_games, i_m_games, k_m_games⟩
      F_m_play := F_m_play
      b_m_play := b_m_play
      me_m_play := ⟨a_m_play, i_m_play, k_m_play⟩
      F_m_places := F_m_places
      b_m_places := b_m_places
      me_m_places := ⟨a_m_places, i_m_places, k_m_places⟩
      F_m_greedy := F_m_greedy
      b_m_greedy := b_m_greedy
      me_m_greedy := ⟨a_m_greedy, i_m_greedy, k_m_greedy⟩
      F_m_beat := F_m_beat
      b_m_beat := b_m_beat
      me_m_beat := ⟨a_m_beat, i_m_beat, k_m_beat⟩
      F_m_swap := F_m_swap
      b_m_swap := b_m_swap
      me_m_swap := ⟨a_m_swap, i_m_swap, k_m_swap⟩ }
  exact ⟨_, fun s us hu => match us, hu with | [_], _ => .of_eq rfl, fun base _ _ => ok_answers T⟩
end My
open PySem PySem.W PyProof.Rows
set_option maxRecDepth 100000 in
set_option maxHeartbeats 0 in
theorem PySem.Challenge.cw_eitherend_s01_answers_holds : PySem.Challenge.rw_eitherend_s01_answers.Holds := by
  w_on; k_headS; (case hw => exact ⟨[.list [.int 2]], by decide +kernel, by decide +kernel⟩)
  k_fillS
  refine L2.walk_specK (r := PySem.Challenge.rw_eitherend_s01_answers) (k := 6) (CX := L2.CX0) (ps := ["calls"]) (sp := My.sp_answers) (by decide +kernel) rfl rfl ⟨rfl, by decide, by decide⟩ (fun w h Y => PySem.W.kIn_of Y) ?F ?S (fun _ _ _ _ z => z)
  case F =>
    intro w mg fa h Y KX G hmg
    refine' My.all_mk KX G hmg ?aC ?a_can_lie ?l_can_lie ?c_can_lie ?k_can_lie ?a_end_coin ?l_end_coin ?c_end_coin ?k_end_coin ?a_without_end ?l_without_end ?c_without_end ?k_without_end ?a_lead_of ?l_lead_of ?c_lead_of ?k_lead_of ?a_leads_of_size ?l_leads_of_size ?c_leads_of_size ?k_leads_of_size ?a_games_of ?l_games_of ?c_games_of ?k_games_of ?a_games_of_size ?l_games_of_size ?c_games_of_size ?k_games_of_size ?a_best_end ?l_best_end ?c_best_end ?k_best_end ?a_greedy_end ?l_greedy_end ?c_greedy_end ?k_greedy_end ?a_taken_by_greed ?l_taken_by_greed ?c_taken_by_greed ?k_taken_by_greed ?a_share_behind_greedy ?l_share_behind_greedy ?c_share_behind_greedy ?k_share_behind_greedy ?a_shares_left_by_greedy ?l_shares_left_by_greedy ?c_shares_left_by_greedy ?k_shares_left_by_greedy ?a_shares_of_taking ?l_shares_of_taking ?c_shares_of_taking ?k_shares_of_taking ?a_is_place ?l_is_place ?c_is_place ?k_is_place ?a_swapped ?l_swapped ?c_swapped ?k_swapped ?a_as_told ?l_as_told ?c_as_told ?k_as_told ?a_call_size ?l_call_size ?c_call_size ?k_call_size ?a_answer ?l_answer ?c_answer ?k_answer ?a_answers ?l_answers ?c_answers ?k_answers ?a_m_init ?i_m_init ?l_m_init ?c_m_init ?k_m_init ?a_m_lay ?i_m_lay ?l_m_lay ?c_m_lay ?k_m_lay ?a_m_take ?i_m_take ?l_m_take ?c_m_take ?k_m_take ?a_m_back ?i_m_back ?l_m_back ?c_m_back ?k_m_back ?a_m_shows ?i_m_shows ?l_m_shows ?c_m_shows ?k_m_shows ?a_m_lead ?i_m_lead ?l_m_lead ?c_m_lead ?k_m_lead ?a_m_best ?i_m_best ?l_m_best ?c_m_best ?k_m_best ?a_m_gets ?i_m_gets ?l_m_gets ?c_m_gets ?k_m_gets ?a_m_games ?i_m_games ?l_m_games ?c_m_games ?k_m_games ?a_m_play ?i_m_play ?l_m_play ?c_m_play ?k_m_play ?a_m_places ?i_m_places ?l_m_places ?c_m_places ?k_m_places ?a_m_greedy ?i_m_greedy ?l_m_greedy ?c_m_greedy ?k_m_greedy ?a_m_beat ?i_m_beat ?l_m_beat ?c_m_beat ?k_m_beat ?a_m_swap ?i_m_swap ?l_m_swap ?c_m_swap ?k_m_swap ?pg ?hd ?po ?sa ?mk ?kc ?nf_coins ?nf_ends ?nf_taken ?u_BACK ?u_BEAT ?u_BEST ?u_GAMES ?u_GETS ?u_GREEDY ?u_LEAD ?u_LEFT ?u_MOST_COINS ?u_MOST_VALUE ?u_NOTHING_TAKEN ?u_NO_COIN ?u_NO_SUCH_END ?u_NO_SUCH_PLACE ?u_NO_SUCH_ROW ?u_PLACES ?u_PLAY ?u_RIGHT ?u_ROW ?u_SHOWS ?u_SWAP ?u_TAKE ?z_len ?z_list ?z_max ?z_range ?z_sum
    (case aC => k_is)
    (case a_can_lie => k_is)
    (case l_can_lie => k_is)
    (case c_can_lie => k_is)
    (case k_can_lie => k_is)
    (case a_end_coin => k_is)
    (case l_end_coin => k_is)
    (case c_end_coin => k_is)
    (case k_end_coin => k_is)
    (case a_without_end => k_is)
    (case l_without_end => k_is)
    (case c_without_end => k_is)
    (case k_without_end => k_is)
    (case a_lead_of => k_is)
    (case l_lead_of => k_is)
    (case c_lead_of => k_is)
    (case k_lead_of => k_is)
    (case a_leads_of_size => k_is)
    (case l_leads_of_size => k_is)
    (case c_leads_of_size => k_is)
    (case k_leads_of_size => k_is)
    (case a_games_of => k_is)
    (case l_games_of => k_is)
    (case c_games_of => k_is)
    (case k_games_of => k_is)
    (case a_games_of_size => k_is)
    (case l_games_of_size => k_is)
    (case c_games_of_size => k_is)
    (case k_games_of_size => k_is)
    (case a_best_end => k_is)
    (case l_best_end => k_is)
    (case c_best_end => k_is)
    (case k_best_end => k_is)
    (case a_greedy_end => k_is)
    (case l_greedy_end => k_is)
    (case c_greedy_end => k_is)
    (case k_greedy_end => k_is)
    (case a_taken_by_greed => k_is)
    (case l_taken_by_greed => k_is)
    (case c_taken_by_greed => k_is)
    (case k_taken_by_greed => k_is)
    (case a_share_behind_greedy => k_is)
    (case l_share_behind_greedy => k_is)
    (case c_share_behind_greedy => k_is)
    (case k_share_behind_greedy => k_is)
    (case a_shares_left_by_greedy => k_is)
    (case l_shares_left_by_greedy => k_is)
    (case c_shares_left_by_greedy => k_is)
    (case k_shares_left_by_greedy => k_is)
    (case a_shares_of_taking => k_is)
    (case l_shares_of_taking => k_is)
    (case c_shares_of_taking => k_is)
    (case k_shares_of_taking => k_is)
    (case a_is_place => k_is)
    (case l_is_place => k_is)
    (case c_is_place => k_is)
    (case k_is_place => k_is)
    (case a_swapped => k_is)
    (case l_swapped => k_is)
    (case c_swapped => k_is)
    (case k_swapped => k_is)
    (case a_as_told => k_is)
    (case l_as_told => k_is)
    (case c_as_told => k_is)
    (case k_as_told => k_is)
    (case a_call_size => k_is)
    (case l_call_size => k_is)
    (case c_call_size => k_is)
    (case k_call_size => k_is)
    (case a_answer => k_is)
    (case l_answer => k_is)
    (case c_answer => k_is)
    (case k_answer => k_is)
    (case a_answers => k_is)
    (case l_answers => k_is)
    (case c_answers => k_is)
    (case k_answers => k_is)
    (case a_m_init => k_is)
    (case i_m_init => k_is)
    (case l_m_init => k_is)
    (case c_m_init => k_is)
    (case k_m_init => k_is)
    (case a_m_lay => k_is)
    (case i_m_lay => k_is)
    (case l_m_lay => k_is)
    (case c_m_lay => k_is)
    (case k_m_lay => k_is)
    (case a_m_take => k_is)
    (case i_m_take => k_is)
    (case l_m_take => k_is)
    (case c_m_take => k_is)
    (case k_m_take => k_is)
    (case a_m_back => k_is)
    (case i_m_back => k_is)
    (case l_m_back => k_is)
    (case c_m_back => k_is)
    (case k_m_back => k_is)
    (case a_m_shows => k_is)
    (case i_m_shows => k_is)
    (case l_m_shows => k_is)
    (case c_m_shows => k_is)
    (case k_m_shows => k_is)
    (case a_m_lead => k_is)
    (case i_m_lead => k_is)
    (case l_m_lead => k_is)
    (case c_m_lead => k_is)
    (case k_m_lead => k_is)
    (case a_m_best => k_is)
    (case i_m_best => k_is)
    (case l_m_best => k_is)
    (case c_m_best => k_is)
    (case k_m_best => k_is)
    (case a_m_gets => k_is)
    (case i_m_gets => k_is)
    (case l_m_gets => k_is)
    (case c_m_gets => k_is)
    (case k_m_gets => k_is)
    (case a_m_games => k_is)
    (case i_m_games => k_is)
    (case l_m_games => k_is)
    (case c_m_games => k_is)
    (case k_m_games => k_is)
    (case a_m_play => k_is)
    (case i_m_play => k_is)
    (case l_m_play => k_is)
    (case c_m_play => k_is)
    (case k_m_play => k_is)
    (case a_m_places => k_is)
    (case i_m_places => k_is)
    (case l_m_places => k_is)
    (case c_m_places => k_is)
    (case k_m_places => k_is)
    (case a_m_greedy => k_is)
    (case i_m_greedy => k_is)
    (case l_m_greedy => k_is)
    (case c_m_greedy => k_is)
    (case k_m_greedy => k_is)
    (case a_m_beat => k_is)
    (case i_m_beat => k_is)
    (case l_m_beat => k_is)
    (case c_m_beat => k_is)
    (case k_m_beat => k_is)
    (case a_m_swap => k_is)
    (case i_m_swap => k_is)
    (case l_m_swap => k_is)
    (case c_m_swap => k_is)
    (case k_m_swap => k_is)
    (case pg => k_is)
    (case hd => k_is)
    (case po => k_is)
    (case sa => k_is)
    (case mk => k_is)
    (case kc => k_is)
    (case nf_coins => k_is)
    (case nf_ends => k_is)
    (case nf_taken => k_is)
    (case u_BACK => k_is)
    (case u_BEAT => k_is)
    (case u_BEST => k_is)
    (case u_GAMES => k_is)
    (case u_GETS => k_is)
    (case u_GREEDY => k_is)
    (case u_LEAD => k_is)
    (case u_LEFT => k_is)
    (case u_MOST_COINS => k_is)
    (case u_MOST_VALUE => k_is)
    (case u_NOTHING_TAKEN => k_is)
    (case u_NO_COIN => k_is)
    (case u_NO_SUCH_END => k_is)
    (case u_NO_SUCH_PLACE => k_is)
    (case u_NO_SUCH_ROW => k_is)
    (case u_PLACES => k_is)
    (case u_PLAY => k_is)
    (case u_RIGHT => k_is)
    (case u_ROW => k_is)
    (case u_SHOWS => k_is)
    (case u_SWAP => k_is)
    (case u_TAKE => k_is)
    (case z_len => k_is)
    (case z_list => k_is)
    (case z_max => k_is)
    (case z_range => k_is)
    (case z_sum => k_is)
  case S =>
    intro K H xs a hO hwi hask hx
    cases hx with
    | cons h1 h2 =>
      cases h2
      cases h1 with
      | lst hs ha =>
        have e := L2.ints_dw a.1 _ ha
        subst e
        have q : ((Codec.inLen 0 2000 a.1 && a.1.all (Codec.inInt 0 4294967295)) && true) = true := hwi
        rw [Bool.and_eq_true, Bool.and_eq_true] at q
        have d := Mx.due_start (l := a.1) hask
        exact ⟨_, a.1, _, rfl, hs, (Codec.inNat_iff.mp q.1.1).2, d.1, d.2, fun H' p hp => .lst (L2.SqL.of hp) (L2.dw_ints _)⟩

