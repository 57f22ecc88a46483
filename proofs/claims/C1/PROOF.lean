import PyProof.Rows.All
import Wide.All
import OpenK.AllK
import Wide.FinOn
import PyProof.EqAt
import PyProof.EqKinds
import PyProof.TupleCall
import KE.BitLaws
import Open.SpecLaws
import KE.OsHead
import KE.OsGo
import PyKqu6
import PyFlatLaws
import PyProof.MinMaxWalk
import PyProof.WalkInts
import PySem.Challenge.RW_daysums_s01_answers
set_option Elab.async false
set_option linter.all false
set_option maxRecDepth 100000
/-! THE HAND LAYER, for ints, bools, texts, own classes, lists, tuples, dicts, comprehensions, walks over dicts, enumerate, zip, reversed, texts, calls, loops. Paste it whole ahead of your own text; what your proof does not reach may be deleted. -/
namespace L2
open PySem PySem.Spec PyProof.Rows

/-- a key: an int or a str -/
abbrev Key := Sum Int Str
def keyIs : Key → Value → Bool
  | .inl k, v => Value.isInt k v
  | .inr x, v => Value.isStrOf x v
def keyH (w : World) : Key → Int
  | .inl k => hashInt k
  | .inr x => hashStr w x
theorem keyIs_shape : ∀ {k : Key} {v : Value}, keyIs k v = true → (∃ i t, k = Sum.inl i ∧ v = Value.int i t) ∨ (∃ x t, k = Sum.inr x ∧ v = Value.str x t)
  | .inl i, v, h => by
    obtain ⟨t, e⟩ := Value.isInt_shape (k := i) (v := v) h
    exact .inl ⟨i, t, rfl, e⟩
  | .inr x, v, h => by
    obtain ⟨t, e⟩ := Value.isStrOf_shape (x := x) (v := v) h
    exact .inr ⟨x, t, rfl, e⟩
theorem key_ll (a b : Int) : decide ((Sum.inl a : Key) = Sum.inl b) = (a == b) := by
  by_cases e : a = b
  · subst e; simp
  · have h : ¬ (Sum.inl a : Key) = Sum.inl b := fun q => e (Sum.inl.inj q)
    rw [decide_eq_false h]
    exact (beq_eq_false_iff_ne.mpr e).symm
theorem key_rr (a b : Str) : decide ((Sum.inr a : Key) = Sum.inr b) = decide (a = b) := by
  by_cases e : a = b
  · subst e; simp
  · have h : ¬ (Sum.inr a : Key) = Sum.inr b := fun q => e (Sum.inr.inj q)
    rw [decide_eq_false h, decide_eq_false e]
theorem key_lr (a : Int) (b : Str) : decide ((Sum.inl a : Key) = Sum.inr b) = false := decide_eq_false (fun q => nomatch q)
theorem key_rl (a : Str) (b : Int) : decide ((Sum.inr a : Key) = Sum.inl b) = false := decide_eq_false (fun q => nomatch q)

def mixKind (prog : Program) (w : World) : PySem.KeyKind prog w Key where
  is := keyIs
  hash := keyH w
  inj := fun v a b ha hb => by
    rcases keyIs_shape ha with ⟨i, t, rfl, rfl⟩ | ⟨x, t, rfl, rfl⟩
    · rcases keyIs_shape hb with ⟨j, u, rfl, e⟩ | ⟨y, u, rfl, e⟩
      · injection e with e1 _; rw [e1]
      · exact nomatch e
    · rcases keyIs_shape hb with ⟨j, u, rfl, e⟩ | ⟨y, u, rfl, e⟩
      · exact nomatch e
      · injection e with e1 _; rw [e1]
  byValue := fun k v h => by
    rcases keyIs_shape h with ⟨i, t, rfl, rfl⟩ | ⟨x, t, rfl, rfl⟩ <;> rfl
  pyHash := fun hv h => by
    rcases keyIs_shape hv with ⟨i, t, rfl, rfl⟩ | ⟨x, t, rfl, rfl⟩
    · exact wpAny_pyHash_int h
    · exact wpAny_pyHash_str h
  eqBool := fun hu hv h => by
    rcases keyIs_shape hu with ⟨i, t, rfl, rfl⟩ | ⟨x, t, rfl, rfl⟩
    · rcases keyIs_shape hv with ⟨j, u, rfl, rfl⟩ | ⟨y, u, rfl, rfl⟩
      · rw [key_ll] at h; exact wpAny_eqBool_int h
      · rw [key_lr] at h; exact SeqAt.EqAt.int_str i t y u _ _ _ _ h
    · rcases keyIs_shape hv with ⟨j, u, rfl, rfl⟩ | ⟨y, u, rfl, rfl⟩
      · rw [key_rl] at h; exact SeqAt.EqAt.str_int x t j u _ _ _ _ h
      · rw [key_rr] at h; exact wpAny_eqBool_str h
  «strs» := fun k x t v h => by
    rcases keyIs_shape h with ⟨i, u, rfl, e⟩ | ⟨y, u, rfl, e⟩
    · exact nomatch e
    · injection e with e1 _
      subst e1
      cases v <;> rfl

end L2

namespace L2
open PySem PySem.Spec PyProof.Rows

/-- a value, without the heap -/
inductive V where
  | non | bl (b : Bool) | int (i : Int) | str (x : Str) | byt (b : Array UInt8) | flt (b : UInt64) | ref (a : Addr) | ty (n : String)
  deriving DecidableEq

def RelV : V → Value → Prop
  | .non, u => u = Value.none
  | .bl b, u => u = Value.bool b
  | .int i, u => ∃ t, u = Value.int i t
  | .str x, u => ∃ t, u = Value.str x t
  | .byt b, u => ∃ t, u = Value.bytes b t
  | .flt b, u => ∃ t, u = Value.float b t
  | .ref a, u => u = Value.ref a
  | .ty n, u => u = Value.type n

abbrev Vals : List V → List Value → Prop := Paired RelV
theorem Vals.length {xs : List V} {us : List Value} (r : Vals xs us) : xs.length = us.length := Paired.length r
theorem Vals.get : ∀ {xs : List V} {us : List Value} {i : Nat} {x : V}, Vals xs us → xs[i]? = some x → ∃ u, us[i]? = some u ∧ RelV x u
  | _, _, _, _, .nil, e => by simp at e
  | _, _, 0, _, .cons r _, e => by simp at e; subst e; exact ⟨_, rfl, r⟩
  | _, _, i + 1, x, .cons _ t, e => by
    obtain ⟨u, h1, h2⟩ := Vals.get (i := i) (x := x) t (by simpa using e)
    exact ⟨u, by simpa using h1, h2⟩
theorem Vals.set {x : V} {u : Value} (r : RelV x u) : ∀ {xs : List V} {us : List Value} (i : Nat), Vals xs us → Vals (xs.set i x) (us.set i u)
  | _, _, _, .nil => .nil
  | _, _, 0, .cons _ t => .cons r t
  | _, _, i + 1, .cons q t => .cons q (Vals.set r i t)
theorem Vals.append : ∀ {xs ys : List V} {us ws : List Value}, Vals xs us → Vals ys ws → Vals (xs ++ ys) (us ++ ws)
  | _, _, _, _, .nil, s => s
  | _, _, _, _, .cons r t, s => .cons r (Vals.append t s)
theorem Vals.take : ∀ {xs : List V} {us : List Value} (n : Nat), Vals xs us → Vals (xs.take n) (us.take n)
  | _, _, 0, _ => .nil
  | _, _, _ + 1, .nil => .nil
  | _, _, n + 1, .cons r t => .cons r (Vals.take n t)
theorem Vals.drop : ∀ {xs : List V} {us : List Value} (n : Nat), Vals xs us → Vals (xs.drop n) (us.drop n)
  | _, _, 0, r => r
  | _, _, _ + 1, .nil => .nil
  | _, _, n + 1, .cons _ t => Vals.drop n t
def RelO : Option V → Option Value → Prop
  | some v, some u => RelV v u
  | none, none => True
  | _, _ => False
def KV {κ : Type} : List (κ × V) → List (κ × Value) → Prop := Paired fun (p : κ × V) (q : κ × Value) => p.1 = q.1 ∧ RelV p.2 q.2

/-- a key of a dict (00_mix): an int or a text -/
def kV : Key → V
  | .inl i => .int i
  | .inr x => .str x

/-- what stands at a tracked address -/
inductive HO where
  /-- a list -/
  | lst (xs : List V)
  /-- a tuple (never changes) -/
  | tup (xs : List V)
  /-- a dict whose keys are ints and texts; one whose keys are tuples of ints and texts (the empty one is both) -/
  | dK (kvs : List (Key × V)) | dT (kvs : List (List Key × V))
  /-- a set of ints: its members, its size -/
  | set (S : Int → Bool) (n : Nat)
  /-- an instance of the class at C, its dict at dx, its attributes -/
  | ins (C dx : Addr) (fs : List (Str × V))
  /-- the dict of the instance at x -/
  | own (x : Addr)
  /-- the dict of an exception -/
  | xd (fs : List (Str × V))
  /-- a bound method, f of x -/
  | met (f x : Addr)
  /-- a range object lo, lo + 1, .. below hi -/
  | rng (lo hi : Int)
  /-- a thing that is known to the object (the script; a dict while a loop walks it): read, never written while it is so -/
  | frz (o : Obj) (u : HO)
  /-- a code object's table -/
  | tbl (ps : Array Value)
  /-- any other thing, by what is true of its one object (a def of one's own: SetO a S n := HO.ext fun h => ..) -/
  | ext (φ : Heap → Prop)

abbrev Hp := Addr → Option HO
def upd (H : Hp) (a : Addr) (o : HO) : Hp := fun b => if b = a then some o else H b
theorem upd_same {H : Hp} {a : Addr} {o : HO} : upd H a o a = some o := by unfold upd; rw [if_pos rfl]
theorem upd_ne {H : Hp} {a b : Addr} {o : HO} (h : b ≠ a) : upd H a o b = H b := by unfold upd; rw [if_neg h]
/-- two objects of different content stand apart -/
theorem ne_of {H : Hp} {a b : Addr} {o u : HO} (h : H a = some o) (h' : H b = some u) (d : o ≠ u) : a ≠ b := by
  intro e; subst e; rw [h] at h'; exact d (Option.some.inj h')
theorem ne_of_none {H : Hp} {a b : Addr} {o : HO} (h : H a = some o) (h' : H b = none) : a ≠ b := by
  intro e; subst e; rw [h] at h'; cases h'

section
variable (P : Program) (w : World)
def ObjOk (H : Hp) (h : Heap) (a : Addr) : HO → Prop
  | .lst xs => xs.length ≤ sizeLine ∧ ∃ (its : List Value) (n : Nat), Vals xs its ∧ h.get? a = some { cls := .type "list", data := .seq its.toArray n }
  | .tup xs => xs.length ≤ sizeLine ∧ ∃ its : List Value, Vals xs its ∧ IsTup h a its.toArray
  | .dK kvs => kvs.length ≤ sizeLine ∧ (a == sysModules) = false ∧ ∃ vs, KV kvs vs ∧ h.DictOf (mixKind P w) a vs
  | .dT kvs => kvs.length ≤ sizeLine ∧ (a == sysModules) = false ∧ ∃ xs : List (List Key × Addr × Value),
      Paired (fun (p : List Key × V) (q : List Key × Addr × Value) => p.1 = q.1 ∧ H q.2.1 = some (.tup (p.1.map kV)) ∧ RelV p.2 q.2.2) kvs xs ∧
      ∃ o es ep, h.get? a = some o ∧ o.ExactDict ∧ o.data = .dict es ep ∧ es.toList = xs.map (entryOfKey (tupleKind (mixKind P w))) ∧ (xs.map (·.1)).Nodup
  | .set S n => h.SetOf (intKind P w) a S n
  | .ins C dx fs => H dx = some (.own a) ∧ fs.length ≤ 1000 ∧ dx ≠ a ∧ h.get? a = some (PySem.W.instObj C dx) ∧
      ∃ mA, h.Ns1 dx mA ∧ (∀ f, RelO (fs.lookup f) (mA f)) ∧ PySem.Within mA (fs.map (·.1))
  | .own _ => ∃ o, h.get? a = some o
  | .xd fs => ∃ mA, h.Ns1 a mA ∧ ∀ f, RelO (fs.lookup f) (mA f)
  | .rng lo hi => ∃ t u v, h.get? a = some { cls := .type "range", data := .fields #[.int lo t, .int hi u, .int 1 v] }
  | .frz o u => h.get? a = some o ∧ ObjOk H h a u
  | .tbl ps => h.get? a = some { cls := .none, data := .fields ps }
  | .met f x => h.get? a = some (PySem.W.methodObj (.ref f) (.ref x))
  | .ext φ => φ h ∧ (∃ o, h.get? a = some o) ∧ ∀ h1 h2 : Heap, φ h1 → (∀ o, h1.get? a = some o → h2.get? a = some o) → φ h2
/-- the abstract heap is held -/
def HOk (H : Hp) (h : Heap) : Prop := ∀ a o, H a = some o → ObjOk P w H h a o
end

section
variable {P : Program} {w : World} {H H' : Hp} {h h' : Heap} {a : Addr} {o : HO}
theorem ObjOk.lt (x : ObjOk P w H h a o) : a < h.objs.size := by
  cases o with
  | lst xs => obtain ⟨_, _, _, _, e⟩ := x; exact Heap.lt_size e
  | tup xs => obtain ⟨_, _, _, p⟩ := x; exact p.lt
  | dK kvs => obtain ⟨_, _, _, _, o, _, _, e, _⟩ := x; exact Heap.lt_size e
  | dT kvs => obtain ⟨_, _, _, _, o, _, _, e, _⟩ := x; exact Heap.lt_size e
  | set S n => obtain ⟨o, _, _, _, e, _⟩ := x; exact Heap.lt_size e
  | ins C dx fs => obtain ⟨_, _, _, e, _⟩ := x; exact Heap.lt_size e
  | own y => obtain ⟨_, e⟩ := x; exact Heap.lt_size e
  | xd fs => obtain ⟨_, ⟨_, _, _, e, _⟩, _⟩ := x; exact Heap.lt_size e
  | rng lo hi => obtain ⟨_, _, _, e⟩ := x; exact Heap.lt_size e
  | frz ob u => obtain ⟨e, _⟩ := x; exact Heap.lt_size e
  | tbl ps => exact Heap.lt_size (show h.get? a = some _ from x)
  | met f y => exact Heap.lt_size (show h.get? a = some _ from x)
  | ext φ => obtain ⟨_, ⟨_, e⟩, _⟩ := x; exact Heap.lt_size e
theorem Paired.mapP {α β : Type} {F G : α → β → Prop} : ∀ {l₁ : List α} {l₂ : List β}, Paired F l₁ l₂ → (∀ a b, F a b → G a b) → Paired G l₁ l₂
  | _, _, .nil, _ => .nil
  | _, _, .cons r t, f => .cons (f _ _ r) (Paired.mapP t f)
/-- what an object's description leans on: its own object, its own dict, the tuples -/
theorem ObjOk.stay (x : ObjOk P w H h a o) (k : ∀ b u, (b = a ∨ H b = some (.own a)) → h.get? b = some u → h'.get? b = some u)
    (ho : ∀ b, H b = some (.own a) → H' b = some (.own a)) (ht : ∀ b xs, H b = some (.tup xs) → H' b = some (.tup xs)) : ObjOk P w H' h' a o := by
  induction o with
  | lst xs => obtain ⟨z, its, n, r, e⟩ := x; exact ⟨z, its, n, r, k _ _ (.inl rfl) e⟩
  | tup xs => obtain ⟨z, its, r, ob, e, c⟩ := x; exact ⟨z, its, r, ob, k _ _ (.inl rfl) e, c⟩
  | dK kvs => obtain ⟨z, y, vs, r, ob, es, ep, e, c⟩ := x; exact ⟨z, y, vs, r, ob, es, ep, k _ _ (.inl rfl) e, c⟩
  | dT kvs =>
    obtain ⟨z, y, xs, r, ob, es, ep, e, c⟩ := x
    exact ⟨z, y, xs, Paired.mapP r fun p q z => ⟨z.1, ht _ _ z.2.1, z.2.2⟩, ob, es, ep, k _ _ (.inl rfl) e, c⟩
  | set S n => obtain ⟨ob, es, ep, t, e, c⟩ := x; exact ⟨ob, es, ep, t, k _ _ (.inl rfl) e, c⟩
  | ins C dx fs =>
    obtain ⟨d, z, ne, e, mA, ⟨od, es, ep, e2, c⟩, r⟩ := x
    exact ⟨ho _ d, z, ne, k _ _ (.inl rfl) e, mA, ⟨od, es, ep, k _ _ (.inr d) e2, c⟩, r⟩
  | own y => obtain ⟨ob, e⟩ := x; exact ⟨ob, k _ _ (.inl rfl) e⟩
  | xd fs => obtain ⟨mA, ⟨od, es, ep, e, c⟩, r⟩ := x; exact ⟨mA, ⟨od, es, ep, k _ _ (.inl rfl) e, c⟩, r⟩
  | rng lo hi => obtain ⟨t, u, v, e⟩ := x; exact ⟨t, u, v, k _ _ (.inl rfl) e⟩
  | frz ob u ih => obtain ⟨e, q⟩ := x; exact ⟨k _ _ (.inl rfl) e, ih q⟩
  | tbl ps =>
    have e : h.get? a = some { cls := .none, data := .fields ps } := x
    show h'.get? a = some { cls := .none, data := .fields ps }
    exact k a _ (.inl rfl) e
  | met f y =>
    have e : h.get? a = some (PySem.W.methodObj (.ref f) (.ref y)) := x
    show h'.get? a = some (PySem.W.methodObj (.ref f) (.ref y))
    exact k a _ (.inl rfl) e
  | ext φ => obtain ⟨p, ⟨o, e⟩, st⟩ := x; exact ⟨st _ _ p fun o q => k _ _ (.inl rfl) q, ⟨o, k _ _ (.inl rfl) e⟩, st⟩
theorem HOk.lt (x : HOk P w H h) (e : H a = some o) : a < h.objs.size := (x a o e).lt
theorem HOk.fresh (x : HOk P w H h) (e : h.objs.size ≤ a) : H a = none := by
  cases q : H a with
  | none => rfl
  | some u => exact absurd (Nat.lt_of_lt_of_le (x.lt q) e) (Nat.lt_irrefl _)
/-- every object of the heap is kept -/
theorem HOk.kept (x : HOk P w H h) (k : ∀ b u, h.get? b = some u → h'.get? b = some u) : HOk P w H h' := fun a o e =>
  (x a o e).stay (fun b u _ q => k b u q) (fun _ q => q) fun _ _ q => q
/-- a new object is laid and tracked -/
theorem HOk.laid (x : HOk P w H h) (k : ∀ b u, h.get? b = some u → h'.get? b = some u) (hp : h.objs.size ≤ a) (new : ObjOk P w (upd H a o) h' a o) : HOk P w (upd H a o) h' := fun b u e => by
  have hn := x.fresh hp
  by_cases hb : b = a
  · subst hb; rw [upd_same] at e; cases e; exact new
  · rw [upd_ne hb] at e
    exact (x b u e).stay (fun c v _ q => k c v q) (fun c q => by rw [upd_ne (ne_of_none q hn)]; exact q) fun c xs q => by rw [upd_ne (ne_of_none q hn)]; exact q
end

/-- what may be read as u: it is u, or a known u -/
def Rd (H : Hp) (a : Addr) (u : HO) : Prop := H a = some u ∨ ∃ o, H a = some (.frz o u)
theorem Rd.ok {P : Program} {w : World} {H : Hp} {h : Heap} {a : Addr} {u : HO} (r : Rd H a u) (x : HOk P w H h) : ObjOk P w H h a u := by
  rcases r with r | ⟨o, r⟩
  · exact x a u r
  · obtain ⟨_, q⟩ := x a _ r
    exact q
/-- what may be written -/
def Mut : Option HO → Prop
  | some (.lst _) => True
  | some (.dK _) => True
  | some (.dT _) => True
  | some (.set _ _) => True
  | some (.ins _ _ _) => True
  | some (.ext _) => True
  | _ => False
section
variable {P : Program} {w : World} {H : Hp} {h h' : Heap} {x e : Addr} {o' : HO}
/-- the object at e is changed: x itself, or the dict of the instance x -/
theorem HOk.write (ok : HOk P w H h) (mu : Mut (H x)) (he : e = x ∨ H e = some (.own x)) (k : ∀ b u, b ≠ e → h.get? b = some u → h'.get? b = some u) (heo : ∃ u, h'.get? e = some u)
    (new : ObjOk P w (upd H x o') h' x o') : HOk P w (upd H x o') h' := fun b u q => by
  have nown : ∀ c y, H c = some (.own y) → c ≠ x := fun c y r z => by subst z; rw [r] at mu; exact mu
  have ntup : ∀ c xs, H c = some (.tup xs) → c ≠ x := fun c xs r z => by subst z; rw [r] at mu; exact mu
  by_cases hb : b = x
  · subst hb; rw [upd_same] at q; cases q; exact new
  · rw [upd_ne hb] at q
    by_cases hbe : b = e
    · have q' : H b = some (.own x) := by
        rcases he with z | z
        · exact absurd (hbe.trans z) hb
        · rw [hbe]; exact z
      rw [q] at q'; cases q'
      obtain ⟨v, hv⟩ := heo
      exact ⟨v, by rw [hbe]; exact hv⟩
    · refine (ok b u q).stay (fun c v hc r => k c v ?_ r) (fun c r => by rw [upd_ne (nown c b r)]; exact r) fun c xs r => by rw [upd_ne (ntup c xs r)]; exact r
      rcases hc with rfl | hc
      · exact hbe
      · rintro rfl
        rcases he with z | z
        · exact nown c b hc z
        · rw [hc] at z; cases z; exact hb rfl
end

/-! ### kept unless tracked; of the frames at fs (the callers') the slots may change (an exception that passes writes there); of the records at ex (iterators) nothing is said -/
structure Un (fs ex : List Addr) (H H' : Hp) (h h' : Heap) : Prop where
  keep : ∀ b o, h.get? b = some o → H b = none → b ∉ fs → b ∉ ex → h'.get? b = some o
  slot : ∀ b o, h.get? b = some o → H b = none → b ∈ fs → b ∉ ex → ∃ sl, h'.get? b = some { o with slots := sl }
  free : ∀ b o, h.get? b = some o → H b = none → b ∉ ex → H' b = none
  there : ∀ b o, h.get? b = some o → b ∉ ex → ∃ o', h'.get? b = some o'
  tups : ∀ b xs, H b = some (.tup xs) → H' b = some (.tup xs)
  frzs : ∀ b o u, H b = some (.frz o u) → H' b = some (.frz o u)
  tbls : ∀ b ps, H b = some (.tbl ps) → ∃ more, H' b = some (.tbl (ps ++ more))
section
variable {fs fs' ex ex' : List Addr} {H H1 H2 : Hp} {h h1 h2 h' : Heap} {a x e : Addr} {o : HO}
theorem Un.any (u : Un fs ex H H1 h h1) {b : Addr} {ob : Obj} (q : h.get? b = some ob) (n : H b = none) (hx : b ∉ ex) : ∃ sl, h1.get? b = some { ob with slots := sl } := by
  by_cases hb : b ∈ fs
  · exact u.slot b ob q n hb hx
  · exact ⟨ob.slots, u.keep b ob q n hb hx⟩
theorem Un.kept (k : ∀ b u, h.get? b = some u → h'.get? b = some u) : Un fs ex H H h h' :=
  ⟨fun b ob q _ _ _ => k b ob q, fun b ob q _ _ _ => ⟨ob.slots, k b ob q⟩, fun _ _ _ n _ => n, fun b ob q _ => ⟨ob, k b ob q⟩, fun _ _ q => q, fun _ _ _ q => q, fun _ ps q => ⟨#[], by rw [q]; simp⟩⟩
theorem Un.refl : Un fs ex H H h h := Un.kept fun _ _ q => q
theorem Un.laid (k : ∀ b u, h.get? b = some u → h'.get? b = some u) (hp : h.objs.size ≤ a) (hn : H a = none) : Un fs ex H (upd H a o) h h' where
  keep := fun b u q _ _ _ => k b u q
  slot := fun b u q _ _ _ => ⟨u.slots, k b u q⟩
  free := fun b u q n _ => by rw [upd_ne (Nat.ne_of_lt (Nat.lt_of_lt_of_le (Heap.lt_size q) hp))]; exact n
  there := fun b u q _ => ⟨u, k b u q⟩
  tups := fun b xs q => by rw [upd_ne (ne_of_none q hn)]; exact q
  frzs := fun b u xs q => by rw [upd_ne (ne_of_none q hn)]; exact q
  tbls := fun b ps q => ⟨#[], by rw [upd_ne (ne_of_none q hn), q]; simp⟩
theorem Un.write (mu : Mut (H x)) (he : e = x ∨ H e = some (.own x)) (k : ∀ b u, b ≠ e → h.get? b = some u → h'.get? b = some u) (heo : ∃ u, h'.get? e = some u) : Un fs ex H (upd H x o) h h' := by
  have hx : ∀ b, H b = none → b ≠ x := fun b n z => by subst z; rw [n] at mu; exact mu
  have hb : ∀ b, H b = none → b ≠ e := fun b n z => by
    subst z
    rcases he with r | r
    · exact hx b n r
    · rw [n] at r; cases r
  have hm : ∀ b u, H b = some u → ¬ Mut (some u) → b ≠ x := fun b u q nm z => by subst z; rw [q] at mu; exact nm mu
  refine ⟨fun b u q n _ _ => k b u (hb b n) q, fun b u q n _ _ => ⟨u.slots, k b u (hb b n) q⟩, fun b u q n _ => by rw [upd_ne (hx b n)]; exact n, fun b u q _ => ?_,
    fun b xs q => by rw [upd_ne (hm b _ q fun z => z)]; exact q, fun b u xs q => by rw [upd_ne (hm b _ q fun z => z)]; exact q, fun b ps q => ⟨#[], by rw [upd_ne (hm b _ q fun z => z), q]; simp⟩⟩
  by_cases hbe : b = e
  · subst hbe; exact heo
  · exact ⟨u, k b u hbe q⟩
end

/-! ### the heap without what is tracked -/
def trk (h : Heap) (H : Hp) : List Addr := (List.range h.objs.size).filter fun a => (H a).isSome
def hidT (h : Heap) (H : Hp) : Heap := PySem.W.hideAll h (trk h H)
theorem hidT_size (h : Heap) (H : Hp) : (hidT h H).objs.size = h.objs.size := PySem.W.hideAll_size _ _
theorem hidT_get {h : Heap} {H : Hp} {b : Addr} {o : Obj} (e : h.get? b = some o) (n : H b = none) : (hidT h H).get? b = some o :=
  PySem.W.hideAll_get _ e fun hm => by
    have q : (H b).isSome = true := (List.mem_filter.mp hm).2
    rw [n] at q; simp at q
theorem of_hidT {h : Heap} {H : Hp} {b : Addr} {o : Obj} (e : (hidT h H).get? b = some o) : h.get? b = some o ∧ H b = none := by
  have e' : h.get? b = some o := PySem.W.of_hideAll (trk h H) e
  refine ⟨e', ?_⟩
  cases q : H b with
  | none => rfl
  | some x =>
    have hm : b ∈ trk h H := List.mem_filter.mpr ⟨List.mem_range.mpr (Heap.lt_size e'), by simp [q]⟩
    have z : (hidT h H).get? b = none := PySem.W.hideAll_none (trk h H) hm
    rw [z] at e; cases e

/-! ### OpenK's ledger, filled with every new object but one -/
end L2

namespace L2
open PySem PySem.Spec PyProof.Rows

/-- the module's facts, over the base: the heap at the law's entry without what is tracked there -/
structure Mod (K : PySem.W.Frag) (mg : Str → Option Value) (base : Heap) : Prop where
  kin : K.In base
  glob : base.Ns mainGlobals mg
  blt : ∃ mb, base.Ns builtinsNs mb ∧ ∀ x : Str, x ≠ "__name__" → mb x = bootBuiltins x
  nolimit : base.NoLimit

/-- the context: a def's body (or a comprehension's block) running. base: fixed through the whole law; s₀, H₀: the entry; outer: the frames whose slots others may change (a def's callers); stack: all frames that run;
   ex: iterators that were made ahead of the entry and are walked here (a comprehension's); fn: the names whose cells were made at the entry (a def: all; a comprehension's block: its own); calm: not within an except suite; pn: pins that every state bears; xe: what is wanted of an exception that leaves the code -/
structure Cx where
  prog : Program
  w : World
  K : PySem.W.Frag
  mg : Str → Option Value
  base : Heap
  A : Around
  N : List Str
  s_0 : Shared
  H_0 : Hp
  env : Env
  outer : List Env
  stack : List Env
  ex : List Addr
  fn : Str → Bool
  calm : Bool
  pn : List (Addr × Obj)
  xe : Value → Shared → Prop
/-- the callers' frames -/
def frs (l : List Env) : List Addr := l.filterMap (·.frame)
abbrev Cx.fs (X : Cx) : List Addr := frs X.outer

def Vis (sc : Scope) (x : Str) : Prop := sc.names.lookup x = some .local ∨ sc.names.lookup x = some .cell ∨ sc.names.lookup x = some .free
def Loc (sc : Scope) (x : Str) : Prop := sc.names.lookup x = some .local ∨ sc.names.lookup x = some .cell
def Look (env : Env) (h : Heap) (m : Str → Option Value) (x : Str) (u : Value) : Prop :=
  (env.kindOf x = some .local ∧ m x = some u) ∨ ((env.kindOf x = some .cell ∨ env.kindOf x = some .free) ∧ ∃ c, env.cells.lookup x = some c ∧ h.IsCell c (some u))

structure Cx.Ok (X : Cx) : Prop where
  mod : Mod X.K X.mg X.base
  kind : X.env.scope.kind = .function
  glob : X.env.globals = mainGlobals
  blt : X.env.builtins = builtinsNs
  above : X.s_0.heap.objs.size ≤ X.env.locals
  inj : ∀ x y c, X.env.cells.lookup x = some c → X.env.cells.lookup y = some c → x = y
  has : ∀ x, (X.env.kindOf x = some .cell ∨ X.env.kindOf x = some .free) → ∃ c, X.env.cells.lookup x = some c
  cab : ∀ x c, X.fn x = true → X.env.cells.lookup x = some c → X.s_0.heap.objs.size ≤ c
  hd : X.calm = true → X.A.handled = none
  frames : X.A.frames = some X.stack
  stk : X.stack = X.outer ∨ (X.stack = X.env :: X.outer ∧ X.env.frame = some X.env.locals)
  exf : ∀ b ∈ X.ex, b ≠ X.env.locals ∧ ∀ x c, X.env.cells.lookup x = some c → c ≠ b
  bs : ∀ b o, X.base.get? b = some o → X.s_0.heap.get? b = some o ∧ X.H_0 b = none
  bsz : X.base.objs.size ≤ X.s_0.heap.objs.size
  noex : ∀ b o, X.base.get? b = some o → b ∉ X.ex
  exfs : ∀ b ∈ X.ex, b ∉ X.fs
  funs : X.s_0.heap.FunFrames X.base X.outer
  frf : ∀ b ∈ X.fs, X.H_0 b = none

structure Inv (X : Cx) (pins : List (Addr × Obj)) (σ : List (Option V)) (H : Hp) (s : Shared) : Prop where
  ok : X.Ok
  os : s.os = X.s_0.os
  bare : AllBare s.gens
  base : Un X.fs X.ex X.H_0 H X.s_0.heap s.heap
  loc : ∃ m, s.heap.Ns X.env.locals m ∧ ∀ (i : Nat) (x : Str) (v : V), X.N[i]? = some x → σ[i]? = some (some v) → Vis X.env.scope x → ∃ u, RelV v u ∧ Look X.env s.heap m x u
  cell : ∀ x c, X.env.cells.lookup x = some c → ∃ v, s.heap.IsCell c v
  free : H X.env.locals = none
  freeC : ∀ x c, X.env.cells.lookup x = some c → H c = none
  pin : ∀ p ∈ X.pn ++ pins, s.heap.get? p.1 = some p.2 ∧ H p.1 = none ∧ p.1 ≠ X.env.locals ∧ p.1 ∉ X.fs ∧ ∀ v, p.2.data ≠ .cell v
  hok : HOk X.prog X.w H s.heap
  len : σ.length = X.N.length

section
variable {X : Cx} {pins : List (Addr × Obj)} {σ : List (Option V)} {H H' : Hp} {s : Shared} {h' : Heap}

theorem Cx.Ok.nofr (ok : X.Ok) {b : Addr} {o : Obj} (e : X.base.get? b = some o) : b ∉ X.fs := fun hb => by
  have := (ok.funs.mem hb).1
  rw [e] at this; cases this
theorem Inv.bs (I : Inv X pins σ H s) : ∀ b o, X.base.get? b = some o → s.heap.get? b = some o ∧ H b = none := fun b o e =>
  ⟨I.base.keep b o (I.ok.bs b o e).1 (I.ok.bs b o e).2 (I.ok.nofr e) (I.ok.noex b o e), I.base.free b o (I.ok.bs b o e).1 (I.ok.bs b o e).2 (I.ok.noex b o e)⟩
theorem Inv.bk (I : Inv X pins σ H s) : ∀ b o, X.base.get? b = some o → s.heap.get? b = some o := fun b o e => (I.bs b o e).1
theorem Inv.mod (I : Inv X pins σ H s) : Mod X.K X.mg X.base := I.ok.mod
theorem Inv.kIn (I : Inv X pins σ H s) : X.K.In s.heap := I.ok.mod.kin.keeps I.bk
theorem Inv.lt (I : Inv X pins σ H s) : X.env.locals < s.heap.objs.size := let ⟨_, hn, _⟩ := I.loc; hn.lt
theorem Inv.sz (I : Inv X pins σ H s) : X.s_0.heap.objs.size ≤ s.heap.objs.size := Nat.le_trans I.ok.above (Nat.le_of_lt I.lt)
theorem Inv.nofs (I : Inv X pins σ H s) {a : Addr} (h : s.heap.objs.size ≤ a) : a ∉ X.fs := fun hb => by
  obtain ⟨_, o, ho, _⟩ := I.ok.funs.mem hb
  exact absurd (Nat.lt_of_lt_of_le (Heap.lt_size ho) (Nat.le_trans I.sz h)) (Nat.lt_irrefl _)
theorem Inv.cne (I : Inv X pins σ H s) : ∀ x c, X.env.cells.lookup x = some c → c ≠ X.env.locals := fun x c e z => by
  obtain ⟨v, o, ho, hd⟩ := I.cell x c e
  obtain ⟨m, ⟨o', es, ep, ho', hd', _⟩, _⟩ := I.loc
  rw [z, ho'] at ho; cases ho; rw [hd'] at hd; cases hd
theorem Inv.funs (I : Inv X pins σ H s) : s.heap.FunFrames X.base X.outer := by
  have all : ∀ (l : List Env), (∀ b ∈ frs l, b ∈ X.fs) → X.s_0.heap.FunFrames X.base l → s.heap.FunFrames X.base l := by
    intro l
    induction l with
    | nil => intro _ _; trivial
    | cons env r ih =>
      intro hs hl
      obtain ⟨hk, ⟨L, o, hf, hn, ho, hd⟩, hr⟩ := hl
      have hL : L ∈ X.fs := hs L (by unfold frs; rw [List.filterMap_cons, hf]; exact List.mem_cons_self)
      obtain ⟨sl, e⟩ := I.base.slot L o ho (I.ok.frf L hL) hL fun z => I.ok.exfs L z hL
      exact ⟨hk, ⟨L, _, hf, hn, e, hd⟩, ih (fun b hb => hs b (by unfold frs; rw [List.filterMap_cons, hf]; exact List.mem_cons_of_mem _ hb)) hr⟩
  exact all X.outer (fun _ hb => hb) I.ok.funs

/-- the frames that run, for a call -/
theorem Inv.stack (I : Inv X pins σ H s) : s.heap.FunFrames X.base X.stack := by
  rcases I.ok.stk with e | ⟨e, hf⟩
  · rw [e]; exact I.funs
  · rw [e]
    obtain ⟨m, hn, _⟩ := I.loc
    refine .cons (by rw [I.ok.kind]; decide) hf hn ?_ I.funs
    exact Heap.get?_none_of_le (Nat.le_trans I.ok.bsz I.ok.above)
theorem Inv.stkSub (I : Inv X pins σ H s) : ∀ b ∈ frs X.stack, b ∈ X.env.locals :: X.fs := fun b hb => by
  rcases I.ok.stk with e | ⟨e, hf⟩
  · rw [e] at hb; exact List.mem_cons_of_mem _ hb
  · rw [e] at hb
    unfold frs at hb
    rw [List.filterMap_cons, hf] at hb
    exact hb
theorem Inv.stkFree (I : Inv X pins σ H s) : ∀ b ∈ frs X.stack, H b = none := fun b hb => by
  rcases List.mem_cons.mp (I.stkSub b hb) with e | hb
  · rw [e]; exact I.free
  · obtain ⟨_, o, ho, _⟩ := I.ok.funs.mem hb
    exact I.base.free b o ho (I.ok.frf b hb) fun z => I.ok.exfs b z hb

/-- THE STEP: the untracked objects but the frame and the records at ch are kept (the callers' frames up to slots), the frame's map is kept, the new abstract heap is held -/
theorem Inv.step {g' : Array GenState} {t' : Nat} {d' : Drawn} {ch : List Addr} (I : Inv X pins σ H s)
    (hch : ∀ b ∈ ch, (b ∈ X.ex ∨ X.s_0.heap.objs.size ≤ b) ∧ b ≠ X.env.locals ∧ (∀ x c, X.env.cells.lookup x = some c → c ≠ b) ∧ ∀ p ∈ X.pn ++ pins, p.1 ≠ b)
    (keep : ∀ b o, b ≠ X.env.locals → b ∉ X.fs → b ∉ ch → s.heap.get? b = some o → H b = none → h'.get? b = some o)
    (slot : ∀ b o, b ≠ X.env.locals → b ∈ X.fs → b ∉ ch → s.heap.get? b = some o → H b = none → ∃ sl, h'.get? b = some { o with slots := sl }) (free : ∀ b o, b ∉ ch → s.heap.get? b = some o → H b = none → H' b = none)
    (there : ∀ b o, b ∉ ch → s.heap.get? b = some o → ∃ o', h'.get? b = some o')
    (tups : ∀ b xs, H b = some (.tup xs) → H' b = some (.tup xs)) (frzs : ∀ b o u, H b = some (.frz o u) → H' b = some (.frz o u)) (tbls : ∀ b ps, H b = some (.tbl ps) → ∃ more, H' b = some (.tbl (ps ++ more)))
    (ns : ∀ m, s.heap.Ns X.env.locals m → h'.Ns X.env.locals m) (hok : HOk X.prog X.w H' h') (hg : AllBare g') :
    Inv X pins σ H' { s with heap := h', gens := g', drawn := d', toks := t' } := by
  have neL : ∀ b o, X.s_0.heap.get? b = some o → b ≠ X.env.locals := fun b o e => Nat.ne_of_lt (Nat.lt_of_lt_of_le (Heap.lt_size e) I.ok.above)
  have neC : ∀ b o, X.s_0.heap.get? b = some o → b ∉ X.ex → b ∉ ch := fun b o e hx hb => by
    rcases (hch b hb).1 with z | z
    · exact hx z
    · exact absurd (Nat.lt_of_lt_of_le (Heap.lt_size e) z) (Nat.lt_irrefl _)
  have cellK : ∀ x c, X.env.cells.lookup x = some c → ∀ v, s.heap.IsCell c v → h'.IsCell c v := fun x c e v ⟨o, ho, hd⟩ => by
    have nch : c ∉ ch := fun z => (hch c z).2.2.1 x c e rfl
    by_cases hc : c ∈ X.fs
    · obtain ⟨sl, q⟩ := slot c o (I.cne x c e) hc nch ho (I.freeC x c e)
      exact ⟨_, q, hd⟩
    · exact ⟨o, keep c o (I.cne x c e) hc nch ho (I.freeC x c e), hd⟩
  refine ⟨I.ok, I.os, hg, ⟨fun b o e n hb hx => ?_, fun b o e n hb hx => ?_, fun b o e n hx => ?_, fun b o e hx => ?_, fun b xs e => tups b xs (I.base.tups b xs e), fun b o xs e => frzs b o xs (I.base.frzs b o xs e), fun b ps e => ?_⟩, ?_, fun x c e => ?_, ?_, fun x c e => ?_, fun p hp => ?_, hok, I.len⟩
  · exact keep b o (neL b o e) hb (neC b o e hx) (I.base.keep b o e n hb hx) (I.base.free b o e n hx)
  · obtain ⟨sl, e1⟩ := I.base.slot b o e n hb hx
    obtain ⟨sl', e2⟩ := slot b _ (neL b o e) hb (neC b o e hx) e1 (I.base.free b o e n hx)
    exact ⟨sl', e2⟩
  · obtain ⟨o', e1⟩ := I.base.there b o e hx
    exact free b o' (neC b o e hx) e1 (I.base.free b o e n hx)
  · obtain ⟨o', e1⟩ := I.base.there b o e hx
    exact there b o' (neC b o e hx) e1
  · obtain ⟨m1, e1⟩ := I.base.tbls b ps e
    obtain ⟨m2, e2⟩ := tbls b _ e1
    exact ⟨m1 ++ m2, by rw [e2, Array.append_assoc]⟩
  · obtain ⟨m, hn, hl⟩ := I.loc
    refine ⟨m, ns m hn, fun i x v e1 e2 e3 => ?_⟩
    obtain ⟨u, r, l⟩ := hl i x v e1 e2 e3
    refine ⟨u, r, ?_⟩
    rcases l with l | ⟨k, c, e, z⟩
    · exact .inl l
    · exact .inr ⟨k, c, e, cellK x c e _ z⟩
  · obtain ⟨v, z⟩ := I.cell x c e
    exact ⟨v, cellK x c e v z⟩
  · obtain ⟨m, ⟨o, _, _, ho, _⟩, _⟩ := I.loc
    exact free _ o (fun z => (hch _ z).2.1 rfl) ho I.free
  · obtain ⟨v, o, ho, hd⟩ := I.cell x c e
    exact free c o (fun z => (hch c z).2.2.1 x c e rfl) ho (I.freeC x c e)
  · obtain ⟨e, n, ne, nf, d⟩ := I.pin p hp
    have nch : p.1 ∉ ch := fun z => (hch p.1 z).2.2.2 p hp rfl
    exact ⟨keep p.1 p.2 ne nf nch e n, free p.1 p.2 nch e n, ne, nf, d⟩
/-- .. where the frame's own object is kept too -/
theorem Inv.un {t' : Nat} (I : Inv X pins σ H s) (u : Un X.fs [] H H' s.heap h') (hok : HOk X.prog X.w H' h') : Inv X pins σ H' { s with heap := h', toks := t' } := by
  obtain ⟨m, ⟨o, es, ep, ho, r⟩, _⟩ := id I.loc
  obtain ⟨sl, hL⟩ := u.any ho I.free (by simp)
  exact I.step (g' := s.gens) (d' := s.drawn) (ch := []) (fun _ z => nomatch z) (fun b o _ hb _ e n => u.keep b o e n hb (by simp)) (fun b o _ hb _ e n => u.slot b o e n hb (by simp)) (fun b o _ e n => u.free b o e n (by simp)) (fun b o _ e => u.there b o e (by simp)) u.tups u.frzs u.tbls (fun m' hm => by
    obtain ⟨o', es', ep', ho', r'⟩ := hm
    rw [ho] at ho'; cases ho'
    exact ⟨_, es', ep', hL, r'⟩) hok I.bare
/-- behind a call (or a comprehension's block): the slots of this frame may have changed too, the records at ch may have turned -/
theorem Inv.call {g' : Array GenState} {t' : Nat} {d' : Drawn} {ch : List Addr} (I : Inv X pins σ H s) (u : Un (frs X.stack) ch H H' s.heap h') (hok : HOk X.prog X.w H' h') (hg : AllBare g')
    (hch : ∀ b ∈ ch, (b ∈ X.ex ∨ X.s_0.heap.objs.size ≤ b) ∧ b ≠ X.env.locals ∧ (∀ x c, X.env.cells.lookup x = some c → c ≠ b) ∧ ∀ p ∈ X.pn ++ pins, p.1 ≠ b) :
    Inv X pins σ H' { s with heap := h', gens := g', drawn := d', toks := t' } := by
  obtain ⟨m, ⟨o, es, ep, ho, r⟩, _⟩ := id I.loc
  obtain ⟨sl, hL⟩ := u.any ho I.free fun z => (hch _ z).2.1 rfl
  exact I.step (ch := ch) hch (fun b o hL hb hc e n => u.keep b o e n (fun z => (List.mem_cons.mp (I.stkSub b z)).elim hL hb) hc) (fun b o _ _ hc e n => u.any e n hc) (fun b o hc e n => u.free b o e n hc) (fun b o hc e => u.there b o e hc) u.tups u.frzs u.tbls (fun m' hm => by
    obtain ⟨o', es', ep', ho', r'⟩ := hm
    rw [ho] at ho'; cases ho'
    exact ⟨_, es', ep', hL, r'⟩) hok hg
/-- an untracked record of ours (an iterator) has turned -/
theorem Inv.turned {t' : Nat} {it : Addr} (I : Inv X pins σ H s) (k : ∀ b o, b ≠ it → s.heap.get? b = some o → h'.get? b = some o) (hn : H it = none) (hL : it ≠ X.env.locals)
    (h1 : it ∈ X.ex ∨ X.s_0.heap.objs.size ≤ it) (h2 : ∀ x c, X.env.cells.lookup x = some c → c ≠ it) (h3 : ∀ p ∈ X.pn ++ pins, p.1 ≠ it) : Inv X pins σ H { s with heap := h', toks := t' } := by
  have nit : ∀ b u, H b = some u → b ≠ it := fun b u e z => by rw [z, hn] at e; cases e
  refine I.step (g' := s.gens) (d' := s.drawn) (ch := [it]) (fun b hb => ?_) (fun b o _ _ hc e _ => k b o (fun z => hc (by simp [z])) e) (fun b o _ _ hc e _ => ⟨o.slots, k b o (fun z => hc (by simp [z])) e⟩) (fun _ _ _ _ n => n)
    (fun b o hc e => ⟨o, k b o (fun z => hc (by simp [z])) e⟩) (fun _ _ e => e) (fun _ _ _ e => e) (fun b ps e => ⟨#[], by rw [e]; simp⟩) (fun m hm => ?_) (fun b u e => ?_) I.bare
  · have e : b = it := by simpa using hb
    subst e
    exact ⟨h1, hL, h2, h3⟩
  · obtain ⟨o, es, ep, ho, r⟩ := hm
    exact ⟨o, es, ep, k _ o (Ne.symm hL) ho, r⟩
  · refine (I.hok b u e).stay (fun c v hc q => k c v ?_ q) (fun _ q => q) fun _ _ q => q
    rcases hc with z | z
    · rw [z]; exact nit b u e
    · exact nit c _ z
theorem Inv.tok (I : Inv X pins σ H s) (t : Nat) : Inv X pins σ H { s with toks := t } := I.un (h' := s.heap) (t' := t) Un.refl I.hok
/-- all objects kept -/
theorem Inv.kept {t' : Nat} (I : Inv X pins σ H s) (k : ∀ b u, s.heap.get? b = some u → h'.get? b = some u) : Inv X pins σ H { s with heap := h', toks := t' } := I.un (Un.kept k) (I.hok.kept k)
/-- a new object laid and tracked -/
theorem Inv.laid {a : Addr} {o : HO} {t' : Nat} (I : Inv X pins σ H s) (k : ∀ b u, s.heap.get? b = some u → h'.get? b = some u) (hp : s.heap.objs.size ≤ a) (new : ObjOk X.prog X.w (upd H a o) h' a o) :
    Inv X pins σ (upd H a o) { s with heap := h', toks := t' } := I.un (Un.laid k hp (I.hok.fresh hp)) (I.hok.laid k hp new)
/-- an object written -/
theorem Inv.write {x e : Addr} {o : HO} {t' : Nat} (I : Inv X pins σ H s) (mu : Mut (H x)) (he : e = x ∨ H e = some (.own x)) (k : ∀ b u, b ≠ e → s.heap.get? b = some u → h'.get? b = some u) (heo : ∃ u, h'.get? e = some u)
    (new : ObjOk X.prog X.w (upd H x o) h' x o) : Inv X pins σ (upd H x o) { s with heap := h', toks := t' } := I.un (Un.write mu he k heo) (I.hok.write mu he k heo new)
/-- forgetting slots, pins -/
theorem Inv.weak {σ' : List (Option V)} (I : Inv X pins σ H s) (hl : σ'.length = σ.length) (w : ∀ (i : Nat) v, σ'[i]? = some (some v) → σ[i]? = some (some v)) : Inv X pins σ' H s :=
  ⟨I.ok, I.os, I.bare, I.base, let ⟨m, hn, hl'⟩ := I.loc; ⟨m, hn, fun i x v e1 e2 e3 => hl' i x v e1 (w i v e2) e3⟩, I.cell, I.free, I.freeC, I.pin, I.hok, hl.trans I.len⟩
theorem Inv.pins_of {pins' : List (Addr × Obj)} (I : Inv X pins σ H s) (h : ∀ p ∈ pins', s.heap.get? p.1 = some p.2 ∧ H p.1 = none ∧ p.1 ≠ X.env.locals ∧ p.1 ∉ X.fs ∧ ∀ v, p.2.data ≠ .cell v) : Inv X pins' σ H s :=
  ⟨I.ok, I.os, I.bare, I.base, I.loc, I.cell, I.free, I.freeC, fun p hp => (List.mem_append.mp hp).elim (fun z => I.pin p (List.mem_append_left _ z)) (h p), I.hok, I.len⟩

theorem nodup_ix {N : List Str} (hN : N.Nodup) {i j : Nat} {x : Str} (a : N[i]? = some x) (b : N[j]? = some x) : i = j := by
  obtain ⟨h1, e1⟩ := List.getElem?_eq_some_iff.mp a
  obtain ⟨h2, e2⟩ := List.getElem?_eq_some_iff.mp b
  exact (List.getElem_inj hN).mp (e1.trans e2.symm)

/-- a name is stored; what changed -/
theorem store_ok2 {M : Model} {A : Around} {E : Value → Shared → Prop} {i : Nat} {x : Str} {v : V} {u : Value} {Q : Unit → Shared → Prop} (I : Inv X pins σ H s) (hN : X.N.Nodup) (hi : X.N[i]? = some x) (hx : Loc X.env.scope x) (r : RelV v u)
    (h : ∀ s', Inv X pins (σ.set i (some v)) H s' → (∃ a, Heap.SameBut a s.heap s'.heap ∧ (a = X.env.locals ∨ X.env.cells.lookup x = some a)) → Q () s') (hf : X.fn x = true ∨ X.env.scope.names.lookup x = some .local := by first | exact .inl rfl | exact .inr rfl | assumption) : wpAny M A (storeName X.env x u) Q E s := by
  obtain ⟨m, hn, hl⟩ := id I.loc
  have hcls : (X.env.scope.kind == .class || (X.env.scope.kind == .module && X.env.locals != X.env.globals)) = false := by rw [I.ok.kind]; rfl
  have hiσ : i < σ.length := by rw [I.len]; exact (List.getElem?_eq_some_iff.mp hi).1
  have cne := I.cne
  have tracked : ∀ {a : Addr} {h' : Heap}, (∃ o, s.heap.get? a = some o ∧ H a = none) → Heap.SameBut a s.heap h' → HOk X.prog X.w H h' := fun {a h'} ha hs b ob e => by
    obtain ⟨_, _, hfree⟩ := ha
    refine (I.hok b ob e).stay (fun c w' hc q => (hs.2 c ?_).trans q) (fun _ q => q) fun _ _ q => q
    rintro rfl
    rcases hc with rfl | hc
    · rw [hfree] at e; cases e
    · rw [hfree] at hc; cases hc
  rcases hx with hk | hk
  · refine wpAny_storeName_local hk hn (fun h' hn' hs => ?_) hcls
    obtain ⟨oL, _, _, hoL, _⟩ := id hn
    refine h _ ⟨I.ok, I.os, I.bare, ⟨fun b o e n hb hx => ?_, fun b o e n hb hx => ?_, I.base.free, fun b o e hx => ?_, I.base.tups, I.base.frzs, I.base.tbls⟩, ⟨_, hn', fun j y v' e1 e2 e3 => ?_⟩, fun y c e => ?_, I.free, I.freeC, fun p hp => ?_, tracked ⟨oL, hoL, I.free⟩ hs, by simpa using I.len⟩ ⟨_, hs, .inl rfl⟩
    · exact (hs.2 b (Nat.ne_of_lt (Nat.lt_of_lt_of_le (Heap.lt_size e) I.ok.above))).trans (I.base.keep b o e n hb hx)
    · obtain ⟨sl, e1⟩ := I.base.slot b o e n hb hx
      exact ⟨sl, (hs.2 b (Nat.ne_of_lt (Nat.lt_of_lt_of_le (Heap.lt_size e) I.ok.above))).trans e1⟩
    · obtain ⟨o', e1⟩ := I.base.there b o e hx
      exact ⟨o', (hs.2 b (Nat.ne_of_lt (Nat.lt_of_lt_of_le (Heap.lt_size e) I.ok.above))).trans e1⟩
    · by_cases hj : j = i
      · subst hj
        rw [hi] at e1; cases e1
        rw [List.getElem?_set_self hiσ] at e2
        cases e2
        exact ⟨u, r, .inl ⟨hk, by simp⟩⟩
      · rw [List.getElem?_set_ne (Ne.symm hj)] at e2
        obtain ⟨u', r', q⟩ := hl j y v' e1 e2 e3
        refine ⟨u', r', ?_⟩
        rcases q with ⟨k, e⟩ | ⟨k, c, e, z⟩
        · refine .inl ⟨k, ?_⟩
          have : y ≠ x := fun e => hj (nodup_ix hN e1 (e ▸ hi))
          simp [this, e]
        · exact .inr ⟨k, c, e, z.sameBut hs (cne y c e)⟩
    · obtain ⟨w', z⟩ := I.cell y c e
      exact ⟨w', z.sameBut hs (cne y c e)⟩
    · obtain ⟨e, n, ne, nf, d⟩ := I.pin p hp
      exact ⟨(hs.2 p.1 ne).trans e, n, ne, nf, d⟩
  · have hfn : X.fn x = true := by
      rcases hf with z | z
      · exact z
      · rw [z] at hk; cases hk
    obtain ⟨c, hc⟩ := I.ok.has x (.inl hk)
    obtain ⟨w', z⟩ := I.cell x c hc
    refine wpAny_storeName_cell I.ok.kind hk hc z (fun h' hc' hs => ?_)
    obtain ⟨oc, hoc, hocd⟩ := id z
    refine h { s with heap := h' } ⟨I.ok, I.os, I.bare, ⟨fun b o e n hb hx => ?_, fun b o e n hb hx => ?_, I.base.free, fun b o e hx => ?_, I.base.tups, I.base.frzs, I.base.tbls⟩, ⟨m, hn.sameBut hs (Ne.symm (cne x c hc)), fun j y v' e1 e2 e3 => ?_⟩, fun y c' e => ?_, I.free, I.freeC, fun p hp => ?_, tracked ⟨oc, hoc, I.freeC x c hc⟩ hs, by simpa using I.len⟩ ⟨c, hs, .inr hc⟩
    · exact (hs.2 b (Nat.ne_of_lt (Nat.lt_of_lt_of_le (Heap.lt_size e) (I.ok.cab x c hfn hc)))).trans (I.base.keep b o e n hb hx)
    · obtain ⟨sl, e1⟩ := I.base.slot b o e n hb hx
      exact ⟨sl, (hs.2 b (Nat.ne_of_lt (Nat.lt_of_lt_of_le (Heap.lt_size e) (I.ok.cab x c hfn hc)))).trans e1⟩
    · obtain ⟨o', e1⟩ := I.base.there b o e hx
      exact ⟨o', (hs.2 b (Nat.ne_of_lt (Nat.lt_of_lt_of_le (Heap.lt_size e) (I.ok.cab x c hfn hc)))).trans e1⟩
    · by_cases hj : j = i
      · subst hj
        rw [hi] at e1; cases e1
        rw [List.getElem?_set_self hiσ] at e2
        cases e2
        exact ⟨u, r, .inr ⟨.inl hk, c, hc, hc'⟩⟩
      · rw [List.getElem?_set_ne (Ne.symm hj)] at e2
        obtain ⟨u', r', q⟩ := hl j y v' e1 e2 e3
        refine ⟨u', r', ?_⟩
        rcases q with q | ⟨k, c', e, z'⟩
        · exact .inl q
        · refine .inr ⟨k, c', e, z'.sameBut hs ?_⟩
          rintro rfl
          exact hj (nodup_ix hN e1 (I.ok.inj _ _ _ e hc ▸ hi))
    · by_cases hcc : c' = c
      · subst hcc; exact ⟨_, hc'⟩
      · obtain ⟨w2, z2⟩ := I.cell y c' e
        exact ⟨w2, z2.sameBut hs hcc⟩
    · obtain ⟨e, n, ne, nf, d⟩ := I.pin p hp
      refine ⟨(hs.2 p.1 ?_).trans e, n, ne, nf, d⟩
      intro q
      rw [q, hoc] at e
      have q' : oc = p.2 := Option.some.inj e
      exact d w' (by rw [← q']; exact hocd)
theorem store_ok {M : Model} {A : Around} {E : Value → Shared → Prop} {i : Nat} {x : Str} {v : V} {u : Value} {Q : Unit → Shared → Prop} (I : Inv X pins σ H s) (hN : X.N.Nodup) (hi : X.N[i]? = some x) (hx : Loc X.env.scope x) (r : RelV v u)
    (h : ∀ s', Inv X pins (σ.set i (some v)) H s' → Q () s') (hf : X.fn x = true ∨ X.env.scope.names.lookup x = some .local := by first | exact .inl rfl | exact .inr rfl | assumption) : wpAny M A (storeName X.env x u) Q E s :=
  store_ok2 I hN hi hx r (fun s' I' _ => h s' I') hf
/-- behind a call or a block, the state as it is -/
theorem Inv.call' {s' : Shared} {ch : List Addr} (I : Inv X pins σ H s) (ho : s'.os = s.os) (u : Un (frs X.stack) ch H H' s.heap s'.heap) (hok : HOk X.prog X.w H' s'.heap) (hg : AllBare s'.gens)
    (hch : ∀ b ∈ ch, (b ∈ X.ex ∨ X.s_0.heap.objs.size ≤ b) ∧ b ≠ X.env.locals ∧ (∀ x c, X.env.cells.lookup x = some c → c ≠ b) ∧ ∀ p ∈ X.pn ++ pins, p.1 ≠ b) : Inv X pins σ H' s' := by
  obtain ⟨h', g', d', t', o'⟩ := s'
  have e : o' = s.os := ho
  subst e
  exact I.call (g' := g') (t' := t') (d' := d') u hok hg hch
end

/-! ### the judgements -/
/-- an exception: its class, its own dict's address (where it has one), the abstract heap behind it -/
abbrev XK := Value → Option Addr → Hp → Prop
abbrev St := List (Option V)
abbrev VK := V → Hp → Prop
/-- an expression's reading; a test's; an argument list's -/
abbrev TE := St → Hp → VK → Prop
abbrev TT := St → Hp → (Bool → Hp → Prop) → Prop
abbrev TA := St → Hp → (List V → Hp → Prop) → Prop
/-- what is wanted behind a statement -/
structure Ends where
  nx : St → Hp → Prop
  rt : VK
  bk : St → Hp → Prop := fun _ _ => False
  ct : St → Hp → Prop := fun _ _ => False
abbrev TS := Ends → St → Hp → Prop

def EP (X : Cx) (pins : List (Addr × Obj)) (σ : St) (Q : VK) (u : Value) (s' : Shared) : Prop := ∃ v H', Inv X pins σ H' s' ∧ RelV v u ∧ Q v H'
def TP (X : Cx) (pins : List (Addr × Obj)) (σ : St) (Q : Bool → Hp → Prop) (b : Bool) (s' : Shared) : Prop := ∃ H', Inv X pins σ H' s' ∧ Q b H'
def AP (X : Cx) (pins : List (Addr × Obj)) (σ : St) (Q : List V → Hp → Prop) (us : List Value) (s' : Shared) : Prop := ∃ vs H', Inv X pins σ H' s' ∧ Vals vs us ∧ Q vs H'
def SP (X : Cx) (pins : List (Addr × Obj)) (D : Ends) (f : Flow) (s' : Shared) : Prop :=
  match f with
  | .next => ∃ σ' H', Inv X pins σ' H' s' ∧ D.nx σ' H'
  | .brk => ∃ σ' H', Inv X pins σ' H' s' ∧ D.bk σ' H'
  | .cont => ∃ σ' H', Inv X pins σ' H' s' ∧ D.ct σ' H'
  | .ret u => ∃ v σ' H', Inv X pins σ' H' s' ∧ RelV v u ∧ D.rt v H'

def PE (X : Cx) (e : Expr) (t : TE) : Prop :=
  ∀ (pins : List (Addr × Obj)) (s : Shared) (σ : St) (H : Hp) (Q : VK), Inv X pins σ H s → t σ H Q → wpAny (model X.prog X.w) X.A (eval e X.env) (EP X pins σ Q) X.xe s
def PT (X : Cx) (e : Expr) (t : TT) : Prop :=
  ∀ (pins : List (Addr × Obj)) (s : Shared) (σ : St) (H : Hp) (Q : Bool → Hp → Prop), Inv X pins σ H s → t σ H Q → wpAny (model X.prog X.w) X.A (isTrue e X.env (eval e X.env)) (TP X pins σ Q) X.xe s
/-- a test whatever its 'whole' is (and, or) -/
def PW (X : Cx) (e : Expr) (t : TT) : Prop :=
  ∀ (whole : Sem Value) (pins : List (Addr × Obj)) (s : Shared) (σ : St) (H : Hp) (Q : Bool → Hp → Prop), Inv X pins σ H s → t σ H Q → wpAny (model X.prog X.w) X.A (isTrue e X.env whole) (TP X pins σ Q) X.xe s
theorem PW.pt {X : Cx} {e : Expr} {t : TT} (h : PW X e t) : PT X e t := h _
/-- an argument list (no star), from the left -/
def PA (X : Cx) (es : List Expr) (t : TA) : Prop :=
  ∀ (pos : Pos) (pins : List (Addr × Obj)) (s : Shared) (σ : St) (H : Hp) (Q : List V → Hp → Prop), Inv X pins σ H s → t σ H Q → wpAny (model X.prog X.w) X.A (spliced (backTo pos (starEach es X.env))) (AP X pins σ Q) X.xe s
def PS (X : Cx) (st : Stmt) (t : TS) : Prop :=
  ∀ (pins : List (Addr × Obj)) (s : Shared) (σ : St) (H : Hp) (D : Ends), Inv X pins σ H s → t D σ H → wpAny (model X.prog X.w) X.A (exec st X.env) (SP X pins D) X.xe s
def PSs (X : Cx) (st : List Stmt) (t : TS) : Prop :=
  ∀ (pins : List (Addr × Obj)) (s : Shared) (σ : St) (H : Hp) (D : Ends), Inv X pins σ H s → t D σ H → wpAny (model X.prog X.w) X.A (execs st X.env) (SP X pins D) X.xe s
/-- weaken the end -/
theorem thn {α : Type} {t : Sem α} {Q Q' : α → Shared → Prop} {M : Model} {A : Around} {E : Value → Shared → Prop} {s : Shared} (h : wpAny M A t Q E s) (hQ : ∀ a s, Q a s → Q' a s) : wpAny M A t Q' E s := wpAny_mono h hQ fun _ _ x => x
end L2

namespace L2
open PySem PySem.Spec PyProof.Rows
section
variable {X : Cx}

/-! ### names and constants -/
def tVar (i : Nat) : TE := fun σ H Q => ∃ v, σ[i]? = some (some v) ∧ Q v H
def tC (v : V) : TE := fun _ H Q => Q v H
theorem pe_var {i : Nat} {x : Str} {pos : Pos} (hN : X.N[i]? = some x) (hv : Vis X.env.scope x) (hd : (x == ("__debug__" : Str)) = false := by decide) (hcd : (x == ("__classdict__" : Str)) = false := by decide) : PE X (.Name x pos) (tVar i) := by
  intro pins s σ H Q I h
  obtain ⟨v, e, h⟩ := h
  obtain ⟨m, hn, hl⟩ := I.loc
  obtain ⟨u, r, l⟩ := hl i x v hN e hv
  have fin : EP X pins σ Q u s := ⟨v, H, I, r, h⟩
  rcases l with ⟨hk, hm⟩ | ⟨hk, c, hc, hcell⟩
  · exact wpAny_Name (wpAny_loadName_local I.ok.kind hk hn hm fin) hd
  · rcases hk with hk | hk
    · exact wpAny_Name (wpAny_loadName_cell I.ok.kind hk hc hcell fin) hd
    · exact wpAny_Name (wpAny_loadName_free I.ok.kind hk hc hcell fin hcd) hd
theorem pe_int {i j pos} : PE X (.Constant (.int i) j pos) (tC (.int i)) := fun _ _ _ H _ I h => wpAny_Constant_int ⟨.int i, H, I.tok _, ⟨_, rfl⟩, h⟩
theorem pe_bl {b j pos} : PE X (.Constant (.bool b) j pos) (tC (.bl b)) := fun _ _ _ H _ I h => Constant_bool ⟨.bl b, H, I, rfl, h⟩
/-- a global name of the def -/
def Gl (X : Cx) (x : Str) : Prop := X.env.kindOf x = some .globalImplicit
theorem ld_glob {E : Value → Shared → Prop} {pins : List (Addr × Obj)} {s : Shared} {σ : St} {H : Hp} {x : Str} {u : Value} {pos : Pos} {Q : Value → Shared → Prop} (I : Inv X pins σ H s) (hg : Gl X x) (hm : X.mg x = some u) (h : Q u s)
    (hd : (x == ("__debug__" : Str)) = false := by decide) : wpAny (model X.prog X.w) X.A (eval (.Name x pos) X.env) Q E s :=
  Calls.Name_function_global I.ok.kind hg (Calls.loadGlobal_global (by rw [I.ok.glob]; exact I.mod.glob.keeps I.bk) hm h) hd
theorem ld_blt {E : Value → Shared → Prop} {pins : List (Addr × Obj)} {s : Shared} {σ : St} {H : Hp} {x : Str} {u : Value} {pos : Pos} {Q : Value → Shared → Prop} (I : Inv X pins σ H s) (hg : Gl X x) (hm : X.mg x = none) (hv : bootBuiltins x = some u) (h : Q u s)
    (hn : x ≠ "__name__" := by decide) (hd : (x == ("__debug__" : Str)) = false := by decide) : wpAny (model X.prog X.w) X.A (eval (.Name x pos) X.env) Q E s := by
  obtain ⟨mb, h1, h2⟩ := I.mod.blt
  exact Calls.Name_function_global I.ok.kind hg (Calls.loadGlobal_builtin (by rw [I.ok.glob]; exact I.mod.glob.keeps I.bk) hm (by rw [I.ok.blt]; exact h1.keeps I.bk) ((h2 x hn).trans hv) h) hd
/-- a module's constant, a class, a function, as a value -/
theorem pe_glob {x : Str} {v : V} {u : Value} {pos : Pos} (hg : Gl X x) (hm : X.mg x = some u) (r : RelV v u) (hd : (x == ("__debug__" : Str)) = false := by decide) : PE X (.Name x pos) (tC v) :=
  fun _ _ _ H _ I h => ld_glob I hg hm ⟨v, H, I, r, h⟩ hd
/-! ### arithmetic -/
variable {a b : Expr} {ta tb : TE} {pos : Pos}
/-! ### comparisons -/
/-- a comparison as a value, as a test -/
def tB (t : TE) : TT := fun σ H Q => t σ H fun x H1 => ∃ c, x = .bl c ∧ Q c H1
/-- an expression whose value is a bool, as a test -/
theorem pt_val {e : Expr} {t : TE} (h : PE X e t) (he : ∀ whole, isTrue e X.env whole = (do let v ← whole; standAt e.pos; holding [v] (truthy v)) := by intro _; rfl) : PT X e (tB t) := by
  intro pins s σ H Q I hw
  refine isTrue_plain (thn (h pins s σ H _ I hw) fun v s1 ⟨x, H1, I1, r1, q1⟩ => ?_) (he _)
  obtain ⟨d, rfl, q⟩ := q1
  cases r1
  exact wpAny_truthy_bool ⟨H1, I1, q⟩

/-! ### and, or, not -/
variable {tA tB' : TT} {rest : List Expr}
def tAnd (t u : TT) : TT := fun σ H Q => t σ H fun c H1 => if c = true then u σ H1 Q else Q false H1
def tOr (t u : TT) : TT := fun σ H Q => t σ H fun c H1 => if c = true then Q true H1 else u σ H1 Q
def tNot (t : TT) : TT := fun σ H Q => t σ H fun c H1 => Q (!c) H1
theorem pw_and1 (ha : PT X a tA) : PW X (.BoolOp .And [a] pos) tA := by
  intro wh pins s σ H Q I h
  refine isTrue_and (thn (ha pins s σ H Q I h) fun c s1 e => ?_)
  cases c with
  | true => exact isTrue_and_nil e
  | false => exact e
theorem pw_or1 (ha : PT X a tA) : PW X (.BoolOp .Or [a] pos) tA := by
  intro wh pins s σ H Q I h
  refine isTrue_or (thn (ha pins s σ H Q I h) fun c s1 e => ?_)
  cases c with
  | false => exact isTrue_or_nil e
  | true => exact e
theorem pw_and (ha : PT X a tA) (hb : PW X (.BoolOp .And (b :: rest) pos) tB') : PW X (.BoolOp .And (a :: b :: rest) pos) (tAnd tA tB') := by
  intro wh pins s σ H Q I h
  refine isTrue_and (thn (ha pins s σ H _ I h) fun c s1 ⟨H1, I1, q1⟩ => ?_)
  cases c with
  | true => exact hb wh pins s1 σ H1 Q I1 q1
  | false => exact ⟨H1, I1, q1⟩
theorem pw_or (ha : PT X a tA) (hb : PW X (.BoolOp .Or (b :: rest) pos) tB') : PW X (.BoolOp .Or (a :: b :: rest) pos) (tOr tA tB') := by
  intro wh pins s σ H Q I h
  refine isTrue_or (thn (ha pins s σ H _ I h) fun c s1 ⟨H1, I1, q1⟩ => ?_)
  cases c with
  | true => exact ⟨H1, I1, q1⟩
  | false => exact hb wh pins s1 σ H1 Q I1 q1
theorem pt_not (ha : PT X a tA) : PT X (.UnaryOp .Not a pos) (tNot tA) := by
  intro pins s σ H Q I h
  exact isTrue_not (ha pins s σ H (fun c H1 => Q (!c) H1) I h)
def tOrV (ta tb : TE) : TE := fun σ H Q => ta σ H fun x H1 => ∃ c, x = .bl c ∧ if c = true then Q (.bl true) H1 else tb σ H1 Q
theorem pe_one {op} {t : TE} (h : PE X a t) : PE X (.BoolOp op [a] pos) t := fun pins s σ H Q I hw => BoolOp_one (h pins s σ H Q I hw)
theorem pe_or (ha : PE X a ta) (hb : PE X (.BoolOp .Or (b :: rest) pos) tb) : PE X (.BoolOp .Or (a :: b :: rest) pos) (tOrV ta tb) := by
  intro pins s σ H Q I h
  refine BoolOp_or (thn (ha pins s σ H _ I h) fun v s1 ⟨x, H1, I1, r1, q1⟩ => ?_)
  obtain ⟨c, rfl, q1⟩ := q1
  cases r1
  refine wpAny_truthy_bool ?_
  cases c with
  | false => exact hb pins s1 σ H1 Q I1 q1
  | true => exact ⟨.bl true, H1, I1, rfl, q1⟩
end
end L2

namespace L2
open PySem PySem.Spec PyProof.Rows

/-! ### a list, a tuple that is read: tracked, frozen, or an object of the module -/
def SqL (K : PySem.W.Frag) (H : Hp) (a : Addr) (xs : List V) : Prop :=
  Rd H a (.lst xs) ∨
    ∃ (o : Obj) (its : Array Value) (n : Nat), K.lookup a = some o ∧ o.cls = .type "list" ∧ o.dict = none ∧ o.data = .seq its n ∧ its.size ≤ sizeLine ∧ Vals xs its.toList
def SqT (K : PySem.W.Frag) (H : Hp) (a : Addr) (xs : List V) : Prop :=
  Rd H a (.tup xs) ∨
    ∃ (o : Obj) (its : Array Value) (n : Nat), K.lookup a = some o ∧ o.cls = .type "tuple" ∧ o.data = .seq its n ∧ its.size ≤ sizeLine ∧ Vals xs its.toList
def absV : Value → Option V
  | .none => some .non
  | .bool b => some (.bl b)
  | .int i _ => some (.int i)
  | .str x _ => some (.str x)
  | .bytes b _ => some (.byt b)
  | .float b _ => some (.flt b)
  | .ref a => some (.ref a)
  | .type n => some (.ty n)
  | _ => none
theorem RelV.abs {x : V} {u : Value} (r : RelV x u) : absV u = some x := by
  cases x with
  | non => cases r; rfl
  | bl _ => cases r; rfl
  | int _ => obtain ⟨t, rfl⟩ := r; rfl
  | str _ => obtain ⟨t, rfl⟩ := r; rfl
  | byt _ => obtain ⟨t, rfl⟩ := r; rfl
  | flt _ => obtain ⟨t, rfl⟩ := r; rfl
  | ref _ => cases r; rfl
  | ty _ => cases r; rfl
theorem RelV.inj {x y : V} {u : Value} (r : RelV x u) (q : RelV y u) : x = y := Option.some.inj (r.abs.symm.trans q.abs)
theorem Vals.inj : ∀ {xs ys : List V} {us : List Value}, Vals xs us → Vals ys us → xs = ys
  | _, _, _, .nil, .nil => rfl
  | _, _, _, .cons r t, .cons r' t' => by rw [r.inj r', Vals.inj t t']
section
variable {X : Cx} {pins : List (Addr × Obj)} {σ : St} {H : Hp} {s : Shared} {a : Addr} {xs ys : List V}
theorem SqL.of {K : PySem.W.Frag} (h : H a = some (.lst xs)) : SqL K H a xs := .inl (.inl h)
theorem SqT.of {K : PySem.W.Frag} (h : H a = some (.tup xs)) : SqT K H a xs := .inl (.inl h)
theorem Inv.list (I : Inv X pins σ H s) (h : SqL X.K H a xs) : ∃ its : List Value, Vals xs its ∧ PlainL s.heap a its.toArray ∧ xs.length ≤ sizeLine := by
  rcases h with h | ⟨o, its, n, hk, hc, hd, hs, hz, r⟩
  · obtain ⟨z, its, n, r, e⟩ := h.ok I.hok
    exact ⟨its, r, ⟨_, n, e, rfl, rfl, rfl⟩, z⟩
  · refine ⟨its.toList, r, ⟨o, n, I.kIn a o hk, hc, hd, by simpa using hs⟩, ?_⟩
    have e := r.length
    simp only [Array.length_toList] at e
    omega
theorem Inv.tuple (I : Inv X pins σ H s) (h : SqT X.K H a xs) : ∃ its : List Value, Vals xs its ∧ IsTup s.heap a its.toArray ∧ xs.length ≤ sizeLine := by
  rcases h with h | ⟨o, its, n, hk, hc, hs, hz, r⟩
  · obtain ⟨z, its, r, p⟩ := h.ok I.hok
    exact ⟨its, r, p, z⟩
  · refine ⟨its.toList, r, ⟨o, I.kIn a o hk, hc, n, by simpa using hs⟩, ?_⟩
    have e := r.length
    simp only [Array.length_toList] at e
    omega
theorem Inv.list_inj (I : Inv X pins σ H s) (h : SqL X.K H a xs) (h' : SqL X.K H a ys) : xs = ys := by
  obtain ⟨its, r, ⟨o, n, e, _, _, d⟩, _⟩ := I.list h
  obtain ⟨its', r', ⟨o', n', e', _, _, d'⟩, _⟩ := I.list h'
  rw [e] at e'; cases e'
  rw [d] at d'
  injection d' with d1 _
  have : its = its' := by simpa using congrArg Array.toList d1
  subst this
  exact r.inj r'
end

/-! ### another wish about exceptions -/
abbrev Cx.wish (X : Cx) (E : Value → Shared → Prop) : Cx := { X with xe := E }
/-- no exception leaves -/
abbrev Cx.nox (X : Cx) : Cx := X.wish fun _ _ => False
theorem Cx.Ok.wish {X : Cx} (ok : X.Ok) (E : Value → Shared → Prop) : (X.wish E).Ok :=
  ⟨ok.mod, ok.kind, ok.glob, ok.blt, ok.above, ok.inj, ok.has, ok.cab, ok.hd, ok.frames, ok.stk, ok.exf, ok.bs, ok.bsz, ok.noex, ok.exfs, ok.funs, ok.frf⟩
theorem Cx.Ok.unwish {X : Cx} {E : Value → Shared → Prop} (ok : (X.wish E).Ok) : X.Ok :=
  ⟨ok.mod, ok.kind, ok.glob, ok.blt, ok.above, ok.inj, ok.has, ok.cab, ok.hd, ok.frames, ok.stk, ok.exf, ok.bs, ok.bsz, ok.noex, ok.exfs, ok.funs, ok.frf⟩
section
variable {X : Cx} {pins : List (Addr × Obj)} {σ : St} {H : Hp} {s : Shared} {E : Value → Shared → Prop}
theorem Inv.wish (I : Inv X pins σ H s) (E : Value → Shared → Prop) : Inv (X.wish E) pins σ H s := ⟨I.ok.wish E, I.os, I.bare, I.base, I.loc, I.cell, I.free, I.freeC, I.pin, I.hok, I.len⟩
theorem Inv.unwish (I : Inv (X.wish E) pins σ H s) : Inv X pins σ H s := ⟨I.ok.unwish, I.os, I.bare, I.base, I.loc, I.cell, I.free, I.freeC, I.pin, I.hok, I.len⟩
theorem SP.unwish {D : Ends} {f : Flow} {s' : Shared} (h : SP (X.wish E) pins D f s') : SP X pins D f s' := by
  cases f with
  | next => obtain ⟨σ', H', I, q⟩ := h; exact ⟨σ', H', I.unwish, q⟩
  | brk => obtain ⟨σ', H', I, q⟩ := h; exact ⟨σ', H', I.unwish, q⟩
  | cont => obtain ⟨σ', H', I, q⟩ := h; exact ⟨σ', H', I.unwish, q⟩
  | ret u => obtain ⟨v, σ', H', I, r, q⟩ := h; exact ⟨v, σ', H', I.unwish, r, q⟩
theorem PSs.nox {st : List Stmt} {t : TS} (h : PSs X.nox st t) : PSs X st t := fun pins s σ H D I hw =>
  wpAny_mono (h pins s σ H D (I.wish _) hw) (fun _ _ q => q.unwish) fun _ _ z => False.elim z
end

/-! ### blocks and small statements -/
section
variable {X : Cx} {st : Stmt} {rest : List Stmt} {t u : TS} {e : Expr} {te : TE} {pos : Pos}
def tNext : TS := fun D σ H => D.nx σ H
def tSeq (t u : TS) : TS := fun D σ H => t { D with nx := u D } σ H
theorem pss_nil : PSs X [] tNext := fun _ _ σ H _ I h => wpAny_execs_nil ⟨σ, H, I, h⟩
theorem pss_cons (h1 : PS X st t) (h2 : PSs X rest u) : PSs X (st :: rest) (tSeq t u) := by
  intro pins s σ H D I h
  refine wpAny_execs_cons (thn (h1 pins s σ H { D with nx := u D } I h) fun f s1 q => ?_)
  cases f with
  | next =>
    obtain ⟨σ', H', I', q⟩ := q
    exact h2 pins s1 σ' H' D I' q
  | ret v => exact q
  | brk => exact q
  | cont => exact q
theorem pss_one (h1 : PS X st t) : PSs X [st] t := by
  intro pins s σ H D I h
  refine wpAny_execs_cons (thn (h1 pins s σ H D I h) fun f s1 q => ?_)
  cases f with
  | next => exact wpAny_execs_nil q
  | ret v => exact q
  | brk => exact q
  | cont => exact q
/-- in a def's body nothing is shown -/
theorem Inv.quiet {pins : List (Addr × Obj)} {σ : St} {H : Hp} {s : Shared} (I : Inv X pins σ H s) : interactive X.env = false := by simp [interactive, I.ok.kind]
/-- an expression whose value is dropped -/
def tDrop (te : TE) : TS := fun D σ H => te σ H fun _ H1 => D.nx σ H1
theorem ps_expr (he : PE X e te) (hs : swapsWith e none pos.line X.env = pure false := by rfl) : PS X (.Expr e pos) (tDrop te) := by
  intro pins s σ H D I h
  exact wpAny_Expr_any (thn (he pins s σ H _ I h) fun v s1 ⟨x, H1, I1, r1, q1⟩ => ⟨σ, H1, I1, q1⟩) I.quiet hs
def tRet (te : TE) : TS := fun D σ H => te σ H D.rt
theorem ps_ret (he : PE X e te) : PS X (.Return (some e) pos) (tRet te) := by
  intro pins s σ H D I h
  exact wpAny_Return_some (thn (he pins s σ H _ I h) fun v s1 ⟨x, H1, I1, r1, q1⟩ => ⟨x, σ, H1, I1, r1, q1⟩)
def tIfS (c : TT) (t u : TS) : TS := fun D σ H => c σ H fun b H1 => if b = true then t D σ H1 else u D σ H1
theorem ps_if {c : Expr} {a b : List Stmt} {tc : TT} (hc : PT X c tc) (ha : PSs X a t) (hb : PSs X b u) : PS X (.If c a b pos) (tIfS tc t u) := by
  intro pins s σ H D I h
  refine wpAny_If (thn (hc pins s σ H _ I h) fun d s1 ⟨H1, I1, q1⟩ => ?_)
  cases d with
  | true => exact ha pins s1 σ H1 D I1 q1
  | false => exact hb pins s1 σ H1 D I1 q1
end

/-! ### targets -/
abbrev TG := V → St → Hp → (St → Hp → Prop) → Prop
abbrev TGs := List V → St → Hp → (St → Hp → Prop) → Prop
def PG (X : Cx) (target : Expr) (t : TG) : Prop :=
  ∀ (pins : List (Addr × Obj)) (s : Shared) (σ : St) (H : Hp) (v : V) (u : Value) (Q : St → Hp → Prop), Inv X pins σ H s → RelV v u → t v σ H Q →
    wpAny (model X.prog X.w) X.A (assign target X.env u) (fun _ s' => ∃ σ' H', Inv X pins σ' H' s' ∧ Q σ' H') X.xe s
/-- several targets, one after another -/
def PGs (X : Cx) (ts : List Expr) (t : TGs) : Prop :=
  ∀ (pins : List (Addr × Obj)) (s : Shared) (σ : St) (H : Hp) (vs : List V) (us : List Value) (Q : St → Hp → Prop), Inv X pins σ H s → Vals vs us → t vs σ H Q →
    wpAny (model X.prog X.w) X.A (assignInOrder ((assignEach ts X.env).map (·.2)) us) (fun _ s' => ∃ σ' H', Inv X pins σ' H' s' ∧ Q σ' H') X.xe s
/-- o[i] = v, by values -/
abbrev TSet := V → V → V → Hp → (Hp → Prop) → Prop
def PSet (X : Cx) (t : TSet) : Prop :=
  ∀ (pins : List (Addr × Obj)) (s : Shared) (σ : St) (H : Hp) (o i v : V) (ov iv u : Value) (Q : Hp → Prop), Inv X pins σ H s → RelV o ov → RelV i iv → RelV v u → t o i v H Q →
    wpAny (model X.prog X.w) X.A (setItem ov iv u) (fun _ s' => ∃ H', Inv X pins σ H' s' ∧ Q H') X.xe s
/-- a op= b, by values -/
abbrev TIp := V → V → Hp → VK → Prop
def PIp (X : Cx) (op : Operator) (t : TIp) : Prop :=
  ∀ (pins : List (Addr × Obj)) (s : Shared) (σ : St) (H : Hp) (x y : V) (v u : Value) (Q : VK), Inv X pins σ H s → RelV x v → RelV y u → t x y H Q →
    wpAny (model X.prog X.w) X.A (inplaceOp op v u) (EP X pins σ Q) X.xe s
section
variable {X : Cx} {pos : Pos}
def gName (i : Nat) : TG := fun v σ H Q => Q (σ.set i (some v)) H
theorem pg_name {i : Nat} {x : Str} (hN : X.N.Nodup) (hi : X.N[i]? = some x) (hx : Loc X.env.scope x) (hf : X.fn x = true ∨ X.env.scope.names.lookup x = some .local := by first | exact .inl rfl | exact .inr rfl | assumption) : PG X (.Name x pos) (gName i) := by
  intro pins s σ H v u Q I r h
  exact wpAny_assign_Name (store_ok I hN hi hx r (fun s' I' => ⟨_, H, I', h⟩) hf)
def gNil : TGs := fun vs σ H Q => vs = [] ∧ Q σ H
def gCons (t : TG) (u : TGs) : TGs := fun vs σ H Q => ∃ v r, vs = v :: r ∧ t v σ H fun σ' H' => u r σ' H' Q
theorem pgs_nil : PGs X [] gNil := by
  intro pins s σ H vs us Q I r h
  obtain ⟨e, h⟩ := h
  subst e
  cases r
  exact assignInOrder_nil ⟨σ, H, I, h⟩
theorem pgs_cons {e : Expr} {es : List Expr} {t : TG} {u : TGs} (h1 : PG X e t) (h2 : PGs X es u)
    (hs : (assignEach (e :: es) X.env).map (·.2) = assign e X.env :: (assignEach es X.env).map (·.2) := by rfl) : PGs X (e :: es) (gCons t u) := by
  intro pins s σ H vs us Q I r h
  obtain ⟨v, vr, e1, h⟩ := h
  subst e1
  cases r with
  | cons r rr =>
    rw [hs]
    refine assignInOrder_cons (thn (h1 pins s σ H _ _ _ I r h) fun _ s1 ⟨σ1, H1, I1, q1⟩ => ?_)
    exact h2 pins s1 σ1 H1 _ _ Q I1 rr q1
/-- (a, b, ..) = a tuple of that length -/
def gTup (K : PySem.W.Frag) (n : Nat) (t : TGs) : TG := fun v σ H Q => ∃ a xs, v = .ref a ∧ SqT K H a xs ∧ xs.length = n ∧ t xs σ H Q
theorem pg_tup {es : List Expr} {k : Nat} {t : TGs} {n : Nat} (hc : X.calm = true) (h : PGs X es t)
    (hn : (assignEach es X.env).length = n := by rfl) (hst : (assignEach es X.env).findIdx? (·.1) = none := by rfl) : PG X (.Tuple es k pos) (gTup X.K n t) := by
  intro pins s σ H v u Q I r hw
  obtain ⟨a, xs, e1, hq, hl, hw⟩ := hw
  subst e1
  cases r
  obtain ⟨its, rv, ht, hz⟩ := I.tuple hq
  refine assign_Tuple_tuple (I.ok.hd hc) ht (by simp [hn, ← hl, rv.length]) hst fun h' hx => ?_
  have I1 : Inv X pins σ H { s with heap := h' } := I.kept (t' := s.toks) fun b o e => hx b o (Nat.ne_of_lt (Heap.lt_size e)) e
  exact h pins _ σ H xs _ Q I1 (by simpa using rv) hw
/-- target = value -/
def tAsg (te : TE) (g : TG) : TS := fun D σ H => te σ H fun x H1 => g x σ H1 D.nx
/-- name = value -/
theorem ps_set {i : Nat} {x : Str} {e : Expr} {te : TE} {pos' : Pos} (hN : X.N.Nodup) (hi : X.N[i]? = some x) (hx : Loc X.env.scope x) (he : PE X e te) (hs : swapsWith e (some (.Name x pos')) pos.line X.env = pure false := by rfl) (hf : X.fn x = true ∨ X.env.scope.names.lookup x = some .local := by first | exact .inl rfl | exact .inr rfl | assumption) :
    PS X (.Assign [.Name x pos'] e pos) (tAsg te (gName i)) := by
  intro pins s σ H D I h
  refine wpAny_Assign_Name (thn (he pins s σ H _ I h) fun v s1 ⟨y, H1, I1, r1, q1⟩ => ?_) hs
  exact store_ok I1 hN hi hx r1 (fun s2 I2 => ⟨_, H1, I2, q1⟩) hf
/-- name op= e -/
def tAug (i : Nat) (te : TE) (ti : TIp) : TS := fun D σ H => ∃ x, σ[i]? = some (some x) ∧ te σ H fun y H1 => ti x y H1 fun z H2 => D.nx (σ.set i (some z)) H2
theorem ps_aug {i : Nat} {x : Str} {e : Expr} {te : TE} {op : Operator} {ti : TIp} {pos' : Pos} (hN : X.N.Nodup) (hi : X.N[i]? = some x) (hx : Loc X.env.scope x) (he : PE X e te) (ho : PIp X op ti) (hf : X.fn x = true ∨ X.env.scope.names.lookup x = some .local := by first | exact .inl rfl | exact .inr rfl | assumption) :
    PS X (.AugAssign (.Name x pos') op e pos) (tAug i te ti) := by
  intro pins s σ H D I h
  obtain ⟨v, e1, h⟩ := h
  obtain ⟨m, hn, hl⟩ := I.loc
  have vis : Vis X.env.scope x := by rcases hx with k | k; exact .inl k; exact .inr (.inl k)
  obtain ⟨u, r, l⟩ := hl i x v hi e1 vis
  refine wpAny_AugAssign_Name ?_
  have go : wpAny (model X.prog X.w) X.A (eval e X.env) (fun w s₂ => wpAny (model X.prog X.w) X.A (inplaceOp op u w) (fun r s₃ => wpAny (model X.prog X.w) X.A (storeName X.env x r) (fun _ => SP X pins D .next) X.xe s₃) X.xe s₂) X.xe s := by
    refine thn (he pins s σ H _ I h) fun w s1 ⟨y, H1, I1, r1, q1⟩ => ?_
    refine thn (ho pins s1 σ H1 v y u w _ I1 r r1 q1) fun z s2 ⟨zv, H2, I2, r2, q2⟩ => ?_
    exact store_ok I2 hN hi hx r2 (fun s3 I3 => ⟨_, H2, I3, q2⟩) hf
  rcases l with ⟨hk, hm⟩ | ⟨hk, c, hc, hcell⟩
  · exact wpAny_loadName_local I.ok.kind hk hn hm go
  · rcases hk with hk | hk
    · exact wpAny_loadName_cell I.ok.kind hk hc hcell go
    · rcases hx with k | k
      · have : X.env.scope.names.lookup x = some .free := hk
        rw [k] at this; cases this
      · have : X.env.scope.names.lookup x = some .free := hk
        rw [k] at this; cases this
/-- o[i] op= e -/
def tAugS (to ti te : TE) (tget : V → V → Hp → VK → Prop) (tip : TIp) (tset : TSet) : TS := fun D σ H => to σ H fun o H1 => ti σ H1 fun i H2 => tget o i H2 fun x H3 => te σ H3 fun y H4 => tip x y H4 fun z H5 => tset o i z H5 fun H6 => D.nx σ H6
/-- o[i], by values -/
def PGet (X : Cx) (t : V → V → Hp → VK → Prop) : Prop :=
  ∀ (pins : List (Addr × Obj)) (s : Shared) (σ : St) (H : Hp) (o i : V) (ov iv : Value) (Q : VK), Inv X pins σ H s → RelV o ov → RelV i iv → t o i H Q →
    wpAny (model X.prog X.w) X.A (getItem ov iv) (EP X pins σ Q) X.xe s
theorem ps_augS {o i e : Expr} {to ti te : TE} {tget : V → V → Hp → VK → Prop} {tip : TIp} {tset : TSet} {op : Operator} {tpos : Pos} (ho : PE X o to) (hi : PE X i ti) (hg : PGet X tget) (he : PE X e te) (hp : PIp X op tip) (hs : PSet X tset)
    (ha : ∀ ov iv new, augStore i ov iv new = (do holding [new, ov, iv] (setItem ov iv new); release [new, ov, iv] []; pure .next) := by intros; rfl) : PS X (.AugAssign (.Subscript o i tpos) op e pos) (tAugS to ti te tget tip tset) := by
  intro pins s σ H D I h
  refine wpAny_AugAssign_SubscriptAny (thn (ho pins s σ H _ I h) fun ov s1 ⟨x1, H1, I1, r1, q1⟩ => ?_) ha
  refine thn (hi pins s1 σ H1 _ I1 q1) fun iv s2 ⟨x2, H2, I2, r2, q2⟩ => ?_
  refine thn (hg pins s2 σ H2 x1 x2 ov iv _ I2 r1 r2 q2) fun old s3 ⟨x3, H3, I3, r3, q3⟩ => ?_
  refine thn (he pins s3 σ H3 _ I3 q3) fun v s4 ⟨x4, H4, I4, r4, q4⟩ => ?_
  refine thn (hp pins s4 σ H4 x3 x4 old v _ I4 r3 r4 q4) fun new s5 ⟨x5, H5, I5, r5, q5⟩ => ?_
  exact thn (hs pins s5 σ H5 x1 x2 x5 ov iv new _ I5 r1 r2 r5 q5) fun _ s6 ⟨H6, I6, q6⟩ => ⟨σ, H6, I6, q6⟩
/-- ints -/
def ipI (f : Int → Int → Int) : TIp := fun x y H Q => ∃ i j, x = .int i ∧ y = .int j ∧ Q (.int (f i j)) H
theorem ip_add : PIp X .Add (ipI fun i j => i + j) := by
  intro pins s σ H x y v u Q I r1 r2 h
  obtain ⟨i, j, e1, e2, q⟩ := h
  subst e1; subst e2
  obtain ⟨t, rfl⟩ := r1
  obtain ⟨t', rfl⟩ := r2
  exact iadd_int ⟨.int _, H, I.tok _, ⟨_, rfl⟩, q⟩
theorem ip_sub : PIp X .Sub (ipI fun i j => i - j) := by
  intro pins s σ H x y v u Q I r1 r2 h
  obtain ⟨i, j, e1, e2, q⟩ := h
  subst e1; subst e2
  obtain ⟨t, rfl⟩ := r1
  obtain ⟨t', rfl⟩ := r2
  exact isub_int ⟨.int _, H, I.tok _, ⟨_, rfl⟩, q⟩
end

/-! ### while -/
section
variable {X : Cx} {pos : Pos}
/-- the invariant W with its measure -/
def tWhile (c : TT) (tb : TS) : TS := fun D σ H => ∃ W : Nat → St → Hp → Prop, (∃ m, W m σ H) ∧ ∀ m σ H, W m σ H →
  c σ H fun b H1 => if b = true then ∃ N : St → Hp → Prop, (∀ σ' H', N σ' H' → ∃ m', m' < m ∧ W m' σ' H') ∧ tb { D with nx := N, ct := N, bk := D.nx } σ H1 else D.nx σ H1
theorem ps_while {c : Expr} {body : List Stmt} {tc : TT} {tb : TS} (hp : PassesOwn (model X.prog X.w) X.A X.env X.xe) (hc : PT X c tc) (hb : PSs X body tb) : PS X (.While c body [] pos) (tWhile tc tb) := by
  intro pins s σ H D I h
  obtain ⟨W, ⟨m0, w0⟩, turn⟩ := h
  refine wpAny_While (codeAny_whileLoop (fun n s' => ∃ σ' H', Inv X pins σ' H' s' ∧ W n σ' H') ?_ m0 ⟨σ, H, I, w0⟩)
  rintro n s1 ⟨σ1, H1, I1, w1⟩
  refine wpAny_passesOwn hp (thn (hc pins s1 σ1 H1 _ I1 (turn n σ1 H1 w1)) fun b s2 ⟨H2, I2, q2⟩ => ?_)
  cases b with
  | true =>
    obtain ⟨N, hN, q2⟩ := q2
    rw [if_pos rfl]
    refine wpAny_passesOwn hp (thn (hb pins s2 σ1 H2 _ I2 q2) fun f s3 q3 => ?_)
    cases f with
    | next =>
      obtain ⟨σ3, H3, I3, n3⟩ := q3
      obtain ⟨m', hm, w3⟩ := hN σ3 H3 n3
      exact ⟨m', hm, σ3, H3, I3, w3⟩
    | cont =>
      obtain ⟨σ3, H3, I3, n3⟩ := q3
      obtain ⟨m', hm, w3⟩ := hN σ3 H3 n3
      exact ⟨m', hm, σ3, H3, I3, w3⟩
    | brk => exact q3
    | ret v => exact q3
  | false =>
    rw [if_neg Bool.false_ne_true]
    exact wpAny_execs_nil ⟨σ1, H2, I2, q2⟩
end

/-! ### what a loop or a comprehension walks -/
/-- at turn i: it yields x (the heap may grow), or it stops -/
structure It where
  go : Nat → Hp → Prop
  yld : Nat → Hp → V → Hp → Prop
  stop : Nat → Hp → Prop
/-- the iterator's own objects may turn: they are not the frame's, not pinned, younger than the entry (or a comprehension's own) -/
def FpOk (X : Cx) (pins : List (Addr × Obj)) (H : Hp) (b : Addr) : Prop :=
  H b = none ∧ b ≠ X.env.locals ∧ b ∉ X.fs ∧ (b ∈ X.ex ∨ X.s_0.heap.objs.size ≤ b) ∧ (∀ x c, X.env.cells.lookup x = some c → c ≠ b) ∧ ∀ p ∈ X.pn ++ pins, p.1 ≠ b
theorem Inv.fpOk {X : Cx} {pins : List (Addr × Obj)} {σ : St} {H H' : Hp} {s : Shared} {b : Addr} (I : Inv X pins σ H s) (hb : s.heap.objs.size ≤ b) (hn : H' b = none) : FpOk X pins H' b := by
  refine ⟨hn, Nat.ne_of_gt (Nat.lt_of_lt_of_le I.lt hb), I.nofs hb, .inr (Nat.le_trans I.sz hb), fun x c e z => ?_, fun p hp z => ?_⟩
  · obtain ⟨v, q⟩ := I.cell x c e
    exact absurd (Nat.lt_of_lt_of_le q.lt (by rw [z]; exact hb)) (Nat.lt_irrefl _)
  · exact absurd (Nat.lt_of_lt_of_le (Heap.lt_size (I.pin p hp).1) (by rw [z]; exact hb)) (Nat.lt_irrefl _)
structure Turn (P : Program) (w : World) (K : PySem.W.Frag) (tg : Expr) (J : It) (fp : List Addr) (it : Addr) (tn : Nat → Heap → Prop) : Prop where
  mem : it ∈ fp
  obj : ∀ i h, tn i h → ∀ b ∈ fp, ∃ o, h.get? b = some o ∧ ∀ v, o.data ≠ .cell v
  keep : ∀ i h h', tn i h → (∀ b ∈ fp, ∀ o, h.get? b = some o → h'.get? b = some o) → tn i h'
  item : ∀ (X : Cx), X.prog = P → X.w = w → X.K = K → X.calm = true → ∀ (i : Nat) (pins : List (Addr × Obj)) (s : Shared) (σ : St) (H : Hp) (E : Value → Shared → Prop), Inv X pins σ H s → (∀ b ∈ fp, FpOk X pins H b) → tn i s.heap → J.go i H →
    wpAny (model P w) X.A (pyNext (.ref it)) (fun r s1 => ∃ u, r = some u ∧
      wpAny (model P w) X.A (letOwnedTupleGo tg (.ref it) u) (fun _ s2 => ∃ x H', Inv X pins σ H' s2 ∧ RelV x u ∧ J.yld i H x H' ∧ tn (i + 1) s2.heap ∧ ∀ b ∈ fp, H' b = none) E s1) E s
  done : ∀ (X : Cx), X.prog = P → X.w = w → X.K = K → X.calm = true → ∀ (i : Nat) (pins : List (Addr × Obj)) (s : Shared) (σ : St) (H : Hp) (E : Value → Shared → Prop), Inv X pins σ H s → (∀ b ∈ fp, FpOk X pins H b) → tn i s.heap → J.stop i H →
    wpAny (model P w) X.A (pyNext (.ref it)) (fun r s1 => r = none ∧ Inv X pins σ H s1) E s
  self : ∀ (A : Around) (i : Nat) (s : Shared) (Q : Value → Shared → Prop) (E : Value → Shared → Prop), tn i s.heap → Q (.ref it) s → wpAny (model P w) A (pyIter (.ref it)) Q E s
abbrev TI := St → Hp → (It → Hp → Prop) → Prop
/-- an iterator has come -/
def PIE (X : Cx) (pins : List (Addr × Obj)) (σ : St) (tg : Expr) (R : It → Hp → Prop) (itv : Value) (s2 : Shared) : Prop :=
  ∃ (it : Addr) (fp : List Addr) (tn : Nat → Heap → Prop) (J : It) (H' : Hp), itv = .ref it ∧ Inv X pins σ H' s2 ∧ Turn X.prog X.w X.K tg J fp it tn ∧ tn 0 s2.heap ∧ (∀ b ∈ fp, FpOk X pins H' b) ∧ R J H'
def PI (X : Cx) (tg iter : Expr) (wi : TI) : Prop :=
  ∀ (pins : List (Addr × Obj)) (s : Shared) (σ : St) (H : Hp) (R : It → Hp → Prop), Inv X pins σ H s → wi σ H R →
    wpAny (model X.prog X.w) X.A (eval iter X.env) (fun v s1 => wpAny (model X.prog X.w) X.A (pyIter v) (PIE X pins σ tg R) X.xe s1) X.xe s

/-- the step ahead of the store is nothing for an iterator that keeps no tuple -/
theorem go_of {M : Model} {A : Around} {E : Value → Shared → Prop} {s : Shared} {tg : Expr} {it : Addr} {u : Value} {o : Obj} {n : String} {vs : Array Value} {Q : Unit → Shared → Prop} (ho : s.heap.get? it = some o) (hc : o.cls = .type n) (hd : o.data = .fields vs)
    (hn : ["enumerate", "zip", "dict_itemiterator", "dict_reverseitemiterator", "odict_iterator", "itertools.zip_longest", "itertools.pairwise"].contains n = false) (hQ : Q () s) : wpAny M A (letOwnedTupleGo tg (.ref it) u) Q E s := by
  unfold letOwnedTupleGo
  cases tg <;> first
    | exact wpAny_pure hQ
    | (cases u <;> first
        | exact wpAny_pure hQ
        | (refine wpAny_bind (wpAny_load ho ?_)
           rw [hc, hd]
           show wpAny M A (if (["enumerate", "zip", "dict_itemiterator", "dict_reverseitemiterator", "odict_iterator", "itertools.zip_longest", "itertools.pairwise"].contains n && vs[0]? == some (rawInt _)) = true then _ else _) Q E s
           rw [if_neg (by intro h; rw [hn, Bool.false_and] at h; cases h)]
           exact wpAny_pure hQ))

/-- the list at a, as it stands at each turn (a loop may append to it) -/
def Itl (K : PySem.W.Frag) (a : Addr) : It :=
  ⟨fun i H => ∃ xs x, SqL K H a xs ∧ xs[i]? = some x, fun i H x H' => H' = H ∧ ∀ xs, SqL K H a xs → xs[i]? = some x, fun i H => ∃ xs, SqL K H a xs ∧ xs.length ≤ i⟩
/-- lo, lo + 1, .. (n of them) -/
def Itr (lo : Int) (n : Nat) : It := ⟨fun i _ => i < n, fun i H x H' => H' = H ∧ x = .int (lo + i), fun i _ => n ≤ i⟩
theorem turn_list {P : Program} {w : World} {K : PySem.W.Frag} {tg : Expr} (a it : Addr) : Turn P w K tg (Itl K a) [it] it (fun i h => h.IsListIter it a i) where
  mem := by simp
  obj := fun i h st b hb => by
    have e : b = it := by simpa using hb
    subst e
    obtain ⟨o, e, c, d⟩ := st
    exact ⟨o, e, fun v z => by rw [d] at z; cases z⟩
  keep := fun i h h' st k => st.at fun o e => k it (by simp) o e
  item := by
    intro X hP hw hK hc i pins s σ H E I hf st hg
    subst hP hw hK
    obtain ⟨xs, x, hq, hx⟩ := hg
    obtain ⟨its, rv, p, hz⟩ := I.list hq
    obtain ⟨u, hu, ru⟩ := rv.get hx
    obtain ⟨f0, f1, f2, f3, f4, f5⟩ := hf it (by simp)
    refine wpAny_pyNext_list_item st p.isList (x := u) (by simpa using hu) fun h' st' sb => ?_
    have I1 : Inv X pins σ H { s with heap := h' } := I.turned (t' := s.toks) (fun b o hb e => (sb.2 b hb).trans e) f0 f1 f3 f4 f5
    obtain ⟨o, e, c, d⟩ := id st'
    exact ⟨u, rfl, go_of (s := { s with heap := h' }) e c d (by decide) ⟨x, H, I1, ru, ⟨rfl, fun ys hy => by rw [I.list_inj hy hq]; exact hx⟩, st', fun b hb => (hf b hb).1⟩⟩
  done := by
    intro X hP hw hK hc i pins s σ H E I hf st hg
    subst hP hw hK
    obtain ⟨xs, hq, hx⟩ := hg
    obtain ⟨its, rv, p, hz⟩ := I.list hq
    obtain ⟨f0, f1, f2, f3, f4, f5⟩ := hf it (by simp)
    have hl := rv.length
    exact wpAny_pyNext_list_end (I.ok.hd hc) st p.isList (by simp; omega) fun h' eb => ⟨rfl, I.turned (t' := s.toks) (fun b o hb e => eb b o hb e) f0 f1 f3 f4 f5⟩
  self := fun _ _ _ _ _ st h => wpAny_pyIter_listiter st h
theorem turn_range {P : Program} {w : World} {K : PySem.W.Frag} {tg : Expr} (it : Addr) (lo : Int) (n : Nat) : Turn P w K tg (Itr lo n) [it] it (fun i h => IsRangeIter h it (lo + (i : Nat) * 1) ((n : Int) - (i : Nat)) 1) where
  mem := by simp
  obj := fun i h st b hb => by
    have e : b = it := by simpa using hb
    subst e
    exact ⟨_, st, fun v z => by
      have z' : Data.fields _ = Data.cell v := z
      cases z'⟩
  keep := fun i h h' st k => k it (by simp) _ st
  item := by
    intro X hP hw hK hc i pins s σ H E I hf st hg
    subst hP hw hK
    obtain ⟨f0, f1, f2, f3, f4, f5⟩ := hf it (by simp)
    have W := Walks.range (prog := X.prog) (w := X.w) (I.ok.hd hc) it lo 1 n
    refine W.item i s _ _ hg st fun v h' tk hv st' kk => ?_
    obtain ⟨t, rfl⟩ := hv
    have I1 : Inv X pins σ H { s with heap := h', toks := tk } := I.turned (fun b o hb e => kk b o (by simpa using hb) e) f0 f1 f3 f4 f5
    refine ⟨_, rfl, go_of (s := { s with heap := h', toks := tk }) (n := "range_iterator") st' rfl rfl (by decide) ⟨.int (lo + i), H, I1, ⟨t, ?_⟩, ⟨rfl, rfl⟩, st', fun b hb => (hf b hb).1⟩⟩
    rw [Int.mul_one]
  done := by
    intro X hP hw hK hc i pins s σ H E I hf st hg
    subst hP hw hK
    obtain ⟨f0, f1, f2, f3, f4, f5⟩ := hf it (by simp)
    exact wpAny_pyNext_range_end (I.ok.hd hc) st (by have : n ≤ i := hg; omega) fun h' eb => ⟨rfl, I.turned (t' := s.toks) (fun b o hb e => eb b o hb e) f0 f1 f3 f4 f5⟩
  self := fun _ _ _ _ _ st h => wpAny_pyIter_rangeiter st h
end L2

namespace L2
open PySem PySem.Spec PyProof.Rows
section
variable {X : Cx} {tg : Expr}
def iList (K : PySem.W.Frag) (tl : TE) : TI := fun σ H R => tl σ H fun x H1 => ∃ a, x = .ref a ∧ (∃ xs, SqL K H1 a xs) ∧ R (Itl K a) H1
theorem pi_list {l : Expr} {tl : TE} (hl : PE X l tl) : PI X tg l (iList X.K tl) := by
  intro pins s σ H R I h
  refine thn (hl pins s σ H _ I h) fun v s1 ⟨x, H1, I1, r1, q1⟩ => ?_
  obtain ⟨a, e, ⟨xs, hq⟩, q⟩ := q1
  subst e
  cases r1
  obtain ⟨its, rv, p, hz⟩ := I1.list hq
  refine wpAny_pyIter_list p.isList ?_
  refine ⟨s1.heap.objs.size, [s1.heap.objs.size], _, _, H1, rfl, I1.kept (t' := s1.toks) fun b o e => Heap.get?_push_of_some _ e, turn_list a _, ⟨_, Heap.get?_push_size _ rfl, rfl, rfl⟩, fun b hb => ?_, q⟩
  have e : b = s1.heap.objs.size := by simpa using hb
  subst e
  exact I1.fpOk (Nat.le_refl _) (I1.hok.fresh (Nat.le_refl _))
/-- a range object just made, walked -/
theorem range_it {pins : List (Addr × Obj)} {σ : St} {H : Hp} {s : Shared} {R : It → Hp → Prop} {E : Value → Shared → Prop} {lo hi : Int} {t u v : Tok} {tk : Nat} (I : Inv X pins σ H s) (h1 : -(2 ^ 62) ≤ lo) (h2 : lo < 2 ^ 62) (h3 : -(2 ^ 62) ≤ hi) (h4 : hi < 2 ^ 62)
    (q : R (Itr lo (hi - lo).toNat) H) : wpAny (model X.prog X.w) X.A (pyIter (.ref s.heap.objs.size)) (PIE X pins σ tg R) E { s with heap := s.heap.push { cls := .type "range", data := .fields #[.int lo t, .int hi u, .int 1 v] }, toks := tk } := by
  refine wpAny_pyIter_range (IsRange.new ..) (small_one h1 h2 h3 h4) ?_
  have I1 : Inv X pins σ H { s with heap := s.heap.push { cls := .type "range", data := .fields #[.int lo t, .int hi u, .int 1 v] }, toks := tk } := I.kept fun b o e => Heap.get?_push_of_some _ e
  refine ⟨(s.heap.push { cls := .type "range", data := .fields #[.int lo t, .int hi u, .int 1 v] }).objs.size, [(s.heap.push { cls := .type "range", data := .fields #[.int lo t, .int hi u, .int 1 v] }).objs.size], _, _, H, rfl,
    I1.kept (t' := tk) fun b o e => Heap.get?_push_of_some _ e, turn_range _ lo (hi - lo).toNat, ?_, fun b hb => ?_, q⟩
  · have e1 : lo + ((0 : Nat) : Int) * 1 = lo := by simp
    have e2 : (((hi - lo).toNat : Nat) : Int) - ((0 : Nat) : Int) = Builtin.Range.rangeSize lo hi 1 := by rw [rangeSize_one]; split <;> omega
    show IsRangeIter _ _ (lo + ((0 : Nat) : Int) * 1) ((((hi - lo).toNat : Nat) : Int) - ((0 : Nat) : Int)) 1
    rw [e1, e2]
    exact Heap.get?_push_size _ rfl
  · have e : b = (s.heap.push { cls := .type "range", data := .fields #[.int lo t, .int hi u, .int 1 v] }).objs.size := by simpa using hb
    subst e
    exact I1.fpOk (Nat.le_refl _) (I1.hok.fresh (Nat.le_refl _))
def iRng1 (ta : TA) : TI := fun σ H R => ta σ H fun vs H1 => ∃ j : Int, vs = [.int j] ∧ -(2 ^ 62) ≤ j ∧ j < 2 ^ 62 ∧ R (Itr 0 j.toNat) H1
theorem pi_range1 {a : Expr} {ta : TA} {p pos : Pos} (hg : Gl X "range") (hm : X.mg "range" = none) (ha : PA X [a] ta) (hs : starEach [a] X.env = [(false, eval a X.env)] := by rfl) : PI X tg (.Call (.Name "range" p) [a] [] pos) (iRng1 ta) := by
  intro pins s σ H R I h
  refine Call_ (ld_blt I hg hm boot_range (PyProof.Rows.callWith_type1 (thn (ha pos pins s σ H _ I h) fun us s1 ⟨vs, H1, I1, r1, q1⟩ => ?_) hs rfl))
  obtain ⟨j, e, q1, q2, q⟩ := q1
  subst e
  cases r1 with
  | cons r rr =>
    cases rr
    obtain ⟨t, rfl⟩ := r
    exact call_range_1 (range_it I1 (by omega) (by omega) q1 q2 (by simpa using q))
/-! ### for -/
/-- W: the invariant by the turn and a measure; N: what the body is to reach -/
def tFor (wi : TI) (g : TG) (tb : TS) : TS := fun D σ H => wi σ H fun J H1 => ∃ W : Nat → Nat → St → Hp → Prop, (∃ m, W 0 m σ H1) ∧ ∀ i m σ H, W i m σ H →
  (J.stop i H ∧ D.nx σ H) ∨ (J.go i H ∧ ∃ N : St → Hp → Prop, (∀ σ' H', N σ' H' → ∃ m', m' < m ∧ W (i + 1) m' σ' H') ∧ ∀ x H', J.yld i H x H' → g x σ H' fun σ2 H2 => tb { D with nx := N, ct := N, bk := D.nx } σ2 H2)
/-- the records at fp as they stand -/
def pinsAt (fp : List Addr) (h : Heap) : List (Addr × Obj) := fp.filterMap fun b => (h.get? b).map fun o => (b, o)
theorem mem_pinsAt {fp : List Addr} {h : Heap} {b : Addr} {o : Obj} (hb : b ∈ fp) (e : h.get? b = some o) : (b, o) ∈ pinsAt fp h := List.mem_filterMap.mpr ⟨b, hb, by rw [e]; rfl⟩
theorem of_pinsAt {fp : List Addr} {h : Heap} {p : Addr × Obj} (hp : p ∈ pinsAt fp h) : p.1 ∈ fp ∧ h.get? p.1 = some p.2 := by
  obtain ⟨b, hb, e⟩ := List.mem_filterMap.mp hp
  cases q : h.get? b with
  | none => rw [q] at e; cases e
  | some o =>
    rw [q] at e
    have e' : (b, o) = p := Option.some.inj e
    subst e'
    exact ⟨hb, q⟩
theorem Inv.pinned {pins : List (Addr × Obj)} {σ : St} {H : Hp} {s : Shared} {fp : List Addr} (I : Inv X pins σ H s) (hf : ∀ b ∈ fp, FpOk X pins H b) (ho : ∀ b ∈ fp, ∃ o, s.heap.get? b = some o ∧ ∀ v, o.data ≠ .cell v) : Inv X (pins ++ pinsAt fp s.heap) σ H s :=
  I.pins_of fun p hp => (List.mem_append.mp hp).elim (fun z => I.pin p (List.mem_append_right _ z)) fun z => by
    obtain ⟨hb, e⟩ := of_pinsAt z
    obtain ⟨f0, f1, f2, _⟩ := hf p.1 hb
    obtain ⟨o, e', d⟩ := ho p.1 hb
    rw [e] at e'; cases e'
    exact ⟨e, f0, f1, f2, d⟩
theorem Inv.unpinned {pins pl : List (Addr × Obj)} {σ : St} {H : Hp} {s : Shared} (I : Inv X (pins ++ pl) σ H s) : Inv X pins σ H s := I.pins_of fun p hp => I.pin p (List.mem_append_right _ (List.mem_append_left _ hp))
theorem ps_for {iter : Expr} {body : List Stmt} {wi : TI} {g : TG} {tb : TS} {pos : Pos} (hp : PassesOwn (model X.prog X.w) X.A X.env X.xe) (hc : X.calm = true) (hi : PI X tg iter wi) (hg : PG X tg g) (hb : PSs X body tb)
    (hs : ∀ x, foldedSetIterable iter X.env x = pure x := by intro _; rfl) : PS X (.For tg iter body [] pos) (tFor wi g tb) := by
  intro pins s σ H D I h
  refine wpAny_For (thn (hi pins s σ H _ I h) fun v s1 h1 => thn h1 fun itv s2 h2 => ?_) hs
  obtain ⟨it, fp, tn, J, H2, e, I2, T, st2, f2, W, ⟨m0, w0⟩, turn⟩ := h2
  subst e
  -- what stays true of the iterator's objects through the loop
  have stat : ∀ {H' : Hp}, (∀ b ∈ fp, H' b = none) → ∀ b ∈ fp, FpOk X pins H' b := fun hn b hb => ⟨hn b hb, (f2 b hb).2⟩
  refine codeAny_forLoop_any (fun n s' => ∃ i σ' H', Inv X pins σ' H' s' ∧ tn i s'.heap ∧ (∀ b ∈ fp, H' b = none) ∧ W i n σ' H') ?_ m0 ⟨0, σ, H2, I2, st2, fun b hb => (f2 b hb).1, w0⟩
  rintro n s3 ⟨i, σ3, H3, I3, st3, fr3, w3⟩
  rcases turn i n σ3 H3 w3 with ⟨stop, qn⟩ | ⟨go, N, hN, step⟩
  · refine wpAny_passesOwn hp (thn (T.done X rfl rfl rfl hc i pins s3 σ3 H3 X.xe I3 (stat fr3) st3 stop) fun r s4 ⟨hr, I4⟩ => ?_)
    subst hr
    exact wpAny_execs_nil ⟨σ3, H3, I4, qn⟩
  · refine wpAny_passesOwn hp (thn (T.item X rfl rfl rfl hc i pins s3 σ3 H3 X.xe I3 (stat fr3) st3 go) fun r s4 ⟨u, hr, h4⟩ => ?_)
    subst hr
    refine wpAny_passesOwn hp (thn h4 fun _ s5 ⟨x, H5, I5, r5, y5, st5, fr5⟩ => ?_)
    have I5' := I5.pinned (stat fr5) (T.obj _ _ st5)
    refine wpAny_passesOwn hp (thn (hg _ s5 σ3 H5 x u _ I5' r5 (step x H5 y5)) fun _ s6 ⟨σ6, H6, I6, q6⟩ => ?_)
    refine wpAny_passesOwn hp (thn (hb _ s6 σ6 H6 _ I6 q6) fun f s7 q7 => ?_)
    have again : ∀ {σ7 : St} {H7 : Hp}, Inv X (pins ++ pinsAt fp s5.heap) σ7 H7 s7 → N σ7 H7 → ∃ m, m < n ∧ ∃ i σ' H', Inv X pins σ' H' s7 ∧ tn i s7.heap ∧ (∀ b ∈ fp, H' b = none) ∧ W i m σ' H' := fun {σ7 H7} I7 n7 => by
      obtain ⟨m', hm, w7⟩ := hN σ7 H7 n7
      refine ⟨m', hm, i + 1, σ7, H7, I7.unpinned, T.keep _ _ _ st5 fun b hb o e => (I7.pin (b, o) (List.mem_append_right _ (List.mem_append_right _ (mem_pinsAt hb e)))).1, fun b hb => ?_, w7⟩
      obtain ⟨o, e, d⟩ := T.obj _ _ st5 b hb
      exact (I7.pin (b, o) (List.mem_append_right _ (List.mem_append_right _ (mem_pinsAt hb e)))).2.1
    cases f with
    | next => obtain ⟨σ7, H7, I7, n7⟩ := q7; exact again I7 n7
    | cont => obtain ⟨σ7, H7, I7, n7⟩ := q7; exact again I7 n7
    | brk => obtain ⟨σ7, H7, I7, q7⟩ := q7; exact ⟨σ7, H7, I7.unpinned, q7⟩
    | ret v => obtain ⟨x7, σ7, H7, I7, r7, q7⟩ := q7; exact ⟨x7, σ7, H7, I7.unpinned, r7, q7⟩
end

/-! ### the forms one uses -/
/-- over a list that the body leaves as it is -/
theorem for_list {K : PySem.W.Frag} {a : Addr} {xs : List V} {g : TG} {tb : TS} {D : Ends} {σ : St} {H : Hp} (Pv : Nat → St → Hp → Prop) (h0 : Pv 0 σ H) (hl : ∀ i σ H, i ≤ xs.length → Pv i σ H → SqL K H a xs)
    (hs : ∀ i x σ H, xs[i]? = some x → Pv i σ H → g x σ H fun σ2 H2 => tb { D with nx := Pv (i + 1), ct := Pv (i + 1), bk := D.nx } σ2 H2) (hd : ∀ σ H, Pv xs.length σ H → D.nx σ H) :
    ∃ W : Nat → Nat → St → Hp → Prop, (∃ m, W 0 m σ H) ∧ ∀ i m σ H, W i m σ H →
      ((Itl K a).stop i H ∧ D.nx σ H) ∨ ((Itl K a).go i H ∧ ∃ N : St → Hp → Prop, (∀ σ' H', N σ' H' → ∃ m', m' < m ∧ W (i + 1) m' σ' H') ∧ ∀ x H', (Itl K a).yld i H x H' → g x σ H' fun σ2 H2 => tb { D with nx := N, ct := N, bk := D.nx } σ2 H2) := by
  refine ⟨fun i m σ H => m = xs.length - i ∧ i ≤ xs.length ∧ Pv i σ H, ⟨xs.length, by simp, Nat.zero_le _, h0⟩, ?_⟩
  rintro i m σ H ⟨rfl, hi, p⟩
  have q := hl i σ H hi p
  by_cases hlt : i < xs.length
  · refine .inr ⟨⟨xs, xs[i], q, by simp [hlt]⟩, Pv (i + 1), fun σ' H' p' => ⟨xs.length - (i + 1), by omega, rfl, hlt, p'⟩, fun x H' y => ?_⟩
    obtain ⟨e, y⟩ := y
    subst e
    exact hs i x σ _ (y xs q) p
  · have e : i = xs.length := by omega
    subst e
    exact .inl ⟨⟨xs, q, Nat.le_refl _⟩, hd σ H p⟩
theorem for_range {lo : Int} {n : Nat} {g : TG} {tb : TS} {D : Ends} {σ : St} {H : Hp} (Pv : Nat → St → Hp → Prop) (h0 : Pv 0 σ H)
    (hs : ∀ i σ H, i < n → Pv i σ H → g (.int (lo + i)) σ H fun σ2 H2 => tb { D with nx := Pv (i + 1), ct := Pv (i + 1), bk := D.nx } σ2 H2) (hd : ∀ σ H, Pv n σ H → D.nx σ H) :
    ∃ W : Nat → Nat → St → Hp → Prop, (∃ m, W 0 m σ H) ∧ ∀ i m σ H, W i m σ H →
      ((Itr lo n).stop i H ∧ D.nx σ H) ∨ ((Itr lo n).go i H ∧ ∃ N : St → Hp → Prop, (∀ σ' H', N σ' H' → ∃ m', m' < m ∧ W (i + 1) m' σ' H') ∧ ∀ x H', (Itr lo n).yld i H x H' → g x σ H' fun σ2 H2 => tb { D with nx := N, ct := N, bk := D.nx } σ2 H2) := by
  refine ⟨fun i m σ H => m = n - i ∧ i ≤ n ∧ Pv i σ H, ⟨n, by simp, Nat.zero_le _, h0⟩, ?_⟩
  rintro i m σ H ⟨rfl, hi, p⟩
  by_cases hlt : i < n
  · refine .inr ⟨hlt, Pv (i + 1), fun σ' H' p' => ⟨n - (i + 1), by omega, rfl, hlt, p'⟩, fun x H' y => ?_⟩
    obtain ⟨e, y⟩ := y
    subst e y
    exact hs i σ _ hlt p
  · have e : i = n := by omega
    subst e
    exact .inl ⟨Nat.le_refl _, hd σ H p⟩
end L2

namespace L2
open PySem PySem.Spec PyProof.Rows

abbrev R2 := V → V → Hp → VK → Prop
/-- a two-place operation on values: f is binaryOp op, inplaceOp op or compareOp op -/
def OpR (X : Cx) (f : Value → Value → Sem Value) (r : R2) : Prop :=
  ∀ (pins : List (Addr × Obj)) (s : Shared) (σ : St) (H : Hp) (x y : V) (v u : Value) (Q : VK), Inv X pins σ H s → RelV x v → RelV y u → r x y H Q →
    wpAny (model X.prog X.w) X.A (f v u) (EP X pins σ Q) X.xe s
/-- a call of a value that is known (a builtin, a type) with values -/
def CallR (X : Cx) (f : Value) (r : List V → Hp → VK → Prop) : Prop :=
  ∀ (pins : List (Addr × Obj)) (s : Shared) (σ : St) (H : Hp) (xs : List V) (us : List Value) (Q : VK), Inv X pins σ H s → Vals xs us → r xs H Q →
    wpAny (model X.prog X.w) X.A (call f us) (EP X pins σ Q) X.xe s
def tOp (r : R2) (ta tb : TE) : TE := fun σ H Q => ta σ H fun x H1 => tb σ H1 fun y H2 => r x y H2 Q
/-- ints in, under C, and a value out -/
def rI (C : Int → Int → Prop) (g : Int → Int → V) : R2 := fun x y H Q => ∃ i j, x = .int i ∧ y = .int j ∧ C i j ∧ Q (g i j) H
def rI0 (g : Int → Int → V) : R2 := fun x y H Q => ∃ i j, x = .int i ∧ y = .int j ∧ Q (g i j) H
section
variable {X : Cx} {a b c : Expr} {ta tb tc : TE} {pos : Pos}

theorem binT (ha : PE X a ta) (hb : PE X b tb) {pins : List (Addr × Obj)} {s : Shared} {σ : St} {H : Hp} {R : V → V → Hp → Prop} (I : Inv X pins σ H s)
    (h : ta σ H fun x H1 => tb σ H1 fun y H2 => R x y H2) {Q : Value → Shared → Prop} {f : Value → Value → Sem Value}
    (hf : ∀ v u s2 x y H2, Inv X pins σ H2 s2 → RelV x v → RelV y u → R x y H2 → wpAny (model X.prog X.w) X.A (f v u) Q X.xe s2) :
    wpAny (model X.prog X.w) X.A (eval a X.env) (fun v s₁ => wpAny (model X.prog X.w) X.A (eval b X.env) (fun u s₂ => wpAny (model X.prog X.w) X.A (f v u) Q X.xe s₂) X.xe s₁) X.xe s := by
  refine thn (ha pins s σ H _ I h) fun v s1 ⟨x, H1, I1, r1, q1⟩ => ?_
  refine thn (hb pins s1 σ H1 _ I1 q1) fun u s2 ⟨y, H2, I2, r2, q2⟩ => ?_
  exact hf v u s2 x y H2 I2 r1 r2 q2

theorem pe_op {op : Operator} {r : R2} (ho : OpR X (binaryOp op) r) (ha : PE X a ta) (hb : PE X b tb) : PE X (.BinOp a op b pos) (tOp r ta tb) := by
  intro pins s σ H Q I h
  exact wpAny_BinOp (binT ha hb I h fun v u s2 x y H2 I2 rx ry q => ho pins s2 σ H2 x y v u Q I2 rx ry q)
/-! ### ints -/
theorem opI {f : Value → Value → Sem Value} {C : Int → Int → Prop} {g : Int → Int → Int}
    (rule : ∀ (i j : Int) (t u : Tok) (s : Shared) (Q : Value → Shared → Prop) (E : Value → Shared → Prop), C i j → Q (.int (g i j) s.toks) { s with toks := s.toks + 1 } → wpAny (model X.prog X.w) X.A (f (.int i t) (.int j u)) Q E s) :
    OpR X f (rI C fun i j => .int (g i j)) := by
  intro pins s σ H x y v u Q I rx ry h
  obtain ⟨i, j, rfl, rfl, hc, q⟩ := h
  obtain ⟨t, rfl⟩ := rx
  obtain ⟨t', rfl⟩ := ry
  exact rule i j t t' s _ _ hc ⟨.int (g i j), H, I.tok _, ⟨_, rfl⟩, q⟩
theorem opI0 {f : Value → Value → Sem Value} {g : Int → Int → Int}
    (rule : ∀ (i j : Int) (t u : Tok) (s : Shared) (Q : Value → Shared → Prop) (E : Value → Shared → Prop), Q (.int (g i j) s.toks) { s with toks := s.toks + 1 } → wpAny (model X.prog X.w) X.A (f (.int i t) (.int j u)) Q E s) :
    OpR X f (rI0 fun i j => .int (g i j)) := by
  intro pins s σ H x y v u Q I rx ry h
  obtain ⟨i, j, rfl, rfl, q⟩ := h
  obtain ⟨t, rfl⟩ := rx
  obtain ⟨t', rfl⟩ := ry
  exact rule i j t t' s _ _ ⟨.int (g i j), H, I.tok _, ⟨_, rfl⟩, q⟩
theorem opB0 {f : Value → Value → Sem Value} {g : Int → Int → Bool}
    (rule : ∀ (i j : Int) (t u : Tok) (s : Shared) (Q : Value → Shared → Prop) (E : Value → Shared → Prop), Q (.bool (g i j)) s → wpAny (model X.prog X.w) X.A (f (.int i t) (.int j u)) Q E s) :
    OpR X f (rI0 fun i j => .bl (g i j)) := by
  intro pins s σ H x y v u Q I rx ry h
  obtain ⟨i, j, rfl, rfl, q⟩ := h
  obtain ⟨t, rfl⟩ := rx
  obtain ⟨t', rfl⟩ := ry
  exact rule i j t t' s _ _ ⟨.bl (g i j), H, I, rfl, q⟩

def CDiv (i j : Int) : Prop := 0 < j ∧ j < 1073741824
def CMul (i j : Int) : Prop := (-(2 ^ 64) < i ∧ i < 2 ^ 64) ∨ (-(2 ^ 64) < j ∧ j < 2 ^ 64)
theorem CMul.ok {i j : Int} (h : CMul i j) : IntMulOk i j := by
  rcases h with ⟨h1, h2⟩ | ⟨h1, h2⟩
  · exact .of_left (intBits_le_64 h1 h2)
  · exact .of_right (intBits_le_64 h1 h2)
theorem op_add : OpR X (binaryOp .Add) (rI0 fun i j => .int (i + j)) := opI0 fun _ _ _ _ _ _ _ q => add_int q
theorem op_sub : OpR X (binaryOp .Sub) (rI0 fun i j => .int (i - j)) := opI0 fun _ _ _ _ _ _ _ q => sub_int q
theorem op_mul : OpR X (binaryOp .Mult) (rI CMul fun i j => .int (i * j)) := opI fun _ _ _ _ _ _ _ hc q => mul_int q hc.ok
/-- // by a positive divisor -/
theorem op_fdiv : OpR X (binaryOp .FloorDiv) (rI CDiv fun i j => .int (i / j)) := opI fun i j _ _ _ _ _ hc q => by
  have h1 : (0 : Int) < j := hc.1
  have h2 : j < 1073741824 := hc.2
  exact floordiv_int (by omega) (by rw [Int.fdiv_eq_ediv_of_nonneg i (by omega)]; exact q) (.inl (PyProof.noPylong_small (by omega)))
/-- % by a positive divisor of any size -/
theorem op_mod : OpR X (binaryOp .Mod) (rI (fun _ j => 0 < j) fun i j => .int (i % j)) := opI fun i j _ _ _ _ _ hc q => by
  have h1 : (0 : Int) < j := hc
  exact mod_int' (by omega) (by rw [Int.fmod_eq_emod_of_nonneg i (by omega)]; exact q)
/-! ### bools among ints: n += (a < b) -/
end

/-! ### comparisons -/
/-- the scalars that == tells apart as data does -/
def scal : V → V → Bool
  | .non, .non => true | .non, .int _ => true | .int _, .non => true | .non, .bl _ => true | .bl _, .non => true | .non, .str _ => true | .str _, .non => true
  | .int _, .int _ => true | .bl _, .bl _ => true | .str _, .str _ => true | .byt _, .byt _ => true
  | .int _, .str _ => true | .str _, .int _ => true | .bl _, .str _ => true | .str _, .bl _ => true
  | _, _ => false
def rEq : R2 := fun x y H Q => scal x y = true ∧ Q (.bl (decide (x = y))) H
def rNe : R2 := fun x y H Q => scal x y = true ∧ Q (.bl (!decide (x = y))) H

theorem dec_int {i j : Int} : decide (V.int i = V.int j) = (i == j) := by
  rw [Bool.eq_iff_iff]
  simp
theorem dec_bl {i j : Bool} : decide (V.bl i = V.bl j) = (i == j) := by
  rw [Bool.eq_iff_iff]
  simp
theorem dec_str {i j : Str} : decide (V.str i = V.str j) = (i == j) := by
  rw [Bool.eq_iff_iff]
  simp
theorem dec_byt {i j : Array UInt8} : decide (V.byt i = V.byt j) = (i.toList == j.toList) := by
  rw [Bool.eq_iff_iff]
  cases i
  cases j
  simp

section
variable {X : Cx} {a b c : Expr} {ta tb tc : TE} {pos : Pos}
theorem fin_bl {pins : List (Addr × Obj)} {σ : St} {H : Hp} {s : Shared} {Q : VK} {k k' : Bool} (I : Inv X pins σ H s) (q : Q (.bl k) H) (e : k = k') : EP X pins σ Q (.bool k') s := by
  subst e
  exact ⟨.bl k, H, I, rfl, q⟩
theorem op_eq : OpR X (compareOp .Eq) rEq := by
  intro pins s σ H x y v u Q I rx ry h
  obtain ⟨hs, q⟩ := h
  cases x with
  | non =>
    cases rx
    cases y with
    | non => cases ry; exact PySem.EqNone.eq_none_none (fin_bl I q (by simp))
    | bl j => cases ry; exact PySem.EqNone.eq_none_bool (fin_bl I q (by simp))
    | int j => obtain ⟨t', rfl⟩ := ry; exact PySem.EqNone.eq_none_int (fin_bl I q (by simp))
    | str j => obtain ⟨t', rfl⟩ := ry; exact PySem.EqNone.eq_none_str (fin_bl I q (by simp))
    | _ => exact absurd (show false = true from hs) Bool.false_ne_true
  | bl i =>
    cases rx
    cases y with
    | non => cases ry; exact PySem.EqNone.eq_bool_none (fin_bl I q (by simp))
    | bl j => cases ry; exact eq_bool (fin_bl I q dec_bl)
    | str j => obtain ⟨t', rfl⟩ := ry; exact PySem.EqMixed.eq_bool_str (fin_bl I q (by simp))
    | _ => exact absurd (show false = true from hs) Bool.false_ne_true
  | int i =>
    obtain ⟨t, rfl⟩ := rx
    cases y with
    | non => cases ry; exact PySem.EqNone.eq_int_none (fin_bl I q (by simp))
    | int j => obtain ⟨t', rfl⟩ := ry; exact eq_int (fin_bl I q dec_int)
    | str j => obtain ⟨t', rfl⟩ := ry; exact PySem.EqMixed.eq_int_str (fin_bl I q (by simp))
    | _ => exact absurd (show false = true from hs) Bool.false_ne_true
  | str i =>
    obtain ⟨t, rfl⟩ := rx
    cases y with
    | non => cases ry; exact PySem.EqNone.eq_str_none (fin_bl I q (by simp))
    | bl j => cases ry; exact PySem.EqMixed.eq_str_bool (fin_bl I q (by simp))
    | int j => obtain ⟨t', rfl⟩ := ry; exact PySem.EqMixed.eq_str_int (fin_bl I q (by simp))
    | str j => obtain ⟨t', rfl⟩ := ry; exact eq_str (fin_bl I q dec_str)
    | _ => exact absurd (show false = true from hs) Bool.false_ne_true
  | byt i =>
    obtain ⟨t, rfl⟩ := rx
    cases y with
    | byt j => obtain ⟨t', rfl⟩ := ry; exact PySem.W.eq_bytes (fin_bl I q dec_byt)
    | _ => exact absurd (show false = true from hs) Bool.false_ne_true
  | _ => cases y <;> exact absurd (show false = true from hs) Bool.false_ne_true
theorem op_ne : OpR X (compareOp .NotEq) rNe := by
  intro pins s σ H x y v u Q I rx ry h
  obtain ⟨hs, q⟩ := h
  cases x with
  | non =>
    cases rx
    cases y with
    | non => cases ry; exact PySem.EqNone.ne_none_none (fin_bl I q (by simp))
    | bl j => cases ry; exact PySem.EqNone.ne_none_bool (fin_bl I q (by simp))
    | int j => obtain ⟨t', rfl⟩ := ry; exact PySem.EqNone.ne_none_int (fin_bl I q (by simp))
    | str j => obtain ⟨t', rfl⟩ := ry; exact PySem.EqNone.ne_none_str (fin_bl I q (by simp))
    | _ => exact absurd (show false = true from hs) Bool.false_ne_true
  | bl i =>
    cases rx
    cases y with
    | non => cases ry; exact PySem.EqNone.ne_bool_none (fin_bl I q (by simp))
    | bl j => cases ry; exact ne_bool (fin_bl I q (congrArg not dec_bl))
    | str j => obtain ⟨t', rfl⟩ := ry; exact PySem.EqMixed.ne_bool_str (fin_bl I q (by simp))
    | _ => exact absurd (show false = true from hs) Bool.false_ne_true
  | int i =>
    obtain ⟨t, rfl⟩ := rx
    cases y with
    | non => cases ry; exact PySem.EqNone.ne_int_none (fin_bl I q (by simp))
    | int j => obtain ⟨t', rfl⟩ := ry; exact ne_int (fin_bl I q (congrArg not dec_int))
    | str j => obtain ⟨t', rfl⟩ := ry; exact PySem.EqMixed.ne_int_str (fin_bl I q (by simp))
    | _ => exact absurd (show false = true from hs) Bool.false_ne_true
  | str i =>
    obtain ⟨t, rfl⟩ := rx
    cases y with
    | non => cases ry; exact PySem.EqNone.ne_str_none (fin_bl I q (by simp))
    | bl j => cases ry; exact PySem.EqMixed.ne_str_bool (fin_bl I q (by simp))
    | int j => obtain ⟨t', rfl⟩ := ry; exact PySem.EqMixed.ne_str_int (fin_bl I q (by simp))
    | str j => obtain ⟨t', rfl⟩ := ry; exact ne_str (fin_bl I q (congrArg not dec_str))
    | _ => exact absurd (show false = true from hs) Bool.false_ne_true
  | byt i =>
    obtain ⟨t, rfl⟩ := rx
    cases y with
    | byt j => obtain ⟨t', rfl⟩ := ry; exact PySem.W.ne_bytes (fin_bl I q (congrArg not dec_byt))
    | _ => exact absurd (show false = true from hs) Bool.false_ne_true
  | _ => cases y <;> exact absurd (show false = true from hs) Bool.false_ne_true

theorem op_lt : OpR X (compareOp .Lt) (rI0 fun i j => .bl (decide (i < j))) := opB0 fun _ _ _ _ _ _ _ q => lt_int q
theorem op_le : OpR X (compareOp .LtE) (rI0 fun i j => .bl (decide (i ≤ j))) := opB0 fun _ _ _ _ _ _ _ q => le_int q
theorem op_gt : OpR X (compareOp .Gt) (rI0 fun i j => .bl (decide (j < i))) := opB0 fun _ _ _ _ _ _ _ q => gt_int q
theorem op_ge : OpR X (compareOp .GtE) (rI0 fun i j => .bl (decide (j ≤ i))) := opB0 fun _ _ _ _ _ _ _ q => ge_int q
theorem nomark (b : Expr) {op : CmpOp} (h : op ≠ .In := by decide) (h2 : op ≠ .NotIn := by decide) : behindInMarks op b = false := by
  have e1 : (op == CmpOp.In) = false := by cases op <;> first | rfl | exact absurd rfl h
  have e2 : (op == CmpOp.NotIn) = false := by cases op <;> first | rfl | exact absurd rfl h2
  cases b <;> simp [behindInMarks, e1, e2]
/-- a comparison as a value; hm: nomark b, or (for in, not in) by with_unfolding_all rfl -/
theorem pe_cmpR {op : CmpOp} {r : R2} (ho : OpR X (compareOp op) r) (ha : PE X a ta) (hb : PE X b tb) (hm : behindInMarks op b = false) : PE X (.Compare a [op] [b] pos) (tOp r ta tb) := by
  intro pins s σ H Q I h
  exact wpAny_Compare1 (binT ha hb I h fun v u s2 x y H2 I2 rx ry q => ho pins s2 σ H2 x y v u Q I2 rx ry q) hm
/-- a reading of a value as a test -/
def tTest (t : TE) : TT := fun σ H Q => t σ H fun x H' => ∃ k, x = .bl k ∧ Q k H'
theorem pt_cmpR {op : CmpOp} {r : R2} (ho : OpR X (compareOp op) r) (ha : PE X a ta) (hb : PE X b tb) (hm : behindInMarks op b = false) : PT X (.Compare a [op] [b] pos) (tTest (tOp r ta tb)) := by
  intro pins s σ H Q I h
  refine wpAny_isTrue_Compare1 (thn (ha pins s σ H _ I h) fun v s1 ⟨x, H1, I1, r1, q1⟩ => thn (hb pins s1 σ H1 _ I1 q1) fun u s2 ⟨y, H2, I2, r2, q2⟩ =>
    thn (ho pins s2 σ H2 x y v u _ I2 r1 r2 q2) fun c s3 ⟨z, H3, I3, r3, k, e, q3⟩ => ?_) hm
  subst e
  cases r3
  exact wpAny_truthy_bool ⟨H3, I3, q3⟩
/-! ### truth -/
theorem line63 : (sizeLine : Nat) < 2 ^ 63 := by rw [sizeLine_eq]; decide
/-! ### strs and bytes -/
/-! ### scalar builtins, by CallR -/
theorem vals1 {x : V} {us : List Value} (r : Vals [x] us) : ∃ u, us = [u] ∧ RelV x u := by
  cases r with
  | cons r1 r2 => cases r2; exact ⟨_, rfl, r1⟩
end
end L2

namespace L2
open PySem PySem.Spec PyProof.Rows

/-! ### an instance, its attributes a map -/
structure ObjM (h : Heap) (x dx C : Addr) (mA : Str → Option Value) : Prop where
  obj : h.get? x = some (PySem.W.instObj C dx)
  ns : h.Ns1 dx mA
  ne : dx ≠ x

theorem lookIn_ns {h : Heap} {dx : Addr} {mA : Str → Option Value} (n : h.Ns1 dx mA) : ∃ od, h.get? dx = some od ∧ ∀ name, PySem.W.lookIn name od = some (mA name) := by
  obtain ⟨o, es, ep, ho, hd, hk, _, hm⟩ := n
  refine ⟨o, ho, fun name => ?_⟩
  have e := hm name
  unfold nsFind findBy at e
  rw [← Array.find?_toList] at e
  unfold PySem.W.lookIn
  rw [hd]
  dsimp only
  split
  · rename_i y q
    rw [q] at e
    exact congrArg some e
  · rename_i q
    rw [q] at e
    have a : es.toList.any (·.refKey) = false := by
      rw [List.any_eq_false]
      intro y hy
      obtain ⟨z, t, hkey⟩ := hk y (Array.mem_toList_iff.mp hy)
      simp [DictEntry.refKey, hkey]
    have a' : ¬ es.toList.any (·.refKey) = true := by rw [a]; exact Bool.false_ne_true
    rw [if_neg a']
    exact congrArg some e

theorem ObjM.look {h : Heap} {x dx C : Addr} {mA : Str → Option Value} (I : ObjM h x dx C mA) : ∃ od, PySem.W.InstAt h x (PySem.W.instObj C dx) C (some od) ∧ ∀ name, PySem.W.lookIn name od = some (mA name) :=
  let ⟨od, ho, hl⟩ := lookIn_ns I.ns
  ⟨od, ⟨I.obj, rfl, rfl, ho⟩, hl⟩

section
variable {prog : Program} {w : World} {A : Around} {E : Value → Shared → Prop} {s : Shared} {K : PySem.W.Frag} {x dx C f : Addr} {mA : Str → Option Value} {name : Str} {v : Value}

theorem get_map {expr : Bool} {Q : Value → Shared → Prop} (X : K.In s.heap) (I : ObjM s.heap x dx C mA) (hg : PySem.W.plainGet K C name = true) (hh : PySem.W.hasDictIn K C = true)
    (ha : PySem.W.findIn K (.ref C) name = some none) (hv : mA name = some v) (hv' : PySem.W.handedIn v = true) (h : Q v { s with toks := s.toks + 1 }) :
    wpAny (model prog w) A (getAttr (.ref x) name expr) Q E s := by
  obtain ⟨od, J, hl⟩ := I.look
  exact PySem.W.get_value X J (PySem.W.plainGet_of hg).1 (PySem.W.findObj_own hh ha rfl (by rw [hl, hv])) hv' h

theorem get_meth {pl : Sem Bool} {Q : Value × List Value → Shared → Prop} (X : K.In s.heap) (I : ObjM s.heap x dx C mA) (hg : PySem.W.plainGet K C name = true)
    (hf : PySem.W.findIn K (.ref C) name = some (some (.ref f))) (ht : PySem.W.isFn K (.ref f) = true) (hv : mA name = none) (h : Q (.ref f, [.ref x]) s) :
    wpAny (model prog w) A (getMethod (.ref x) name pl) Q E s := by
  obtain ⟨od, J, hl⟩ := I.look
  exact PySem.W.method_fn X J (PySem.W.plainGet_of hg).1 (PySem.W.plainGet_of hg).2 hf (beq_iff_eq.mp ht) (by show (PySem.W.lookIn name od).map (·.isSome) = some false; rw [hl, hv]; rfl) h

theorem set_map {ns : List Str} {Q : Unit → Shared → Prop} (X : K.In s.heap) (I : ObjM s.heap x dx C mA)
    (hs : PySem.W.findIn K (.ref C) "__setattr__" = some (some (.builtin "object.__setattr__"))) (hp : PySem.W.plainOver K C = true) (ht : PySem.W.takerIn K C name = some none) (hh : PySem.W.hasDictIn K C = true)
    (hw : PySem.Within mA ns) (hsz : ns.length ≤ sizeLine)
    (h : ∀ h', ObjM h' x dx C (fun y => if y = name then some v else mA y) → Heap.SameBut dx s.heap h' → Q () { s with heap := h', toks := s.toks + 2 }) :
    wpAny (model prog w) A (setAttr (.ref x) name v) Q E s := by
  obtain ⟨od, J, hl⟩ := I.look
  refine PySem.W.set_plain X J hs (PySem.W.osa_open (s := { s with toks := s.toks + 1 }) (r := none) X J hp ht fun b => ?_)
  obtain ⟨cd, hc, hd'⟩ := PySem.W.any_some hh
  have hx : s.heap.get? x = some ⟨.ref C, some dx, .plain, #[]⟩ := I.obj
  refine wpAny_bind (wpAny_pure (wpAny_bind (wpAny_bind (wpAny_loadPart hx (wpAny_bind (PySem.W.Looks.here (s := { s with toks := s.toks + 1 }) (PySem.W.looks_clsIn X hc) ?_))))))
  rw [hd']
  refine wpAny_pure (a := some dx) (wpAny_bind (wpAny_pure (wpAny_bind ?_)))
  refine wpAny_nsSet1 (s := { s with toks := s.toks + 1 }) I.ns fun h' hn2 hs2 => ?_
  obtain ⟨oD, esD, epD, hoD, hdD, hcD⟩ := hn2.count (PySem.Within.cons name v hw)
  refine wpAny_bind (wpAny_lookBehind hoD (by rw [hdD]; exact pastItsLine_dict (Nat.le_trans hcD (by rw [List.length_cons]; omega))) ?_)
  exact wpAny_pure (h _ ⟨(hs2.2 _ (Ne.symm I.ne)).trans I.obj, hn2, I.ne⟩ hs2)

/-- C(..): the dict at the heap's end, the instance behind it; then its __init__ -/
theorem make_map {R : Result → Shared → Prop} {vs : List Value} {kw : List (Str × Value)} (X : K.In s.heap) (hm : PySem.W.makesIn K C = true)
    (hi : PySem.W.findIn K (.ref C) "__init__" = some (some (.ref f))) (hf : PySem.W.typeIn K (.ref f) = some (.type "function"))
    (h : codeAny (model prog w) (A.under (.builtin "type.__call__" ⟨.ref C :: vs, kw⟩)) (.call (.ref f) ⟨.ref (s.heap.objs.size + 1) :: vs, kw⟩) (PySem.W.InitBack (s.heap.objs.size + 1) R)
      { s with heap := (s.heap.push PySem.W.emptyDict).push (PySem.W.instObj C s.heap.objs.size) }) :
    codeAny (model prog w) A (.call (.ref C) ⟨vs, kw⟩) R s := by
  obtain ⟨hh, g, d, t, os⟩ := s
  exact PySem.W.make_core (PySem.W.makes_of X hm) (PySem.W.looks_findIn X hi) (fun self => PySem.W.bind_fn X self hf) (.inl rfl) h
end

/-! ### the attributes as a list of pairs -/
def putF (f : Str) (v : V) : List (Str × V) → List (Str × V)
  | [] => [(f, v)]
  | (g, x) :: r => if g = f then (g, v) :: r else (g, x) :: putF f v r
theorem lookup_putF (f g : Str) (v : V) : ∀ fs : List (Str × V), (putF f v fs).lookup g = if g = f then some v else fs.lookup g
  | [] => by
    show List.lookup g [(f, v)] = _
    by_cases h : g = f
    · have hb : (g == f) = true := beq_iff_eq.mpr h
      simp only [List.lookup, hb, if_pos h]
    · have hb : (g == f) = false := beq_eq_false_iff_ne.mpr h
      simp only [List.lookup, hb, if_neg h]
  | (k, x) :: r => by
    have ih := lookup_putF f g v r
    rw [show putF f v ((k, x) :: r) = (if k = f then (k, v) :: r else (k, x) :: putF f v r) from rfl]
    by_cases hk : k = f
    · rw [if_pos hk]
      by_cases h : g = k
      · have hb : (g == k) = true := beq_iff_eq.mpr h
        simp only [List.lookup, hb, if_pos (h.trans hk)]
      · have hb : (g == k) = false := beq_eq_false_iff_ne.mpr h
        simp only [List.lookup, hb, if_neg (fun e : g = f => h (e.trans hk.symm))]
    · rw [if_neg hk]
      by_cases h : g = k
      · have hb : (g == k) = true := beq_iff_eq.mpr h
        simp only [List.lookup, hb, if_neg (fun e : g = f => hk (h.symm.trans e))]
      · have hb : (g == k) = false := beq_eq_false_iff_ne.mpr h
        simp only [List.lookup, hb]
        exact ih
theorem keys_putF (f : Str) (v : V) : ∀ fs : List (Str × V), f ∈ (putF f v fs).map (·.1) ∧ ∀ g, g ∈ fs.map (·.1) → g ∈ (putF f v fs).map (·.1)
  | [] => ⟨by simp [putF], fun g h => by simp at h⟩
  | (k, x) :: r => by
    obtain ⟨i1, i2⟩ := keys_putF f v r
    rw [show putF f v ((k, x) :: r) = (if k = f then (k, v) :: r else (k, x) :: putF f v r) from rfl]
    by_cases hk : k = f
    · rw [if_pos hk]
      subst hk
      exact ⟨by simp, fun g h => by simpa using h⟩
    · rw [if_neg hk]
      refine ⟨?_, fun g h => ?_⟩
      · rw [List.map_cons]
        exact List.mem_cons_of_mem _ i1
      · rw [List.map_cons] at h ⊢
        rcases List.mem_cons.mp h with e | e
        · exact List.mem_cons.mpr (.inl e)
        · exact List.mem_cons_of_mem _ (i2 g e)
theorem length_putF (f : Str) (v : V) : ∀ fs : List (Str × V), (putF f v fs).length ≤ fs.length + 1
  | [] => by simp [putF]
  | (k, x) :: r => by
    have ih := length_putF f v r
    rw [show putF f v ((k, x) :: r) = (if k = f then (k, v) :: r else (k, x) :: putF f v r) from rfl]
    by_cases hk : k = f
    · rw [if_pos hk, List.length_cons, List.length_cons]; omega
    · rw [if_neg hk, List.length_cons, List.length_cons]; omega

theorem RelO.some_of {v : V} {o : Option Value} (r : RelO (some v) o) : ∃ u, o = some u ∧ RelV v u := by
  cases o with
  | none => exact (show False from r).elim
  | some u => exact ⟨u, rfl, r⟩
theorem RelO.none_of {o : Option Value} (r : RelO none o) : o = none := by
  cases o with
  | none => rfl
  | some u => exact (show False from r).elim
theorem handed_of {v : V} {u : Value} (r : RelV v u) : PySem.W.handedIn u = true := by
  cases v with
  | non => cases (show u = Value.none from r); rfl
  | bl b => cases (show u = Value.bool b from r); rfl
  | int i => obtain ⟨t, e⟩ := (show ∃ t, u = Value.int i t from r); cases e; rfl
  | str x => obtain ⟨t, e⟩ := (show ∃ t, u = Value.str x t from r); cases e; rfl
  | byt b => obtain ⟨t, e⟩ := (show ∃ t, u = Value.bytes b t from r); cases e; rfl
  | flt b => obtain ⟨t, e⟩ := (show ∃ t, u = Value.float b t from r); cases e; rfl
  | ref a => cases (show u = Value.ref a from r); rfl
  | ty n => cases (show u = Value.type n from r); rfl

section
variable {P : Program} {w : World} {H H' : Hp} {h h' : Heap} {a C dx : Addr} {fs fs' : List (Str × V)}
theorem ins_get (hok : HOk P w H h) (e : H a = some (.ins C dx fs)) : ∃ mA, ObjM h a dx C mA ∧ (∀ f, RelO (fs.lookup f) (mA f)) ∧ PySem.Within mA (fs.map (·.1)) ∧ fs.length ≤ 1000 ∧ H dx = some (.own a) := by
  obtain ⟨d, z, ne, ob, mA, n, r, q⟩ := (show ObjOk P w H h a (.ins C dx fs) from hok a _ e)
  exact ⟨mA, ⟨ob, n, ne⟩, r, q, z, d⟩
end

/-! ### what of the text a class must have -/
structure Cls (K : PySem.W.Frag) (C : Addr) : Prop where
  pg : PySem.W.plainGet K C Str.empty = true
  hd : PySem.W.hasDictIn K C = true
  po : PySem.W.plainOver K C = true
  sa : PySem.W.findIn K (.ref C) "__setattr__" = some (some (.builtin "object.__setattr__"))
theorem Cls.get {K : PySem.W.Frag} {C : Addr} (c : Cls K C) (f : Str) : PySem.W.plainGet K C f = true := c.pg
/-- no class of it has the name -/
def NoAttr (K : PySem.W.Frag) (C : Addr) (f : Str) : Prop := PySem.W.findIn K (.ref C) f = some none
theorem NoAttr.taker {K : PySem.W.Frag} {C : Addr} {f : Str} (n : NoAttr K C f) : PySem.W.takerIn K C f = some none := by
  unfold PySem.W.takerIn
  rw [show PySem.W.findIn K (.ref C) f = some none from n]
  rfl
/-- a constant of the class -/
structure Con (K : PySem.W.Frag) (C : Addr) (f : Str) (v : V) (u : Value) : Prop where
  at_ : PySem.W.findIn K (.ref C) f = some (some u)
  rel : RelV v u
  get : PySem.W.specialIn K u "__get__" = some none
  cp : PySem.W.copiedNames.contains f = false
/-- a method: a plain def of the class or of one above it -/
structure Meth (K : PySem.W.Frag) (C : Addr) (m : Str) (f : Addr) : Prop where
  at_ : PySem.W.findIn K (.ref C) m = some (some (.ref f))
  fn : PySem.W.isFn K (.ref f) = true
  kp : PySem.W.keepIn K (.ref f) = true

section
variable {X : Cx} {pins : List (Addr × Obj)} {σ : St} {H : Hp} {s : Shared} {a C dx : Addr} {fs : List (Str × V)} {f : Str} {v : V} {A : Around} {E : Value → Shared → Prop}

theorem getattr_ok {b : Bool} {Q : Value → Shared → Prop} (I : Inv X pins σ H s) (e : H a = some (.ins C dx fs)) (c : Cls X.K C) (n : NoAttr X.K C f) (l : fs.lookup f = some v)
    (h : ∀ u s', Inv X pins σ H s' → RelV v u → Q u s') : wpAny (model X.prog X.w) A (getAttr (.ref a) f b) Q E s := by
  obtain ⟨mA, O, r, _, _, _⟩ := ins_get I.hok e
  obtain ⟨u, hu, ru⟩ := RelO.some_of (v := v) (o := mA f) (by rw [← l]; exact r f)
  exact get_map I.kIn O (c.get f) c.hd n hu (handed_of ru) (h u _ (I.tok _) ru)

theorem getmeth_ok {m : Str} {g : Addr} {pl : Sem Bool} {Q : Value × List Value → Shared → Prop} (I : Inv X pins σ H s) (e : H a = some (.ins C dx fs)) (c : Cls X.K C) (k : Meth X.K C m g) (l : fs.lookup m = none)
    (h : Q (.ref g, [.ref a]) s) : wpAny (model X.prog X.w) A (getMethod (.ref a) m pl) Q E s := by
  obtain ⟨mA, O, r, _, _, _⟩ := ins_get I.hok e
  have hn : mA m = none := RelO.none_of (by rw [← l]; exact r m)
  exact get_meth I.kIn O (c.get m) k.at_ k.fn hn h

theorem setattr_ok {y : V} {u : Value} {Q : Unit → Shared → Prop} (I : Inv X pins σ H s) (e : H a = some (.ins C dx fs)) (c : Cls X.K C) (n : NoAttr X.K C f) (hl : fs.length < 1000) (ry : RelV y u)
    (h : ∀ s', Inv X pins σ (upd H a (.ins C dx (putF f y fs))) s' → Q () s') : wpAny (model X.prog X.w) A (setAttr (.ref a) f u) Q E s := by
  obtain ⟨mA, O, r, wi, _, ho⟩ := ins_get I.hok e
  have hz : (fs.map (·.1)).length ≤ sizeLine := by rw [List.length_map, sizeLine_eq]; omega
  refine set_map I.kIn O c.sa c.po n.taker c.hd wi hz fun h' O' sb => h _ ?_
  have hd : ∃ o, h'.get? dx = some o := let ⟨o, _, _, e', _⟩ := O'.ns; ⟨o, e'⟩
  refine I.write (x := a) (e := dx) (by rw [e]; exact True.intro) (.inr ho) (fun b q hb z => (sb.2 b hb).trans z) hd ?_
  refine ⟨by rw [upd_ne O.ne]; exact ho, ?_, O.ne, O'.obj, _, O'.ns, fun g => ?_, fun g hg => ?_⟩
  · have := length_putF f y fs; omega
  · show RelO ((putF f y fs).lookup g) (if g = f then some u else mA g)
    rw [lookup_putF]
    by_cases q : g = f
    · rw [if_pos q, if_pos q]; exact ry
    · rw [if_neg q, if_neg q]; exact r g
  · by_cases q : g = f
    · rw [q]; exact (keys_putF f y fs).1
    · refine (keys_putF f y fs).2 g (wi g fun z => hg ?_)
      show (if g = f then some u else mA g) = none
      rw [if_neg q]; exact z

/-- a new instance, tracked, without attributes -/
theorem Inv.made (I : Inv X pins σ H s) : Inv X pins σ (upd (upd H s.heap.objs.size (.own (s.heap.objs.size + 1))) (s.heap.objs.size + 1) (.ins C s.heap.objs.size []))
    { s with heap := (s.heap.push PySem.W.emptyDict).push (PySem.W.instObj C s.heap.objs.size) } := by
  have e1 : (s.heap.push PySem.W.emptyDict).get? s.heap.objs.size = some PySem.W.emptyDict := Heap.get?_push_size s.heap rfl
  have e2 : ((s.heap.push PySem.W.emptyDict).push (PySem.W.instObj C s.heap.objs.size)).get? (s.heap.objs.size + 1) = some (PySem.W.instObj C s.heap.objs.size) := by
    have := Heap.get?_push_size (s.heap.push PySem.W.emptyDict) (o := PySem.W.instObj C s.heap.objs.size) rfl
    rwa [Heap.size_push] at this
  have e3 : (s.heap.push PySem.W.emptyDict).Ns s.heap.objs.size (fun _ => none) := ⟨PySem.W.emptyDict, #[], _, e1, rfl, (fun e he => absurd he (by simp)), fun _ => rfl⟩
  have I1 := I.laid (a := s.heap.objs.size) (o := .own (s.heap.objs.size + 1)) (h' := s.heap.push PySem.W.emptyDict) (t' := s.toks) (fun b u q => Heap.get?_push_of_some _ q) (Nat.le_refl _) ⟨_, e1⟩
  refine I1.laid (a := s.heap.objs.size + 1) (o := .ins C s.heap.objs.size []) (t' := s.toks) (fun b u q => Heap.get?_push_of_some _ q) (Nat.le_of_eq (Heap.size_push _ _)) ?_
  have ne : s.heap.objs.size ≠ s.heap.objs.size + 1 := Nat.ne_of_lt (Nat.lt_succ_self _)
  refine ⟨by rw [upd_ne ne, upd_same], Nat.zero_le _, ne, e2, fun _ => none, (Heap.Ns1.of_empty e3).at fun o q => Heap.get?_push_of_some _ q, fun _ => True.intro, fun y hy => absurd rfl hy⟩

/-- e.f where nothing but the object is asked: through attributeBase (super) and the last hold -/
theorem attr_of {prog : Program} {w : World} {env : Env} {e : Expr} {f : Str} {pos : Pos} {s : Shared} {Q : Value → Shared → Prop} (hb : attributeBase e f env (eval e env) = eval e env)
    (h : wpAny (model prog w) A (eval e env) (fun o s₁ => wpAny (model prog w) A (getAttr o f true) Q E s₁) E s) : wpAny (model prog w) A (eval (.Attribute e f pos) env) Q E s :=
  Attribute_any_ h (by rw [arm_eval_Attribute, hb])
end

/-! ### readings and rules -/
/-- e.f, an attribute of the instance -/
def tFld (K : PySem.W.Frag) (ta : TE) (f : Str) : TE := fun σ H Q => ta σ H fun x H1 => ∃ a C dx fs v, x = .ref a ∧ H1 a = some (.ins C dx fs) ∧ Cls K C ∧ NoAttr K C f ∧ fs.lookup f = some v ∧ Q v H1
/-- e.f = value -/
def sFld (K : PySem.W.Frag) (ta tv : TE) (f : Str) : TS := fun D σ H => tv σ H fun y H1 => ta σ H1 fun x H2 => ∃ a C dx fs, x = .ref a ∧ H2 a = some (.ins C dx fs) ∧ Cls K C ∧ NoAttr K C f ∧ fs.length < 1000 ∧
  D.nx σ (upd H2 a (.ins C dx (putF f y fs)))
section
variable {X : Cx} {o e value : Expr} {f : Str} {pos pos' tpos : Pos} {ta tv : TE}
theorem pe_fld (he : PE X e ta) (hb : attributeBase e f X.env (eval e X.env) = eval e X.env) : PE X (.Attribute e f pos) (tFld X.K ta f) := by
  intro pins s σ H Q I h
  refine attr_of hb (thn (he pins s σ H _ I h) fun u s1 ⟨x, H1, I1, rx, a, C, dx, fs, v, ex, ea, c, n, l, q⟩ => ?_)
  subst ex
  obtain rfl : u = Value.ref a := rx
  exact getattr_ok I1 ea c n l fun u' s2 I2 ru => ⟨v, H1, I2, ru, q⟩
theorem ps_fld (ha : PE X o ta) (hv : PE X value tv) (hs : swapsWith value (some (.Attribute o f pos')) pos.line X.env = pure false) : PS X (.Assign [.Attribute o f pos'] value pos) (sFld X.K ta tv f) := by
  intro pins s σ H D I h
  refine plainObj_wpAny_Assign_Attribute (thn (hv pins s σ H _ I h) fun u s1 ⟨y, H1, I1, ry, q⟩ => thn (ha pins s1 σ H1 _ I1 q) fun ov s2 ⟨x, H2, I2, rx, a, C, dx, fs, ex, ea, c, n, l, q2⟩ => ?_) hs
  subst ex
  obtain rfl : ov = Value.ref a := rx
  exact setattr_ok I2 ea c n l ry fun s3 I3 => ⟨σ, _, I3, q2⟩
end

/-! ### isinstance -/
section
variable {X : Cx} {pins : List (Addr × Obj)} {σ : St} {H : Hp} {s : Shared} {A : Around} {E : Value → Shared → Prop} {Q : Value → Shared → Prop} {c : Value} {b : Bool}
/-- the type of a value, as the fragment's deciders take it; for an instance its class -/
inductive TyOf (K : PySem.W.Frag) (H : Hp) : V → Value → Prop where
  | non : TyOf K H .non (.type "NoneType")
  | bl (x : Bool) : TyOf K H (.bl x) (.type "bool")
  | int (i : Int) : TyOf K H (.int i) (.type "int")
  | str (x : Str) : TyOf K H (.str x) (.type "str")
  | flt (x : UInt64) : TyOf K H (.flt x) (.type "float")
  | lst {a : Addr} {xs : List V} (e : H a = some (.lst xs)) : TyOf K H (.ref a) (.type "list")
  | frz {a : Addr} {o : Obj} {xs : List V} (e : H a = some (.frz o (.lst xs))) : TyOf K H (.ref a) (.type "list")
  | tup {a : Addr} {xs : List V} (e : H a = some (.tup xs)) : TyOf K H (.ref a) (.type "tuple")
  | dK {a : Addr} {kvs : List (Key × V)} (e : H a = some (.dK kvs)) : TyOf K H (.ref a) (.type "dict")
  | dT {a : Addr} {kvs : List (List Key × V)} (e : H a = some (.dT kvs)) : TyOf K H (.ref a) (.type "dict")
  | ins {a C dx : Addr} {fs : List (Str × V)} (e : H a = some (.ins C dx fs)) (cl : Cls K C) (ha : PySem.W.findIn K (.ref C) "__class__" = some (some (.builtin "object.__class__")))
      (hn : PySem.W.specialIn K (.builtin "object.__class__") "__get__" = some (some (.builtin "getset_descriptor.__get__"))) (htk : PySem.W.takesIn K (.builtin "object.__class__") = some true)
      (hm : PySem.W.mroIn K C (.type "object") = some true) : TyOf K H (.ref a) (.ref C)
end
end L2

namespace L2
open PySem PySem.Spec PyProof.Rows

/-! ### room -/
structure Room (k : Nat) (A : Around) : Prop where
  hd : A.handled = none
  dp : A.depth + 3 * k + 5 < recursionLimit
  un : A.units + 16 * k + 200 < cLine
theorem Room.mono {j k : Nat} {A : Around} (r : Room k A) (h : j ≤ k) : Room j A := ⟨r.hd, by have := r.dp; omega, by have := r.un; omega⟩
theorem Room.deeper {k : Nat} {A : Around} (r : Room (k + 1) A) (env : Env) : Room k (A.deeper env) :=
  ⟨r.hd, by have := r.dp; show A.depth + 1 + 3 * k + 5 < _; omega, by have := r.un; show A.units + 3 + 16 * k + 200 < _; omega⟩
theorem make_depth {A : Around} {C : Addr} {us : List Value} {kw : List (Str × Value)} : (A.under (.builtin "type.__call__" ⟨.ref C :: us, kw⟩)).depth = A.depth + 1 := by
  first | rfl | simp [Around.under, Code.weight, Code.isCreation, Code.isGuard, Code.isCaller, Code.frames, Code.isFrame, guardIds]
theorem make_units {A : Around} {C : Addr} {us : List Value} {kw : List (Str × Value)} : (A.under (.builtin "type.__call__" ⟨.ref C :: us, kw⟩)).units = A.units + 1 := by
  first | rfl | simp [Around.under, Code.cUnits, Code.frames, Code.isFrame]
theorem Room.make {k : Nat} {A : Around} (r : Room (k + 1) A) (C : Addr) (us : List Value) (kw : List (Str × Value)) : Room k (A.under (.builtin "type.__call__" ⟨.ref C :: us, kw⟩)) :=
  ⟨r.hd, by have := r.dp; rw [make_depth]; omega, by have := r.un; rw [make_units]; omega⟩
theorem Room.depth {k : Nat} {A : Around} (r : Room k A) : A.depth < recursionLimit := by have := r.dp; omega
/-! ### argument lists and displays -/
def tNil : TA := fun _ H Q => Q [] H
def tCons (ta : TE) (tr : TA) : TA := fun σ H Q => ta σ H fun x H1 => tr σ H1 fun xs H2 => Q (x :: xs) H2
section
variable {X : Cx} {e : Expr} {es : List Expr} {te : TE} {t : TA} {pos : Pos}
theorem pa_nil : PA X [] tNil := fun _ _ _ _ H Q I h => Calls.spliced_nil ⟨[], H, I, .nil, h⟩
theorem pa_cons (ha : PE X e te) (hr : PA X es t) (hs : starEach (e :: es) X.env = (false, eval e X.env) :: starEach es X.env := by rfl) : PA X (e :: es) (tCons te t) := by
  intro pos pins s σ H Q I h
  rw [hs]
  show wpAny _ _ (spliced ((false, eval e X.env) :: backTo pos (starEach es X.env))) _ _ s
  refine Calls.spliced_cons (thn (ha pins s σ H _ I h) fun u s1 ⟨x, H1, I1, r1, q1⟩ => ?_)
  exact thn (hr pos pins s1 σ H1 _ I1 q1) fun us s2 ⟨xs, H2, I2, r2, q2⟩ => ⟨x :: xs, H2, I2, .cons r1 r2, q2⟩

/-- a tuple, a list of written items -/
def tTup (t : TA) : TE := fun σ H Q => t σ H fun xs H1 => xs.length ≤ sizeLine ∧ ∀ p, H1 p = none → Q (.ref p) (upd H1 p (.tup xs))
def tLst (t : TA) : TE := fun σ H Q => t σ H fun xs H1 => xs.length ≤ sizeLine ∧ ∀ p, H1 p = none → Q (.ref p) (upd H1 p (.lst xs))
theorem pe_tup {x1} (h : PA X es t) : PE X (.Tuple es x1 pos) (tTup t) := by
  intro pins s σ H Q I hq
  refine wpAny_Tuple_spliced (thn (h pos pins s σ H _ I hq) fun us s1 ⟨xs, H1, I1, r, z, q⟩ => ⟨by rw [← r.length]; exact z, ?_⟩)
  have hf : H1 s1.heap.objs.size = none := I1.hok.fresh (Nat.le_refl _)
  refine ⟨.ref s1.heap.objs.size, upd H1 s1.heap.objs.size (.tup xs), I1.laid (t' := s1.toks) (fun b u e => Heap.get?_push_of_some _ e) (Nat.le_refl _) ?_, rfl, q _ hf⟩
  exact ⟨z, us, r, ⟨_, Heap.get?_push_size _ rfl, rfl, _, rfl⟩⟩
theorem pe_lst (h : PA X es t) : PE X (.List es pos) (tLst t) := by
  intro pins s σ H Q I hq
  refine wpAny_List_spliced (thn (h pos pins s σ H _ I hq) fun us s1 ⟨xs, H1, I1, r, z, q⟩ => ⟨by rw [← r.length]; exact z, ?_⟩)
  have hf : H1 s1.heap.objs.size = none := I1.hok.fresh (Nat.le_refl _)
  refine ⟨.ref s1.heap.objs.size, upd H1 s1.heap.objs.size (.lst xs), I1.laid (t' := s1.toks) (fun b u e => Heap.get?_push_of_some _ e) (Nat.le_refl _) ?_, rfl, q _ hf⟩
  exact ⟨z, us, 0, r, Heap.get?_push_size _ rfl⟩
end

/-! ### what a def promises -/
/-- a def's promise: the bound arguments in the parameters' order, the heap, the wanted end, the wanted exception -/
abbrev Sp := List V → Hp → VK → XK → Prop
/-- how an exception lies behind a call (file 08 gives it): the callers' frames, abstract heap and state ahead of the call, the wish, the exception, the state -/
abbrev CXT := List Env → Hp → Shared → XK → Value → Shared → Prop

/-- the state at a call -/
structure Env0 (P : Program) (w : World) (K : PySem.W.Frag) (mg : Str → Option Value) (base : Heap) (A : Around) (outer : List Env) (s : Shared) (H : Hp) : Prop where
  frames : A.frames = some outer
  mod : Mod K mg base
  bs : ∀ b o, base.get? b = some o → s.heap.get? b = some o ∧ H b = none
  bsz : base.objs.size ≤ s.heap.objs.size
  funs : s.heap.FunFrames base outer
  frf : ∀ b ∈ frs outer, H b = none
  hok : HOk P w H s.heap
  bare : AllBare s.gens
/-- a call's end -/
def CE (outer : List Env) (P : Program) (w : World) (H : Hp) (s : Shared) (Q : VK) (u : Value) (s' : Shared) : Prop :=
  ∃ v H', s'.os = s.os ∧ AllBare s'.gens ∧ Un (frs outer) [] H H' s.heap s'.heap ∧ HOk P w H' s'.heap ∧ RelV v u ∧ Q v H'
def CR (CX : CXT) (outer : List Env) (P : Program) (w : World) (H : Hp) (s : Shared) (Q : VK) (E : XK) (r : Result) (s' : Shared) : Prop :=
  match r with
  | .ok (.ret u) => CE outer P w H s Q u s'
  | .ok _ => False
  | .error e => CX outer H s E e s'
structure FnOk (P : Program) (w : World) (K : PySem.W.Frag) (mg : Str → Option Value) (base : Heap) (CX : CXT) (k : Nat) (f : Addr) (fd : FuncData) (ps : List Str) (sp : Sp) : Prop where
  len : ∀ vs H Q E, sp vs H Q E → vs.length = ps.length
  run : ∀ (A : Around) (outer : List Env) (s : Shared) (H : Hp) (args : Args) (us : List Value) (vs : List V) (Q : VK) (E : XK), Room k A → Env0 P w K mg base A outer s H → BindsTo s fd args (ps.zip us) → Vals vs us → sp vs H Q E →
    codeAny (model P w) A (.call (.ref f) args) (CR CX outer P w H s Q E) s
theorem FnOk.mono {P : Program} {w : World} {K : PySem.W.Frag} {mg : Str → Option Value} {base : Heap} {CX : CXT} {j k : Nat} {f : Addr} {fd : FuncData} {ps : List Str} {sp : Sp} (F : FnOk P w K mg base CX j f fd ps sp) (h : j ≤ k) :
    FnOk P w K mg base CX k f fd ps sp := ⟨F.len, fun A outer s H args us vs Q E hr => F.run A outer s H args us vs Q E (hr.mono h)⟩
theorem Env0.make {P : Program} {w : World} {K : PySem.W.Frag} {mg : Str → Option Value} {base : Heap} {A : Around} {outer : List Env} {s : Shared} {H : Hp} (e : Env0 P w K mg base A outer s H) (C : Addr) (us : List Value) (kw : List (Str × Value)) :
    Env0 P w K mg base (A.under (.builtin "type.__call__" ⟨.ref C :: us, kw⟩)) outer s H := ⟨by first | exact e.frames | (simpa [Around.under, Code.envs, Code.isFrame, pushEnvs] using e.frames), e.mod, e.bs, e.bsz, e.funs, e.frf, e.hok, e.bare⟩
section
variable {X : Cx} {pins : List (Addr × Obj)} {σ : St} {H : Hp} {s s' : Shared}
/-- from a body: what a callee wants -/
theorem Inv.env0 (I : Inv X pins σ H s) : Env0 X.prog X.w X.K X.mg X.base X.A X.stack s H :=
  ⟨I.ok.frames, I.ok.mod, I.bs, Nat.le_trans I.ok.bsz I.sz, I.stack, I.stkFree, I.hok, I.bare⟩
/-- behind a call -/
theorem Inv.after {Q : VK} {u : Value} (I : Inv X pins σ H s) (h : CE X.stack X.prog X.w H s Q u s') : EP X pins σ Q u s' := by
  obtain ⟨v, H', os, bare, un, hok, r, q⟩ := h
  obtain ⟨hh, g, d, t, os'⟩ := s'
  obtain rfl : os' = s.os := os
  exact ⟨v, H', I.call (h' := hh) (g' := g) (d' := d) (t' := t) (ch := []) un hok bare (fun b z => absurd z (by simp)), r, q⟩
end

/-! ### calls -/
/-- f(..): the written arguments, then the defaults dvs; E: what is wanted of an exception -/
def tCall (sp : Sp) (dvs : List V) (E : XK) (t : TA) : TE := fun σ H Q => t σ H fun vs H1 => sp (vs ++ dvs) H1 Q E
/-- o.m(..) of an instance of the class at C -/
def tMeth (C : Addr) (m : Str) (sp : Sp) (dvs : List V) (E : XK) (ta : TE) (t : TA) : TE := fun σ H Q => ta σ H fun x H1 => ∃ a dx fs, x = .ref a ∧ H1 a = some (.ins C dx fs) ∧ fs.lookup m = none ∧
  t σ H1 fun vs H2 => sp (x :: (vs ++ dvs)) H2 Q E
/-- C(..): a new instance and its dict, then __init__ -/
def tMake (C : Addr) (sp : Sp) (dvs : List V) (E : XK) (t : TA) : TE := fun σ H Q => t σ H fun vs H1 => ∀ x dx, H1 x = none → H1 dx = none → dx ≠ x →
  sp (.ref x :: (vs ++ dvs)) (upd (upd H1 dx (.own x)) x (.ins C dx [])) (fun v H2 => v = .non ∧ Q (.ref x) H2) E

/-- how the parameters are bound: us the positional arguments, kw the keywords' values by name, ds the defaults that fill up -/
def Binds (K : PySem.W.Frag) (fd : FuncData) (ps : List Str) (ds : List Value) : Prop :=
  ∀ (s : Shared) (us : List Value), K.In s.heap → (us ++ ds).length = ps.length → BindsTo s fd ⟨us, []⟩ (ps.zip (us ++ ds))
/-- every parameter is given -/
theorem Binds.all {K : PySem.W.Frag} {fd : FuncData} {ps : List Str} (h : ∀ us : List Value, us.length = ps.length → bindArgs fd ⟨us, []⟩ = pure (ps.zip us)) : Binds K fd ps [] := fun s us _ hl => by
  rw [List.append_nil] at hl ⊢
  exact .of_eq (h us hl)

/-- an exception of a callee reaches what this body wants of exceptions -/
def Passes (CX : CXT) (X : Cx) (E : XK) : Prop := ∀ (pins : List (Addr × Obj)) (σ : St) (H : Hp) (s : Shared) (e : Value) (s' : Shared), Inv X pins σ H s → CX X.stack H s E e s' → X.xe e s'

section
variable {X : Cx} {CX : CXT} {k : Nat} {f C : Addr} {fd : FuncData} {ps : List Str} {sp : Sp} {dvs : List V} {ds : List Value} {E : XK} {x m : Str} {p pos apos : Pos} {e o : Expr} {es : List Expr} {ta : TE} {t : TA}

/-- the callee runs -/
theorem run_fn {pins : List (Addr × Obj)} {σ : St} {H : Hp} {s : Shared} {Q : VK} {us : List Value} {vs : List V} (F : FnOk X.prog X.w X.K X.mg X.base CX k f fd ps sp) (hr : Room k X.A) (hb : Binds X.K fd ps ds) (hd : Vals dvs ds) (hx : Passes CX X E)
    (I : Inv X pins σ H s) (r : Vals vs us) (h : sp (vs ++ dvs) H Q E) : wpAny (model X.prog X.w) X.A (call (.ref f) us) (EP X pins σ Q) X.xe s := by
  have r2 : Vals (vs ++ dvs) (us ++ ds) := r.append hd
  have hl : (us ++ ds).length = ps.length := by rw [← r2.length]; exact F.len _ _ _ _ h
  refine wpAny_call (codeAny_mono (F.run X.A X.stack s H ⟨us, []⟩ (us ++ ds) (vs ++ dvs) Q E hr I.env0 (hb s us I.kIn hl) r2 h) fun r s' hq => ?_)
  cases r with
  | error e => exact hx pins σ H s e s' I hq
  | ok fl =>
    cases fl with
    | ret u => exact I.after hq
    | next => exact False.elim hq
    | brk => exact False.elim hq
    | cont => exact False.elim hq

theorem pe_call (F : FnOk X.prog X.w X.K X.mg X.base CX k f fd ps sp) (hr : Room k X.A) (hg : Gl X x) (hm : X.mg x = some (.ref f)) (hk : PySem.W.keepIn X.K (.ref f) = true) (hb : Binds X.K fd ps ds) (hd : Vals dvs ds) (hx : Passes CX X E)
    (ha : PA X (e :: es) t) (hdb : (x == ("__debug__" : Str)) = false := by decide) (he : starEach (e :: es) X.env = (false, eval e X.env) :: starEach es X.env := by rfl) (hpl : (backTo pos (starEach es X.env)).any (·.1) = false := by rfl) :
    PE X (.Call (.Name x p) (e :: es) [] pos) (tCall sp dvs E t) := by
  intro pins s σ H Q I h
  refine wpAny_Call_Name_kw (ld_glob I hg hm ?_ hdb)
  refine PySem.W.callWith_K (h₀ := X.base) I.ok.mod.kin hk (thn (ha pos pins s σ H _ I h) fun us s1 ⟨vs, H1, I1, r, q⟩ => ⟨I1.kIn, ?_⟩) he hpl
  exact run_fn F hr hb hd hx I1 r q
/-- o.m(e, ..) -/
theorem pe_meth {pl : Sem Bool} (he : PE X o ta) (c : Cls X.K C) (hm : Meth X.K C m f) (F : FnOk X.prog X.w X.K X.mg X.base CX k f fd ps sp) (hr : Room k X.A) (hb : Binds X.K fd ps ds) (hd : Vals dvs ds) (hx : Passes CX X E) (ha : PA X (e :: es) t)
    (hst : starEach (e :: es) X.env = (false, eval e X.env) :: starEach es X.env := by rfl) (hpl : (backTo pos (starEach es X.env)).any (·.1) = false := by rfl)
    (ht : eval (.Call (.Attribute o m apos) (e :: es) [] pos) X.env = (do
      let ov ← eval o X.env
      standAt apos.atName
      let (f, first) ← holding [ov] (getMethod ov m pl)
      callWith pos f first (backTo pos (starEach (e :: es) X.env)) (backToKw pos (keywordEach [] X.env))) := by rfl) :
    PE X (.Call (.Attribute o m apos) (e :: es) [] pos) (tMeth C m sp dvs E ta t) := by
  intro pins s σ H Q I h
  refine PySem.W.methodCall_KW (pl := pl) (thn (he pins s σ H _ I h) fun u s1 ⟨x, H1, I1, rx, a, dx, fs, ex, ea, l, q⟩ => ?_) ht
  subst ex
  obtain rfl : u = Value.ref a := rx
  refine getmeth_ok I1 ea c hm l ?_
  refine PySem.W.callWith_K (first := [.ref a]) (h₀ := X.base) I.ok.mod.kin hm.kp (thn (ha pos pins s1 σ H1 _ I1 q) fun us s2 ⟨vs, H2, I2, r, q2⟩ => ⟨I2.kIn, ?_⟩) hst hpl
  exact run_fn (us := .ref a :: us) (vs := .ref a :: vs) F hr hb hd hx I2 (.cons rfl r) q2
/-- o.m() -/
theorem pe_meth0 {pl : Sem Bool} (he : PE X o ta) (c : Cls X.K C) (hm : Meth X.K C m f) (F : FnOk X.prog X.w X.K X.mg X.base CX k f fd ps sp) (hr : Room k X.A) (hb : Binds X.K fd ps ds) (hd : Vals dvs ds) (hx : Passes CX X E)
    (ht : eval (.Call (.Attribute o m apos) [] [] pos) X.env = (do
      let ov ← eval o X.env
      standAt apos.atName
      let (f, first) ← holding [ov] (getMethod ov m pl)
      callWith pos f first (backTo pos (starEach [] X.env)) (backToKw pos (keywordEach [] X.env))) := by rfl) :
    PE X (.Call (.Attribute o m apos) [] [] pos) (tMeth C m sp dvs E ta tNil) := by
  intro pins s σ H Q I h
  refine PySem.W.methodCall_KW (pl := pl) (thn (he pins s σ H _ I h) fun u s1 ⟨x, H1, I1, rx, a, dx, fs, ex, ea, l, q⟩ => ?_) ht
  subst ex
  obtain rfl : u = Value.ref a := rx
  refine getmeth_ok I1 ea c hm l ?_
  exact PySem.W.callWith_K0 (first := [.ref a]) I1.kIn hm.kp (run_fn (us := [.ref a]) (vs := [.ref a]) F hr hb hd hx I1 (.cons rfl .nil) q)

/-- what a class must have to be made -/
structure Mk (K : PySem.W.Frag) (C f : Addr) : Prop where
  makes : PySem.W.makesIn K C = true
  init : PySem.W.findIn K (.ref C) "__init__" = some (some (.ref f))
  fn : PySem.W.isFn K (.ref f) = true
  kp : PySem.W.keepIn K (.ref C) = true

theorem run_make {pins : List (Addr × Obj)} {σ : St} {H : Hp} {s : Shared} {Q : VK} {us : List Value} {vs : List V} (M : Mk X.K C f) (F : FnOk X.prog X.w X.K X.mg X.base CX k f fd ps sp) (hr : Room (k + 1) X.A) (hb : Binds X.K fd ps ds) (hd : Vals dvs ds)
    (hx : Passes CX X E) (I : Inv X pins σ H s) (r : Vals vs us)
    (h : ∀ x dx, H x = none → H dx = none → dx ≠ x → sp (.ref x :: (vs ++ dvs)) (upd (upd H dx (.own x)) x (.ins C dx [])) (fun v H2 => v = .non ∧ Q (.ref x) H2) E) :
    wpAny (model X.prog X.w) X.A (call (.ref C) us) (EP X pins σ Q) X.xe s := by
  have hq := h (s.heap.objs.size + 1) s.heap.objs.size (I.hok.fresh (Nat.le_succ _)) (I.hok.fresh (Nat.le_refl _)) (Nat.ne_of_lt (Nat.lt_succ_self _))
  have I2 := Inv.made (C := C) I
  have r2 : Vals (V.ref (s.heap.objs.size + 1) :: (vs ++ dvs)) (Value.ref (s.heap.objs.size + 1) :: (us ++ ds)) := .cons rfl (r.append hd)
  have hl : (Value.ref (s.heap.objs.size + 1) :: us ++ ds).length = ps.length := by
    have e := r2.length
    rw [F.len _ _ _ _ hq] at e
    exact e.symm
  refine wpAny_call (make_map (f := f) I.kIn M.makes M.init (beq_iff_eq.mp M.fn) (codeAny_mono (F.run _ X.stack _ _ ⟨Value.ref (s.heap.objs.size + 1) :: us, []⟩ (Value.ref (s.heap.objs.size + 1) :: (us ++ ds)) _ _ E (hr.make C us [])
    (I2.env0.make C us []) (hb _ (Value.ref (s.heap.objs.size + 1) :: us) I2.kIn hl) r2 hq) fun r s' hq' => ?_))
  cases r with
  | error e => exact hx pins σ _ _ e s' I2 hq'
  | ok fl =>
    cases fl with
    | ret u =>
      obtain ⟨v, H', I3, rv, ev, q3⟩ := I2.after hq'
      subst ev
      exact ⟨rv, ⟨V.ref (s.heap.objs.size + 1), H', I3, rfl, q3⟩⟩
    | next => exact False.elim hq'
    | brk => exact False.elim hq'
    | cont => exact False.elim hq'
theorem pe_make0 (M : Mk X.K C f) (F : FnOk X.prog X.w X.K X.mg X.base CX k f fd ps sp) (hr : Room (k + 1) X.A) (hg : Gl X x) (hm : X.mg x = some (.ref C)) (hb : Binds X.K fd ps ds) (hd : Vals dvs ds) (hx : Passes CX X E)
    (hdb : (x == ("__debug__" : Str)) = false := by decide) : PE X (.Call (.Name x p) [] [] pos) (tMake C sp dvs E tNil) := by
  intro pins s σ H Q I h
  refine wpAny_Call_Name_kw (ld_glob I hg hm ?_ hdb)
  exact PySem.W.callWith_K0 I.kIn M.kp (run_make (us := []) M F hr hb hd hx I .nil h)
end

/-! ### keywords -/
/-- the values of the keywords, from the left -/
def PK (X : Cx) (kws : List Keyword) (t : TA) : Prop :=
  ∀ (pos : Pos) (pins : List (Addr × Obj)) (s : Shared) (σ : St) (H : Hp) (Q : List V → Hp → Prop), Inv X pins σ H s → t σ H Q → wpAny (model X.prog X.w) X.A (evalAll ((backToKw pos (keywordEach kws X.env)).map (·.2))) (AP X pins σ Q) X.xe s
section
variable {X : Cx} {CX : CXT} {k : Nat} {f C : Addr} {fd : FuncData} {ps ks : List Str} {sp : Sp} {E : XK} {x m : Str} {p pos apos kpos : Pos} {e o : Expr} {es : List Expr} {kws : List Keyword} {te ta : TE} {t tk : TA} {nm : Option Str}
theorem pk_nil : PK X [] tNil := fun _ _ _ _ H Q I h => wpAny_evalAll_nil ⟨[], H, I, .nil, h⟩
theorem pk_cons (ha : PE X e te) (hr : PK X kws t) : PK X (⟨nm, e, kpos⟩ :: kws) (tCons te t) := by
  intro pos pins s σ H Q I h
  show wpAny _ _ (evalAll ((do let v ← eval e X.env; standAt pos; pure v) :: (backToKw pos (keywordEach kws X.env)).map (·.2))) _ _ s
  refine wpAny_evalAll_cons (wpAny_bind (thn (ha pins s σ H _ I h) fun u s1 ⟨x, H1, I1, r1, q1⟩ => wpAny_bind (wpAny_standAt (wpAny_pure ?_))))
  exact thn (hr pos pins s1 σ H1 _ I1 q1) fun us s2 ⟨xs, H2, I2, r2, q2⟩ => ⟨x :: xs, H2, I2, .cons r1 r2, q2⟩

/-- how a call with keywords binds: g puts the positional values us and the keywords' values ws (names ks) in the parameters' order, defaults among them -/
structure KBinds (K : PySem.W.Frag) (fd : FuncData) (ps ks : List Str) (g : List Value → List Value → List Value) (gV : List V → List V → List V) : Prop where
  to : ∀ (s : Shared) (us ws : List Value), K.In s.heap → (g us ws).length = ps.length → BindsTo s fd ⟨us, ks.zip ws⟩ (ps.zip (g us ws))
  rel : ∀ {vs : List V} {us : List Value} {zs : List V} {ws : List Value}, Vals vs us → Vals zs ws → Vals (gV vs zs) (g us ws)
variable {g : List Value → List Value → List Value} {gV : List V → List V → List V}
end

/-! ### a def's body keeps its promise -/
/-- names: the parameters first -/
structure FnScope (N P : List Str) (sc : Scope) : Prop where
  kind : sc.kind = .function
  co : sc.isCoroutine = false
  gen : sc.isGenerator = false
  nd : N.Nodup
  pre : N.take P.length = P
  par : ∀ x ∈ P, sc.names.lookup x = some .local ∨ sc.names.lookup x = some .cell
  nofree : ∀ y ∈ sc.names, y.2 ≠ .free

theorem bindL_out {kindOf : Str → Option NameKind} {x : Str} : ∀ {binds : List (Str × Value)} {m : Str → Option Value}, (∀ v, (x, v) ∉ binds) → bindL kindOf binds m x = m x
  | [], _, _ => rfl
  | (n, v) :: r, m, h => by
    unfold bindL
    rw [bindL_out fun w hw => h w (List.mem_cons_of_mem _ hw)]
    split
    · have : x ≠ n := by rintro rfl; exact h v List.mem_cons_self
      simp [this]
    · rfl
theorem bindC_out {kindOf : Str → Option NameKind} {x : Str} : ∀ {binds : List (Str × Value)} {m : Str → Option Value}, (∀ v, (x, v) ∉ binds) → bindC kindOf binds m x = m x
  | [], _, _ => rfl
  | (n, v) :: r, m, h => by
    unfold bindC
    rw [bindC_out fun w hw => h w (List.mem_cons_of_mem _ hw)]
    split
    · rfl
    · have : x ≠ n := by rintro rfl; exact h v List.mem_cons_self
      simp [this]
theorem bindL_get {kindOf : Str → Option NameKind} {x : Str} {v : Value} : ∀ {P : List Str} {vs : List Value} {i : Nat} {m : Str → Option Value}, P.Nodup → P[i]? = some x → vs[i]? = some v → kindOf x = some .local →
    bindL kindOf (P.zip vs) m x = some v
  | [], _, _, _, _, h, _, _ => by simp at h
  | _ :: _, [], _, _, _, _, h, _ => by simp at h
  | p :: P, w :: vs, 0, m, nd, h1, h2, hk => by
    simp at h1 h2; subst h1; subst h2
    show bindL kindOf ((p, w) :: P.zip vs) m p = _
    unfold bindL
    rw [bindL_out fun v hv => (List.nodup_cons.mp nd).1 (List.of_mem_zip hv).1, if_pos hk]
    simp
  | p :: P, w :: vs, i + 1, m, nd, h1, h2, hk => by
    show bindL kindOf ((p, w) :: P.zip vs) m x = _
    unfold bindL
    exact bindL_get (i := i) (List.nodup_cons.mp nd).2 (by simpa using h1) (by simpa using h2) hk
theorem bindC_get {kindOf : Str → Option NameKind} {x : Str} {v : Value} : ∀ {P : List Str} {vs : List Value} {i : Nat} {m : Str → Option Value}, P.Nodup → P[i]? = some x → vs[i]? = some v → kindOf x ≠ some .local →
    bindC kindOf (P.zip vs) m x = some v
  | [], _, _, _, _, h, _, _ => by simp at h
  | _ :: _, [], _, _, _, _, h, _ => by simp at h
  | p :: P, w :: vs, 0, m, nd, h1, h2, hk => by
    simp at h1 h2; subst h1; subst h2
    show bindC kindOf ((p, w) :: P.zip vs) m p = _
    unfold bindC
    rw [bindC_out fun v hv => (List.nodup_cons.mp nd).1 (List.of_mem_zip hv).1, if_neg hk]
    simp
  | p :: P, w :: vs, i + 1, m, nd, h1, h2, hk => by
    show bindC kindOf ((p, w) :: P.zip vs) m x = _
    unfold bindC
    exact bindC_get (i := i) (List.nodup_cons.mp nd).2 (by simpa using h1) (by simpa using h2) hk

/-- the names' values at the entry -/
def start (N : List Str) (vs : List V) : St := vs.map some ++ List.replicate (N.length - vs.length) none

/-- the context of a def's body, at its entry; an exception leaves the frame, then lies as CX says -/
def cxOf (CX : CXT) (P : Program) (w : World) (K : PySem.W.Frag) (mg : Str → Option Value) (base : Heap) (N : List Str) (qual : Str) (scope : Scope) (f : Addr) (cd : Value) (A : Around) (outer : List Env) (s : Shared) (H : Hp) (E : XK) : Cx where
  prog := P
  w := w
  K := K
  mg := mg
  base := base
  A := A.deeper (envOfC qual scope s.heap.objs.size f cd)
  N := N
  s_0 := s
  H_0 := H
  env := envOfC qual scope s.heap.objs.size f cd
  outer := outer
  stack := envOfC qual scope s.heap.objs.size f cd :: outer
  ex := []
  calm := true
  fn := fun _ => true
  pn := []
  xe := fun e s' => wpAny (model P w) (A.deeper (envOfC qual scope s.heap.objs.size f cd)) (leaving (envOfC qual scope s.heap.objs.size f cd) e) (fun _ s'' => CX outer H s E e s'') (fun e' s'' => CX outer H s E e' s'') s'

theorem cell_has {sc : Scope} {n : Nat} {x : Str} (h : sc.names.lookup x = some .cell) : ∃ c, (cellsFrom n sc.names []).lookup x = some c := by
  have q := PySem.W.cellsFrom_some sc.names n [] (.inl h)
  exact Option.isSome_iff_exists.mp q

theorem inv_start {CX : CXT} {P : Program} {w : World} {K : PySem.W.Frag} {mg : Str → Option Value} {base : Heap} {N ps : List Str} {qual : Str} {scope : Scope} {f : Addr} {cd : Value} {A : Around} {outer : List Env} {s s1 : Shared} {H : Hp} {E : XK} {us : List Value} {vs : List V}
    (S : FnScope N ps scope) (hd : A.handled = none) (e0 : Env0 P w K mg base A outer s H) (hl : vs.length = ps.length) (r : Vals vs us)
    (x : InCallC s s.heap.objs.size (bindL (envOfC qual scope s.heap.objs.size f cd).kindOf (ps.zip us) fun _ => none) (cellsFrom (s.heap.objs.size + 1) scope.names []) (bindC (envOfC qual scope s.heap.objs.size f cd).kindOf (ps.zip us) fun _ => none) s1) :
    Inv (cxOf CX P w K mg base N qual scope f cd A outer s H E) [] (start N vs) H s1 := by
  have hpl : ps.length ≤ N.length := by have := congrArg List.length S.pre; rw [List.length_take] at this; omega
  obtain ⟨h1, tk, rfl, hk⟩ := x.done
  have noA : ∀ b : Addr, b ∉ (cxOf CX P w K mg base N qual scope f cd A outer s H E).ex := fun b z => absurd (show b ∈ ([] : List Addr) from z) (by simp)
  refine ⟨⟨e0.mod, S.kind, rfl, rfl, Nat.le_refl _, fun y z c h1 h2 => ?_, fun y hy => ?_, fun y c _ h => ?_, fun _ => hd, Around.frames_deeper e0.frames, .inr ⟨rfl, rfl⟩, fun b z => absurd z (noA b), e0.bs, e0.bsz, fun b _ _ => noA b, fun b z => absurd z (noA b), e0.funs, e0.frf⟩,
    rfl, e0.bare, Un.kept hk, ⟨_, x.toInCall.ns, fun i y v h1 h2 h3 => ?_⟩, fun y c h => ⟨_, x.cell y c h⟩, e0.hok.fresh (Nat.le_refl _), fun y c h => ?_, fun p hp => absurd (show p ∈ ([] : List (Addr × Obj)) from hp) (by simp), e0.hok.kept hk, ?_⟩
  · exact name_of_addr x.apart (PySem.mem_of_lookup h1) (PySem.mem_of_lookup h2)
  · have hy : scope.names.lookup y = some .cell ∨ scope.names.lookup y = some .free := hy
    rcases hy with hy | hy
    · exact cell_has hy
    · exact absurd rfl (S.nofree _ (PySem.mem_of_lookup hy))
  · exact Nat.le_of_lt (x.above y c (PySem.mem_of_lookup h))
  · have hi : i < vs.length := by
      unfold start at h2
      by_cases hi : i < vs.length
      · exact hi
      · rw [List.getElem?_append_right (by simpa using hi)] at h2
        rw [List.getElem?_replicate] at h2
        split at h2 <;> cases h2
    have ha : vs[i]? = some v := by
      unfold start at h2
      rw [List.getElem?_append_left (by simpa using hi), List.getElem?_map] at h2
      cases e : vs[i]? with
      | none => rw [e] at h2; cases h2
      | some a => rw [e] at h2; cases h2; rfl
    obtain ⟨u, hu, rv⟩ := r.get ha
    have hp : ps[i]? = some y := by
      rw [← S.pre, List.getElem?_take_of_lt (by omega)]; exact h1
    have ndP : ps.Nodup := by rw [← S.pre]; exact S.nd.sublist (List.take_sublist _ _)
    refine ⟨u, rv, ?_⟩
    rcases S.par y (List.mem_of_getElem? hp) with k | k
    · exact .inl ⟨k, bindL_get ndP hp hu k⟩
    · obtain ⟨c, e⟩ := cell_has (n := s.heap.objs.size + 1) k
      refine .inr ⟨.inl k, c, e, ?_⟩
      have q := x.cell y c e
      rw [bindC_get ndP hp hu (by show scope.names.lookup y ≠ _; rw [k]; decide)] at q
      exact q
  · exact e0.hok.fresh (Nat.le_of_lt (x.above y c (PySem.mem_of_lookup h)))
  · unfold start
    show _ = N.length
    rw [List.length_append, List.length_map, List.length_replicate]
    omega

/-- THE RULE: a def (or a method) of the text, by its body. The body's reading t is chosen for each entry; it is run at the parameters' values -/
theorem fn_of {CX : CXT} {P : Program} {w : World} {K : PySem.W.Frag} {mg : Str → Option Value} {base : Heap} {k : Nat} {f : Addr} {name qual : Str} {params : Arguments} {body : List Stmt} {scope : Scope} {dV kV doc pm cdv ct oc : Value} {an od : Option Addr}
    {osl : Array (Option Value)} {N ps : List Str} {sp : Sp} (lk : K.lookup f = some ⟨oc, od, .func (PySem.W.fnOf name qual params body scope dV kV doc pm an cdv ct), osl⟩) (hcd : PySem.W.codeIn K cdv qual = true) (S : FnScope N ps scope)
    (len : ∀ vs H Q E, sp vs H Q E → vs.length = ps.length)
    (hbody : ∀ (A : Around) (outer : List Env) (s : Shared) (H : Hp) (vs : List V) (Q : VK) (E : XK), Room k (A.deeper (envOfC qual scope s.heap.objs.size f cdv)) → sp vs H Q E →
      ∃ t, PSs (cxOf CX P w K mg base N qual scope f cdv A outer s H E) body t ∧ t { nx := fun _ H' => Q .non H', rt := Q } (start N vs) H) :
    FnOk P w K mg base CX (k + 1) f (PySem.W.fnOf name qual params body scope dV kV doc pm an cdv ct) ps sp := by
  refine ⟨len, fun A outer s H args us vs Q E hr e0 hb r hsp => ?_⟩
  have hl := len _ _ _ _ hsp
  have KX : K.In s.heap := e0.mod.kin.keeps fun b o e => (e0.bs b o e).1
  have lim : s.heap.NoLimit := e0.mod.nolimit.keeps fun b o e => (e0.bs b o e).1
  have hkind : ∀ y ∈ ps.zip us, scope.names.lookup y.1 = some .local ∨ (scope.names.lookup y.1 = some .cell ∧ ((cellsFrom (s.heap.objs.size + 1) scope.names []).lookup y.1).isSome = true) := fun ⟨n, v⟩ hy => by
    rcases S.par n (List.of_mem_zip hy).1 with q | q
    · exact .inl q
    · exact .inr ⟨q, PySem.W.cellsFrom_some _ _ _ (.inl q)⟩
  refine codeAny_call_function hr.depth (KX _ _ lk) rfl S.co S.gen rfl (PySem.W.codeRec_of KX hcd) (hb _ _ _ _ ?_)
  refine wpAny_newFunctionEnv_cells S.kind hkind fun env he s1 x => ?_
  subst he
  refine ⟨lim.keeps x.toInCall.keep, codeAny_func ?_⟩
  obtain ⟨t, ht, hq⟩ := hbody A outer s H vs Q E (hr.deeper _) hsp
  have I : Inv (cxOf CX P w K mg base N qual scope f cdv A outer s H E) [] (start N vs) H s1 := inv_start S hr.hd e0 hl r x
  refine wpAny_mono (ht [] s1 (start N vs) H _ I hq) (fun fl s' hs => ?_) fun e s' hs => hs
  have fin : ∀ {σ' : St} {H' : Hp} {v : V} {u : Value}, Inv (cxOf CX P w K mg base N qual scope f cdv A outer s H E) [] σ' H' s' → RelV v u → Q v H' → CE outer P w H s Q u s' :=
    fun {σ' H' v u} J rv q => ⟨v, H', J.os, J.bare, J.base, J.hok, rv, q⟩
  cases fl with
  | ret u =>
    obtain ⟨v, σ', H', J, rv, q⟩ := hs
    exact fin J rv q
  | next =>
    obtain ⟨σ', H', J, q⟩ := hs
    exact fin (v := V.non) (u := Value.none) J rfl q
  | brk =>
    obtain ⟨_, _, _, q⟩ := hs
    exact False.elim q
  | cont =>
    obtain ⟨_, _, _, q⟩ := hs
    exact False.elim q
end L2

namespace L2
open PySem PySem.Spec PyProof.Rows
section
variable {X : Cx} {x : Str} {p pos : Pos} {e : Expr} {es : List Expr} {t : TA} {id T : String} {r : List V → Hp → VK → Prop}

def tCB (r : List V → Hp → VK → Prop) (t : TA) : TE := fun σ H Q => t σ H fun vs H1 => r vs H1 Q
/-- f(e, ..), f a built-in function -/
theorem pe_callB (hc : CallR X (.builtin id) r) (hg : Gl X x) (hm : X.mg x = none) (hv : bootBuiltins x = some (.builtin id)) (ha : PA X (e :: es) t) (hn : x ≠ "__name__" := by decide) (hdb : (x == ("__debug__" : Str)) = false := by decide)
    (he : starEach (e :: es) X.env = (false, eval e X.env) :: starEach es X.env := by rfl) (hpl : (backTo pos (starEach es X.env)).any (·.1) = false := by rfl) : PE X (.Call (.Name x p) (e :: es) [] pos) (tCB r t) := by
  intro pins s σ H Q I h
  refine wpAny_Call_Name_kw (ld_blt I hg hm hv ?_ hn hdb)
  exact PyProof.Rows.callWith_builtin1 (thn (ha pos pins s σ H _ I h) fun us s1 ⟨vs, H1, I1, r1, q1⟩ => hc pins s1 σ H1 vs us Q I1 r1 q1) he hpl
/-- T(e, ..), T a built-in type -/
theorem pe_callTy (hc : CallR X (.type T) r) (hg : Gl X x) (hm : X.mg x = none) (hv : bootBuiltins x = some (.type T)) (ha : PA X (e :: es) t) (hn : x ≠ "__name__" := by decide) (hdb : (x == ("__debug__" : Str)) = false := by decide)
    (he : starEach (e :: es) X.env = (false, eval e X.env) :: starEach es X.env := by rfl) (hpl : (backTo pos (starEach es X.env)).any (·.1) = false := by rfl) : PE X (.Call (.Name x p) (e :: es) [] pos) (tCB r t) := by
  intro pins s σ H Q I h
  refine wpAny_Call_Name_kw (ld_blt I hg hm hv ?_ hn hdb)
  exact PyProof.Rows.callWith_type1 (thn (ha pos pins s σ H _ I h) fun us s1 ⟨vs, H1, I1, r1, q1⟩ => hc pins s1 σ H1 vs us Q I1 r1 q1) he hpl
end
end L2

namespace HT
open PySem PyProof.Rows

section
open PySem.SeqAt
open PySem.AutoSeq1 (wpAny_loadPart')
open PySem.MeetsSeq PySem.MeetsSeq2 PySem.MeetsSeq3

end

section
variable {prog : Program} {w : World} {A : Around} {E : Value → Shared → Prop} {s : Shared}

/-! ### t[a:b], not the whole -/
/-- a slice's bound as a place among n (d where it is left out) -/
def sIx (n d : Nat) : Option Int → Nat
  | none => d
  | some v => if v < 0 then (v + (n : Int)).toNat else min v.toNat n
theorem sIx_none (n d : Nat) : sIx n d none = d := rfl
theorem sIx_nat (n d k : Nat) : sIx n d (some (k : Int)) = min k n := by
  show (if (k : Int) < 0 then ((k : Int) + (n : Int)).toNat else min (k : Int).toNat n) = min k n
  rw [if_neg (by omega), Int.toNat_natCast]
end
end HT

namespace L2
open PySem PySem.Spec PyProof.Rows

/-! ### the parts of a slice -/
abbrev TO := St → Hp → (Option Int → Hp → Prop) → Prop
/-- a slice's part (left out, or an int) -/
def PO (X : Cx) (e : Option Expr) (t : TO) : Prop :=
  ∀ (pins : List (Addr × Obj)) (s : Shared) (σ : St) (H : Hp) (Q : Option Int → Hp → Prop), Inv X pins σ H s → t σ H Q →
    wpAny (model X.prog X.w) X.A (evalPart e X.env) (fun u s' => ∃ o H', Inv X pins σ H' s' ∧ IsPart u o ∧ Q o H') X.xe s
def tNoPart : TO := fun _ H Q => Q none H
def tPart (t : TE) : TO := fun σ H Q => t σ H fun x H1 => ∃ i, x = .int i ∧ Q (some i) H1

section
variable {X : Cx} {e : Expr} {te : TE} {lo hi : Option Expr} {tl th : TO} {pos p2 : Pos}

theorem po_none : PO X none tNoPart := by
  intro pins s σ H Q I h
  rw [evalPart_none]
  exact wpAny_pure ⟨none, H, I, .none, h⟩
theorem po_some (h : PE X e te) : PO X (some e) (tPart te) := by
  intro pins s σ H Q I hw
  rw [evalPart_some]
  refine thn (h pins s σ H _ I hw) fun u s1 ⟨x, H1, I1, r1, q1⟩ => ?_
  obtain ⟨i, rfl, q⟩ := q1
  obtain ⟨t, rfl⟩ := r1
  exact ⟨some i, H1, I1, .int i t, q⟩

/-- what a slice of a value is, by values: the slice object stands at sl -/
def SlR (X : Cx) (r : V → Option Int → Option Int → Hp → VK → Prop) : Prop :=
  ∀ (pins : List (Addr × Obj)) (s : Shared) (σ : St) (H : Hp) (x : V) (v vl vu : Value) (lo hi : Option Int) (sl : Addr) (Q : VK), Inv X pins σ H s → RelV x v → s.heap.IsSliceOf sl vl vu .none → IsPart vl lo → IsPart vu hi → r x lo hi H Q →
    ∃ T id, typeLookup (.type T) "__getitem__" = pure (some (.builtin id)) ∧ s.TypeIs v T ∧ wpAny (model X.prog X.w) X.A (getItem v (.ref sl)) (EP X pins σ Q) X.xe s
def tSl (r : V → Option Int → Option Int → Hp → VK → Prop) (te : TE) (tl th : TO) : TE := fun σ H Q => te σ H fun x H1 => tl σ H1 fun l H2 => th σ H2 fun u H3 => r x l u H3 Q
/-- a[lo:hi], any a -/
theorem pe_slice {r : V → Option Int → Option Int → Hp → VK → Prop} (hr : SlR X r) (he : PE X e te) (hl : PO X lo tl) (hu : PO X hi th) : PE X (.Subscript e (.Slice lo hi none p2) pos) (tSl r te tl th) := by
  intro pins s σ H Q I h
  refine Subscript_ (thn (he pins s σ H _ I h) fun v s1 ⟨x, H1, I1, r1, q1⟩ => ?_)
  refine wpAny_Slice (thn (hl pins s1 σ H1 _ I1 q1) fun vl s2 ⟨l, H2, I2, pl, q2⟩ => thn (hu pins s2 σ H2 _ I2 q2) fun vu s3 ⟨u, H3, I3, pu, q3⟩ => ?_)
  rw [evalPart_none]
  refine wpAny_pure ?_
  have I4 : Inv X pins σ H3 { s3 with heap := s3.heap.push { cls := .type "slice", data := .fields #[vl, vu, .none] } } := I3.kept (t' := s3.toks) fun b ob q => Heap.get?_push_of_some _ q
  obtain ⟨T, id, hT, ht, hg⟩ := hr pins { s3 with heap := s3.heap.push { cls := .type "slice", data := .fields #[vl, vu, .none] } } σ H3 x v vl vu l u s3.heap.objs.size Q I4 r1 (Heap.IsSliceOf.new ..) pl pu q3
  show wpAny (model X.prog X.w) X.A (subscriptTail e (.Slice lo hi none p2) v (.ref s3.heap.objs.size)) (EP X pins σ Q) X.xe { s3 with heap := s3.heap.push { cls := .type "slice", data := .fields #[vl, vu, .none] } }
  exact tail_any (ops := [.ref s3.heap.objs.size, v]) ht hT hg (by with_unfolding_all rfl)

/-- the items of xs[lo:hi] -/
def cutV (xs : List V) (lo hi : Option Int) : List V := (xs.drop (HT.sIx xs.length 0 lo)).take (HT.sIx xs.length xs.length hi - HT.sIx xs.length 0 lo)
theorem cutV_length (xs : List V) (lo hi : Option Int) : (cutV xs lo hi).length ≤ xs.length := by
  unfold cutV
  rw [List.length_take, List.length_drop]
  omega
/-! ### t < u, t + u -/
end
end L2

namespace L2
open PySem PySem.Spec PyProof.Rows

/-! ### places -/
/-- the place that an index of any sign means -/
def ixN (n : Nat) (i : Int) : Option Nat := if 0 ≤ i then (if i < n then some i.toNat else none) else if -(n : Int) ≤ i then some (i + n).toNat else none
def atI {α : Type} (xs : List α) (i : Int) : Option α := (ixN xs.length i).bind fun j => xs[j]?
theorem ixN_seq {n : Nat} {i : Int} {j : Nat} (h : ixN n i = some j) : seqIndex? i n = some j ∧ j < n ∧ -(n : Int) ≤ i ∧ i < n := by
  unfold ixN at h
  by_cases h0 : 0 ≤ i
  · rw [if_pos h0] at h
    by_cases h1 : i < n
    · rw [if_pos h1] at h
      have e : i.toNat = j := Option.some.inj h
      exact ⟨by rw [seqIndex_of h0 h1, e], by omega, by omega, h1⟩
    · rw [if_neg h1] at h; cases h
  · rw [if_neg h0] at h
    by_cases h1 : -(n : Int) ≤ i
    · rw [if_pos h1] at h
      have e : (i + n).toNat = j := Option.some.inj h
      exact ⟨by rw [seqIndex_neg (by omega) h1, e], by omega, h1, by omega⟩
    · rw [if_neg h1] at h; cases h
theorem atI_get {α : Type} {xs : List α} {i : Int} {v : α} (h : atI xs i = some v) : ∃ j, seqIndex? i xs.length = some j ∧ xs[j]? = some v ∧ j < xs.length ∧ -(xs.length : Int) ≤ i ∧ i < xs.length := by
  unfold atI at h
  cases e : ixN xs.length i with
  | none => rw [e] at h; cases h
  | some j =>
    rw [e] at h
    obtain ⟨h1, h2, h3, h4⟩ := ixN_seq e
    exact ⟨j, h1, h, h2, h3, h4⟩
theorem atI_nat {α : Type} {xs : List α} {j : Nat} {v : α} (h : xs[j]? = some v) : atI xs (j : Int) = some v := by
  have hj : j < xs.length := (List.getElem?_eq_some_iff.mp h).1
  have e : ixN xs.length (j : Int) = some j := by
    unfold ixN
    rw [if_pos (by omega), if_pos (by omega)]; simp
  unfold atI; rw [e]; exact h
/-! ### what may be subscripted -/
/-- what stands as an index of a plain subscript -/
def PlainIx (b : Expr) : Prop := ∀ o i, subscripted b false o i = operate [o, i] (getItem o i)
/-- a subscript by values -/
def IxR (X : Cx) (r : R2) : Prop :=
  ∀ (value slice : Expr) (pins : List (Addr × Obj)) (s : Shared) (σ : St) (H : Hp) (x y : V) (v u : Value) (Q : VK), Inv X pins σ H s → RelV x v → RelV y u → r x y H Q →
    subscripted slice false v u = operate [v, u] (getItem v u) → wpAny (model X.prog X.w) X.A (subscriptTail value slice v u) (EP X pins σ Q) X.xe s
/-- a call of a builtin's method by values: the receiver, the arguments -/
def MtR (X : Cx) (id : String) (r : V → List V → Hp → VK → Prop) : Prop :=
  ∀ (pins : List (Addr × Obj)) (s : Shared) (σ : St) (H : Hp) (x : V) (xs : List V) (v : Value) (us : List Value) (Q : VK), Inv X pins σ H s → RelV x v → Vals xs us → r x xs H Q →
    wpAny (model X.prog X.w) X.A (call (.builtin id) (v :: us)) (EP X pins σ Q) X.xe s
section
variable {X : Cx} {a b : Expr} {ta tb : TE} {pos : Pos}
/-- a[b] -/
theorem pe_ix {r : R2} (hr : IxR X r) (ha : PE X a ta) (hb : PE X b tb) (hs : PlainIx b) : PE X (.Subscript a b pos) (tOp r ta tb) := by
  intro pins s σ H Q I h
  exact Subscript_ (binT ha hb I h fun v u s2 x y H2 I2 rx ry q => hr a b pins s2 σ H2 x y v u Q I2 rx ry q (hs _ _))

def rIxL (K : PySem.W.Frag) : R2 := fun x y H Q => ∃ p xs i v, x = .ref p ∧ y = .int i ∧ SqL K H p xs ∧ atI xs i = some v ∧ Q v H
def rIxT (K : PySem.W.Frag) : R2 := fun x y H Q => ∃ p xs i v, x = .ref p ∧ y = .int i ∧ SqT K H p xs ∧ atI xs i = some v ∧ Q v H
theorem ix_list : IxR X (rIxL X.K) := by
  intro value slice pins s σ H x y v u Q I rx ry h hs
  obtain ⟨p, xs, i, z, rfl, rfl, hq, he, q⟩ := h
  cases rx
  obtain ⟨t, rfl⟩ := ry
  obtain ⟨its, r, pl, hz⟩ := I.list hq
  obtain ⟨j, h1, h2, h3, h4, h5⟩ := atI_get he
  obtain ⟨w, ew, rw'⟩ := r.get h2
  have hl := r.length
  have hn := line63
  have fin : EP X pins σ Q w s := ⟨z, H, I, rw', q⟩
  by_cases h0 : 0 ≤ i
  · have hj : i.toNat = j := by
      rw [seqIndex_of h0 h5] at h1
      exact Option.some.inj h1
    exact item_listR pl.isList h0 (by omega) (by rw [hj]; simpa using ew) fin hs
  · have hj : (i + (its.toArray.size : Int)).toNat = j := by
      rw [seqIndex_neg (by omega) h4] at h1
      rw [List.size_toArray, ← hl]
      exact Option.some.inj h1
    exact subscriptTail_builtinR (x := w) pl.isList.typeIs slot_list_getitem.lookup
      (wpAny_getItem_list_neg (Q := fun r s' => r = w ∧ EP X pins σ Q r s') pl.isList (by omega) (by rw [List.size_toArray] <;> omega) (by omega) (by rw [hj]; simpa using ew) ⟨rfl, fin⟩) hs
theorem ix_tup : IxR X (rIxT X.K) := by
  intro value slice pins s σ H x y v u Q I rx ry h hs
  obtain ⟨p, xs, i, z, rfl, rfl, hq, he, q⟩ := h
  cases rx
  obtain ⟨t, rfl⟩ := ry
  obtain ⟨its, r, pl, hz⟩ := I.tuple hq
  obtain ⟨j, h1, h2, h3, h4, h5⟩ := atI_get he
  obtain ⟨w, ew, rw'⟩ := r.get h2
  have hl := r.length
  have hn := line63
  have fin : EP X pins σ Q w s := ⟨z, H, I, rw', q⟩
  exact subscriptTail_builtinR (x := w) pl.typeIs slot_tuple_getitem.lookup
    (getItem_tuple (j := j) (Q := fun r s' => r = w ∧ EP X pins σ Q r s') pl (by omega) (by omega) (by rw [List.size_toArray, ← hl]; exact h1) (by simpa using ew) ⟨rfl, fin⟩) hs
/-! ### xs[i] = v, any sign -/
/-- the list's object behind a store -/
theorem mapSeq_set (its : List Value) (n j : Nat) (u : Value) : Obj.mapSeq (·.setIfInBounds j u) { cls := .type "list", data := .seq its.toArray n } = { cls := .type "list", data := .seq (its.set j u).toArray n } := by
  simp [Obj.mapSeq]
theorem Inv.lst {pins : List (Addr × Obj)} {σ : St} {H : Hp} {s : Shared} {p : Addr} {xs : List V} (I : Inv X pins σ H s) (h : H p = some (.lst xs)) :
    ∃ (its : List Value) (n : Nat), Vals xs its ∧ s.heap.get? p = some { cls := .type "list", data := .seq its.toArray n } ∧ xs.length ≤ sizeLine := by
  obtain ⟨z, its, n, r, e⟩ := I.hok p _ h
  exact ⟨its, n, r, e, z⟩
/-- the list at p is written by an update of its object -/
theorem Inv.lstUpd {pins : List (Addr × Obj)} {σ : St} {H : Hp} {s : Shared} {p : Addr} {xs ys : List V} {its its' : List Value} {n n' : Nat} {f : Obj → Obj} (I : Inv X pins σ H s) (h : H p = some (.lst xs))
    (ho : s.heap.get? p = some { cls := .type "list", data := .seq its.toArray n }) (hf : f { cls := .type "list", data := .seq its.toArray n } = { cls := .type "list", data := .seq its'.toArray n' }) (r : Vals ys its') (hz : ys.length ≤ sizeLine) (t : Nat) :
    Inv X pins σ (upd H p (.lst ys)) { s with heap := s.heap.update p f, toks := t } := by
  have e : (s.heap.update p f).get? p = some { cls := .type "list", data := .seq its'.toArray n' } := by
    rw [Heap.get?_update_self f ho (by rw [hf] <;> rfl), hf]
  refine I.write (x := p) (e := p) (by rw [h]; trivial) (.inl rfl) (fun b u hb q => (Heap.get?_update_other _ _ (Ne.symm hb)).trans q) ⟨_, e⟩ ?_
  exact ⟨hz, its', n', r, e⟩
def rSetL : V → V → V → Hp → (Hp → Prop) → Prop := fun o i v H Q => ∃ p xs k j, o = .ref p ∧ i = .int k ∧ H p = some (.lst xs) ∧ ixN xs.length k = some j ∧ Q (upd H p (.lst (xs.set j v)))
theorem set_list : PSet X rSetL := by
  intro pins s σ H o i v ov iv u Q I ro ri rv h
  obtain ⟨p, xs, k, j, rfl, rfl, hp, hj, q⟩ := h
  cases ro
  obtain ⟨t, rfl⟩ := ri
  obtain ⟨its, n, r, ho, hz⟩ := I.lst hp
  obtain ⟨h1, h2, h3, h4⟩ := ixN_seq hj
  have hl := r.length
  have hn := line63
  have I' : Inv X pins σ (upd H p (.lst (xs.set j v))) { s with heap := s.heap.update p (Obj.mapSeq (·.setIfInBounds j u)) } :=
    I.lstUpd hp ho (mapSeq_set its n j u) (r.set rv j) (by rw [List.length_set]; exact hz) s.toks
  by_cases h0 : 0 ≤ k
  · have hk : k.toNat = j := by
      rw [seqIndex_of h0 h4] at h1
      exact Option.some.inj h1
    exact PySem.W.ki_setAt ho h0 (by omega) (by rw [List.size_toArray, ← hl]; exact h4) (by rw [hk]; exact ⟨_, I', q⟩)
  · have hk : (k + (its.toArray.size : Int)).toNat = j := by
      rw [seqIndex_neg (by omega) h3] at h1
      rw [List.size_toArray, ← hl]
      exact Option.some.inj h1
    exact PySem.W.ki_setBack ho (by omega) (by rw [List.size_toArray, ← hl]; exact h3) (by omega) (by rw [hk]; exact ⟨_, I', q⟩)

/-! ### slices -/
theorem slice_bounds (lo hi : Option Int) (n : Nat) : (sliceBounds lo hi none n).1 = ((HT.sIx n 0 lo : Nat) : Int) ∧ (sliceBounds lo hi none n).2.1 = ((HT.sIx n n hi : Nat) : Int) ∧ (sliceBounds lo hi none n).2.2 = 1 := by
  refine ⟨?_, ?_, rfl⟩
  · cases lo with
    | none => simp [sliceBounds, HT.sIx]
    | some i =>
      simp only [sliceBounds, HT.sIx, Option.getD_none, show (1 : Int) > 0 by decide, if_true]
      by_cases h : i < 0
      · simp only [h, if_true] <;> omega
      · simp only [h, if_false] <;> omega
  · cases hi with
    | none => simp [sliceBounds, HT.sIx]
    | some i =>
      simp only [sliceBounds, HT.sIx, Option.getD_none, show (1 : Int) > 0 by decide, if_true]
      by_cases h : i < 0
      · simp only [h, if_true] <;> omega
      · simp only [h, if_false] <;> omega
theorem slicePick_cut (its : List Value) (lo hi : Option Int) : slicePick its.toArray lo hi none = ((its.drop (HT.sIx its.length 0 lo)).take (HT.sIx its.length its.length hi - HT.sIx its.length 0 lo)).toArray := by
  obtain ⟨h1, h2, h3⟩ := slice_bounds lo hi its.toArray.size
  unfold slicePick
  rw [h1, h2, h3]
  simp only [sliceRange_one, pick_run, List.size_toArray] <;> rfl
/-- xs[lo:hi] of a list: a new list -/
def rSlL (K : PySem.W.Frag) : V → Option Int → Option Int → Hp → VK → Prop := fun x lo hi H Q => ∃ a xs, x = .ref a ∧ SqL K H a xs ∧ ∀ p, H p = none → Q (.ref p) (upd H p (.lst (cutV xs lo hi)))
theorem sl_list : SlR X (rSlL X.K) := by
  intro pins s σ H x v vl vu lo hi sl Q I rx hs pl pu h
  obtain ⟨a, xs, rfl, hx, q⟩ := h
  cases rx
  obtain ⟨its, r, ht, hz⟩ := I.list hx
  have hlen := r.length
  refine ⟨"list", _, slot_list_getitem.lookup, ht.isList.typeIs, ?_⟩
  refine wpAny_getItem_list_slice ht.isList hs pl pu .none (by simp) ?_ (by rw [List.size_toArray] <;> omega)
  rw [slicePick_cut, ← hlen]
  refine ⟨.ref s.heap.objs.size, _, I.laid (t' := s.toks) (o := .lst (cutV xs lo hi)) (fun b ob q => Heap.get?_push_of_some _ q) (Nat.le_refl _) ?_, rfl, q _ (I.hok.fresh (Nat.le_refl _))⟩
  exact ⟨Nat.le_trans (cutV_length xs lo hi) hz, _, 0, (r.drop (HT.sIx xs.length 0 lo)).take (HT.sIx xs.length xs.length hi - HT.sIx xs.length 0 lo), Heap.get?_push_size _ rfl⟩

/-! ### in, not in: flat items -/
def flatV : V → Bool
  | .non => true
  | .bl _ => true
  | .int _ => true
  | .str _ => true
  | _ => false
/-- == of flat values -/
def eqV : V → V → Bool
  | .non, .non => true
  | .bl a, .bl b => a == b
  | .bl a, .int b => (if a then 1 else 0) == b
  | .int a, .bl b => a == (if b then 1 else 0)
  | .int a, .int b => a == b
  | .str a, .str b => a == b
  | _, _ => false
theorem eqAt_V {A : Around} {s : Shared} {y x : V} {u v : Value} (ry : RelV y u) (rx : RelV x v) (fy : flatV y = true) (fx : flatV x = true) : SeqAt.EqAt A s u v (eqV y x) := by
  cases y with
  | non =>
    cases ry
    cases x with
    | non => cases rx; exact SeqAt.EqAt.same _
    | bl b => cases rx; exact SeqAt.EqAt.none_bool b
    | int b => obtain ⟨t, rfl⟩ := rx; exact SeqAt.EqAt.none_int b t
    | str b => obtain ⟨t, rfl⟩ := rx; exact SeqAt.EqAt.none_str b t
    | _ => exact absurd (show false = true from fx) Bool.false_ne_true
  | bl a =>
    cases ry
    cases x with
    | non => cases rx; exact SeqAt.EqAt.bool_none a
    | bl b => cases rx; exact SeqAt.EqAt.bool_bool a b
    | int b => obtain ⟨t, rfl⟩ := rx; exact SeqAt.EqAt.bool_int a b t
    | str b => obtain ⟨t, rfl⟩ := rx; exact SeqAt.EqAt.bool_str a b t
    | _ => exact absurd (show false = true from fx) Bool.false_ne_true
  | int a =>
    obtain ⟨t', rfl⟩ := ry
    cases x with
    | non => cases rx; exact SeqAt.EqAt.int_none a t'
    | bl b => cases rx; exact SeqAt.EqAt.int_bool a t' b
    | int b => obtain ⟨t, rfl⟩ := rx; exact SeqAt.EqAt.int_int a t' b t
    | str b => obtain ⟨t, rfl⟩ := rx; exact SeqAt.EqAt.int_str a t' b t
    | _ => exact absurd (show false = true from fx) Bool.false_ne_true
  | str a =>
    obtain ⟨t', rfl⟩ := ry
    cases x with
    | non => cases rx; exact SeqAt.EqAt.str_none a t'
    | bl b => cases rx; exact SeqAt.EqAt.str_bool a t' b
    | int b => obtain ⟨t, rfl⟩ := rx; exact SeqAt.EqAt.str_int a t' b t
    | str b => obtain ⟨t, rfl⟩ := rx; exact SeqAt.EqAt.str_str a t' b t
    | _ => exact absurd (show false = true from fx) Bool.false_ne_true
  | _ => exact absurd (show false = true from fy) Bool.false_ne_true
/-- the items' answers, read off the values (a value's own answer does not lean on its token) -/
def eqU (x : V) (u : Value) : Bool := match u with
  | .none => eqV .non x
  | .bool b => eqV (.bl b) x
  | .int i _ => eqV (.int i) x
  | .str z _ => eqV (.str z) x
  | _ => false
theorem eqU_of {x y : V} {u : Value} (r : RelV y u) (f : flatV y = true) : eqU x u = eqV y x := by
  cases y with
  | non => cases r; rfl
  | bl b => cases r; rfl
  | int i => obtain ⟨t, rfl⟩ := r; rfl
  | str z => obtain ⟨t, rfl⟩ := r; rfl
  | _ => exact absurd (show false = true from f) Bool.false_ne_true
theorem mem_eqAt {A : Around} {s : Shared} {x : V} {v : Value} (rx : RelV x v) (fx : flatV x = true) : ∀ {xs : List V} {us : List Value}, Vals xs us → xs.all flatV = true → ∀ u ∈ us, SeqAt.EqAt A s u v (eqU x u)
  | _, _, .nil, _ => fun u hu => by cases hu
  | y :: xs, u :: us, .cons r t, f => fun u' hu => by
    rw [List.all_cons, Bool.and_eq_true] at f
    rcases List.mem_cons.mp hu with rfl | hu
    · rw [eqU_of r f.1]; exact eqAt_V r rx f.1 fx
    · exact mem_eqAt rx fx t f.2 u' hu
/-! ### len, list(x), tuple(x) of any list or tuple that is read -/
theorem call_len_seq : CallR X (.builtin "len") (fun xs H Q => ∃ p ys, xs = [.ref p] ∧ (SqL X.K H p ys ∨ SqT X.K H p ys) ∧ Q (.int ys.length) H) := by
  intro pins s σ H xs us Q I r h
  obtain ⟨p, ys, rfl, hq, q⟩ := h
  obtain ⟨u, rfl, rx⟩ := vals1 r
  cases rx
  have hn := line63
  rcases hq with hq | hq
  · obtain ⟨its, r', pl, hz⟩ := I.list hq
    have hlen := r'.length
    exact Calls.call_len_list pl.isList (by simp only [List.size_toArray] <;> omega) ⟨.int ys.length, H, I.tok _, ⟨s.toks + 1, by rw [List.size_toArray, hlen]⟩, q⟩
  · obtain ⟨its, r', pl, hz⟩ := I.tuple hq
    have hlen := r'.length
    exact len_tuple pl (by simp only [List.size_toArray] <;> omega) ⟨.int ys.length, H, I.tok _, ⟨s.toks + 1, by rw [List.size_toArray, hlen]⟩, q⟩
/-! ### the call of a builtin's method: o.m(..) -/
/-- the value is of that builtin type -/
def tyV (K : PySem.W.Frag) (T : String) (x : V) (H : Hp) : Prop := match x with
  | .str _ => T = "str"
  | .int _ => T = "int"
  | .ref p => (T = "list" ∧ ∃ xs, SqL K H p xs) ∨ (T = "tuple" ∧ ∃ o, K.lookup p = some o ∧ o.cls = .type "tuple" ∧ o.dict = none) ∨
      (T = "dict" ∧ ((∃ kvs, H p = some (.dK kvs)) ∨ ∃ kvs, H p = some (.dT kvs))) ∨ (T = "set" ∧ ∃ S n, H p = some (.set S n))
  | _ => False
theorem tyV_is {pins : List (Addr × Obj)} {σ : St} {H : Hp} {s : Shared} {T : String} {x : V} {v : Value} (I : Inv X pins σ H s) (r : RelV x v) (ty : tyV X.K T x H) :
    s.TypeIs v T ∧ ∀ a, v = .ref a → ∃ ob, s.heap.get? a = some ob ∧ ob.dict = none := by
  cases x with
  | str z =>
    obtain ⟨t, rfl⟩ := r
    cases (show T = "str" from ty)
    exact ⟨typeIs_str s z t, fun _ e => nomatch e⟩
  | int i =>
    obtain ⟨t, rfl⟩ := r
    cases (show T = "int" from ty)
    exact ⟨typeIs_int s i t, fun _ e => nomatch e⟩
  | ref p =>
    cases r
    rcases ty with ⟨rfl, xs, hq⟩ | ⟨rfl, o, hk, hc, hd⟩ | ⟨rfl, hk⟩ | ⟨rfl, S, n, hk⟩
    · obtain ⟨its, _, pl, _⟩ := I.list hq
      refine ⟨pl.isList.typeIs, fun a e => ?_⟩
      cases e
      obtain ⟨o, n, e, c, hd, _⟩ := pl
      exact ⟨o, e, hd⟩
    · refine ⟨⟨o, I.kIn p o hk, hc⟩, fun a e => ?_⟩
      cases e
      exact ⟨o, I.kIn _ o hk, hd⟩
    · have z : ∃ o, s.heap.get? p = some o ∧ o.ExactDict := by
        rcases hk with ⟨kvs, hk⟩ | ⟨kvs, hk⟩
        · obtain ⟨_, _, _, _, o, _, _, e, ex, _⟩ := I.hok p _ hk
          exact ⟨o, e, ex⟩
        · obtain ⟨_, _, _, _, o, _, _, e, ex, _⟩ := I.hok p _ hk
          exact ⟨o, e, ex⟩
      obtain ⟨o, e, ex⟩ := z
      refine ⟨⟨o, e, ex.1⟩, fun a e2 => ?_⟩
      cases e2
      exact ⟨o, e, ex.2.1⟩
    · obtain ⟨o, _, _, _, e, ex, _⟩ := I.hok p _ hk
      refine ⟨⟨o, e, ex.1⟩, fun a e2 => ?_⟩
      cases e2
      exact ⟨o, e, ex.2.1⟩
  | _ => exact False.elim ty
def tBM0 (K : PySem.W.Frag) (T : String) (r : V → List V → Hp → VK → Prop) (to : TE) : TE := fun σ H Q => to σ H fun x H1 => tyV K T x H1 ∧ r x [] H1 Q
def tBM (K : PySem.W.Frag) (T : String) (r : V → List V → Hp → VK → Prop) (to : TE) (t : TA) : TE := fun σ H Q => to σ H fun x H1 => tyV K T x H1 ∧ t σ H1 fun xs H2 => r x xs H2 Q
variable {o e : Expr} {es : List Expr} {to : TE} {t : TA} {name : Str} {apos cpos : Pos} {T id : String} {r : V → List V → Hp → VK → Prop}
theorem pe_bm0 (pa : PlainAttrs T) (slot : Slot T name id) (hty : typeOf (.builtin id) = pure (.type "method_descriptor")) (hm : MtR X id r) (ho : PE X o to)
    (hbase : attributeBase o name X.env (eval o X.env) = eval o X.env := by rfl) (hline : (apos.endLine == cpos.line) = true := by rfl) : PE X (.Call (.Attribute o name apos) [] [] cpos) (tBM0 X.K T r to) := by
  intro pins s σ H Q I h
  refine wpAny_Call_method0_late hbase hline (thn (ho pins s σ H _ I h) fun v s1 ⟨x, H1, I1, r1, ty, q1⟩ => ?_)
  obtain ⟨h1, h2⟩ := tyV_is I1 r1 ty
  exact ⟨T, id, pa, slot, hty, h1, h2, Calls.callWith_builtin rfl (PySem.evalArgs_none (hm pins s1 σ H1 x [] v [] Q I1 r1 .nil q1))⟩
theorem pe_bm (pa : PlainAttrs T) (slot : Slot T name id) (hty : typeOf (.builtin id) = pure (.type "method_descriptor")) (hm : MtR X id r) (ho : PE X o to) (ha : PA X (e :: es) t)
    (hbase : attributeBase o name X.env (eval o X.env) = eval o X.env := by rfl)
    (hfew : ((backTo cpos (starEach (e :: es) X.env)).all (fun x => !x.1) && (backToKw cpos (keywordEach [] X.env)).all (fun x => x.1.isSome)
      && decide ((e :: es).length + ([] : List Keyword).length + (if ([] : List Keyword).isEmpty then 0 else 1) < 30)) = true := by rfl)
    (hline : (apos.endLine == cpos.line) = true := by rfl) (hs : starEach (e :: es) X.env = (false, eval e X.env) :: starEach es X.env := by rfl) (hplain : (backTo cpos (starEach es X.env)).any (·.1) = false := by rfl) :
    PE X (.Call (.Attribute o name apos) (e :: es) [] cpos) (tBM X.K T r to t) := by
  intro pins s σ H Q I h
  refine wpAny_Call_method_late hbase hfew hline rfl (thn (ho pins s σ H _ I h) fun v s1 ⟨x, H1, I1, r1, ty, q1⟩ => ?_)
  obtain ⟨h1, h2⟩ := tyV_is I1 r1 ty
  refine ⟨T, id, pa, slot, hty, h1, h2, ?_⟩
  have hA := ha cpos pins s1 σ H1 _ I1 q1
  rw [hs] at hA ⊢
  refine Calls.callWith_builtin (by show (false || (backTo cpos (starEach es X.env)).any (·.1)) = false; rw [hplain] <;> rfl) (Calls.evalArgs_plain ?_)
  exact thn hA fun us s2 ⟨vs, H2, I2, r2, q2⟩ => hm pins s2 σ H2 x vs v us Q I2 r1 r2 q2
end
end L2

namespace L2
open PySem PySem.Spec PyProof.Rows

def MtM (X : Cx) (id : String) (r : V → List V → Hp → VK → Prop) : Prop :=
  ∀ (pins : List (Addr × Obj)) (s : Shared) (σ : St) (H : Hp) (x : V) (xs : List V) (v : Value) (us : List Value) (Q : VK), Inv X pins σ H s → RelV x v → Vals xs us → r x xs H Q →
    wpAny (model X.prog X.w) X.A (call (.builtin id) (v :: us)) (EP X pins σ Q) X.xe s

/-! ### lists of values -/
theorem Vals.one : ∀ {x : V} {us : List Value}, Vals [x] us → ∃ u, us = [u] ∧ RelV x u
  | _, _, .cons r .nil => ⟨_, rfl, r⟩
theorem Vals.zero : ∀ {us : List Value}, Vals [] us → us = []
  | _, .nil => rfl
theorem Vals.dropLast {xs : List V} {us : List Value} (h : Vals xs us) : Vals xs.dropLast us.dropLast := by
  induction h with
  | nil => exact .nil
  | cons r t ih =>
    cases t with
    | nil => exact .nil
    | cons q t' => exact .cons r ih
theorem Vals.rep {xs : List V} {us : List Value} (h : Vals xs us) : ∀ k : Nat, Vals (List.replicate k xs).flatten (List.replicate k us).flatten
  | 0 => .nil
  | k + 1 => by
    rw [List.replicate_succ, List.replicate_succ, List.flatten_cons, List.flatten_cons]
    exact Vals.append h (Vals.rep h k)
theorem erase_last {α : Type} (l : List α) : l.eraseIdx (l.length - 1) = l.dropLast := by
  induction l with
  | nil => rfl
  | cons a r ih =>
    cases r with
    | nil => rfl
    | cons b r =>
      have e : (a :: b :: r).length - 1 = ((b :: r).length - 1) + 1 := by
        have h1 : (a :: b :: r).length = r.length + 2 := rfl
        have h2 : (b :: r).length = r.length + 1 := rfl
        omega
      rw [e, List.eraseIdx_cons_succ, ih]
      all_goals rfl
theorem foldl_rep (its : List Value) : ∀ (k : Nat) (acc : List Value),
    List.foldl (fun x1 x2 => x1 ++ x2) acc.toArray (List.replicate k its.toArray) = (acc ++ (List.replicate k its).flatten).toArray
  | 0, acc => by simp
  | k + 1, acc => by
    have e : acc.toArray ++ its.toArray = (acc ++ its).toArray := by simp
    have e2 : (acc ++ its) ++ (List.replicate k its).flatten = acc ++ (List.replicate (k + 1) its).flatten := by
      rw [List.replicate_succ, List.flatten_cons, List.append_assoc]
    rw [← e2, ← foldl_rep its k (acc ++ its), ← e, List.replicate_succ, List.foldl_cons]

section
variable {X : Cx} {pins : List (Addr × Obj)} {σ : St} {H : Hp} {s : Shared} {l b : Addr} {xs ys zs : List V}

/-! ### the two steps: a tracked list is rewritten, a new list is laid -/
theorem Inv.lset {its its' : List Value} {n : Nat} {f : Array Value → Array Value} {t' : Nat} (I : Inv X pins σ H s) (hH : H l = some (.lst xs))
    (e : s.heap.get? l = some { cls := .type "list", data := .seq its.toArray n }) (hf : f its.toArray = its'.toArray) (hv : Vals ys its') (hz : ys.length ≤ sizeLine) :
    Inv X pins σ (upd H l (.lst ys)) { s with heap := s.heap.update l (Obj.mapSeq f), toks := t' } := by
  have q := PySem.IsL.update e f
  rw [hf] at q
  refine I.write (x := l) (e := l) (by rw [hH]; exact trivial) (.inl rfl) (fun b' u hb hu => (Heap.get?_update_other s.heap (Obj.mapSeq f) (Ne.symm hb)).trans hu) ⟨_, q⟩ ?_
  exact ⟨hz, its', _, hv, q⟩
theorem Inv.lnew {its : List Value} {t' : Nat} (I : Inv X pins σ H s) (hv : Vals ys its) (hz : ys.length ≤ sizeLine) :
    Inv X pins σ (upd H s.heap.objs.size (.lst ys)) { s with heap := s.heap.push { cls := .type "list", data := .seq its.toArray }, toks := t' } :=
  I.laid (fun _ _ q => Heap.get?_push_of_some _ q) (Nat.le_refl _) ⟨hz, its, 0, hv, Heap.get?_push_size _ rfl⟩
theorem Inv.fresh (I : Inv X pins σ H s) : H s.heap.objs.size = none := I.hok.fresh (Nat.le_refl _)
theorem Inv.lstM (I : Inv X pins σ H s) (hH : H l = some (.lst xs)) : xs.length ≤ sizeLine ∧ ∃ (its : List Value) (n : Nat), Vals xs its ∧ xs.length = its.length ∧ s.heap.get? l = some { cls := .type "list", data := .seq its.toArray n } := by
  obtain ⟨z, its, n, r, e⟩ := I.hok l _ hH
  exact ⟨z, its, n, r, r.length, e⟩

theorem notLongL {n : Nat} (h : n ≤ sizeLine) : Builtin.List.listTooLong n = false := by
  unfold Builtin.List.listTooLong
  exact decide_eq_false (by omega)
end

section
variable {X : Cx}

/-! ### methods -/
def rAppend : V → List V → Hp → VK → Prop := fun x vs H Q => ∃ l xs y, x = .ref l ∧ vs = [y] ∧ H l = some (.lst xs) ∧ xs.length < sizeLine ∧ Q .non (upd H l (.lst (xs ++ [y])))
theorem mt_append : MtM X "list.append" rAppend := by
  intro pins s σ H x vs v us Q I rx rv h
  obtain ⟨l, xs, y, rfl, rfl, hH, hz, q⟩ := h
  cases rx
  obtain ⟨u, rfl, ru⟩ := rv.one
  obtain ⟨z, its, n, r, hl, e⟩ := I.lstM hH
  refine call_meets F.slot_list_append ⟨_, e, rfl⟩ F.entry_list_append (F.args_list_append_2 _ _) (PySem.list_append l its.toArray n u (by rw [List.size_toArray]; omega)) ⟨e, ?_⟩
  refine ⟨.non, _, I.lset (its' := its ++ [u]) hH e (by simp) (r.append (.cons ru .nil)) ?_, rfl, q⟩
  rw [List.length_append, List.length_singleton]
  omega

def rExtend : V → List V → Hp → VK → Prop := fun x vs H Q => ∃ l b xs zs, x = .ref l ∧ vs = [.ref b] ∧ H l = some (.lst xs) ∧ H b = some (.lst zs) ∧ xs.length + zs.length ≤ sizeLine ∧ Q .non (upd H l (.lst (xs ++ zs)))
theorem mt_extend : MtM X "list.extend" rExtend := by
  intro pins s σ H x vs v us Q I rx rv h
  obtain ⟨l, b, xs, zs, rfl, rfl, hH, hB, hz, q⟩ := h
  cases rx
  obtain ⟨u, rfl, ru⟩ := rv.one
  cases ru
  obtain ⟨z, its, n, r, hl, e⟩ := I.lstM hH
  obtain ⟨z2, its2, n2, r2, hl2, e2⟩ := I.lstM hB
  have hsz : its.toArray.size + its2.toArray.size ≤ sizeLine := by rw [List.size_toArray, List.size_toArray]; omega
  have hlong : ¬ (!its.toArray.isEmpty && Builtin.List.listTooLong (its.toArray.size + its2.toArray.size)) = true := by
    rw [notLongL hsz, Bool.and_false]
    exact Bool.false_ne_true
  refine call_meets F.slot_list_extend ⟨_, e, rfl⟩ F.entry_list_extend (F.args_list_extend_2 _ _)
    (AutoSeq1.list_extend_list_list_0 l its.toArray n b its2.toArray n2 hlong (by rw [List.size_toArray]; omega) (by omega)) ⟨e, e2, ?_⟩
  refine ⟨.non, _, I.lset (its' := its ++ its2) hH e (by simp) (r.append r2) ?_, rfl, q⟩
  rw [List.length_append]
  omega

def rPop : V → List V → Hp → VK → Prop := fun x vs H Q => ∃ l xs y, x = .ref l ∧ vs = [] ∧ H l = some (.lst xs) ∧ xs[xs.length - 1]? = some y ∧ Q y (upd H l (.lst xs.dropLast))
theorem mt_pop : MtM X "list.pop" rPop := by
  intro pins s σ H x vs v us Q I rx rv h
  obtain ⟨l, xs, y, rfl, rfl, hH, hy, q⟩ := h
  cases rx
  have hus := rv.zero
  subst hus
  obtain ⟨z, its, n, r, hl, e⟩ := I.lstM hH
  obtain ⟨u, hu, ru⟩ := r.get hy
  have hy' : its.toArray[its.toArray.size - 1]? = some u := by
    show its.toArray[its.length - 1]? = some u
    rw [← Array.getElem?_toList, ← hl]
    exact hu
  refine call_meets F.slot_list_pop ⟨_, e, rfl⟩ F.entry_list_pop (F.args_list_pop_1 _) (MeetsSeq.list_pop_last l its.toArray n u hy' (by rw [List.size_toArray]; omega)) ⟨e, ?_⟩
  refine ⟨y, _, I.lset (its' := its.dropLast) hH e ?_ r.dropLast ?_, ru, q⟩
  · show its.toArray.eraseIdxIfInBounds (its.toArray.size - 1) = its.dropLast.toArray
    rw [List.size_toArray, List.eraseIdxIfInBounds_toArray, erase_last]
  · rw [List.length_dropLast]
    omega

/-! ### list + list, list += list, list * int -/
def rCat : R2 := fun x y H Q => ∃ l b xs zs, x = .ref l ∧ y = .ref b ∧ H l = some (.lst xs) ∧ H b = some (.lst zs) ∧ xs.length + zs.length ≤ sizeLine ∧ ∀ p, H p = none → Q (.ref p) (upd H p (.lst (xs ++ zs)))
theorem op_cat : OpR X (binaryOp .Add) rCat := by
  intro pins s σ H x y v u Q I rx ry h
  obtain ⟨l, b, xs, zs, rfl, rfl, hH, hB, hz, q⟩ := h
  cases rx
  cases ry
  obtain ⟨z, its, n, r, hl, e⟩ := I.lstM hH
  obtain ⟨z2, its2, n2, r2, hl2, e2⟩ := I.lstM hB
  refine PySem.P.add_list e e2 ?_ (by rw [List.size_toArray, List.size_toArray]; omega)
  have ea : its.toArray ++ its2.toArray = (its ++ its2).toArray := by simp
  rw [ea]
  exact ⟨.ref _, _, I.lnew (t' := s.toks) (r.append r2) (by rw [List.length_append]; omega), rfl, q _ I.fresh⟩
/-- a list times an int (a negative one is nothing) -/
def rRep : R2 := fun x y H Q => ∃ l k xs, x = .ref l ∧ y = .int k ∧ H l = some (.lst xs) ∧ -(2 ^ 63) ≤ k ∧ k < 2 ^ 63 ∧ xs.length * k.toNat ≤ sizeLine ∧
  ∀ p, H p = none → Q (.ref p) (upd H p (.lst (List.replicate k.toNat xs).flatten))
theorem len_rep {α : Type} (xs : List α) (k : Nat) : (List.replicate k xs).flatten.length = k * xs.length := by
  induction k with
  | zero => simp
  | succ k ih => rw [List.replicate_succ, List.flatten_cons, List.length_append, ih, Nat.succ_mul, Nat.add_comm]
theorem op_rep : OpR X (binaryOp .Mult) rRep := by
  intro pins s σ H x y v u Q I rx ry h
  obtain ⟨l, k, xs, rfl, rfl, hH, h1, h2, hz, q⟩ := h
  cases rx
  obtain ⟨t, rfl⟩ := ry
  obtain ⟨z, its, n, r, hl, e⟩ := I.lstM hH
  have hlen : its.toArray.size * k.toNat ≤ sizeLine := by rw [List.size_toArray, ← hl]; exact hz
  have hcap : ¬ its.toArray.size * k.toNat > (2 ^ 63 - 1) / 8 := by
    have : (sizeLine : Nat) ≤ (2 ^ 63 - 1) / 8 := by decide
    omega
  have hfit : ¬ (!Builtin.List.listFitsIndex k) = true := by
    rw [fitsIndex_both h1 h2]
    exact Bool.false_ne_true
  have hlong : ¬ Builtin.List.listTooLong (its.toArray.size * k.toNat) = true := by
    rw [notLongL hlen]
    exact Bool.false_ne_true
  have hnew : List.foldl (fun x1 x2 => x1 ++ x2) #[] (List.replicate (if its.toArray.isEmpty = true then 0 else k.toNat) its.toArray) = (List.replicate k.toNat its).flatten.toArray := by
    have f0 : ∀ m : Nat, List.foldl (fun x1 x2 => x1 ++ x2) #[] (List.replicate m its.toArray) = (List.replicate m its).flatten.toArray := fun m => by
      have := foldl_rep its m []
      rw [List.nil_append] at this
      exact this
    rw [f0]
    cases its with
    | nil => simp
    | cons a r' => rw [if_neg (by simp)]
  refine wpAny_binaryOp_repeat_ref (T := "list") (U := "int") (by decide) ⟨_, e, rfl⟩ (fun s' => typeIs_int s' k t) noFill_list_mul F.fills_int_mul F.slot_int_rmul repeat_list F.slot_int_index.lookup
    (call_meets F.slot_int_rmul (typeIs_int s k t) F.entry_int_rmul (F.args_int_rmul_2 _ _) (int___rmul___int_list k t l its.toArray n)
      ⟨e, rfl, ⟨_, e, rfl⟩, call_meets F.slot_list_mul ⟨_, e, rfl⟩ F.entry_list_mul (F.args_list_mul_2 _ _) (AutoListH.list___mul___list_int_3 l its.toArray n k t hfit hcap hlong) ⟨e, ?_⟩⟩)
  rw [hnew]
  exact ⟨.ref _, _, I.lnew (t' := s.toks) (r.rep k.toNat) (by rw [len_rep, Nat.mul_comm]; exact hz), rfl, q _ I.fresh⟩

/-! ### del xs[i] -/
end

/-! ### xs[a:b] = ys -/
section
variable {prog : Program} {w : World} {A : Around} {E : Value → Shared → Prop} {s : Shared}
end

section
variable {X : Cx}
end
end L2

namespace L2
open PySem PySem.Spec PyProof.Rows

theorem Vals.ints : ∀ {ns : List Int} {us : List Value}, Vals (ns.map V.int) us → IntsAre us ns
  | [], us, h => by
    rw [List.map_nil] at h
    cases h
    exact IntsAre.nil
  | n :: ns, us, h => by
    rw [List.map_cons] at h
    cases h with
    | cons r t =>
      obtain ⟨k, rfl⟩ := r
      exact IntsAre.cons n k (Vals.ints t)
theorem Vals.ref1 {a : Addr} {us : List Value} (r : Vals [V.ref a] us) : us = [Value.ref a] := by
  cases r with
  | cons r t =>
    cases t
    cases r
    rfl
/-! ### the library's walks over a list of ints, kept objects alone -/
section
variable {prog : Program} {w : World} {A : Around} {E : Value → Shared → Prop} {s : Shared} {l : Addr} {its : List Value} {ns : List Int} {Q : Value → Shared → Prop}
theorem sum_raw (hh : A.handled = none) (hl : s.heap.IsList l its.toArray) (hi : IntsAre its ns)
    (h : ∀ h' tk t', (∀ b o, s.heap.get? b = some o → h'.get? b = some o) → Q (.int ns.sum t') { s with heap := h', toks := tk }) : wpAny (model prog w) A (call (.builtin "sum") [.ref l]) Q E s := by
  obtain ⟨xs, e⟩ := hi.allInts.items
  have hn : numsOf (intItems xs).toList = ns := by rw [← e]; exact hi.numsOf
  rw [nums_intItems] at hn
  rw [e] at hl
  refine PySem.sum_intListG hh hl fun h' tk t' hk => ?_
  have := h h' tk t' hk
  rw [preSum_eq, List.take_of_length_le (by simp), hn]; exact this
theorem max_raw (hh : A.handled = none) (hl : s.heap.IsList l its.toArray) (hi : IntsAre its ns) (hne : 0 < ns.length)
    (h : ∀ h' tk M t', (∀ b o, s.heap.get? b = some o → h'.get? b = some o) → M ∈ ns → (∀ a, a ∈ ns → a ≤ M) → Q (.int M t') { s with heap := h', toks := tk }) : wpAny (model prog w) A (call (.builtin "max") [.ref l]) Q E s := by
  obtain ⟨xs, e⟩ := hi.allInts.items
  have hn : numsOf (intItems xs).toList = ns := by rw [← e]; exact hi.numsOf
  rw [nums_intItems] at hn
  subst hn
  rw [e] at hl
  have hsz : 0 < xs.size := by simpa using hne
  refine PySem.max_intList hh hl hsz fun v h' tk hv hk => ?_
  obtain ⟨t, rfl⟩ := intItems_at hv
  obtain ⟨h1, h2⟩ := argBest_gt (numAt xs) (xs.size - 1)
  refine h h' tk _ t hk ?_ fun a ha => ?_
  · rw [numAt_eq]; exact PySem.getD_mem (by rw [List.length_map, Array.length_toList]; omega)
  · obtain ⟨j, hj, rfl⟩ := mem_getD ha
    rw [List.length_map, Array.length_toList] at hj
    rw [← numAt_eq]; exact h2 j (by omega)
end

/-! ### the calls, by values (CallR of 03t; MtR of 06l) -/
section
variable {X : Cx}
/-- sum(xs) of a list of ints -/
def rSum (K : PySem.W.Frag) : List V → Hp → VK → Prop := fun vs H Q => ∃ (a : Addr) (ns : List Int), vs = [V.ref a] ∧ SqL K H a (ns.map V.int) ∧ Q (.int ns.sum) H
/-- max(xs), min(xs) of a list of ints -/
def rMax (K : PySem.W.Frag) : List V → Hp → VK → Prop := fun vs H Q => ∃ (a : Addr) (ns : List Int), vs = [V.ref a] ∧ SqL K H a (ns.map V.int) ∧ 0 < ns.length ∧ ∀ m, m ∈ ns → (∀ y, y ∈ ns → y ≤ m) → Q (.int m) H
theorem cr_sum (hc : X.calm = true) : CallR X (.builtin "sum") (rSum X.K) := by
  intro pins s σ H vs us Q I r h
  obtain ⟨a, ns, rfl, hs, q⟩ := h
  obtain ⟨its, rv, hl, _⟩ := I.list hs
  rw [Vals.ref1 r]
  exact sum_raw (I.ok.hd hc) hl.isList rv.ints fun h' tk t' hk => ⟨.int _, H, I.kept hk, ⟨_, rfl⟩, q⟩
theorem cr_max (hc : X.calm = true) : CallR X (.builtin "max") (rMax X.K) := by
  intro pins s σ H vs us Q I r h
  obtain ⟨a, ns, rfl, hs, hne, q⟩ := h
  obtain ⟨its, rv, hl, _⟩ := I.list hs
  rw [Vals.ref1 r]
  exact max_raw (I.ok.hd hc) hl.isList rv.ints hne fun h' tk m t' hk h1 h2 => ⟨.int _, H, I.kept hk, ⟨_, rfl⟩, q m h1 h2⟩
/-! sorted, sort (fewer than 64 items: the library's own bound) -/
end

/-! ### list.index, flat items -/
section
variable {X : Cx}
def rIndex (K : PySem.W.Frag) : V → List V → Hp → VK → Prop := fun x xs H Q => ∃ (a : Addr) (ys : List V) (y : V) (j : Nat) (z : V), x = V.ref a ∧ xs = [y] ∧ SqL K H a ys ∧ flatV y = true ∧ ys.all flatV = true ∧ ys[j]? = some z ∧ eqV z y = true ∧
  (∀ (m : Nat) (z' : V), m < j → ys[m]? = some z' → eqV z' y = false) ∧ Q (.int (j : Nat)) H
theorem flat_at {ys : List V} (f : ys.all flatV = true) {j : Nat} {z : V} (h : ys[j]? = some z) : flatV z = true := List.all_eq_true.mp f z (List.mem_of_getElem? h)
theorem mt_index : MtR X "list.index" (rIndex X.K) := by
  intro pins s σ H x xs v us Q I rx rxs h
  obtain ⟨a, ys, y, j, z, rfl, rfl, hs, fy, fys, hz, hzj, hno, q⟩ := h
  cases rx
  cases rxs with
  | cons ry rt =>
    rename_i uy ut
    cases rt
    obtain ⟨its, rv, ⟨⟨cls, dd, data, sl⟩, n, ho, hc, hdn, hd⟩, hlen⟩ := I.list hs
    simp only at hc hd
    subst hc hd
    obtain ⟨u, hu, ru⟩ := rv.get hz
    obtain ⟨hjl, hje⟩ := List.getElem?_eq_some_iff.mp hu
    have hvl := rv.length
    have hj : j < its.toArray.size := by simpa using hjl
    have hsl := sizeLine_eq
    refine call_meets PySem.F.slot_list_index ⟨_, ho, rfl⟩ PySem.F.entry_list_index (PySem.F.args_list_index_2 _ _)
      (SeqAt.list_indexAt a its.toArray n dd sl uy (eqU y) j hj (by omega) ?_ ?_) ⟨ho, fun u' hu' => mem_eqAt ry fy rv fys u' (by simpa using hu'), ?_⟩
    · have e1 : its.toArray[j] = u := by simpa using hje
      rw [e1, eqU_of ru (flat_at fys hz)]
      exact hzj
    · intro m hm hmj
      have hml : m < its.length := by simpa using hm
      have hmy : m < ys.length := by omega
      have hy' : ys[m]? = some ys[m] := List.getElem?_eq_getElem hmy
      obtain ⟨u2, hu2, ru2⟩ := rv.get hy'
      obtain ⟨_, hme⟩ := List.getElem?_eq_some_iff.mp hu2
      have e1 : its.toArray[m] = u2 := by simpa using hme
      rw [e1, eqU_of ru2 (flat_at fys hy')]
      exact hno m _ hmj hy'
    · exact ⟨.int (j : Nat), H, I.tok _, ⟨_, rfl⟩, q⟩
end

/-! ### type(x) of an own instance; is, is not of a module's class -/
section
variable {X : Cx}
end

/-! ### any(xs), all(xs) of a list of bools -/
section
variable {X : Cx}
end

/-! ### == and != of data at any depth: none, bools, ints, texts, lists, tuples -/
mutual
inductive Dp (K : PySem.W.Frag) (H : Hp) : V → PyData → Prop
  | non : Dp K H .non .none
  | bl (b : Bool) : Dp K H (.bl b) (.bool b)
  | int (i : Int) : Dp K H (.int i) (.int i)
  | str (x : Str) : Dp K H (.str x) (.str x)
  | lst {a : Addr} {xs : List V} {ds : List PyData} : SqL K H a xs → DpAll K H xs ds → Dp K H (.ref a) (.list ds)
  | tup {a : Addr} {xs : List V} {ds : List PyData} : SqT K H a xs → DpAll K H xs ds → Dp K H (.ref a) (.tuple ds)
inductive DpAll (K : PySem.W.Frag) (H : Hp) : List V → List PyData → Prop
  | nil : DpAll K H [] []
  | cons {v : V} {vs : List V} {d : PyData} {ds : List PyData} : Dp K H v d → DpAll K H vs ds → DpAll K H (v :: vs) (d :: ds)
end
section
variable {X : Cx} {pins : List (Addr × Obj)} {σ : St} {H : Hp} {s : Shared}
mutual
theorem Dp.reads (I : Inv X pins σ H s) : ∀ (d : PyData) (v : V) (u : Value), Dp X.K H v d → RelV v u → ∃ as, Reads s.heap u d as
  | .none, _, _, h, r => by
    cases h
    cases r
    exact ⟨_, Reads.none⟩
  | .bool b, _, _, h, r => by
    cases h
    cases r
    exact ⟨_, Reads.bool b⟩
  | .int i, _, _, h, r => by
    cases h
    obtain ⟨t, rfl⟩ := r
    exact ⟨_, Reads.int i t⟩
  | .str x, _, _, h, r => by
    cases h
    obtain ⟨t, rfl⟩ := r
    exact ⟨_, Reads.str x t⟩
  | .list ds, _, _, h, r => by
    cases h with
    | lst hs ha =>
      cases r
      obtain ⟨its, rv, ⟨o, n, ho, hc, _, hd⟩, _⟩ := I.list hs
      obtain ⟨as, hr⟩ := Dp.readsAll I ds _ its ha rv
      exact ⟨_, Reads.list ho hc hd hr⟩
  | .tuple ds, _, _, h, r => by
    cases h with
    | tup hs ha =>
      cases r
      obtain ⟨its, rv, ⟨o, ho, hc, n, hd⟩, _⟩ := I.tuple hs
      obtain ⟨as, hr⟩ := Dp.readsAll I ds _ its ha rv
      exact ⟨_, Reads.tuple ho hc hd hr⟩
  | .dict _, _, _, h, _ => by cases h
theorem Dp.readsAll (I : Inv X pins σ H s) : ∀ (ds : List PyData) (vs : List V) (us : List Value), DpAll X.K H vs ds → Vals vs us → ∃ as, ReadsAll s.heap us ds as
  | [], _, _, h, r => by
    cases h
    cases r
    exact ⟨_, ReadsAll.nil⟩
  | d :: ds, _, _, h, r => by
    cases h with
    | cons h1 h2 =>
      cases r with
      | cons r1 r2 =>
        obtain ⟨as, q1⟩ := Dp.reads I d _ _ h1 r1
        obtain ⟨bs, q2⟩ := Dp.readsAll I ds _ _ h2 r2
        exact ⟨_, ReadsAll.cons q1 q2⟩
end
end
section
variable {X : Cx}
end
end L2

namespace L2
open PySem PySem.Spec PyProof.Rows
abbrev CellAt (h : Heap) (c : Addr) (v : Option Value) : Prop := h.IsCell c v
def relS (scope sc : Scope) : Scope :=
  { scope with names := scope.names.map fun (n, k) => if (k == .free && sc.kind == .function && sc.names.lookup n == some .cell) then (n, .cell) else (n, k) }

def cloFrom (cells : List (Str × Addr)) : List (Str × NameKind) → List (Str × Addr) → List (Str × Addr)
  | [], acc => acc
  | (n, k) :: r, acc => if k == .free then cloFrom cells r ((n, (cells.lookup n).getD 0) :: acc) else cloFrom cells r acc

theorem closure_loop (env : Env) (f : Str × NameKind → List (Str × Addr) → Sem (ForInStep (List (Str × Addr))))
    (hf : ∀ n k c, f (n, k) c = if k == .free then (do let a ← cellOf env n; pure (.yield ((n, a) :: c))) else pure (.yield c)) :
    ∀ (names : List (Str × NameKind)) (acc : List (Str × Addr)), (∀ y ∈ names, y.2 = .free → ∃ c, env.cells.lookup y.1 = some c) → forIn names acc f = pure (cloFrom env.cells names acc)
  | [], acc, _ => by rw [List.forIn_nil]; rfl
  | (n, k) :: r, acc, h => by
    rw [List.forIn_cons, hf]
    have ih := fun acc => closure_loop env f hf r acc fun y hy => h y (List.mem_cons_of_mem _ hy)
    unfold cloFrom
    by_cases hk : (k == NameKind.free) = true
    · rw [if_pos hk, if_pos hk]
      obtain ⟨c, hc⟩ := h (n, k) List.mem_cons_self (by simpa using hk)
      have e : cellOf env n = pure c := by unfold cellOf; rw [hc]
      rw [e]
      have e2 : (env.cells.lookup n).getD 0 = c := by rw [hc]; rfl
      rw [e2]
      exact ih _
    · rw [if_neg hk, if_neg hk]
      exact ih _
theorem closure_ok {scope : Scope} {env : Env} (h : ∀ y ∈ scope.names, y.2 = .free → ∃ c, env.cells.lookup y.1 = some c) : closureFor scope env = pure (cloFrom env.cells scope.names []) := by
  simp only [closureFor]
  rw [closure_loop env _ (fun n k c => rfl) scope.names [] h]
  rfl

theorem mem_lookup {α : Type} : ∀ {l : List (Str × α)} {n : Str} {c : α}, (n, c) ∈ l → ∃ c', l.lookup n = some c'
  | (k, v) :: r, n, c, h => by
    rw [List.lookup_cons]
    cases hb : n == k with
    | true => exact ⟨_, rfl⟩
    | false =>
      rcases List.mem_cons.mp h with e | h
      · cases e; simp at hb
      · exact mem_lookup h

theorem cloFrom_mem {cells : List (Str × Addr)} : ∀ {names : List (Str × NameKind)} {acc : List (Str × Addr)} {n : Str} {c : Addr}, (n, c) ∈ cloFrom cells names acc → (n, c) ∈ acc ∨ ((n, .free) ∈ names ∧ c = (cells.lookup n).getD 0)
  | [], _, _, _, h => .inl h
  | (m, k) :: r, acc, n, c, h => by
    unfold cloFrom at h
    split at h
    · rename_i hk
      have hk : k = .free := by simpa using hk
      rcases cloFrom_mem h with h | ⟨h1, h2⟩
      · rcases List.mem_cons.mp h with e | h
        · cases e; exact .inr ⟨hk ▸ List.mem_cons_self, rfl⟩
        · exact .inl h
      · exact .inr ⟨List.mem_cons_of_mem _ h1, h2⟩
    · rcases cloFrom_mem h with h | ⟨h1, h2⟩
      · exact .inl h
      · exact .inr ⟨List.mem_cons_of_mem _ h1, h2⟩
theorem cloFrom_acc {cells : List (Str × Addr)} : ∀ {names : List (Str × NameKind)} {acc : List (Str × Addr)} {p : Str × Addr}, p ∈ acc → p ∈ cloFrom cells names acc
  | [], _, _, h => h
  | (m, k) :: r, acc, p, h => by
    unfold cloFrom
    split
    · exact cloFrom_acc (List.mem_cons_of_mem _ h)
    · exact cloFrom_acc h
theorem cloFrom_has {cells : List (Str × Addr)} : ∀ {names : List (Str × NameKind)} {acc : List (Str × Addr)} {n : Str}, (n, .free) ∈ names → (n, (cells.lookup n).getD 0) ∈ cloFrom cells names acc
  | (m, k) :: r, acc, n, h => by
    unfold cloFrom
    rcases List.mem_cons.mp h with e | h
    · cases e
      exact cloFrom_acc List.mem_cons_self
    · split
      · exact cloFrom_has h
      · exact cloFrom_has h

theorem cells_mem : ∀ {names : List (Str × NameKind)} {h : Heap} {acc : List (Str × Addr)} {x : Str} {c : Addr}, (x, c) ∈ cellsFrom h.objs.size names acc →
    (x, c) ∈ acc ∨ ((x, .cell) ∈ names ∧ h.objs.size ≤ c ∧ CellAt (pushCells h names) c none)
  | [], _, _, _, _, h => .inl h
  | (n, k) :: r, h, acc, x, c, hm => by
    unfold cellsFrom at hm
    unfold pushCells
    split at hm
    · rename_i hk
      rw [if_pos hk]
      have hk : k = .cell := by simpa using hk
      rw [← Heap.size_push h { cls := .type "cell", data := .cell none }] at hm
      rcases cells_mem hm with hm | ⟨h1, h2, h3⟩
      · rcases List.mem_cons.mp hm with e | hm
        · cases e
          exact .inr ⟨hk ▸ List.mem_cons_self, Nat.le_refl _, _, pushCells_keeps r _ _ _ (Heap.get?_push_size _ rfl), rfl⟩
        · exact .inl hm
      · rw [Heap.size_push] at h2
        exact .inr ⟨List.mem_cons_of_mem _ h1, Nat.le_of_succ_le h2, h3⟩
    · rename_i hk
      rw [if_neg hk]
      rcases cells_mem hm with hm | ⟨h1, h2, h3⟩
      · exact .inl hm
      · exact .inr ⟨List.mem_cons_of_mem _ h1, h2, h3⟩
theorem cells_acc : ∀ {names : List (Str × NameKind)} {n : Nat} {acc : List (Str × Addr)} {p : Str × Addr}, p ∈ acc → p ∈ cellsFrom n names acc
  | [], _, _, _, h => h
  | (m, k) :: r, n, acc, p, h => by
    unfold cellsFrom
    split
    · exact cells_acc (List.mem_cons_of_mem _ h)
    · exact cells_acc h
theorem cells_has : ∀ {names : List (Str × NameKind)} {n : Nat} {acc : List (Str × Addr)} {x : Str}, (x, .cell) ∈ names → ∃ c, (x, c) ∈ cellsFrom n names acc
  | (m, k) :: r, n, acc, x, h => by
    unfold cellsFrom
    rcases List.mem_cons.mp h with e | h
    · cases e
      exact ⟨n, cells_acc List.mem_cons_self⟩
    · split
      · exact cells_has h
      · exact cells_has h
theorem cells_inj : ∀ {names : List (Str × NameKind)} {h : Heap} {acc : List (Str × Addr)} {x y : Str} {c : Addr}, (∀ p ∈ acc, p.2 < h.objs.size) → (∀ x y c, (x, c) ∈ acc → (y, c) ∈ acc → x = y) →
    (x, c) ∈ cellsFrom h.objs.size names acc → (y, c) ∈ cellsFrom h.objs.size names acc → x = y
  | [], _, _, _, _, _, _, hi, h1, h2 => hi _ _ _ h1 h2
  | (n, k) :: r, h, acc, x, y, c, hl, hi, h1, h2 => by
    unfold cellsFrom at h1 h2
    split at h1
    · rename_i hk
      rw [if_pos hk] at h2
      rw [← Heap.size_push h { cls := .type "cell", data := .cell none }] at h1 h2
      refine cells_inj (h := h.push _) (fun p hp => ?_) (fun x y c a b => ?_) h1 h2
      · rw [Heap.size_push]
        rcases List.mem_cons.mp hp with rfl | hp
        · exact Nat.lt_succ_self _
        · exact Nat.lt_succ_of_lt (hl p hp)
      · rcases List.mem_cons.mp a with e | a <;> rcases List.mem_cons.mp b with e' | b
        · cases e; cases e'; rfl
        · cases e; exact absurd (hl _ b) (Nat.lt_irrefl _)
        · cases e'; exact absurd (hl _ a) (Nat.lt_irrefl _)
        · exact hi _ _ _ a b
    · rename_i hk
      rw [if_neg hk] at h2
      exact cells_inj hl hi h1 h2

theorem newEnv_comp {M : Model} {A : Around} {E : Value → Shared → Prop} {s : Shared} {scope : Scope} {globals : Addr} {closure : List (Str × Addr)} {qual : Str} {func : Option Addr} {code : Value} {around : Env} {builtins : Addr} {Q : Env → Shared → Prop}
    (h : Q (newEnv scope s.heap.objs.size globals (cellsFrom (s.heap.objs.size + 1) scope.names closure) qual func code (some around) builtins)
      { s with heap := pushCells (s.heap.push { cls := .type "dict", data := .dict #[] }) scope.names }) :
    wpAny M A (newFunctionEnv scope globals closure [] qual func code (some around) builtins) Q E s := by
  simp only [newFunctionEnv, Option.isSome_some, if_true]
  refine wpAny_bind (wpAny_alloc ?_)
  refine wpAny_bind (wpAny_layCells _ (fun n k c => rfl) scope.names closure _ _ ?_)
  rw [show ({ s with heap := s.heap.push { cls := .type "dict", data := .dict #[] } } : Shared).heap.objs.size = s.heap.objs.size + 1 from Heap.size_push ..]
  rw [List.forIn_nil]
  exact wpAny_bind (wpAny_pure (wpAny_pure h))

/-- every name of the written scope, in the scope that runs -/
theorem lookup_relS {sc : Scope} : ∀ {names : List (Str × NameKind)} {x : Str} {k : NameKind},
    (names.map fun (n, k) => if (k == NameKind.free && sc.kind == .function && sc.names.lookup n == some .cell) then (n, NameKind.cell) else (n, k)).lookup x = some k →
    ∃ k', names.lookup x = some k' ∧ (k = k' ∨ (k' = .free ∧ k = .cell))
  | [], _, _, h => by simp at h
  | (n, k₀) :: r, x, k, h => by
    have ih := @lookup_relS sc r x k
    have h' : List.lookup x ((if (k₀ == NameKind.free && sc.kind == .function && sc.names.lookup n == some .cell) = true then (n, NameKind.cell) else (n, k₀)) :: (r.map _)) = some k := h
    cases hx : x == n with
    | true =>
      simp only [List.lookup_cons, hx]
      by_cases hc : (k₀ == NameKind.free && sc.kind == .function && sc.names.lookup n == some .cell) = true
      · rw [if_pos hc] at h'
        simp only [List.lookup_cons, hx] at h'
        cases h'
        simp only [Bool.and_eq_true, beq_iff_eq] at hc
        exact ⟨k₀, rfl, .inr ⟨hc.1.1, rfl⟩⟩
      · rw [if_neg hc] at h'
        simp only [List.lookup_cons, hx] at h'
        cases h'
        exact ⟨_, rfl, .inl rfl⟩
    | false =>
      simp only [List.lookup_cons, hx]
      by_cases hc : (k₀ == NameKind.free && sc.kind == .function && sc.names.lookup n == some .cell) = true
      · rw [if_pos hc] at h'
        simp only [List.lookup_cons, hx] at h'
        exact ih h'
      · rw [if_neg hc] at h'
        simp only [List.lookup_cons, hx] at h'
        exact ih h'
/-- the names of a comprehension's block: its own (with their places in N), or captured -/
structure BlkOk (N : List Str) (sc scope : Scope) (own : List (Str × Nat)) : Prop where
  kind : scope.kind = .function
  uniq : ∀ y ∈ scope.names, scope.names.lookup y.1 = some y.2
  ix : ∀ p ∈ own, N[p.2]? = some p.1
  free : ∀ y ∈ scope.names, y.2 = .free → sc.names.lookup y.1 = some .cell ∨ sc.names.lookup y.1 = some .free
  own : ∀ y ∈ scope.names, y.2 = .local ∨ y.2 = .cell → y.1 ∈ own.map (·.1) ∨ y.1 ∉ N
/-- the slots of the block's own names forgotten -/
def wipe (σ : St) : List Nat → St
  | [] => σ
  | v :: vs => (wipe σ vs).set v none
theorem wipe_length (σ : St) : ∀ vs : List Nat, (wipe σ vs).length = σ.length
  | [] => rfl
  | v :: vs => by unfold wipe; rw [List.length_set, wipe_length σ vs]
theorem wipe_some {σ : St} {i : Nat} {x : V} : ∀ {vs : List Nat}, (wipe σ vs)[i]? = some (some x) → σ[i]? = some (some x) ∧ i ∉ vs
  | [], h => ⟨h, by simp⟩
  | v :: vs, h => by
    unfold wipe at h
    by_cases hi : v = i
    · subst hi
      by_cases hv : v < (wipe σ vs).length
      · rw [List.getElem?_set_self hv] at h; cases h
      · rw [List.getElem?_eq_none (by simpa using hv)] at h; cases h
    · rw [List.getElem?_set_ne hi] at h
      obtain ⟨h1, h2⟩ := wipe_some h
      exact ⟨h1, by simp only [List.mem_cons, not_or]; exact ⟨fun e => hi e.symm, h2⟩⟩

/-- the context of a block that starts at s, its iterator's objects at fp -/
abbrev Cx.blk (X : Cx) (s : Shared) (H : Hp) (scope : Scope) (cenv : Env) (fp : List Addr) : Cx := { X with s_0 := s, H_0 := H, env := cenv, outer := X.stack, ex := fp, fn := fun x => scope.names.lookup x == some .cell, pn := [], xe := fun _ _ => False }
section
variable {X : Cx} {pins : List (Addr × Obj)} {σ : St} {H : Hp} {s : Shared}
theorem block_start {scope : Scope} {own : List (Str × Nat)} {fp : List Addr} (I : Inv X pins σ H s) (ok : BlkOk X.N X.env.scope scope own) (hN : X.N.Nodup) (hfp : ∀ b ∈ fp, FpOk X pins H b ∧ b < s.heap.objs.size) :
    Inv (X.blk s H scope (compEnvC scope (cellsFrom (s.heap.objs.size + 1) scope.names (cloFrom X.env.cells scope.names [])) s.heap.objs.size X.env) fp) [] (wipe σ (own.map (·.2))) H { s with heap := pushCells (s.heap.push { cls := .type "dict", data := .dict #[] }) scope.names } := by
  have hfree : ∀ y ∈ scope.names, y.2 = .free → ∃ c, X.env.cells.lookup y.1 = some c := fun y hy e => by
    rcases ok.free y hy e with k | k
    · exact I.ok.has _ (.inl k)
    · exact I.ok.has _ (.inr k)
  generalize hcenv : compEnvC scope (cellsFrom (s.heap.objs.size + 1) scope.names (cloFrom X.env.cells scope.names [])) s.heap.objs.size X.env = cenv
  have kp : ∀ b o, s.heap.get? b = some o → (pushCells (s.heap.push { cls := .type "dict", data := .dict #[] }) scope.names).get? b = some o := fun b o e => pushCells_keeps _ _ _ _ (Heap.get?_push_of_some _ e)
  have hL : cenv.locals = s.heap.objs.size := by rw [← hcenv]; rfl
  have hcl : cenv.cells = cellsFrom (s.heap.objs.size + 1) scope.names (cloFrom X.env.cells scope.names []) := by rw [← hcenv]; rfl
  have hsc : cenv.scope = relS scope X.env.scope := by rw [← hcenv]; rfl
  rw [← Heap.size_push s.heap { cls := .type "dict", data := .dict #[] }] at hcl
  have cm : ∀ {y c}, (y, c) ∈ cloFrom X.env.cells scope.names [] → X.env.cells.lookup y = some c ∧ c < s.heap.objs.size := fun {y c} hm => by
    rcases cloFrom_mem hm with hm | ⟨h1, rfl⟩
    · cases hm
    · obtain ⟨c, hc⟩ := hfree _ h1 rfl
      rw [hc]
      obtain ⟨w, z⟩ := I.cell _ _ hc
      exact ⟨rfl, z.lt⟩
  have mem : ∀ {y c}, cenv.cells.lookup y = some c → (X.env.cells.lookup y = some c ∧ c < s.heap.objs.size) ∨ (s.heap.objs.size + 1 ≤ c ∧ CellAt (pushCells (s.heap.push { cls := .type "dict", data := .dict #[] }) scope.names) c none) := fun {y c} e => by
    rw [hcl] at e
    rcases cells_mem (PySem.mem_of_lookup e) with hm | ⟨_, h2, h3⟩
    · exact .inl (cm hm)
    · rw [Heap.size_push] at h2; exact .inr ⟨h2, h3⟩
  have look : ∀ {y}, scope.names.lookup y = some .free → ∃ c, cenv.cells.lookup y = some c ∧ X.env.cells.lookup y = some c := fun {y} hl => by
    have hy : (y, NameKind.free) ∈ scope.names := PySem.mem_of_lookup hl
    obtain ⟨c', e'⟩ := mem_lookup (cells_acc (names := scope.names) (n := (s.heap.push { cls := .type "dict", data := .dict #[] }).objs.size) (cloFrom_has (cells := X.env.cells) (acc := []) hy))
    rw [← hcl] at e'
    refine ⟨c', e', ?_⟩
    rw [hcl] at e'
    rcases cells_mem (PySem.mem_of_lookup e') with hm | ⟨h1, _, _⟩
    · exact (cm hm).1
    · have := ok.uniq _ h1
      rw [hl] at this; cases this
  have okB : (X.blk s H scope cenv fp).Ok := by
    refine ⟨I.ok.mod, by show cenv.scope.kind = _; rw [hsc]; exact ok.kind, by show cenv.globals = _; rw [← hcenv]; exact I.ok.glob, by show cenv.builtins = _; rw [← hcenv]; exact I.ok.blt, by show s.heap.objs.size ≤ cenv.locals; rw [hL]; exact Nat.le_refl _,
      fun y z c e1 e2 => ?_, fun y hy => ?_, fun y c z e => ?_, I.ok.hd, I.ok.frames, .inl rfl, fun b hb => ⟨?_, fun y c e z => ?_⟩, I.bs, Nat.le_trans I.ok.bsz I.sz, fun b o e hb => ?_, fun b hb z => ?_, I.stack, I.stkFree⟩
    · have e1 : cenv.cells.lookup y = some c := e1
      have e2 : cenv.cells.lookup z = some c := e2
      rw [hcl] at e1 e2
      refine cells_inj (fun p hp => ?_) (fun y z c a b => I.ok.inj y z c (cm a).1 (cm b).1) (PySem.mem_of_lookup e1) (PySem.mem_of_lookup e2)
      rw [Heap.size_push]
      exact Nat.lt_succ_of_lt (cm (y := p.1) (c := p.2) hp).2
    · show ∃ c, cenv.cells.lookup y = some c
      have key : ∀ k, cenv.kindOf y = some k → (k = .cell ∨ k = .free) → ∃ c, cenv.cells.lookup y = some c := fun k hk hk' => by
        unfold Env.kindOf at hk
        rw [hsc] at hk
        obtain ⟨k', e, r⟩ := lookup_relS hk
        have : k' = .cell ∨ k' = .free := by
          rcases r with rfl | ⟨rfl, _⟩
          · exact hk'
          · exact .inr rfl
        rcases this with rfl | rfl
        · obtain ⟨c, hm⟩ := cells_has (n := (s.heap.push { cls := .type "dict", data := .dict #[] }).objs.size) (acc := cloFrom X.env.cells scope.names []) (PySem.mem_of_lookup e)
          obtain ⟨c', e'⟩ := mem_lookup hm
          exact ⟨c', by rw [hcl]; exact e'⟩
        · obtain ⟨c, h1, _⟩ := look e
          exact ⟨c, h1⟩
      rcases hy with hy | hy
      · exact key _ hy (.inl rfl)
      · exact key _ hy (.inr rfl)
    · have z : (scope.names.lookup y == some NameKind.cell) = true := z
      have z : scope.names.lookup y = some .cell := by simpa using z
      have e : cenv.cells.lookup y = some c := e
      rw [hcl] at e
      rcases cells_mem (PySem.mem_of_lookup e) with hm | ⟨_, h2, _⟩
      · rcases cloFrom_mem hm with hm | ⟨h1, _⟩
        · cases hm
        · have q := ok.uniq _ h1
          rw [z] at q; cases q
      · rw [Heap.size_push] at h2
        exact Nat.le_of_succ_le h2
    · show b ≠ cenv.locals
      rw [hL]; exact Nat.ne_of_lt (hfp b hb).2
    · have e : cenv.cells.lookup y = some c := e
      rcases mem e with ⟨h1, _⟩ | ⟨h1, _⟩
      · exact (hfp b hb).1.2.2.2.2.1 y c h1 z
      · have h2 : s.heap.objs.size + 1 ≤ b := by rw [← z]; exact h1
        exact absurd (Nat.lt_of_lt_of_le (hfp b hb).2 (Nat.le_of_succ_le h2)) (Nat.lt_irrefl _)
    · rcases (hfp b hb).1.2.2.2.1 with z | z
      · exact I.ok.noex b o e z
      · exact absurd (Nat.lt_of_lt_of_le (Heap.lt_size e) (Nat.le_trans I.ok.bsz z)) (Nat.lt_irrefl _)
    · rcases List.mem_cons.mp (I.stkSub b z) with z | z
      · exact (hfp b hb).1.2.1 z
      · exact (hfp b hb).1.2.2.1 z
  refine ⟨okB, rfl, I.bare, Un.kept kp, ⟨fun _ => none, ?_, fun i y av e1 e2 e3 => ?_⟩, fun y c e => ?_, ?_, fun y c e => ?_, fun p hp => ?_, I.hok.kept kp, by rw [wipe_length]; exact I.len⟩
  · show Heap.Ns _ cenv.locals _
    rw [hL]
    exact Heap.Ns.keeps (Heap.Ns.new ..) fun b o e => pushCells_keeps _ _ _ _ e
  · obtain ⟨e2, hne⟩ := wipe_some e2
    have hfr : scope.names.lookup y = some .free ∧ (cenv.kindOf y = some .cell ∨ cenv.kindOf y = some .free) := by
      have key : ∀ k, cenv.scope.names.lookup y = some k → k = .local ∨ k = .cell ∨ k = .free → scope.names.lookup y = some .free ∧ (cenv.kindOf y = some .cell ∨ cenv.kindOf y = some .free) := fun k hk hk' => by
        have hk0 := hk
        rw [hsc] at hk
        obtain ⟨k', e, r⟩ := lookup_relS hk
        have no : ¬ (k' = .local ∨ k' = .cell) := fun hh => by
          rcases ok.own _ (PySem.mem_of_lookup e) hh with e' | e'
          · obtain ⟨p, hp, hpy⟩ := List.mem_map.mp e'
            have e3 := ok.ix p hp
            have : p.1 = y := hpy
            rw [this] at e3
            exact hne (List.mem_map.mpr ⟨p, hp, nodup_ix hN e3 e1⟩)
          · exact e' (List.mem_of_getElem? e1)
        rcases r with rfl | ⟨rfl, rfl⟩
        · rcases hk' with rfl | rfl | rfl
          · exact absurd (.inl rfl) no
          · exact absurd (.inr rfl) no
          · exact ⟨e, .inr hk0⟩
        · exact ⟨e, .inl hk0⟩
      have e3 : Vis cenv.scope y := e3
      rcases e3 with e3 | e3 | e3
      · exact key _ e3 (.inl rfl)
      · exact key _ e3 (.inr (.inl rfl))
      · exact key _ e3 (.inr (.inr rfl))
    obtain ⟨m, hn, hl⟩ := I.loc
    have hvis : Vis X.env.scope y := (ok.free _ (PySem.mem_of_lookup hfr.1) rfl).elim (fun k => .inr (.inl k)) (fun k => .inr (.inr k))
    obtain ⟨w, r, q⟩ := hl i y av e1 e2 hvis
    refine ⟨w, r, .inr ⟨hfr.2, ?_⟩⟩
    obtain ⟨c, h1, h2⟩ := look hfr.1
    rcases q with ⟨k, _⟩ | ⟨_, c', e', z⟩
    · have k : X.env.scope.names.lookup y = some .local := k
      rcases ok.free _ (PySem.mem_of_lookup hfr.1) rfl with k' | k' <;> rw [show X.env.scope.names.lookup y = _ from k'] at k <;> cases k
    · rw [h2] at e'; cases e'
      exact ⟨c, h1, z.keeps kp⟩
  · have e : cenv.cells.lookup y = some c := e
    rcases mem e with ⟨h1, _⟩ | ⟨_, z⟩
    · obtain ⟨w, z⟩ := I.cell y c h1
      exact ⟨w, z.keeps kp⟩
    · exact ⟨_, z⟩
  · show H cenv.locals = none
    rw [hL]; exact I.hok.fresh (Nat.le_refl _)
  · have e : cenv.cells.lookup y = some c := e
    rcases mem e with ⟨h1, _⟩ | ⟨h1, _⟩
    · exact I.freeC y c h1
    · exact I.hok.fresh (Nat.le_of_succ_le h1)
  · exact absurd (show p ∈ ([] : List (Addr × Obj)) ++ [] from hp) (by simp)

/-- an item appended to a tracked list -/
theorem app_ok {E : Value → Shared → Prop} {D : Addr} {xs : List V} {y : V} {v : Value} {Q : Value → Shared → Prop} (I : Inv X pins σ H s) (hD : H D = some (.lst xs)) (hz : xs.length < sizeLine) (r : RelV y v)
    (h : ∀ s', Inv X pins σ (upd H D (.lst (xs ++ [y]))) s' → Q .none s') : wpAny (model X.prog X.w) X.A (call (.builtin "list.append") [.ref D, v]) Q E s := by
  obtain ⟨hz', its, n, ri, e⟩ := I.hok D _ hD
  have hl := ri.length
  refine append_at (hsz := by rw [List.size_toArray]; omega) e fun h' sb ho' => ?_
  refine h { s with heap := h' } (I.write (t' := s.toks) (by rw [hD]; trivial) (.inl rfl) (fun b u hb q => (sb.2 b hb).trans q) ⟨_, ho'⟩ ⟨by rw [List.length_append]; exact hz, its ++ [v], n + 1, ri.append (.cons r .nil), ?_⟩)
  rw [ho']
  simp

/-- a clause's tests -/
def PTs (X : Cx) (ifs : List Expr) (t : TT) : Prop :=
  ∀ (pins : List (Addr × Obj)) (s : Shared) (σ : St) (H : Hp) (Q : Bool → Hp → Prop), Inv X pins σ H s → t σ H Q →
    wpAny (model X.prog X.w) X.A (forIn ifs true fun c r => if r = true then do let ok ← isTrue c X.env (eval c X.env); pure (ForInStep.yield ok) else pure (ForInStep.yield r)) (TP X pins σ Q) X.xe s
def tYes : TT := fun _ H Q => Q true H
theorem pts_nil : PTs X [] tYes := fun _ _ _ H _ I h => wpAny_tests_nil ⟨H, I, h⟩
theorem pts_one {c : Expr} {t : TT} (h : PT X c t) : PTs X [c] t := fun pins s σ H Q I hw => wpAny_tests_one (h pins s σ H Q I hw)
end

theorem thnF {α : Type} {t : Sem α} {Q Q' : α → Shared → Prop} {M : Model} {A : Around} {E : Value → Shared → Prop} {s : Shared} (h : wpAny M A t Q (fun _ _ => False) s) (hQ : ∀ a s, Q a s → Q' a s) : wpAny M A t Q' E s := wpAny_mono h hQ fun _ _ z => False.elim z

/-- the loop of a list comprehension's block, the target of any form (codeAny_compLoop_tests asks a target that no tuple goes to; statement and proof follow it, PyProof/CompMap.lean:41-61, with the step letOwnedTupleGo kept) -/
theorem compLoop_any {prog : Program} {w : World} {A : Around} {R : Result → Shared → Prop} {s : Shared} {elt target iter : Expr} {ifs : List Expr} {scope : Scope} {pos : Pos} {it acc : Value} {env : Env} (I : Nat → Shared → Prop)
    (turn : ∀ n s, I n s → wpAny (model prog w) A (pyNext it) (fun r s₁ => match r with
      | none => R (.ok .next) s₁
      | some v => wpAny (model prog w) A (letOwnedTupleGo target it v) (fun _ s₁' => wpAny (model prog w) A (assign target env v) (fun _ s₂ =>
          wpAny (model prog w) A (forIn ifs true fun c r => if r = true then do let ok ← isTrue c env (eval c env); pure (ForInStep.yield ok) else pure (ForInStep.yield r)) (fun ok s₃ =>
            if ok = true then wpAny (model prog w) A (eval elt env) (fun x s₄ =>
              wpAny (model prog w) A (call (.builtin "list.append") [acc, x]) (fun _ s₅ => ∃ m, m < n ∧ I m s₅) (notedBy (model prog w) A env fun e s' => R (.error e) s') s₄) (notedBy (model prog w) A env fun e s' => R (.error e) s') s₃
            else ∃ m, m < n ∧ I m s₃) (notedBy (model prog w) A env fun e s' => R (.error e) s') s₂) (notedBy (model prog w) A env fun e s' => R (.error e) s') s₁') (notedBy (model prog w) A env fun e s' => R (.error e) s') s₁) (notedBy (model prog w) A env fun e s' => R (.error e) s') s)
    (n : Nat) (h : I n s) :
    codeAny (model prog w) A (.compLoop (.ListComp elt [⟨target, iter, ifs, 0⟩] scope pos) 0 it acc env) R s := by
  refine codeAny_loop rfl I (fun n s hI => ?_) n h
  show wpAny _ A ((compTurn (.ListComp elt [⟨target, iter, ifs, 0⟩] scope pos) 0 it acc env).onRaise (fun x => do noteFrame x env; theTreesLotGoes x)) _ _ s
  refine wpAny_noted ?_
  rw [compTurn_list]
  refine wpAny_bind (wpAny_standAt (wpAny_bind (wpAny_mono (turn n s hI) (fun r s₁ h₁ => ?_) fun _ _ h' => h')))
  cases r with
  | none => exact wpAny_pure h₁
  | some v =>
    refine wpAny_bind (wpAny_mono h₁ (fun _ s₁' h₁' => ?_) fun _ _ h' => h')
    refine wpAny_bind (wpAny_mono h₁' (fun _ s₂ h₂ => wpAny_bind (wpAny_mono h₂ (fun ok s₃ h₃ => ?_) fun _ _ h' => h')) fun _ _ h' => h')
    cases ok with
    | false => exact wpAny_pure ⟨rfl, h₃⟩
    | true =>
      exact wpAny_bind (wpAny_bind (wpAny_mono h₃ (fun x s₄ h₄ => wpAny_bind (wpAny_mono h₄ (fun _ s₅ h₅ => wpAny_pure (wpAny_pure ⟨rfl, h₅⟩)) fun _ _ h' => h')) fun _ _ h' => h'))

section
variable {X : Cx}
/-- [elt for target in iter if ..]: D the new list; W by the turn and a measure, Nx what a turn is to reach -/
def tLc (wi : TI) (g : TG) (tt : TT) (te : TE) (vs : List Nat) : TE := fun σ H Q => wi σ H fun J H1 => ∀ D, H1 D = none → ∃ W : Nat → Nat → Hp → Prop, (∃ m, W 0 m (upd H1 D (.lst []))) ∧ ∀ i m H, W i m H →
  (J.stop i H ∧ Q (.ref D) H) ∨ (J.go i H ∧ ∃ Nx : Hp → Prop, (∀ H', Nx H' → ∃ m', m' < m ∧ W (i + 1) m' H') ∧ ∀ x H', J.yld i H x H' → g x (wipe σ vs) H' fun σ2 H2 => wipe σ2 vs = wipe σ vs ∧ tt σ2 H2 fun b H3 =>
    if b = true then te σ2 H3 fun y H4 => ∃ acc, H4 D = some (.lst acc) ∧ acc.length < sizeLine ∧ Nx (upd H4 D (.lst (acc ++ [y]))) else Nx H3)
theorem lc_core {pins : List (Addr × Obj)} {s : Shared} {σ : St} {H : Hp} {Q : VK} {elt tg iter : Expr} {ifs : List Expr} {scope : Scope} {own : List (Str × Nat)} {pos pos' : Pos} {wi : TI} {g : TG} {tt : TT} {te : TE} {use : Option (Value → Sem Unit)} {Qf : Value → Shared → Prop}
    (hc : X.calm = true) (hN : X.N.Nodup) (I : Inv X pins σ H s) (hi : PI X tg iter wi) (ok : BlkOk X.N X.env.scope scope own)
    (hg : ∀ (s : Shared) (H : Hp) (C : Addr) (cl : List (Str × Addr)) (fp : List Addr), PG (X.blk s H scope (compEnvC scope cl C X.env) fp) tg g) (ht : ∀ (s : Shared) (H : Hp) (C : Addr) (cl : List (Str × Addr)) (fp : List Addr), PTs (X.blk s H scope (compEnvC scope cl C X.env) fp) ifs tt)
    (he : ∀ (s : Shared) (H : Hp) (C : Addr) (cl : List (Str × Addr)) (fp : List Addr), PE (X.blk s H scope (compEnvC scope cl C X.env) fp) elt te) (hs : ∀ x, foldedSetIterable iter X.env x = pure x)
    (h : tLc wi g tt te (own.map (·.2)) σ H Q)
    (hRR : ∀ D C s' m H', Inv X pins σ H' s' → Q (.ref D) H' → s'.heap.Ns C m → FpOk X pins H' C → compPost (model X.prog X.w) X.A X.xe use Qf (.ref D) C (.ok .next) s') :
    wpAny (model X.prog X.w) X.A (comprehension (.ListComp elt [⟨tg, iter, ifs, 0⟩] scope pos) scope X.env pos' (newList []) false (eval iter X.env) use) Qf X.xe s := by
  have hfree : ∀ y ∈ scope.names, y.2 = .free → ∃ c, X.env.cells.lookup y.1 = some c := fun y hy e => by
    rcases ok.free y hy e with k | k
    · exact I.ok.has _ (.inl k)
    · exact I.ok.has _ (.inr k)
  refine wpAny_comprehension_free (use := use) rfl hs (closure_ok hfree) ok.kind (fun y hy e => by rw [ok.uniq y hy, e])
    (thn (hi pins s σ H _ I h) fun xv s1 hx => thn hx fun itv s2 h2 => ?_)
  obtain ⟨it, fp, tn, J, H2, e, I2, T, st2, f2, q⟩ := h2
  subst e
  refine wpAny_newObj_type (newEnv_comp ?_) (by show 0 ≤ sizeLine; decide)
  generalize hD : s2.heap.objs.size = D
  have hDn : H2 D = none := I2.hok.fresh (Nat.le_of_eq hD)
  obtain ⟨W, ⟨m0, w0⟩, turn⟩ := q D hDn
  -- the new list
  generalize hs3 : ({ s2 with heap := s2.heap.push { cls := .type "list", data := .seq ([] : List Value).toArray } } : Shared) = s3
  have I3 : Inv X pins σ (upd H2 D (.lst [])) s3 := by
    rw [← hs3]
    refine I2.laid (t' := s2.toks) (fun b o e => Heap.get?_push_of_some _ e) (Nat.le_of_eq hD) ⟨Nat.zero_le _, [], 0, .nil, ?_⟩
    rw [← hD]
    exact Heap.get?_push_size _ rfl
  have h3 : s3.heap = s2.heap.push { cls := .type "list", data := .seq ([] : List Value).toArray } := by rw [← hs3]
  have sz : ∀ b ∈ fp, b < s2.heap.objs.size := fun b hb => by
    obtain ⟨o, e, _⟩ := T.obj _ _ st2 b hb
    exact Heap.lt_size e
  have f3 : ∀ b ∈ fp, FpOk X pins (upd H2 D (.lst [])) b ∧ b < s3.heap.objs.size := fun b hb => by
    have hlt := sz b hb
    refine ⟨⟨?_, (f2 b hb).2⟩, by rw [h3, Heap.size_push]; exact Nat.lt_succ_of_lt hlt⟩
    rw [upd_ne (by rw [← hD]; exact Nat.ne_of_lt hlt)]
    exact (f2 b hb).1
  have st3 : tn 0 s3.heap := T.keep _ _ _ st2 fun b _ o e => by rw [h3]; exact Heap.get?_push_of_some _ e
  have I4 := block_start I3 ok hN f3
  have pg := hg s3 (upd H2 D (.lst [])) s3.heap.objs.size (cellsFrom (s3.heap.objs.size + 1) scope.names (cloFrom X.env.cells scope.names [])) fp
  have pt := ht s3 (upd H2 D (.lst [])) s3.heap.objs.size (cellsFrom (s3.heap.objs.size + 1) scope.names (cloFrom X.env.cells scope.names [])) fp
  have pe := he s3 (upd H2 D (.lst [])) s3.heap.objs.size (cellsFrom (s3.heap.objs.size + 1) scope.names (cloFrom X.env.cells scope.names [])) fp
  show codeAny _ _ (.compStart (.ListComp elt [⟨tg, iter, ifs, 0⟩] scope pos) 0 (.ref it) (.ref D) (compEnvC scope (cellsFrom (s3.heap.objs.size + 1) scope.names (cloFrom X.env.cells scope.names [])) s3.heap.objs.size X.env)) (compPost (model X.prog X.w) X.A X.xe use Qf (.ref D) s3.heap.objs.size) { s3 with heap := pushCells (s3.heap.push { cls := .type "dict", data := .dict #[] }) scope.names }
  have nfp : ∀ b ∈ fp, (upd H2 D (.lst [])) b = none := fun b hb => (f3 b hb).1.1
  generalize hce : compEnvC scope (cellsFrom (s3.heap.objs.size + 1) scope.names (cloFrom X.env.cells scope.names [])) s3.heap.objs.size X.env = ce at I4 pg pt pe ⊢
  have cL : ce.locals = s3.heap.objs.size := by subst hce; rfl
  generalize hH3 : upd H2 D (.lst []) = H3 at I3 I4 pg pt pe w0 nfp f3
  generalize hs4 : ({ s3 with heap := pushCells (s3.heap.push { cls := .type "dict", data := .dict #[] }) scope.names } : Shared) = s4 at I4 ⊢
  have st4 : tn 0 s4.heap := T.keep _ _ _ st3 fun b _ o e => by rw [← hs4]; exact pushCells_keeps _ _ _ _ (Heap.get?_push_of_some _ e)
  have stat : ∀ {σ' : St} {H' : Hp} {s' : Shared}, Inv (X.blk s3 H3 scope ce fp) [] σ' H' s' → (∀ b ∈ fp, H' b = none) → ∀ b ∈ fp, FpOk (X.blk s3 H3 scope ce fp) [] H' b := fun {σ' H' s'} I' hn b hb =>
    ⟨hn b hb, (I'.ok.exf b hb).1, I'.ok.exfs b hb, .inl hb, fun x c e => (I'.ok.exf b hb).2 x c e, fun p hp => absurd (show p ∈ ([] : List (Addr × Obj)) ++ [] from hp) (by simp)⟩
  have loop : codeAny (model X.prog X.w) X.A (.compLoop (.ListComp elt [⟨tg, iter, ifs, 0⟩] scope pos) 0 (.ref it) (.ref D) ce) (compPost (model X.prog X.w) X.A X.xe use Qf (.ref D) s3.heap.objs.size) s4 := by
    refine compLoop_any (fun n s' => ∃ i H', Inv (X.blk s3 H3 scope ce fp) [] (wipe σ (own.map (·.2))) H' s' ∧ tn i s'.heap ∧ (∀ b ∈ fp, H' b = none) ∧ W i n H') ?_ m0 ⟨0, H3, I4, st4, nfp, w0⟩
    rintro n s5 ⟨i, H5, I5, st5, n5, w5⟩
    rcases turn i n H5 w5 with ⟨stop, qq⟩ | ⟨go, Nx, hNx, step⟩
    · have td := T.done (X.blk s3 H3 scope ce fp) rfl rfl rfl hc i [] s5 _ H5 (fun _ _ => False) I5 (stat I5 n5) st5 stop
      refine thnF td fun r s6 ⟨hr, I6⟩ => ?_
      subst hr
      -- back in the def's context
      have I7 : Inv X pins σ H5 s6 := I3.call' (ch := fp) I6.os I6.base I6.hok I6.bare fun b hb => ⟨(f3 b hb).1.2.2.2.1, (f3 b hb).1.2.1, (f3 b hb).1.2.2.2.2.1, (f3 b hb).1.2.2.2.2.2⟩
      have nC : H5 s3.heap.objs.size = none := by
        have z : H5 ce.locals = none := I6.free
        rw [cL] at z
        exact z
      obtain ⟨m, hn, _⟩ := I6.loc
      have hn : s6.heap.Ns ce.locals m := hn
      rw [cL] at hn
      exact hRR D s3.heap.objs.size s6 m H5 I7 qq hn (I3.fpOk (Nat.le_refl _) nC)
    · have ti := T.item (X.blk s3 H3 scope ce fp) rfl rfl rfl hc i [] s5 _ H5 (fun _ _ => False) I5 (stat I5 n5) st5 go
      refine thnF ti fun r s6 ⟨u, hr, h6⟩ => ?_
      subst hr
      refine thnF h6 fun _ s7 ⟨x, H7, I7, r7, y7, st7, n7⟩ => ?_
      have I7' := I7.pinned (stat I7 n7) (T.obj _ _ st7)
      refine thnF (pg _ s7 _ H7 x u _ I7' r7 (step x H7 y7)) fun _ s8 ⟨σ8, H8, I8, hw8, q8⟩ => ?_
      refine thnF (pt _ s8 σ8 H8 _ I8 q8) fun b s9 ⟨H9, I9, q9⟩ => ?_
      -- the turn's end
      have fin : ∀ {s' : Shared} {H' : Hp}, Inv (X.blk s3 H3 scope ce fp) ([] ++ pinsAt fp s7.heap) σ8 H' s' → Nx H' → ∃ m, m < n ∧ ∃ i H', Inv (X.blk s3 H3 scope ce fp) [] (wipe σ (own.map (·.2))) H' s' ∧ tn i s'.heap ∧ (∀ b ∈ fp, H' b = none) ∧ W i m H' := fun {s' H'} I' nx => by
        obtain ⟨m', hm, w'⟩ := hNx H' nx
        have pin' : ∀ b ∈ fp, ∀ o, s7.heap.get? b = some o → s'.heap.get? b = some o ∧ H' b = none := fun b hb o e =>
          let z := I'.pin (b, o) (List.mem_append_right _ (List.mem_append_right _ (mem_pinsAt hb e)))
          ⟨z.1, z.2.1⟩
        have hl : (wipe σ (own.map (·.2))).length = σ8.length := by rw [← hw8, wipe_length]
        refine ⟨m', hm, i + 1, H', (I'.unpinned (pins := [])).weak hl (fun j v e => ?_), T.keep _ _ _ st7 fun b hb o e => (pin' b hb o e).1, fun b hb => ?_, w'⟩
        · rw [← hw8] at e
          exact (wipe_some e).1
        · obtain ⟨o, e, _⟩ := T.obj _ _ st7 b hb
          exact (pin' b hb o e).2
      cases b with
      | false =>
        simp only [Bool.false_eq_true, if_false] at q9 ⊢
        exact fin I9 q9
      | true =>
        simp only [if_true] at q9 ⊢
        refine thnF (pe _ s9 σ8 H9 _ I9 q9) fun z s10 ⟨yv, H10, I10, r10, acc, hD10, hz10, nx⟩ => ?_
        exact app_ok (X := X.blk s3 H3 scope ce fp) I10 hD10 hz10 r10 fun s11 I11 => fin I11 nx
  exact codeAny_compStart_list loop (T.self X.A 0 _ _ _ st4 loop)
/-- as a value -/
theorem pe_lc {elt tg iter : Expr} {ifs : List Expr} {scope : Scope} {own : List (Str × Nat)} {pos : Pos} {wi : TI} {g : TG} {tt : TT} {te : TE} (hc : X.calm = true) (hN : X.N.Nodup) (hi : PI X tg iter wi) (ok : BlkOk X.N X.env.scope scope own)
    (hg : ∀ (s : Shared) (H : Hp) (C : Addr) (cl : List (Str × Addr)) (fp : List Addr), PG (X.blk s H scope (compEnvC scope cl C X.env) fp) tg g) (ht : ∀ (s : Shared) (H : Hp) (C : Addr) (cl : List (Str × Addr)) (fp : List Addr), PTs (X.blk s H scope (compEnvC scope cl C X.env) fp) ifs tt)
    (he : ∀ (s : Shared) (H : Hp) (C : Addr) (cl : List (Str × Addr)) (fp : List Addr), PE (X.blk s H scope (compEnvC scope cl C X.env) fp) elt te) (hs : ∀ x, foldedSetIterable iter X.env x = pure x := by intro _; rfl) :
    PE X (.ListComp elt [⟨tg, iter, ifs, 0⟩] scope pos) (tLc wi g tt te (own.map (·.2))) := by
  intro pins s σ H Q I h
  rw [eval_ListComp]
  refine lc_core hc hN I hi ok hg ht he hs h fun D C s' m H' I' q hn f => ⟨m, hn, fun h'' sb => ?_⟩
  obtain ⟨f0, f1, f2, f3, f4, f5⟩ := f
  exact ⟨.ref D, H', I'.turned (t' := s'.toks) (fun b o hb e => (sb.2 b hb).trans e) f0 f1 f3 f4 f5, rfl, q⟩
/-- name = [..] on one line, the name a local -/
theorem ps_setLc {i : Nat} {y : Str} {py : Pos} {elt tg iter : Expr} {ifs : List Expr} {scope : Scope} {own : List (Str × Nat)} {pos spos : Pos} {wi : TI} {g : TG} {tt : TT} {te : TE} (hc : X.calm = true) (hN : X.N.Nodup) (hy : X.N[i]? = some y) (hyl : X.env.scope.names.lookup y = some .local)
    (hsw : swapsWith (.ListComp elt [⟨tg, iter, ifs, 0⟩] scope pos) (some (.Name y py)) spos.line X.env = pure true) (hi : PI X tg iter wi) (ok : BlkOk X.N X.env.scope scope own)
    (hg : ∀ (s : Shared) (H : Hp) (C : Addr) (cl : List (Str × Addr)) (fp : List Addr), PG (X.blk s H scope (compEnvC scope cl C X.env) fp) tg g) (ht : ∀ (s : Shared) (H : Hp) (C : Addr) (cl : List (Str × Addr)) (fp : List Addr), PTs (X.blk s H scope (compEnvC scope cl C X.env) fp) ifs tt)
    (he : ∀ (s : Shared) (H : Hp) (C : Addr) (cl : List (Str × Addr)) (fp : List Addr), PE (X.blk s H scope (compEnvC scope cl C X.env) fp) elt te) (hs : ∀ x, foldedSetIterable iter X.env x = pure x := by intro _; rfl) :
    PS X (.Assign [.Name y py] (.ListComp elt [⟨tg, iter, ifs, 0⟩] scope pos) spos) (tAsg (tLc wi g tt te (own.map (·.2))) (gName i)) := by
  intro pins s σ H D I h
  rw [exec_Assign_Name_used _ _ _ _ hsw]
  refine wpAny_bind (wpAny_standAt (wpAny_bind ?_))
  show wpAny _ X.A (do let _ ← comprehension (.ListComp elt [⟨tg, iter, ifs, 0⟩] scope pos) scope X.env (firstIterPos [⟨tg, iter, ifs, 0⟩] pos) (newList []) false (eval iter X.env) (some (assign (.Name y py) X.env))) _ _ s
  have h : tLc wi g tt te (own.map (·.2)) σ H (fun x H1 => gName i x σ H1 D.nx) := h
  refine wpAny_bind (thn (lc_core (Qf := fun _ s' => SP X pins D .next s') hc hN I hi ok hg ht he hs h fun L C s' m H' I' q hn f => ?_) fun _ s' hq => wpAny_pure (wpAny_pure hq))
  show wpAny _ _ (assign (.Name y py) X.env (.ref L)) _ _ _
  refine wpAny_assign_Name (store_ok2 (v := V.ref L) I' hN hy (.inl hyl) rfl (fun s2 I2 ⟨a, sb, ha⟩ => ?_) (.inr hyl))
  obtain ⟨f0, f1, f2, f3, f4, f5⟩ := f
  have haC : C ≠ a := by
    rcases ha with z | z
    · rw [z]; exact f1
    · exact fun e => f4 y a z e.symm
  refine ⟨m, hn.sameBut sb haC, fun h3 sb3 => ?_⟩
  exact ⟨_, H', I2.turned (t' := s2.toks) (fun b o hb e => (sb3.2 b hb).trans e) f0 f1 f3 f4 f5, q⟩
theorem sw_true {elt : Expr} {gs : List Comprehension} {scope : Scope} {pos py : Pos} {y : Str} {l : Nat} {env : Env} (hk : env.scope.kind = .function) (hy : env.scope.names.lookup y = some .local) (hl : (py.line == pos.line) = true)
    (ha : (scope.names.any fun (n, k) => n == y && (k == .local || k == .cell)) = false) : swapsWith (.ListComp elt gs scope pos) (some (.Name y py)) l env = pure true := by
  have ky : env.kindOf y = some .local := hy
  have hb : env.blockKind = .function := by unfold Env.blockKind; rw [hk]; rfl
  unfold swapsWith
  simp only [hb, ky, ha, Expr.pos, hl]
  rfl
end

/-! ### the forms one uses -/
/-- over a list that the block leaves as it is -/
theorem lc_list {K : PySem.W.Frag} {a : Addr} {xs : List V} {g : TG} {tt : TT} {te : TE} {vs : List Nat} {σ : St} {H1 : Hp} {D : Addr} {Qd : Hp → Prop} (Pv : Nat → Hp → Prop) (h0 : Pv 0 (upd H1 D (.lst []))) (hl : ∀ i H, i ≤ xs.length → Pv i H → SqL K H a xs)
    (hs : ∀ i x H, xs[i]? = some x → Pv i H → g x (wipe σ vs) H fun σ2 H2 => wipe σ2 vs = wipe σ vs ∧ tt σ2 H2 fun b H3 =>
      if b = true then te σ2 H3 fun y H4 => ∃ acc, H4 D = some (.lst acc) ∧ acc.length < sizeLine ∧ Pv (i + 1) (upd H4 D (.lst (acc ++ [y]))) else Pv (i + 1) H3) (hd : ∀ H, Pv xs.length H → Qd H) :
    ∃ W : Nat → Nat → Hp → Prop, (∃ m, W 0 m (upd H1 D (.lst []))) ∧ ∀ i m H, W i m H →
      ((Itl K a).stop i H ∧ Qd H) ∨ ((Itl K a).go i H ∧ ∃ Nx : Hp → Prop, (∀ H', Nx H' → ∃ m', m' < m ∧ W (i + 1) m' H') ∧ ∀ x H', (Itl K a).yld i H x H' → g x (wipe σ vs) H' fun σ2 H2 => wipe σ2 vs = wipe σ vs ∧ tt σ2 H2 fun b H3 =>
        if b = true then te σ2 H3 fun y H4 => ∃ acc, H4 D = some (.lst acc) ∧ acc.length < sizeLine ∧ Nx (upd H4 D (.lst (acc ++ [y]))) else Nx H3) := by
  refine ⟨fun i m H => m = xs.length - i ∧ i ≤ xs.length ∧ Pv i H, ⟨xs.length, by simp, Nat.zero_le _, h0⟩, ?_⟩
  rintro i m H ⟨rfl, hi, p⟩
  have q := hl i H hi p
  by_cases hlt : i < xs.length
  · refine .inr ⟨⟨xs, xs[i], q, by simp [hlt]⟩, Pv (i + 1), fun H' p' => ⟨xs.length - (i + 1), by omega, rfl, hlt, p'⟩, fun x H' y => ?_⟩
    obtain ⟨e, y⟩ := y
    subst e
    exact hs i x _ (y xs q) p
  · have e : i = xs.length := by omega
    subst e
    exact .inl ⟨⟨xs, q, Nat.le_refl _⟩, hd H p⟩
def blkC (N : List Str) (sc scope : Scope) (own : List (Str × Nat)) : Bool :=
  (match scope.kind with | .function => true | _ => false) && (scope.names.all fun y => decide (scope.names.lookup y.1 = some y.2)) && (own.all fun p => decide (N[p.2]? = some p.1)) &&
    (scope.names.all fun y => match y.2 with
      | .free => (match sc.names.lookup y.1 with | some .cell => true | some .free => true | _ => false)
      | .local => decide (y.1 ∈ own.map (·.1)) || decide (y.1 ∉ N)
      | .cell => decide (y.1 ∈ own.map (·.1)) || decide (y.1 ∉ N)
      | _ => true)
theorem blkOk_by {N : List Str} {sc scope : Scope} {own : List (Str × Nat)} (h : blkC N sc scope own = true) : BlkOk N sc scope own := by
  unfold blkC at h
  simp only [Bool.and_eq_true, List.all_eq_true, decide_eq_true_eq] at h
  obtain ⟨⟨⟨h1, h2⟩, h3⟩, h4⟩ := h
  refine ⟨?_, h2, h3, fun y hy e => ?_, fun y hy e => ?_⟩
  · split at h1
    · assumption
    · cases h1
  · have q := h4 y hy
    simp only [e] at q
    split at q <;> first | exact .inl (by assumption) | exact .inr (by assumption) | cases q
  · have q := h4 y hy
    rcases e with e | e <;> (simp only [e, Bool.or_eq_true, decide_eq_true_eq] at q; exact q)
end L2

namespace L2
open PySem PySem.Spec PyProof.Rows

section
variable {prog : Program} {w : World} {A : Around} {R : Result → Shared → Prop} {s : Shared} {elt t0 i0 t1 i1 : Expr} {ifs0 ifs1 : List Expr} {scope : Scope} {pos : Pos} {it acc : Value} {env : Env}
end

section
variable {X : Cx}
end
end L2

namespace L2
open PySem PySem.Spec PyProof.Rows

/-! ### lists of pairs as tables -/
section
variable {κ : Type} [DecidableEq κ]
end


/-! ### a tracked dict, its keys ints and texts or tuples of these -/
section
variable {P : Program} {w : World} {H : Hp} {h : Heap} {a : Addr}
end

section
variable {X : Cx} {pins : List (Addr × Obj)} {σ : St} {H : Hp} {s : Shared} {a : Addr} {y v : V} {u r : Value} {o : Option V} {A : Around} {E : Value → Shared → Prop}

end

section
variable {X : Cx} {pins : List (Addr × Obj)} {σ : St} {H : Hp} {s : Shared} {a : Addr} {kvs : List (Key × V)} {k : Key} {u : Value} {A : Around} {E : Value → Shared → Prop}
end


/-! ### readings and rules -/
section
variable {X : Cx} {o i e value : Expr} {pos pos' tpos : Pos} {td ty tv : TE}
end


/-! ### displays -/
section
variable {X : Cx} {pos : Pos}
end

/-! ### methods -/
/-- a method call o.m(e) of a built-in, with one argument: what must be seen of the text -/
structure M1 (X : Cx) (o : Expr) (m : Str) (apos : Pos) (e : Expr) (cpos : Pos) : Prop where
  base : attributeBase o m X.env (eval o X.env) = eval o X.env
  few : ((backTo cpos (starEach [e] X.env)).all (fun x => !x.1) && (backToKw cpos (keywordEach [] X.env)).all (fun x => x.1.isSome)
    && decide (([e] : List Expr).length + ([] : List Keyword).length + (if ([] : List Keyword).isEmpty then 0 else 1) < 30)) = true
  line : (apos.endLine == cpos.line) = true
  trees : backTo cpos (starEach [e] X.env) = [(false, eval e X.env)]
structure M2 (X : Cx) (o : Expr) (m : Str) (apos : Pos) (e f : Expr) (cpos : Pos) : Prop where
  base : attributeBase o m X.env (eval o X.env) = eval o X.env
  few : ((backTo cpos (starEach [e, f] X.env)).all (fun x => !x.1) && (backToKw cpos (keywordEach [] X.env)).all (fun x => x.1.isSome)
    && decide (([e, f] : List Expr).length + ([] : List Keyword).length + (if ([] : List Keyword).isEmpty then 0 else 1) < 30)) = true
  line : (apos.endLine == cpos.line) = true
  trees : backTo cpos (starEach [e, f] X.env) = [(false, eval e X.env), (false, eval f X.env)]

section
variable {X : Cx} {pins : List (Addr × Obj)} {σ : St} {H : Hp} {s : Shared} {a : Addr} {y d : V} {u r : Value} {o : Option V} {A : Around} {E : Value → Shared → Prop}
end

section
variable {X : Cx} {o e f : Expr} {apos cpos : Pos} {td ty tx : TE}
end

/-! ### dict(d): a copy -/
section
variable {X : Cx} {pins : List (Addr × Obj)} {σ : St} {H : Hp} {s : Shared} {a : Addr} {kvs : List (Key × V)} {A : Around} {E : Value → Shared → Prop}
end


section
variable {X : Cx} {pins : List (Addr × Obj)} {σ : St} {H : Hp} {s : Shared} {a : Addr} {y : V} {u : Value} {A : Around} {E : Value → Shared → Prop}
end
end L2

namespace L2
open PySem PySem.Spec PyProof.Rows

section
variable {prog : Program} {w : World} {A : Around} {E : Value → Shared → Prop}
end

section
variable {X : Cx}
end
end L2

namespace L2
open PySem PySem.Spec PyProof.Rows

section
variable {X : Cx} {pins : List (Addr × Obj)} {σ : St} {H : Hp} {s : Shared} {h' : Heap}
/-- several records of ours have turned -/
theorem Inv.turnedL {t' : Nat} {ch : List Addr} (I : Inv X pins σ H s) (k : ∀ b o, b ∉ ch → s.heap.get? b = some o → h'.get? b = some o) (hf : ∀ b ∈ ch, FpOk X pins H b) : Inv X pins σ H { s with heap := h', toks := t' } := by
  have nit : ∀ b u, H b = some u → b ∉ ch := fun b u e z => by
    have q := (hf b z).1
    rw [q] at e; cases e
  refine I.step (g' := s.gens) (d' := s.drawn) (ch := ch) (fun b hb => ⟨(hf b hb).2.2.2.1, (hf b hb).2.1, (hf b hb).2.2.2.2.1, (hf b hb).2.2.2.2.2⟩) (fun b o _ _ hc e _ => k b o hc e) (fun b o _ _ hc e _ => ⟨o.slots, k b o hc e⟩)
    (fun _ _ _ _ n => n) (fun b o hc e => ⟨o, k b o hc e⟩) (fun _ _ e => e) (fun _ _ _ e => e) (fun b ps e => ⟨#[], by rw [e]; simp⟩) (fun m hm => ?_) (fun b u e => ?_) I.bare
  · obtain ⟨o, es, ep, ho, r⟩ := hm
    exact ⟨o, es, ep, k _ o (fun z => (hf _ z).2.1 rfl) ho, r⟩
  · refine (I.hok b u e).stay (fun c v hc q => k c v ?_ q) (fun _ q => q) fun _ _ q => q
    rcases hc with z | z
    · rw [z]; exact nit b u e
    · exact nit c _ z
/-- .. and one new object is laid -/
theorem Inv.turnedNew {t' : Nat} {ch : List Addr} {T : Addr} {ob : HO} (I : Inv X pins σ H s) (k : ∀ b o, b ∉ ch → s.heap.get? b = some o → h'.get? b = some o) (hf : ∀ b ∈ ch, FpOk X pins H b) (hT : s.heap.objs.size ≤ T)
    (new : ObjOk X.prog X.w (upd H T ob) h' T ob) : Inv X pins σ (upd H T ob) { s with heap := h', toks := t' } := by
  have hn : H T = none := I.hok.fresh hT
  have nit : ∀ b u, H b = some u → b ∉ ch := fun b u e z => by
    have q := (hf b z).1
    rw [q] at e; cases e
  refine I.step (g' := s.gens) (d' := s.drawn) (ch := ch) (fun b hb => ⟨(hf b hb).2.2.2.1, (hf b hb).2.1, (hf b hb).2.2.2.2.1, (hf b hb).2.2.2.2.2⟩) (fun b o _ _ hc e _ => k b o hc e) (fun b o _ _ hc e _ => ⟨o.slots, k b o hc e⟩)
    (fun b o _ e n => ?_) (fun b o hc e => ⟨o, k b o hc e⟩) (fun b xs e => ?_) (fun b o u e => ?_) (fun b ps e => ⟨#[], ?_⟩) (fun m hm => ?_) (fun b u e => ?_) I.bare
  · rw [upd_ne (Nat.ne_of_lt (Nat.lt_of_lt_of_le (Heap.lt_size e) hT))]; exact n
  · rw [upd_ne (ne_of_none e hn)]; exact e
  · rw [upd_ne (ne_of_none e hn)]; exact e
  · rw [upd_ne (ne_of_none e hn), e]; simp
  · obtain ⟨o, es, ep, ho, r⟩ := hm
    exact ⟨o, es, ep, k _ o (fun z => (hf _ z).2.1 rfl) ho, r⟩
  · by_cases hb : b = T
    · subst hb
      rw [upd_same] at e
      cases e
      exact new
    · rw [upd_ne hb] at e
      refine (I.hok b u e).stay (fun c v hc q => k c v ?_ q) (fun c q => by rw [upd_ne (ne_of_none q hn)]; exact q) fun c xs q => by rw [upd_ne (ne_of_none q hn)]; exact q
      rcases hc with z | z
      · rw [z]; exact nit b u e
      · exact nit c _ z

/-! ### locking a thing while a statement runs -/
end
section
variable {X : Cx}
/-! ### one iterator just laid -/
end

/-! ### range with a step -/
section
variable {X : Cx} {tg : Expr}
end
/-! ### reversed(list) -/
section
variable {X : Cx} {tg : Expr}
end

/-! ### a str -/
/-! ### a dict's keys: any dict's entries -/
section
variable {prog : Program} {w : World} {A : Around} {E : Value → Shared → Prop} {s : Shared}
end

/-! ### a locked dict -/
section
variable {X : Cx} {pins : List (Addr × Obj)} {σ : St} {H : Hp} {s : Shared} {d : Addr} {o : Obj}
end

section
variable {P : Program} {w : World} {K : PySem.W.Frag} {tg : Expr} {d : Addr} {o : Obj} {es : Array DictEntry} {ep : Nat}
end

/-! ### for k in d, d.keys(), d.values(), d.items() -/
section
variable {X : Cx} {tg e : Expr} {td : TE} {apos cpos : Pos}
end

/-! ### enumerate(list) -/
/-! ### zip(list, list) -/
theorem boot_zip5 : bootBuiltins "zip" = some (.type "zip") := by decide +kernel
/-- the lists at a and b as they stand at each turn, the items in new pairs -/
def Itz (K : PySem.W.Frag) (a b : Addr) : It :=
  ⟨fun i H => ∃ (xs ys : List V) (x y : V), SqL K H a xs ∧ SqL K H b ys ∧ xs[i]? = some x ∧ ys[i]? = some y,
    fun i H v H' => ∃ T x y, v = .ref T ∧ H T = none ∧ H' = upd H T (.tup [x, y]) ∧ (∀ xs, SqL K H a xs → xs[i]? = some x) ∧ ∀ ys, SqL K H b ys → ys[i]? = some y,
    fun i H => ∃ xs ys : List V, SqL K H a xs ∧ SqL K H b ys ∧ (xs.length ≤ i ∨ ys.length ≤ i)⟩
theorem turn_zip {P : Program} {w : World} {K : PySem.W.Frag} {elts : List Expr} {kk : Nat} {tpos : Pos} {a b z TI TO i1 i2 : Addr} (D : ZipApart z TI TO i1 i2 a b) :
    Turn P w K (.Tuple elts kk tpos) (Itz K a b) [z, TI, TO, i1, i2] z (fun i h => IsZip h z TI TO .none ∧ IsPair h TI (.ref i1) (.ref i2) ∧ (∃ x y, IsPair h TO x y) ∧ h.IsListIter i1 a i ∧ h.IsListIter i2 b i) where
  mem := by simp
  obj := fun i h st c hc => by
    obtain ⟨hz, hTI, ⟨x, y, hTO⟩, ⟨o1, e1, _, d1⟩, ⟨o2, e2, _, d2⟩⟩ := st
    have e' : c = z ∨ c = TI ∨ c = TO ∨ c = i1 ∨ c = i2 := by simpa using hc
    rcases e' with q | q | q | q | q
    · rw [q]; exact ⟨_, hz, fun v q => nomatch q⟩
    · rw [q]; exact ⟨_, hTI, fun v q => nomatch q⟩
    · rw [q]; exact ⟨_, hTO, fun v q => nomatch q⟩
    · rw [q]; exact ⟨o1, e1, fun v q => by rw [d1] at q; cases q⟩
    · rw [q]; exact ⟨o2, e2, fun v q => by rw [d2] at q; cases q⟩
  keep := fun i h h' st k => by
    obtain ⟨hz, hTI, ⟨x, y, hTO⟩, h1, h2⟩ := st
    exact ⟨k z (by simp) _ hz, k TI (by simp) _ hTI, ⟨x, y, k TO (by simp) _ hTO⟩, h1.at fun o q => k i1 (by simp) o q, h2.at fun o q => k i2 (by simp) o q⟩
  item := by
    intro X hP hw hK hc i pins s σ H E I hf st hg
    subst hP hw hK
    obtain ⟨hz, hTI, ⟨x0, y0, hTO⟩, h1, h2⟩ := st
    obtain ⟨xs, ys, x, y, hqx, hqy, hx, hy⟩ := hg
    obtain ⟨its, rv, p, _⟩ := I.list hqx
    obtain ⟨its2, rv2, p2, _⟩ := I.list hqy
    obtain ⟨u, hu, ru⟩ := rv.get hx
    obtain ⟨u2, hu2, ru2⟩ := rv2.get hy
    have hzl : z < s.heap.objs.size := Heap.lt_size hz
    refine wpAny_pyNext_zip_item D hz hTI hTO h1 h2 p.isList p2.isList (x := u) (y := u2) (by simpa using hu) (by simpa using hu2) fun h' z' TO' h1' h2' hT hsz hk => ?_
    refine ⟨_, rfl, wpAny_letOwnedTupleGo_zip (s := { s with heap := h' }) z' fun h'' z'' sb => ?_⟩
    have hT2 : h''.get? s.heap.objs.size = some { cls := .type "tuple", data := .seq #[u, u2] } := (sb.2 _ (Nat.ne_of_gt hzl)).trans hT
    have new : ObjOk X.prog X.w (upd H s.heap.objs.size (.tup [x, y])) h'' s.heap.objs.size (.tup [x, y]) :=
      ⟨by show 2 ≤ sizeLine; decide, [u, u2], .cons ru (.cons ru2 .nil), ⟨_, hT2, rfl, _, rfl⟩⟩
    have I1 : Inv X pins σ (upd H s.heap.objs.size (.tup [x, y])) { s with heap := h'' } :=
      I.turnedNew (t' := s.toks) (ch := [z, TI, TO, i1, i2]) (fun c o hb q => (sb.2 c (fun q' => hb (by simp [q']))).trans (hk c o (fun q' => hb (by simp [q'])) (fun q' => hb (by simp [q'])) (fun q' => hb (by simp [q'])) (fun q' => hb (by simp [q'])) q)) hf (Nat.le_refl _) new
    refine ⟨.ref s.heap.objs.size, _, I1, rfl, ⟨_, x, y, rfl, I.hok.fresh (Nat.le_refl _), rfl, fun l hl => by rw [I.list_inj hl hqx]; exact hx, fun l hl => by rw [I.list_inj hl hqy]; exact hy⟩, ⟨z'', ?_, ⟨u, u2, ?_⟩, ?_, ?_⟩, fun c hcm => ?_⟩
    · exact (sb.2 _ D.TIz).trans (hk _ _ D.TIz D.TITO D.TIi1 D.TIi2 hTI)
    · exact (sb.2 _ D.TOz).trans TO'
    · exact h1'.at fun o q => (sb.2 _ D.i1z).trans q
    · exact h2'.at fun o q => (sb.2 _ D.i2z).trans q
    · have hlt : c < s.heap.objs.size := by
        have e' : c = z ∨ c = TI ∨ c = TO ∨ c = i1 ∨ c = i2 := by simpa using hcm
        rcases e' with q | q | q | q | q
        · rw [q]; exact hzl
        · rw [q]; exact Heap.lt_size hTI
        · rw [q]; exact Heap.lt_size hTO
        · rw [q]; obtain ⟨_, e1, _⟩ := h1; exact Heap.lt_size e1
        · rw [q]; obtain ⟨_, e2, _⟩ := h2; exact Heap.lt_size e2
      rw [upd_ne (Nat.ne_of_lt hlt)]
      exact (hf c hcm).1
  done := by
    intro X hP hw hK hc i pins s σ H E I hf st hg
    subst hP hw hK
    obtain ⟨hz, hTI, ⟨x0, y0, hTO⟩, h1, h2⟩ := st
    obtain ⟨xs, ys, hqx, hqy, hend⟩ := hg
    obtain ⟨its, rv, p, _⟩ := I.list hqx
    obtain ⟨its2, rv2, p2, _⟩ := I.list hqy
    have l1 := rv.length
    have l2 := rv2.length
    have he : its.toArray[i]? = none ∨ its2.toArray[i]? = none := by
      rcases hend with q | q
      · exact .inl (by simp; omega)
      · exact .inr (by simp; omega)
    exact wpAny_pyNext_zip_end (I.ok.hd hc) D hz hTI hTO h1 h2 p.isList p2.isList he fun h' hk => ⟨rfl, I.turnedL (t' := s.toks) (ch := [z, TI, TO, i1, i2]) (fun c o hb q =>
      hk c o (fun q' => hb (by simp [q'])) (fun q' => hb (by simp [q'])) (fun q' => hb (by simp [q'])) (fun q' => hb (by simp [q'])) q) hf⟩
  self := fun A i s Q E st h => wpAny_pyIter_zip st.1 h
def iZip (K : PySem.W.Frag) (ta : TA) : TI := fun σ H R => ta σ H fun vs H1 => ∃ a b xs ys, vs = [.ref a, .ref b] ∧ SqL K H1 a xs ∧ SqL K H1 b ys ∧ R (Itz K a b) H1
theorem pi_zip {X : Cx} {e e2 : Expr} {ta : TA} {p pos tpos : Pos} {elts : List Expr} {kk : Nat} (hg : Gl X "zip") (hm : X.mg "zip" = none) (ha : PA X [e, e2] ta)
    (hs : starEach [e, e2] X.env = (false, eval e X.env) :: starEach [e2] X.env := by rfl) (hpl : (backTo pos (starEach [e2] X.env)).any (·.1) = false := by rfl) :
    PI X (.Tuple elts kk tpos) (.Call (.Name "zip" p) [e, e2] [] pos) (iZip X.K ta) := by
  intro pins s σ H R I h
  refine Call_ (ld_blt I hg hm boot_zip5 (PyProof.Rows.callWith_type1 (thn (ha pos pins s σ H _ I h) fun us s1 ⟨vs, H1, I1, r1, q1⟩ => ?_) hs hpl))
  obtain ⟨a, b, xs, ys, ex, hqx, hqy, q⟩ := q1
  subst ex
  cases r1 with
  | cons r rr =>
    cases rr with
    | cons r' rr =>
      cases rr
      cases r
      cases r'
      obtain ⟨its, rv, p1, _⟩ := I1.list hqx
      obtain ⟨its2, rv2, p2, _⟩ := I1.list hqy
      have la : a < s1.heap.objs.size := p1.lt
      have lb : b < s1.heap.objs.size := p2.lt
      refine call_zip_2 p1.isList p2.isList fun h' hz hTI hTO h1 h2 hsz hk => wpAny_pyIter_zip hz ?_
      have I2 : Inv X pins σ H1 { s1 with heap := h' } := I1.kept (t' := s1.toks) hk
      refine ⟨s1.heap.objs.size + 4, [s1.heap.objs.size + 4, s1.heap.objs.size + 2, s1.heap.objs.size + 3, s1.heap.objs.size, s1.heap.objs.size + 1], _, _, H1, rfl, I2, turn_zip (PySem.W.ktu_apart s1.heap.objs.size a b la lb), ⟨hz, hTI, ⟨_, _, hTO⟩, h1, h2⟩, fun c hcm => ?_, q⟩
      have e' : c = s1.heap.objs.size + 4 ∨ c = s1.heap.objs.size + 2 ∨ c = s1.heap.objs.size + 3 ∨ c = s1.heap.objs.size ∨ c = s1.heap.objs.size + 1 := by simpa using hcm
      have hle : s1.heap.objs.size ≤ c := by
        rcases e' with z | z | z | z | z
        · rw [z]; exact Nat.le_add_right _ _
        · rw [z]; exact Nat.le_add_right _ _
        · rw [z]; exact Nat.le_add_right _ _
        · rw [z]; exact Nat.le_refl _
        · rw [z]; exact Nat.le_add_right _ _
      exact I1.fpOk hle (I1.hok.fresh hle)
end L2

section 
namespace Bits
open PySem PyProof.Rows

end Bits
end 

section 
namespace TL
open PySem PySem.Builtin PySem.Builtin.Str PySem.StrLaws

/-! ### the list functions -/
/-! ### the model's split and partition are these -/
/-! ### computing spl and par -/
/-! ### digits -/
/-! ### words: x.split() -/
end TL
end 

namespace L2
open PySem PySem.Spec PyProof.Rows

section
variable {X : Cx} {pins : List (Addr × Obj)} {σ : St} {H : Hp} {s : Shared} {Q : VK}
end

section
variable {X : Cx}

/-! ### of a text alone -/
/-! ### of a text and a text -/
end

section
variable {X : Cx} {o e : Expr} {to te : TE}
end
end L2

namespace L2
open PySem PySem.Spec PyProof.Rows

section
variable {X : Cx}
end

/-! ### slices of a text -/
end L2

namespace Att
open PySem PySem.W PySem.Calls PyProof.Rows

/-! ### the script -/
/-! ### the attachment: holds_open's last premise (the goal 'hc' behind k_head) from a wpAny of the law's body -/
/-! ### rules over ANY heap (no ledger) from facts about the written part K: the library's own take a ledger (News) for what they write -/
section
variable {prog : Program} {w : World} {A : Around} {E : Value → Shared → Prop} {s : Shared} {K : Frag}

/-! the whole heap as the ledger: makes every rule that writes through a ledger a rule over any heap -/
end
end Att

namespace L2
open PySem PySem.Spec PyProof.Rows

end L2

namespace L2
open PySem PySem.Spec PyProof.Rows

end L2


/-! SHORT WORDS over the layer: a def of the text, its body, what a loop and a test want. -/
namespace L2
open PySem PySem.Spec PyProof.Rows

/-! ### the text by places -/
/-- the j-th statement of a class's body -/
def inClass (s : Stmt) (j : Nat) : Stmt := match s with
  | .ClassDef _ _ _ body _ _ _ _ _ _ _ => body.getD j (.Pass ⟨0, 0, 0, 0⟩)
  | _ => .Pass ⟨0, 0, 0, 0⟩
def defArgs (s : Stmt) : Arguments := match s with
  | .FunctionDef _ a _ _ _ _ _ _ _ _ => a
  | _ => { posonlyargs := [], args := [], vararg := none, kwonlyargs := [], kw_defaults := [], kwarg := none, defaults := [] }
def defBody (s : Stmt) : List Stmt := match s with
  | .FunctionDef _ _ b _ _ _ _ _ _ _ => b
  | _ => []
def defScope (s : Stmt) : Scope := match s with
  | .FunctionDef _ _ _ _ _ _ sc _ _ _ => sc
  | _ => { kind := .function, names := [], isGenerator := false, isCoroutine := false }

/-! ### no exception leaves a def -/
abbrev CX0 : CXT := fun _ _ _ _ _ _ => False
abbrev E0 : XK := fun _ _ _ => False
theorem pass0 {X : Cx} : Passes CX0 X E0 := fun _ _ _ _ _ _ _ h => h.elim

/-! ### a def (or method) of the text as it stands behind the top -/
structure Fun (K : PySem.W.Frag) (x qual : Str) (st : Stmt) (f : Addr) (fd : FuncData) : Prop where
  ex : ∃ (oc : Value) (od : Option Addr) (kV doc pm : Value) (an : Option Addr) (cdv ct : Value) (osl : Array (Option Value)),
    fd = PySem.W.fnOf x qual (defArgs st) (defBody st) (defScope st) .none kV doc pm an cdv ct ∧ K.lookup f = some ⟨oc, od, .func fd, osl⟩ ∧ PySem.W.codeIn K cdv qual = true
  kp : PySem.W.keepIn K (.ref f) = true
section
variable {P : Program} {w : World} {K : PySem.W.Frag} {mg : Str → Option Value} {base : Heap}
/-- THE RULE for a def: its body as a term of rules, and the reading of that term -/
theorem Fun.ok {x qual : Str} {st : Stmt} {f : Addr} {fd : FuncData} {N ps : List Str} {k : Nat} {sp : Sp} (F : Fun K x qual st f fd) (S : FnScope N ps (defScope st)) (len : ∀ vs H Q E, sp vs H Q E → vs.length = ps.length)
    (hbody : ∀ (cdv : Value) (A : Around) (outer : List Env) (s : Shared) (H : Hp) (vs : List V) (Q : VK) (E : XK), Room k (A.deeper (envOfC qual (defScope st) s.heap.objs.size f cdv)) → sp vs H Q E →
      ∃ t, PSs (cxOf CX0 P w K mg base N qual (defScope st) f cdv A outer s H E).nox (defBody st) t ∧ t { nx := fun _ H' => Q .non H', rt := Q } (start N vs) H) : FnOk P w K mg base CX0 (k + 1) f fd ps sp := by
  obtain ⟨oc, od, kV, doc, pm, an, cdv, ct, osl, rfl, lk, hcd⟩ := F.ex
  refine fn_of lk hcd S len fun A outer s H vs Q E hr hsp => ?_
  obtain ⟨t, h, q⟩ := hbody cdv A outer s H vs Q E hr hsp
  exact ⟨t, h.nox, q⟩
/-- how its arguments bind (no defaults): h is «fun _ _ _ _ _ _ us hl => match us, hl with | [_, _], _ => rfl», one _ a parameter -/
theorem Fun.binds {x qual : Str} {st : Stmt} {f : Addr} {fd : FuncData} {ps : List Str} (F : Fun K x qual st f fd)
    (h : ∀ (kV doc pm : Value) (an : Option Addr) (cdv ct : Value) (us : List Value), us.length = ps.length → bindArgs (PySem.W.fnOf x qual (defArgs st) (defBody st) (defScope st) .none kV doc pm an cdv ct) ⟨us, []⟩ = pure (ps.zip us)) : Binds K fd ps [] := by
  obtain ⟨oc, od, kV, doc, pm, an, cdv, ct, osl, rfl, lk, hcd⟩ := F.ex
  exact .all (h kV doc pm an cdv ct)
theorem fun_mk {x qual : Str} {st : Stmt} {f : Addr} {oc : Value} {od an : Option Addr} {osl : Array (Option Value)} {kV doc pm cdv ct : Value} (l : K.lookup f = some ⟨oc, od, .func (PySem.W.fnOf x qual (defArgs st) (defBody st) (defScope st) .none kV doc pm an cdv ct), osl⟩)
    (c : PySem.W.codeIn K cdv qual = true) (k : PySem.W.keepIn K (.ref f) = true) : Fun K x qual st f (PySem.W.fnOf x qual (defArgs st) (defBody st) (defScope st) .none kV doc pm an cdv ct) := ⟨⟨oc, od, kV, doc, pm, an, cdv, ct, osl, rfl, l, c⟩, k⟩
end
/-! ### expressions in short: the name that stands in the i-th slot -/
section
variable {X : Cx}
theorem pv (i : Nat) {x : Str} {pos : Pos} (hN : X.N[i]? = some x := by rfl) (hv : Vis X.env.scope x := by first | exact Or.inl rfl | exact Or.inr (Or.inl rfl) | exact Or.inr (Or.inr rfl)) (hd : (x == ("__debug__" : Str)) = false := by decide)
    (hcd : (x == ("__classdict__" : Str)) = false := by decide) : PE X (.Name x pos) (tVar i) := pe_var hN hv hd hcd
end

/-! ### tests -/
theorem iteF {A B : Prop} (h : B) : if false = true then A else B := by
  rw [if_neg Bool.false_ne_true]
  exact h
theorem iteT {A B : Prop} (h : A) : if true = true then A else B := by
  rw [if_pos rfl]
  exact h
theorem ite2 {c A B : Prop} [Decidable c] (h1 : c → A) (h2 : ¬ c → B) : if c then A else B := by
  by_cases h : c
  · rw [if_pos h]
    exact h1 h
  · rw [if_neg h]
    exact h2 h
/-! ### heaps -/
/-- all that was tracked is as it was -/
def Same (H H' : Hp) : Prop := ∀ b o, H b = some o → H' b = some o
theorem Same.refl (H : Hp) : Same H H := fun _ _ h => h
theorem Same.trans {H H1 H2 : Hp} (a : Same H H1) (b : Same H1 H2) : Same H H2 := fun c o h => b c o (a c o h)
theorem Same.free {H H' : Hp} (e : Same H H') {l : Addr} (h : H' l = Option.none) : H l = Option.none := by
  cases q : H l with
  | none => rfl
  | some o =>
    rw [e l o q] at h
    cases h
theorem Same.seq {K : PySem.W.Frag} {H H' : Hp} {a : Addr} {xs : List V} (e : Same H H') (h : SqL K H a xs) : SqL K H' a xs := by
  rcases h with (h | ⟨o, h⟩) | h
  · exact .inl (.inl (e _ _ h))
  · exact .inl (.inr ⟨o, e _ _ h⟩)
  · exact .inr h

/-! ### a dict's pairs: keys that differ -/
section
variable {κ : Type} [DecidableEq κ]
end
/-! ### lists -/
/-- a new instance and its __init__ leave all that was tracked as it was -/
theorem Same.made {H H1 : Hp} {x dx C : Addr} (nx : H x = Option.none) (nd : H dx = Option.none) (k : ∀ b o, (upd (upd H dx (.own x)) x (.ins C dx [])) b = some o → b ≠ x → H1 b = some o) : Same H H1 := fun b o e =>
  k b o (by rw [upd_ne (ne_of_none e nx), upd_ne (ne_of_none e nd)]; exact e) (ne_of_none e nx)
end L2

section
set_option Elab.async false
set_option linter.all false
set_option maxRecDepth 100000
set_option maxHeartbeats 2000000
namespace L2
open PySem PySem.Spec PyProof.Rows
open PySem.W (WData Codec OpenSpec Well WellAll ReadsW ReadsAllW)
/-! ### an answer as data -/
mutual
/-- x stands for the datum d, lists and tuples all the way -/
inductive Dw (K : PySem.W.Frag) (H : Hp) : V → WData → Prop
  | non : Dw K H .non .none
  | bl (b : Bool) : Dw K H (.bl b) (.bool b)
  | int (i : Int) : Dw K H (.int i) (.int i)
  | str (x : Str) : Dw K H (.str x) (.str x)
  | byt (b : Array UInt8) : Dw K H (.byt b) (.bytes b.toList)
  | lst {a : Addr} {xs : List V} {ds : List WData} : SqL K H a xs → DwAll K H xs ds → Dw K H (.ref a) (.list ds)
  | tup {a : Addr} {xs : List V} {ds : List WData} : SqT K H a xs → DwAll K H xs ds → Dw K H (.ref a) (.tuple ds)
inductive DwAll (K : PySem.W.Frag) (H : Hp) : List V → List WData → Prop
  | nil : DwAll K H [] []
  | cons {v : V} {vs : List V} {d : WData} {ds : List WData} : Dw K H v d → DwAll K H vs ds → DwAll K H (v :: vs) (d :: ds)
end
theorem dw_ints {K : PySem.W.Frag} {H : Hp} : ∀ ns : List Int, DwAll K H (ns.map V.int) (ns.map WData.int)
  | [] => .nil
  | n :: r => .cons (.int n) (dw_ints r)
theorem ints_dw {K : PySem.W.Frag} {H : Hp} : ∀ (ns : List Int) (xs : List V), DwAll K H xs (ns.map WData.int) → xs = ns.map V.int
  | [], xs, h => by
    cases h
    rfl
  | n :: r, xs, h => by
    cases h with
    | cons h1 h2 =>
      cases h1
      rw [ints_dw r _ h2] <;> rfl
section
variable {P : Program} {w : World} {K : PySem.W.Frag} {H : Hp} {h : Heap} {R : PySem.W.WRecords} {cl : Str → Option Addr}
theorem sqL_at {a : Addr} {xs : List V} (hok : HOk P w H h) (KX : K.In h) (q : SqL K H a xs) : ∃ (its : List Value) (o : Obj) (n : Nat), Vals xs its ∧ h.get? a = some o ∧ o.cls = .type "list" ∧ o.data = .seq its.toArray n := by
  rcases q with q | ⟨o, its, n, e, hc, _, hd, _, hv⟩
  · obtain ⟨_, its, n, hv, e⟩ := (show ObjOk P w H h a (.lst xs) from q.ok hok)
    exact ⟨its, _, n, hv, e, rfl, rfl⟩
  · exact ⟨its.toList, o, n, hv, KX _ _ e, hc, by simp [hd]⟩
theorem sqT_at {a : Addr} {xs : List V} (hok : HOk P w H h) (KX : K.In h) (q : SqT K H a xs) : ∃ (its : List Value) (o : Obj) (n : Nat), Vals xs its ∧ h.get? a = some o ∧ o.cls = .type "tuple" ∧ o.data = .seq its.toArray n := by
  rcases q with q | ⟨o, its, n, e, hc, hd, _, hv⟩
  · obtain ⟨_, its, hv, o, e, hc, n, hd⟩ := (show ObjOk P w H h a (.tup xs) from q.ok hok)
    exact ⟨its, o, n, hv, e, hc, hd⟩
  · exact ⟨its.toList, o, n, hv, KX _ _ e, hc, by simp [hd]⟩
mutual
theorem Dw.reads (hok : HOk P w H h) (KX : K.In h) : ∀ (d : WData) (v : V) (u : Value), Dw K H v d → RelV v u → ∃ as, ReadsW R cl h u d as
  | .none, _, _, x, r => by
    cases x
    cases r
    exact ⟨_, ReadsW.none⟩
  | .bool b, _, _, x, r => by
    cases x
    cases r
    exact ⟨_, ReadsW.bool b⟩
  | .int i, _, _, x, r => by
    cases x
    obtain ⟨t, rfl⟩ := r
    exact ⟨_, ReadsW.int i t⟩
  | .str s, _, _, x, r => by
    cases x
    obtain ⟨t, rfl⟩ := r
    exact ⟨_, ReadsW.str s t⟩
  | .bytes b, _, _, x, r => by
    cases x
    obtain ⟨t, rfl⟩ := r
    exact ⟨_, ReadsW.bytes _ t⟩
  | .list ds, _, _, x, r => by
    cases x with
    | lst hs ha =>
      cases r
      obtain ⟨its, o, n, rv, ho, hc, hd⟩ := sqL_at hok KX hs
      obtain ⟨as, hr⟩ := Dw.readsAll hok KX ds _ its ha rv
      exact ⟨_, ReadsW.list ho hc hd hr⟩
  | .tuple ds, _, _, x, r => by
    cases x with
    | tup hs ha =>
      cases r
      obtain ⟨its, o, n, rv, ho, hc, hd⟩ := sqT_at hok KX hs
      obtain ⟨as, hr⟩ := Dw.readsAll hok KX ds _ its ha rv
      exact ⟨_, ReadsW.tuple ho hc hd hr⟩
  | .float _, _, _, x, _ => by cases x
  | .dict _, _, _, x, _ => by cases x
  | .bytearray _, _, _, x, _ => by cases x
  | .set _, _, _, x, _ => by cases x
  | .frozenset _, _, _, x, _ => by cases x
  | .obj _ _, _, _, x, _ => by cases x
theorem Dw.readsAll (hok : HOk P w H h) (KX : K.In h) : ∀ (ds : List WData) (vs : List V) (us : List Value), DwAll K H vs ds → Vals vs us → ∃ as, ReadsAllW R cl h us ds as
  | [], _, _, x, r => by
    cases x
    cases r
    exact ⟨_, ReadsAllW.nil⟩
  | d :: ds, _, _, x, r => by
    cases x with
    | cons h1 h2 =>
      cases r with
      | cons r1 r2 =>
        obtain ⟨as, q1⟩ := Dw.reads hok KX d _ _ h1 r1
        obtain ⟨bs, q2⟩ := Dw.readsAll hok KX ds _ _ h2 r2
        exact ⟨_, ReadsAllW.cons q1 q2⟩
end
end
/-! ### the arguments -/
mutual
/-- data that a codec tells -/
def plW : WData → Bool
  | .none => true
  | .bool _ => true
  | .int _ => true
  | .str _ => true
  | .bytes _ => true
  | .list xs => plWs xs
  | .tuple xs => plWs xs
  | _ => false
def plWs : List WData → Bool
  | [] => true
  | x :: r => plW x && plWs r
end
theorem plWs_map {α : Type} {f : α → WData} (h : ∀ a, plW (f a) = true) : ∀ l : List α, plWs (l.map f) = true
  | [] => rfl
  | x :: r => by
    show (plW (f x) && plWs (r.map f)) = true
    rw [h x, plWs_map h r] <;> rfl
theorem pl_enc : ∀ (c : Codec) (a : c.denote), plW (c.enc a) = true
  | .unit, _ => rfl
  | .bool, _ => rfl
  | .int _ _, _ => rfl
  | .nat _ _, _ => rfl
  | .u8, _ => rfl
  | .bytes _ _, _ => rfl
  | .text _ _ _ _, _ => rfl
  | .list _ _ c, a => plWs_map (fun x => pl_enc c x) a
  | .pair c d, a => by
    show (plW (c.enc a.1) && (plW (d.enc a.2) && true)) = true
    rw [pl_enc c a.1, pl_enc d a.2] <;> rfl
  | .triple c d e, a => by
    show (plW (c.enc a.1) && (plW (d.enc a.2.1) && (plW (e.enc a.2.2) && true))) = true
    rw [pl_enc c a.1, pl_enc d a.2.1, pl_enc e a.2.2] <;> rfl
  | .option c, none => rfl
  | .option c, some x => pl_enc c x
theorem pl_encAll : ∀ (cs : List Codec) (a : Codec.denoteAll cs), plWs (Codec.encAll cs a) = true
  | [], _ => rfl
  | c :: cs, a => by
    show (plW (c.enc a.1) && plWs (Codec.encAll cs a.2)) = true
    rw [pl_enc c a.1, pl_encAll cs a.2] <;> rfl
theorem weight_mem : ∀ {xs : List WData} {d : WData}, d ∈ xs → d.weight ≤ WData.weightAll xs
  | [], d, h => absurd h (by simp)
  | x :: r, d, h => by
    show d.weight ≤ x.weight + 1 + WData.weightAll r
    rcases List.mem_cons.mp h with e | m
    · rw [e]
      omega
    · have z := weight_mem m
      omega
def toV : Value → V
  | .none => .non
  | .bool b => .bl b
  | .int i _ => .int i
  | .str x _ => .str x
  | .bytes b _ => .byt b
  | .ref a => .ref a
  | _ => .non
/-- a value of the arguments, its objects among A -/
def OkU (A : List Addr) : Value → Prop
  | .none => True
  | .bool _ => True
  | .int _ _ => True
  | .str _ _ => True
  | .bytes _ _ => True
  | .ref a => a ∈ A
  | _ => False
theorem OkU.mono {A B : List Addr} (h : ∀ a ∈ A, a ∈ B) : ∀ {u : Value}, OkU A u → OkU B u := fun {u} x => by
  cases u with
  | ref a => exact h a x
  | none => trivial
  | bool b => trivial
  | int i t => trivial
  | str s t => trivial
  | bytes b t => trivial
  | _ => exact False.elim x
theorem relV_toV {A : List Addr} {u : Value} (x : OkU A u) : RelV (toV u) u := by
  cases u with
  | ref a => rfl
  | none => rfl
  | bool b => rfl
  | int i t => exact ⟨t, rfl⟩
  | str s t => exact ⟨t, rfl⟩
  | bytes b t => exact ⟨t, rfl⟩
  | _ => exact False.elim x
theorem vals_toV {A : List Addr} : ∀ {vs : List Value}, (∀ u ∈ vs, OkU A u) → Vals (vs.map toV) vs
  | [], _ => .nil
  | u :: r, h => .cons (relV_toV (h u (List.mem_cons_self ..))) (vals_toV fun x hx => h x (List.mem_cons_of_mem _ hx))
/-- an object of the arguments -/
def ArgOb (h : Heap) (A : List Addr) (a : Addr) : Prop := ∃ vs : List Value, vs.length ≤ sizeLine ∧ (∀ u ∈ vs, OkU A u) ∧
  (h.get? a = some { cls := .type "list", data := .seq vs.toArray } ∨ h.get? a = some { cls := .type "tuple", data := .seq vs.toArray })
theorem ArgOb.mono {h : Heap} {A B : List Addr} {a : Addr} (k : ∀ a ∈ A, a ∈ B) (x : ArgOb h A a) : ArgOb h B a := by
  obtain ⟨vs, h1, h2, h3⟩ := x
  exact ⟨vs, h1, fun u hu => (h2 u hu).mono k, h3⟩
theorem wellAll_len {P : Params} {h : Heap} : ∀ {vs : List Value} {ds : List WData}, WellAll P h vs ds → vs.length = ds.length
  | _, _, .nil => rfl
  | _, _, .cons _ b => by
    show _ + 1 = _ + 1
    rw [wellAll_len b]
theorem well_list {P : Params} {h : Heap} {v : Value} {ds : List WData} (x : Well P h v (.list ds)) : ∃ (a : Addr) (vs : List Value), v = .ref a ∧ h.get? a = some { cls := .type "list", data := .seq vs.toArray } ∧ WellAll P h vs ds := by
  cases x with
  | list ho hall => exact ⟨_, _, rfl, ho, hall⟩
theorem well_tuple {P : Params} {h : Heap} {v : Value} {ds : List WData} (x : Well P h v (.tuple ds)) : ∃ (a : Addr) (vs : List Value), v = .ref a ∧ h.get? a = some { cls := .type "tuple", data := .seq vs.toArray } ∧ WellAll P h vs ds := by
  cases x with
  | tuple ho hall => exact ⟨_, _, rfl, ho, hall⟩
theorem well_cons {P : Params} {h : Heap} {us : List Value} {d : WData} {ds : List WData} (x : WellAll P h us (d :: ds)) : ∃ (v : Value) (vs : List Value), us = v :: vs ∧ Well P h v d ∧ WellAll P h vs ds := by
  cases x with
  | cons a b => exact ⟨_, _, rfl, a, b⟩
theorem line_of {n : Nat} (h : n ≤ 1048576) : n ≤ sizeLine := Nat.le_trans h (by decide)
section
variable {P : Params} {h : Heap}
mutual
theorem area_one : ∀ (d : WData) (v : Value), Well P h v d → plW d = true → d.weight ≤ 1048576 → ∃ A : List Addr, OkU A v ∧ ∀ a ∈ A, ArgOb h A a
  | .none, _, x, _, _ => by
    cases x
    exact ⟨[], trivial, fun a m => absurd m (by simp)⟩
  | .bool b, _, x, _, _ => by
    cases x
    exact ⟨[], trivial, fun a m => absurd m (by simp)⟩
  | .int i, _, x, _, _ => by
    cases x
    exact ⟨[], trivial, fun a m => absurd m (by simp)⟩
  | .str s, _, x, _, _ => by
    cases x
    exact ⟨[], trivial, fun a m => absurd m (by simp)⟩
  | .bytes b, _, x, _, _ => by
    cases x
    exact ⟨[], trivial, fun a m => absurd m (by simp)⟩
  | .list ds, _, x, p, z => by
    obtain ⟨a, vs, rfl, ho, hall⟩ := well_list x
    have z2 : WData.weightAll ds ≤ 1048576 := z
    obtain ⟨A, h1, h2⟩ := area_all ds _ hall p fun d hd => Nat.le_trans (weight_mem hd) z2
    have k : ∀ b ∈ A, b ∈ a :: A := fun b hb => List.mem_cons_of_mem _ hb
    refine ⟨a :: A, List.mem_cons_self .., fun b hb => ?_⟩
    rcases List.mem_cons.mp hb with e | m
    · rw [e]
      exact ⟨vs, line_of (by rw [wellAll_len hall]; exact Nat.le_trans (PySem.W.length_le_weightAllW ds) z2), fun u hu => (h1 u hu).mono k, .inl ho⟩
    · exact (h2 b m).mono k
  | .tuple ds, _, x, p, z => by
    obtain ⟨a, vs, rfl, ho, hall⟩ := well_tuple x
    have z2 : WData.weightAll ds ≤ 1048576 := z
    obtain ⟨A, h1, h2⟩ := area_all ds _ hall p fun d hd => Nat.le_trans (weight_mem hd) z2
    have k : ∀ b ∈ A, b ∈ a :: A := fun b hb => List.mem_cons_of_mem _ hb
    refine ⟨a :: A, List.mem_cons_self .., fun b hb => ?_⟩
    rcases List.mem_cons.mp hb with e | m
    · rw [e]
      exact ⟨vs, line_of (by rw [wellAll_len hall]; exact Nat.le_trans (PySem.W.length_le_weightAllW ds) z2), fun u hu => (h1 u hu).mono k, .inr ho⟩
    · exact (h2 b m).mono k
  | .float _, _, _, p, _ => Bool.noConfusion (show false = true from p)
  | .dict _, _, _, p, _ => Bool.noConfusion (show false = true from p)
  | .bytearray _, _, _, p, _ => Bool.noConfusion (show false = true from p)
  | .set _, _, _, p, _ => Bool.noConfusion (show false = true from p)
  | .frozenset _, _, _, p, _ => Bool.noConfusion (show false = true from p)
  | .obj _ _, _, _, p, _ => Bool.noConfusion (show false = true from p)
theorem area_all : ∀ (ds : List WData) (vs : List Value), WellAll P h vs ds → plWs ds = true → (∀ d ∈ ds, d.weight ≤ 1048576) → ∃ A : List Addr, (∀ u ∈ vs, OkU A u) ∧ ∀ a ∈ A, ArgOb h A a
  | [], _, x, _, _ => by
    cases x
    exact ⟨[], fun u m => absurd m (by simp), fun a m => absurd m (by simp)⟩
  | d :: ds, _, x, p, z => by
    obtain ⟨v, vs, rfl, x1, x2⟩ := well_cons x
    have q : plW d = true ∧ plWs ds = true := Bool.and_eq_true_iff.mp p
    obtain ⟨A, a1, a2⟩ := area_one d v x1 q.1 (z d (List.mem_cons_self ..))
    obtain ⟨B, b1, b2⟩ := area_all ds vs x2 q.2 fun e he => z e (List.mem_cons_of_mem _ he)
    have kA : ∀ b ∈ A, b ∈ A ++ B := fun b hb => List.mem_append.mpr (.inl hb)
    have kB : ∀ b ∈ B, b ∈ A ++ B := fun b hb => List.mem_append.mpr (.inr hb)
    refine ⟨A ++ B, fun u hu => ?_, fun b hb => ?_⟩
    · rcases List.mem_cons.mp hu with e | m
      · rw [e]
        exact a1.mono kA
      · exact (b1 u m).mono kB
    · rcases List.mem_append.mp hb with m | m
      · exact (a2 b m).mono kA
      · exact (b2 b m).mono kB
end
end
/-- what is tracked of an argument's object -/
def hoOf (o : Obj) : Option HO := match o.data with
  | .seq vs _ => if (o.cls == Value.type "list") = true then some (.frz o (.lst (vs.toList.map toV))) else some (.frz o (.tup (vs.toList.map toV)))
  | _ => none
def argH (K : PySem.W.Frag) (h : Heap) (A : List Addr) : Hp := fun b => if b ∈ A then (if (K.lookup b).isNone = true then (h.get? b).bind hoOf else none) else none
/-- nothing is tracked but what is known to the object -/
def OnlyF (H : Hp) : Prop := ∀ b, H b = none ∨ ∃ o u, H b = some (.frz o u)
theorem hoOf_lst (vs : List Value) : hoOf { cls := .type "list", data := .seq vs.toArray } = some (.frz { cls := .type "list", data := .seq vs.toArray } (.lst (vs.map toV))) := by
  show (if (Value.type "list" == Value.type "list") = true then some (HO.frz { cls := .type "list", data := .seq vs.toArray } (.lst (vs.toArray.toList.map toV))) else some (HO.frz { cls := .type "list", data := .seq vs.toArray } (.tup (vs.toArray.toList.map toV)))) = _
  rw [if_pos (beq_self_eq_true _)]
theorem hoOf_tup (vs : List Value) : hoOf { cls := .type "tuple", data := .seq vs.toArray } = some (.frz { cls := .type "tuple", data := .seq vs.toArray } (.tup (vs.map toV))) := by
  show (if (Value.type "tuple" == Value.type "list") = true then some (HO.frz { cls := .type "tuple", data := .seq vs.toArray } (.lst (vs.toArray.toList.map toV))) else some (HO.frz { cls := .type "tuple", data := .seq vs.toArray } (.tup (vs.toArray.toList.map toV)))) = _
  rw [if_neg (by decide)]
section
variable {P : Program} {w : World} {K : PySem.W.Frag} {h : Heap} {A : List Addr}
theorem argH_at {b : Addr} {o : Obj} (hb : b ∈ A) (hk : K.lookup b = none) (e : h.get? b = some o) : argH K h A b = hoOf o := by
  unfold argH
  rw [if_pos hb, hk, if_pos (show (none : Option Obj).isNone = true from rfl), e] <;> rfl
theorem of_argH {b : Addr} {u : HO} (q : argH K h A b = some u) : b ∈ A ∧ K.lookup b = none := by
  unfold argH at q
  by_cases hb : b ∈ A
  · rw [if_pos hb] at q
    cases hk : K.lookup b with
    | none => exact ⟨hb, rfl⟩
    | some o =>
      rw [hk, if_neg (by simp)] at q
      cases q
  · rw [if_neg hb] at q
    cases q
/-- what stands tracked -/
theorem argH_is (ar : ∀ a ∈ A, ArgOb h A a) {b : Addr} {u : HO} (q : argH K h A b = some u) : K.lookup b = none ∧ ∃ vs : List Value, vs.length ≤ sizeLine ∧ (∀ u ∈ vs, OkU A u) ∧
    ((h.get? b = some { cls := .type "list", data := .seq vs.toArray } ∧ u = .frz { cls := .type "list", data := .seq vs.toArray } (.lst (vs.map toV))) ∨
     (h.get? b = some { cls := .type "tuple", data := .seq vs.toArray } ∧ u = .frz { cls := .type "tuple", data := .seq vs.toArray } (.tup (vs.map toV)))) := by
  obtain ⟨hb, hk⟩ := of_argH q
  obtain ⟨vs, h1, h2, h3⟩ := ar b hb
  refine ⟨hk, vs, h1, h2, ?_⟩
  rcases h3 with e | e
  · rw [argH_at hb hk e, hoOf_lst] at q
    exact .inl ⟨e, (Option.some.inj q).symm⟩
  · rw [argH_at hb hk e, hoOf_tup] at q
    exact .inr ⟨e, (Option.some.inj q).symm⟩
theorem argH_only (ar : ∀ a ∈ A, ArgOb h A a) : OnlyF (argH K h A) := fun b => by
  cases q : argH K h A b with
  | none => exact .inl rfl
  | some u =>
    obtain ⟨_, vs, _, _, ⟨_, e⟩ | ⟨_, e⟩⟩ := argH_is ar q
    · exact .inr ⟨_, _, by rw [e]⟩
    · exact .inr ⟨_, _, by rw [e]⟩
theorem argH_ok (ar : ∀ a ∈ A, ArgOb h A a) : HOk P w (argH K h A) h := fun b u q => by
  obtain ⟨_, vs, h1, h2, ⟨e, rfl⟩ | ⟨e, rfl⟩⟩ := argH_is ar q
  · exact ⟨e, by rw [List.length_map]; exact h1, vs, _, vals_toV h2, e⟩
  · exact ⟨e, by rw [List.length_map]; exact h1, vs, vals_toV h2, _, e, rfl, _, rfl⟩
theorem seq_inj {c c' : Value} {vs us : List Value} (e : (some { cls := c, data := .seq vs.toArray } : Option Obj) = some { cls := c', data := .seq us.toArray }) : c = c' ∧ vs = us := by
  have e1 := Option.some.inj e
  have e2 : c = c' := congrArg Obj.cls e1
  have e3 : Data.seq vs.toArray = Data.seq us.toArray := congrArg Obj.data e1
  injection e3 with e4
  refine ⟨e2, ?_⟩
  have e5 := congrArg Array.toList e4
  simpa using e5
/-- a list argument -/
theorem argL (KX : K.In h) (ar : ∀ a ∈ A, ArgOb h A a) {a : Addr} {vs : List Value} (ha : a ∈ A) (e : h.get? a = some { cls := .type "list", data := .seq vs.toArray }) : (∀ u ∈ vs, OkU A u) ∧ SqL K (argH K h A) a (vs.map toV) := by
  obtain ⟨us, h1, h2, h3⟩ := ar a ha
  have hu : us = vs := by
    rcases h3 with q | q
    · rw [e] at q
      exact (seq_inj q).2.symm
    · rw [e] at q
      exact absurd (Value.type.inj (seq_inj q).1) (by decide)
  subst hu
  refine ⟨h2, ?_⟩
  cases hk : K.lookup a with
  | none => exact .inl (.inr ⟨_, by rw [argH_at ha hk e, hoOf_lst]⟩)
  | some o =>
    have e2 := KX a o hk
    rw [e] at e2
    obtain rfl := Option.some.inj e2
    exact .inr ⟨_, us.toArray, _, hk, rfl, rfl, rfl, by rw [List.size_toArray]; exact h1, by simpa using vals_toV h2⟩
theorem argT (KX : K.In h) (ar : ∀ a ∈ A, ArgOb h A a) {a : Addr} {vs : List Value} (ha : a ∈ A) (e : h.get? a = some { cls := .type "tuple", data := .seq vs.toArray }) : (∀ u ∈ vs, OkU A u) ∧ SqT K (argH K h A) a (vs.map toV) := by
  obtain ⟨us, h1, h2, h3⟩ := ar a ha
  have hu : us = vs := by
    rcases h3 with q | q
    · rw [e] at q
      exact absurd (Value.type.inj (seq_inj q).1) (by decide)
    · rw [e] at q
      exact (seq_inj q).2.symm
  subst hu
  refine ⟨h2, ?_⟩
  cases hk : K.lookup a with
  | none => exact .inl (.inr ⟨_, by rw [argH_at ha hk e, hoOf_tup]⟩)
  | some o =>
    have e2 := KX a o hk
    rw [e] at e2
    obtain rfl := Option.some.inj e2
    exact .inr ⟨_, us.toArray, _, hk, rfl, rfl, by rw [List.size_toArray]; exact h1, by simpa using vals_toV h2⟩
mutual
theorem dw_one {Pm : Params} (KX : K.In h) (ar : ∀ a ∈ A, ArgOb h A a) : ∀ (d : WData) (v : Value), Well Pm h v d → plW d = true → OkU A v → Dw K (argH K h A) (toV v) d
  | .none, _, x, _, _ => by
    cases x
    exact .non
  | .bool b, _, x, _, _ => by
    cases x
    exact .bl b
  | .int i, _, x, _, _ => by
    cases x
    exact .int i
  | .str s, _, x, _, _ => by
    cases x
    exact .str s
  | .bytes b, _, x, _, _ => by
    cases x
    have z := Dw.byt (K := K) (H := argH K h A) b.toArray
    exact z
  | .list ds, _, x, p, hu => by
    obtain ⟨a, vs, rfl, ho, hall⟩ := well_list x
    obtain ⟨h2, hs⟩ := argL KX ar hu ho
    exact .lst hs (dw_all KX ar ds _ hall p h2)
  | .tuple ds, _, x, p, hu => by
    obtain ⟨a, vs, rfl, ho, hall⟩ := well_tuple x
    obtain ⟨h2, hs⟩ := argT KX ar hu ho
    exact .tup hs (dw_all KX ar ds _ hall p h2)
  | .float _, _, _, p, _ => Bool.noConfusion (show false = true from p)
  | .dict _, _, _, p, _ => Bool.noConfusion (show false = true from p)
  | .bytearray _, _, _, p, _ => Bool.noConfusion (show false = true from p)
  | .set _, _, _, p, _ => Bool.noConfusion (show false = true from p)
  | .frozenset _, _, _, p, _ => Bool.noConfusion (show false = true from p)
  | .obj _ _, _, _, p, _ => Bool.noConfusion (show false = true from p)
theorem dw_all {Pm : Params} (KX : K.In h) (ar : ∀ a ∈ A, ArgOb h A a) : ∀ (ds : List WData) (vs : List Value), WellAll Pm h vs ds → plWs ds = true → (∀ u ∈ vs, OkU A u) → DwAll K (argH K h A) (vs.map toV) ds
  | [], _, x, _, _ => by
    cases x
    exact .nil
  | d :: ds, _, x, p, hu => by
    obtain ⟨v, vs, rfl, x1, x2⟩ := well_cons x
    have q : plW d = true ∧ plWs ds = true := Bool.and_eq_true_iff.mp p
    exact .cons (dw_one KX ar d v x1 q.1 (hu _ (List.mem_cons_self ..))) (dw_all KX ar ds vs x2 q.2 fun u m => hu u (List.mem_cons_of_mem _ m))
end
end
/-! ### the call -/
theorem spec_call {P : Program} {w : World} {K : PySem.W.Frag} {mg mb : Str → Option Value} {CX : CXT} {k : Nat} {fa : Addr} {fd : FuncData} {ps : List Str} {sp : Sp} {s₁ : Shared} {vals : List Value} {ds : List WData} {R : PySem.W.WRecords} {cl : Str → Option Addr} {d0 : WData}
    (KX : K.In s₁.heap) (hns : s₁.heap.Ns mainGlobals mg) (hb : s₁.heap.Ns builtinsNs mb) (hbb : ∀ x : Str, x ≠ "__name__" → mb x = bootBuiltins x) (hlim : s₁.heap.NoLimit) (hg : s₁.gens = #[])
    (hwl : WellAll w.params s₁.heap vals ds) (hpl : plWs ds = true) (hwt : ∀ d ∈ ds, d.weight ≤ 1048576) (hr : Room k callerA)
    (F : ∀ base : Heap, K.In base → base.Ns mainGlobals mg → FnOk P w K mg base CX k fa fd ps sp) (hbind : ∀ (s : Shared) (us : List Value), us.length = ps.length → BindsTo s fd ⟨us, []⟩ (ps.zip us)) (hlen : ds.length = ps.length)
    (hsp : ∀ (H : Hp) (xs : List V), OnlyF H → DwAll K H xs ds → sp xs H (fun v H' => Dw K H' v d0) fun _ _ _ => False)
    (hCX : ∀ H e s', CX [] H s₁ (fun _ _ _ => False) e s' → False) :
    codeAny (model P w) callerA (.call (.ref fa) ⟨vals, []⟩) (fun r s' => ∃ u as, r = .ok (.ret u) ∧ ReadsW R cl s'.heap u d0 as ∧ OldK s₁.heap s'.heap ∧ s'.os = s₁.os ∧ AllBare s'.gens) s₁ := by
  obtain ⟨A, ho, ar⟩ := area_all ds vals hwl hpl hwt
  have hO : OnlyF (argH K s₁.heap A) := argH_only ar
  have hok : HOk P w (argH K s₁.heap A) s₁.heap := argH_ok ar
  have hS := dw_all KX ar ds vals hwl hpl ho
  have hV := vals_toV ho
  have hK : ∀ b u, argH K s₁.heap A b = some u → K.lookup b = none := fun b u q => (argH_is ar q).1
  have noA : ∀ {b : Addr} {o : Obj} {es : Array DictEntry} {ep : Nat}, s₁.heap.get? b = some o → o.data = .dict es ep → argH K s₁.heap A b = none := fun {b o es ep} e d => by
    cases q : argH K s₁.heap A b with
    | none => rfl
    | some u =>
      obtain ⟨_, vs, _, _, ⟨e2, _⟩ | ⟨e2, _⟩⟩ := argH_is ar q
      · rw [e2] at e
        cases e
        have d' : Data.seq vs.toArray _ = Data.dict es ep := d
        cases d'
      · rw [e2] at e
        cases e
        have d' : Data.seq vs.toArray _ = Data.dict es ep := d
        cases d'
  generalize argH K s₁.heap A = H at hO hok hS hK noA
  have base_of : ∀ {b : Addr} {o : Obj}, s₁.heap.get? b = some o → H b = none → (hidT s₁.heap H).get? b = some o := fun e n => hidT_get e n
  have nsK : ∀ {b : Addr} {m : Str → Option Value}, s₁.heap.Ns b m → (hidT s₁.heap H).Ns b m := fun {b m} ⟨o, es, ep, e, d, r⟩ => ⟨o, es, ep, base_of e (noA e d), d, r⟩
  have nK : ∀ b o, K.lookup b = some o → H b = none := fun b o e => by
    cases q : H b with
    | none => rfl
    | some u =>
      rw [hK b u q] at e
      cases e
  have hKb : K.In (hidT s₁.heap H) := fun b o e => base_of (KX b o e) (nK b o e)
  have hM : Mod K mg (hidT s₁.heap H) := ⟨hKb, nsK hns, ⟨mb, nsK hb, hbb⟩, let ⟨mc, h1, h2⟩ := hlim; ⟨mc, nsK h1, h2⟩⟩
  have e0 : Env0 P w K mg (hidT s₁.heap H) callerA [] s₁ H := ⟨rfl, hM, fun b o e => of_hidT e, Nat.le_of_eq (hidT_size _ _), trivial, fun b hb => absurd (show b ∈ ([] : List Addr) from hb) (by simp), hok, .of_eq hg⟩
  have hl : vals.length = ps.length := by rw [wellAll_len hwl]; exact hlen
  refine codeAny_mono ((F _ hKb (nsK hns)).run callerA [] s₁ H ⟨vals, []⟩ vals (vals.map toV) _ _ hr e0 (hbind s₁ vals hl) hV (hsp H _ hO hS)) fun r s' x => ?_
  cases r with
  | error e => exact (hCX H e s' x).elim
  | ok fl =>
    cases fl with
    | next => exact False.elim x
    | brk => exact False.elim x
    | cont => exact False.elim x
    | ret u =>
      obtain ⟨v, H', os, bare, un, hok', r', q⟩ := x
      have kept : ∀ b o, s₁.heap.get? b = some o → s'.heap.get? b = some o := fun b o e => by
        cases q2 : H b with
        | none => exact un.keep b o e q2 (by intro z; exact absurd (show b ∈ ([] : List Addr) from z) (by simp)) (by simp)
        | some u2 =>
          rcases hO b with z | ⟨ob, u3, z⟩
          · rw [q2] at z
            cases z
          · have z2 := un.frzs b ob _ z
            obtain ⟨e1, _⟩ := hok b _ z
            obtain ⟨e2, _⟩ := hok' b _ z2
            rw [e] at e1
            cases e1
            exact e2
      have KX' : K.In s'.heap := fun b o e => kept b o (KX b o e)
      obtain ⟨as, hrd⟩ := Dw.reads (R := R) (cl := cl) hok' KX' d0 v u q r'
      exact ⟨u, as, rfl, hrd, OldK.of_keep kept, os, bare⟩
/-! ### the row -/
theorem layable_weight {ds : List WData} (h : WData.layableAll ds = true) : ∀ d ∈ ds, d.weight ≤ 1048576 := fun d hd =>
  (PySem.W.layableW_iff.mp (List.all_eq_true.mp h d hd)).2.2
theorem encAll_len : ∀ (cs : List Codec) (a : Codec.denoteAll cs), (Codec.encAll cs a).length = cs.length
  | [], _ => rfl
  | c :: cs, a => by
    show (Codec.encAll cs a.2).length + 1 = cs.length + 1
    rw [encAll_len cs a.2]
/-- the goal that k_headS leaves (case hc), from the promise of the row's def: whatever the arguments that the codecs let and the row asks for, the def gives what stands for enc (f ..) -/
theorem walk_spec {r : OpenSpec} {k : Nat} {q : Program} {loose : List Str} {XP : (Str → Option Value) → Heap → Prop} {YP : World → Heap → Prop} {d : DefRec} {K : Params → PySem.W.Frag} {CX : World → CXT} {ps : List Str} {sp : World → Sp}
    (hwell : r.wellSaid = true) (hdf : d.params.defaults = []) (hlen : r.args.length = ps.length) (hr : Room k callerA)
    (hY : ∀ (w : World) (h : Heap), YP w h → (K w.params).In h)
    (F : ∀ (w : World) (mg : Str → Option Value) (fa : Addr) (h : Heap), YP w h → (K w.params).In h → h.Ns mainGlobals mg → mg d.name = some (.ref fa) →
      ∃ fd : FuncData, (∀ (s : Shared) (us : List Value), us.length = ps.length → BindsTo s fd ⟨us, []⟩ (ps.zip us)) ∧
        ∀ base : Heap, (K w.params).In base → base.Ns mainGlobals mg → FnOk r.prog w (K w.params) mg base (CX w) k fa fd ps (sp w))
    (hsp : ∀ (w : World) (H : Hp) (xs : List V) (a : Codec.denoteAll r.args), OnlyF H → Codec.withinAll r.args a = true → Codec.app r.args r.asked a = true → DwAll (K w.params) H xs (Codec.encAll r.args a) →
      sp w xs H (fun v H' => Dw (K w.params) H' v (r.ret.enc (Codec.app r.args r.f a))) fun _ _ _ => False)
    (hCX : ∀ (w : World) (H : Hp) (s : Shared) (e : Value) (s' : Shared), CX w [] H s (fun _ _ _ => False) e s' → False) :
    PySem.W.WalkOS q loose XP YP r d [] (fun f vs => PySem.call f vs) := by
  intro w s_0 s₁ mg mb G Y fa o pm cd doc dV kV ho hd hcd hD hmg hg args vals as hpre hlay hrd hwl hlo
  obtain ⟨a, e1, e2⟩ := PySem.W.os_pre_some hpre
  obtain ⟨e3, hwi⟩ := Codec.encAll_of_decAll r.args args a e1
  subst e3
  have KX := hY w _ Y
  obtain ⟨fd, hb, hF⟩ := F w mg fa _ Y KX G.T.g hmg
  refine PySem.W.enter_call (codeAny_mono (spec_call (R := []) (cl := classAt s_0.heap) (d0 := r.ret.enc (Codec.app r.args r.f a)) KX G.T.g G.T.b G.T.builtins G.T.nolimit hg hwl (pl_encAll _ _) (layable_weight hlay) hr hF hb (by rw [encAll_len]; exact hlen)
    (fun H xs hO hS => hsp w H xs a hO hwi e2 hS) fun H e s' => hCX w H s₁ e s') fun r' s' hq => ?_)
  obtain ⟨u, as', rfl, h1, h2, h3, h4⟩ := hq
  exact ⟨.inl ⟨u, _, as', rfl, fun _ => rfl, h1, (OpenSpec.post_iff hwell hwi _ _).mpr rfl, fun z => Bool.noConfusion (show false = true from z)⟩, h2, h3, h4⟩
/-- the same where the promise hangs on the written part alone -/
theorem walk_specK {r : OpenSpec} {k : Nat} {q : Program} {loose : List Str} {XP : (Str → Option Value) → Heap → Prop} {YP : World → Heap → Prop} {d : DefRec} {K : Params → PySem.W.Frag} {CX : CXT} {ps : List Str} {sp : PySem.W.Frag → Sp}
    (hwell : r.wellSaid = true) (hdf : d.params.defaults = []) (hlen : r.args.length = ps.length) (hr : Room k callerA)
    (hY : ∀ (w : World) (h : Heap), YP w h → (K w.params).In h)
    (F : ∀ (w : World) (mg : Str → Option Value) (fa : Addr) (h : Heap), YP w h → (K w.params).In h → h.Ns mainGlobals mg → mg d.name = some (.ref fa) →
      ∃ fd : FuncData, (∀ (s : Shared) (us : List Value), us.length = ps.length → BindsTo s fd ⟨us, []⟩ (ps.zip us)) ∧
        ∀ base : Heap, (K w.params).In base → base.Ns mainGlobals mg → FnOk r.prog w (K w.params) mg base CX k fa fd ps (sp (K w.params)))
    (hsp : ∀ (K : PySem.W.Frag) (H : Hp) (xs : List V) (a : Codec.denoteAll r.args), OnlyF H → Codec.withinAll r.args a = true → Codec.app r.args r.asked a = true → DwAll K H xs (Codec.encAll r.args a) →
      sp K xs H (fun v H' => Dw K H' v (r.ret.enc (Codec.app r.args r.f a))) fun _ _ _ => False)
    (hCX : ∀ (H : Hp) (s : Shared) (e : Value) (s' : Shared), CX [] H s (fun _ _ _ => False) e s' → False) :
    PySem.W.WalkOS q loose XP YP r d [] (fun f vs => PySem.call f vs) :=
  walk_spec (K := K) (CX := fun _ => CX) (sp := fun w => sp (K w.params)) hwell hdf hlen hr hY F (fun w H xs a h1 h2 h3 h4 => hsp (K w.params) H xs a h1 h2 h3 h4) fun _ H s e s' => hCX H s e s'
end L2
-- rests on (row put in by the clerk, for the bench that shows a file only what it spells): KE.SpHead KE.OsShapes
end


set_option autoImplicit false
/-! The specification's days: what holds of every day that calls can reach. -/
namespace DS
open Kqu6

abbrev E4 (e : Event) : Prop := e.minute ≤ 500 ∧ e.kind ≤ 3

structure Good (d : Day) : Prop where
  ins_ok : ∀ e ∈ d.ins, E4 e
  outs_ok : ∀ e ∈ d.outs, E4 e
  n30 : d.ins.length ≤ 30
  sI : d.ins.Pairwise fun a b => a.minute ≤ b.minute
  sO : d.outs.Pairwise fun a b => a.minute ≤ b.minute
  dom : ∀ k t, before (ofKind d.outs k) t ≤ before (ofKind d.ins k) t

theorem before_nil (t : Nat) : before [] t = 0 := rfl
theorem before_append (a b : List Event) (t : Nat) : before (a ++ b) t = before a t + before b t := by
  simp [before, List.filter_append]
theorem before_cons (e : Event) (l : List Event) (t : Nat) : before (e :: l) t = (if e.minute ≤ t then 1 else 0) + before l t := by
  unfold before
  by_cases h : e.minute ≤ t
  · simp [h]; omega
  · simp [h]
theorem before_le (l : List Event) (t : Nat) : before l t ≤ l.length := List.length_filter_le ..
theorem before_all {l : List Event} {t : Nat} (h : ∀ e ∈ l, e.minute ≤ t) : before l t = l.length := by
  unfold before
  rw [List.filter_eq_self.mpr]
  intro e he
  simpa using h e he
theorem before_none {l : List Event} {t : Nat} (h : ∀ e ∈ l, t < e.minute) : before l t = 0 := by
  unfold before
  rw [List.filter_eq_nil_iff.mpr]
  · rfl
  intro e he
  have := h e he
  simp; omega
theorem before_sub {a b : List Event} (h : a.Sublist b) (t : Nat) : before a t ≤ before b t := (h.filter _).length_le

theorem ofKind_append (a b : List Event) (k : Nat) : ofKind (a ++ b) k = ofKind a k ++ ofKind b k := by simp [ofKind]
theorem mem_ofKind {l : List Event} {k : Nat} {e : Event} (h : e ∈ ofKind l k) : e ∈ l := (List.mem_filter.mp h).1
theorem ofKind_one_eq (t k : Nat) : ofKind [⟨t, k⟩] k = [⟨t, k⟩] := by simp [ofKind]
theorem ofKind_one_ne {t k j : Nat} (h : k ≠ j) : ofKind [⟨t, k⟩] j = [] := by simp [ofKind, h]

/-! the last minute -/
theorem foldl_max_ge (l : List Nat) (a : Nat) : a ≤ l.foldl max a ∧ ∀ x ∈ l, x ≤ l.foldl max a := by
  induction l generalizing a with
  | nil => simp
  | cons x l ih =>
    have h := ih (max a x)
    refine ⟨?_, ?_⟩
    · exact Nat.le_trans (Nat.le_max_left a x) h.1
    · intro y hy
      rcases List.mem_cons.mp hy with rfl | hy
      · exact Nat.le_trans (Nat.le_max_right a y) h.1
      · exact h.2 y hy
theorem foldl_max_mem (l : List Nat) (a : Nat) : l.foldl max a = a ∨ l.foldl max a ∈ l := by
  induction l generalizing a with
  | nil => simp
  | cons x l ih =>
    rcases ih (max a x) with h | h
    · rw [List.foldl_cons, h]
      by_cases q : a ≤ x
      · right; rw [Nat.max_eq_right q]; simp
      · left; exact Nat.max_eq_left (by omega)
    · right; exact List.mem_cons_of_mem _ h
theorem max_unique {l : List Nat} {m : Nat} (hm : m ∈ l) (h : ∀ x ∈ l, x ≤ m) : l.foldl max 0 = m := by
  have h1 := (foldl_max_ge l 0).2 m hm
  rcases foldl_max_mem l 0 with q | q
  · omega
  · have := h _ q; omega
theorem last_ge_in {d : Day} {e : Event} (h : e ∈ d.ins) : e.minute ≤ last d :=
  (foldl_max_ge _ 0).2 _ (List.mem_append_left _ (List.mem_map.mpr ⟨e, h, rfl⟩))
theorem last_ge_out {d : Day} {e : Event} (h : e ∈ d.outs) : e.minute ≤ last d :=
  (foldl_max_ge _ 0).2 _ (List.mem_append_right _ (List.mem_map.mpr ⟨e, h, rfl⟩))
theorem last_le {d : Day} (g : Good d) : last d ≤ 500 := by
  rcases foldl_max_mem (minutes d.ins ++ minutes d.outs) 0 with h | h
  · unfold last; omega
  · rcases List.mem_append.mp h with q | q
    · obtain ⟨e, he, q2⟩ := List.mem_map.mp q
      unfold last; rw [← q2]; exact (g.ins_ok e he).1
    · obtain ⟨e, he, q2⟩ := List.mem_map.mp q
      unfold last; rw [← q2]; exact (g.outs_ok e he).1

theorem Good.klen {d : Day} (g : Good d) (k : Nat) : (ofKind d.outs k).length ≤ (ofKind d.ins k).length := by
  have h := g.dom k 500
  rwa [before_all fun e he => (g.outs_ok e (mem_ofKind he)).1, before_all fun e he => (g.ins_ok e (mem_ofKind he)).1] at h

/-! sums over the kinds -/
theorem before_kinds {l : List Event} (h : ∀ e ∈ l, e.kind ≤ 3) (t : Nat) : before l t = before (ofKind l 0) t + before (ofKind l 1) t + before (ofKind l 2) t + before (ofKind l 3) t := by
  induction l with
  | nil => rfl
  | cons e l ih =>
    have ih := ih fun x hx => h x (List.mem_cons_of_mem _ hx)
    have hk := h e (List.mem_cons_self ..)
    have c : ∀ k, before (ofKind (e :: l) k) t = (if e.kind = k then (if e.minute ≤ t then 1 else 0) else 0) + before (ofKind l k) t := by
      intro k
      unfold ofKind
      by_cases q : e.kind = k
      · rw [List.filter_cons_of_pos (by simpa using q), before_cons, if_pos q]
      · rw [List.filter_cons_of_neg (by simpa using q), if_neg q, Nat.zero_add]
    rw [before_cons, c 0, c 1, c 2, c 3, ih]
    have : e.kind = 0 ∨ e.kind = 1 ∨ e.kind = 2 ∨ e.kind = 3 := by omega
    rcases this with q | q | q | q <;> simp [q] <;> omega
theorem length_kinds {l : List Event} (h : ∀ e ∈ l, E4 e) : l.length = (ofKind l 0).length + (ofKind l 1).length + (ofKind l 2).length + (ofKind l 3).length := by
  have e := before_kinds (fun x hx => (h x hx).2) 500
  have a : ∀ k, before (ofKind l k) 500 = (ofKind l k).length := fun k => before_all fun e he => (h e (mem_ofKind he)).1
  rw [before_all fun e he => (h e he).1, a, a, a, a] at e
  exact e
theorem Good.all {d : Day} (g : Good d) (t : Nat) : before d.outs t ≤ before d.ins t := by
  rw [before_kinds (fun e he => (g.outs_ok e he).2), before_kinds (fun e he => (g.ins_ok e he).2)]
  have a := g.dom 0 t
  have b := g.dom 1 t
  have c := g.dom 2 t
  have e := g.dom 3 t
  omega
theorem Good.len {d : Day} (g : Good d) : d.outs.length ≤ d.ins.length := by
  have h := g.all 500
  rwa [before_all fun e he => (g.outs_ok e he).1, before_all fun e he => (g.ins_ok e he).1] at h
theorem Good.o30 {d : Day} (g : Good d) : d.outs.length ≤ 30 := Nat.le_trans g.len g.n30
theorem Good.there_kinds {d : Day} (g : Good d) : there d = kindThere d 0 + kindThere d 1 + kindThere d 2 + kindThere d 3 := by
  unfold there kindThere
  have a := length_kinds g.ins_ok
  have b := length_kinds g.outs_ok
  have c0 := g.klen 0
  have c1 := g.klen 1
  have c2 := g.klen 2
  have c3 := g.klen 3
  omega

/-! kept by the calls -/
theorem good_new : Good ⟨[], []⟩ where
  ins_ok := by simp
  outs_ok := by simp
  n30 := by simp
  sI := .nil
  sO := .nil
  dom := by intro k t; exact Nat.le_refl _
theorem sorted_snoc {l r : List Event} {t : Nat} (h : l.Pairwise fun a b => a.minute ≤ b.minute) (hl : ∀ e ∈ l, e.minute ≤ t) (hr : ∀ e ∈ r, e.minute = t) : (l ++ r).Pairwise fun a b => a.minute ≤ b.minute := by
  rw [List.pairwise_append]
  refine ⟨h, ?_, fun a ha b hb => ?_⟩
  · induction r with
    | nil => exact .nil
    | cons x r ih =>
      refine .cons (fun y hy => ?_) (ih fun e he => hr e (List.mem_cons_of_mem _ he))
      rw [hr x (List.mem_cons_self ..), hr y (List.mem_cons_of_mem _ hy)]
      exact Nat.le_refl _
  · rw [hr b hb]; exact hl a ha
theorem good_in {d : Day} (g : Good d) {t k : Nat} (h : ¬ (t < last d ∨ MINUTE < t ∨ 3 < k)) (hn : ¬ 30 ≤ d.ins.length) : Good { d with ins := d.ins ++ [⟨t, k⟩] } where
  ins_ok := by
    intro e he
    rcases List.mem_append.mp he with q | q
    · exact g.ins_ok e q
    · rw [List.mem_singleton.mp q]
      show t ≤ 500 ∧ k ≤ 3
      unfold MINUTE at h
      omega
  outs_ok := g.outs_ok
  n30 := by
    show (d.ins ++ [_]).length ≤ 30
    rw [List.length_append]
    show d.ins.length + 1 ≤ 30
    omega
  sI := sorted_snoc g.sI (fun e he => by have := last_ge_in he; omega) (t := t) (by simp)
  sO := g.sO
  dom := fun j u => by
    show before (ofKind d.outs j) u ≤ before (ofKind (d.ins ++ [⟨t, k⟩]) j) u
    rw [ofKind_append, before_append]
    have := g.dom j u
    omega
/-- some go at one minute -/
theorem good_outs {d : Day} (g : Good d) {t : Nat} {r : List Event} (h : ¬ (t < last d ∨ MINUTE < t)) (hr : ∀ e ∈ r, e.minute = t ∧ e.kind ≤ 3)
    (hk : ∀ k, (ofKind d.outs k).length + (ofKind r k).length ≤ (ofKind d.ins k).length) : Good { d with outs := d.outs ++ r } where
  ins_ok := g.ins_ok
  outs_ok := by
    intro e he
    rcases List.mem_append.mp he with q | q
    · exact g.outs_ok e q
    · have := hr e q
      unfold MINUTE at h
      exact ⟨by omega, this.2⟩
  n30 := g.n30
  sI := g.sI
  sO := sorted_snoc g.sO (fun e he => by have := last_ge_out he; omega) (t := t) fun e he => (hr e he).1
  dom := fun j u => by
    show before (ofKind (d.outs ++ r) j) u ≤ before (ofKind d.ins j) u
    rw [ofKind_append, before_append]
    by_cases q : u < t
    · rw [before_none (l := ofKind r j) fun e he => by have := (hr e (mem_ofKind he)).1; omega]
      exact g.dom j u
    · have a := before_le (ofKind d.outs j) u
      have b := before_le (ofKind r j) u
      rw [before_all (l := ofKind d.ins j) fun e he => by have := last_ge_in (mem_ofKind he); omega]
      have := hk j
      omega
theorem good_out {d : Day} (g : Good d) {t k : Nat} (h : ¬ (t < last d ∨ MINUTE < t ∨ 3 < k)) (hn : ¬ kindThere d k = 0) : Good { d with outs := d.outs ++ [⟨t, k⟩] } := by
  refine good_outs g (t := t) (by omega) (by intro e he; rw [List.mem_singleton.mp he]; exact ⟨rfl, by show k ≤ 3; omega⟩) fun j => ?_
  by_cases q : k = j
  · subst q
    rw [ofKind_one_eq]
    show (ofKind d.outs k).length + 1 ≤ _
    unfold kindThere at hn
    omega
  · rw [ofKind_one_ne q]
    exact g.klen j
theorem ofKind_rep (n t k j : Nat) : ofKind (List.replicate n ⟨t, k⟩) j = if k = j then List.replicate n ⟨t, k⟩ else [] := by
  unfold ofKind
  by_cases q : k = j <;> simp [q]
theorem leaving_kind (d : Day) (t k : Nat) (hk : k ≤ 3) : (ofKind ((List.range 4).flatMap fun k => List.replicate (kindThere d k) (⟨t, k⟩ : Event)) k).length = kindThere d k := by
  have e : (List.range 4) = [0, 1, 2, 3] := by decide
  rw [e]
  simp only [List.flatMap_cons, List.flatMap_nil, ofKind_append, ofKind_rep, List.length_append]
  have : k = 0 ∨ k = 1 ∨ k = 2 ∨ k = 3 := by omega
  rcases this with q | q | q | q <;> subst q <;> simp [ofKind]
theorem leaving_mem {d : Day} {t : Nat} {e : Event} (h : e ∈ (List.range 4).flatMap fun k => List.replicate (kindThere d k) (⟨t, k⟩ : Event)) : e.minute = t ∧ e.kind ≤ 3 := by
  obtain ⟨k, hk, q⟩ := List.mem_flatMap.mp h
  have := List.mem_range.mp hk
  rw [List.eq_of_mem_replicate q]
  exact ⟨rfl, by show k ≤ 3; omega⟩
theorem good_close {d : Day} (g : Good d) {t : Nat} (h : ¬ (t < last d ∨ MINUTE < t)) : Good (closed d t) := by
  refine good_outs g (t := t) h (fun e he => leaving_mem he) fun j => ?_
  by_cases q : j ≤ 3
  · rw [leaving_kind d t j q]
    unfold kindThere
    have := g.klen j
    omega
  · have e : ofKind ((List.range 4).flatMap fun k => List.replicate (kindThere d k) (⟨t, k⟩ : Event)) j = [] := by
      unfold ofKind
      rw [List.filter_eq_nil_iff]
      intro e he
      have := (leaving_mem he).2
      simp
      omega
    rw [e]
    exact g.klen j
theorem good_undo {d : Day} (g : Good d) : Good { d with outs := d.outs.dropLast } where
  ins_ok := g.ins_ok
  outs_ok := fun e he => g.outs_ok e ((List.dropLast_sublist _).subset he)
  n30 := g.n30
  sI := g.sI
  sO := g.sO.sublist (List.dropLast_sublist _)
  dom := fun k t => Nat.le_trans (before_sub ((List.dropLast_sublist _).filter _) t) (g.dom k t)

def GoodS : Option Day → Prop
  | none => True
  | some d => Good d
theorem good_step (s : Option Day) (c : Call) (g : GoodS s) : GoodS (step s c).1 := by
  cases s with
  | none => cases c <;> first | trivial | exact good_new
  | some d =>
    have g : Good d := g
    cases c <;> try exact g
    case start => exact good_new
    case in_ t k =>
      unfold step
      dsimp only
      split
      · exact g
      · split
        · exact g
        · exact good_in g ‹_› ‹_›
    case out t k =>
      unfold step
      dsimp only
      split
      · exact g
      · split
        · exact g
        · exact good_out g ‹_› ‹_›
    case close t =>
      unfold step
      dsimp only
      split
      · exact g
      · split
        · exact g
        · exact good_close g ‹_›
    case undo =>
      unfold step
      dsimp only
      split
      · exact g
      · exact good_undo g
end DS

set_option autoImplicit false
/-! The numbers that are answered, as a program reckons them. -/
namespace DS
open Kqu6

/-! lists by places -/
theorem map_range_set {α : Type} (f : Nat → α) (n m : Nat) (v : α) : ((List.range n).map f).set m v = (List.range n).map fun t => if t = m then v else f t := by
  apply List.ext_getElem?
  intro i
  rw [List.getElem?_set]
  by_cases h : m = i
  · subst h
    by_cases q : m < n
    · simp [q]
    · simp [q]
  · rw [if_neg h]
    by_cases q : i < n
    · simp [q, show ¬ i = m from fun e => h e.symm]
    · simp [q]
theorem map_range_get {α : Type} (f : Nat → α) {n i : Nat} (h : i < n) : ((List.range n).map f)[i]? = some (f i) := by
  simp [h]
theorem take_succ_get {α : Type} {l : List α} {i : Nat} {x : α} (h : l[i]? = some x) : l.take (i + 1) = l.take i ++ [x] := by
  rw [List.take_add_one, h]; rfl
theorem take_map_range {α : Type} (f : Nat → α) (n m : Nat) : ((List.range n).map f).take m = (List.range (min m n)).map f := by
  rw [← List.map_take, List.take_range]
theorem drop_map_range {α : Type} (f : Nat → α) (n m : Nat) : ((List.range n).map f).drop m = (List.range (n - m)).map fun i => f (m + i) := by
  apply List.ext_getElem?
  intro i
  rw [List.getElem?_drop]
  by_cases q : m + i < n
  · rw [map_range_get f q, map_range_get _ (show i < n - m by omega)]
  · rw [List.getElem?_eq_none (by simp; omega), List.getElem?_eq_none (by simp; omega)]

/-! sums -/
theorem sum_eq (l : List Nat) : Kqu6.sum l = l.sum := by
  induction l with
  | nil => rfl
  | cons a l ih =>
    show a + Kqu6.sum l = _
    rw [ih, List.sum_cons]
theorem sum_cast (l : List Nat) : ((l.sum : Nat) : Int) = (l.map fun (n : Nat) => (n : Int)).sum := by
  induction l with
  | nil => rfl
  | cons a l ih => simp [List.sum_cons, ih]
theorem isum_append (a b : List Int) : (a ++ b).sum = a.sum + b.sum := by
  induction a with
  | nil => simp
  | cons x a ih => simp [ih]; omega
theorem isum_snoc (a : List Int) (x : Int) : (a ++ [x]).sum = a.sum + x := by rw [isum_append]; simp

/-! who is there, as a difference -/
def at_ (l : List Event) (t : Nat) : Nat := (l.filter fun e => e.minute == t).length
theorem at_nil (t : Nat) : at_ [] t = 0 := rfl
theorem at_append (a b : List Event) (t : Nat) : at_ (a ++ b) t = at_ a t + at_ b t := by simp [at_, List.filter_append]
theorem at_one (e : Event) (t : Nat) : at_ [e] t = if t = e.minute then 1 else 0 := by
  unfold at_
  by_cases h : t = e.minute
  · subst h; simp
  · rw [if_neg h, List.filter_cons_of_neg (by simp; omega)]; rfl
theorem before_succ (l : List Event) (t : Nat) : before l (t + 1) = before l t + at_ l (t + 1) := by
  induction l with
  | nil => rfl
  | cons e l ih =>
    have : at_ (e :: l) (t + 1) = at_ [e] (t + 1) + at_ l (t + 1) := at_append [e] l (t + 1)
    rw [before_cons, before_cons, this, at_one, ih]
    by_cases h : e.minute ≤ t
    · rw [if_pos h, if_pos (by omega), if_neg (by omega)]; omega
    · rw [if_neg h]
      by_cases q : e.minute = t + 1
      · rw [if_pos (by omega), if_pos q.symm]; omega
      · rw [if_neg (by omega), if_neg (by omega)]; omega
theorem before_zero (l : List Event) : before l 0 = at_ l 0 := by
  induction l with
  | nil => rfl
  | cons e l ih =>
    have : at_ (e :: l) 0 = at_ [e] 0 + at_ l 0 := at_append [e] l 0
    rw [before_cons, this, at_one, ih]
    by_cases h : e.minute ≤ 0
    · rw [if_pos h, if_pos (by omega)]
    · rw [if_neg h, if_neg (by omega)]
/-- what changes at a minute; who is there by it -/
def chg (d : Day) (t : Nat) : Int := (at_ d.ins t : Int) - at_ d.outs t
def prs (d : Day) (t : Nat) : Int := (before d.ins t : Int) - before d.outs t
theorem prs_zero (d : Day) : prs d 0 = chg d 0 := by unfold prs chg; rw [before_zero, before_zero]
theorem prs_succ (d : Day) (t : Nat) : prs d (t + 1) = prs d t + chg d (t + 1) := by
  unfold prs chg
  rw [before_succ, before_succ]
  omega
theorem Good.prs {d : Day} (g : Good d) (t : Nat) : DS.prs d t = (present d t : Nat) := by
  have := g.all t
  unfold DS.prs present
  omega
theorem Good.there {d : Day} (g : Good d) : (d.ins.length : Int) - d.outs.length = (there d : Nat) := by
  have := g.len
  unfold Kqu6.there
  omega
theorem Good.kindThere {d : Day} (g : Good d) (k : Nat) : ((ofKind d.ins k).length : Int) - (ofKind d.outs k).length = (Kqu6.kindThere d k : Nat) := by
  have := g.klen k
  unfold Kqu6.kindThere
  omega
theorem present_le {d : Day} (g : Good d) (t : Nat) : present d t ≤ 30 := by
  have := before_le d.ins t
  have := g.n30
  unfold present
  omega
theorem present_last {d : Day} {t : Nat} (h : last d ≤ t) : present d t = there d := by
  unfold present there
  rw [before_all fun e he => Nat.le_trans (last_ge_in he) h, before_all fun e he => Nat.le_trans (last_ge_out he) h]

/-! most -/
theorem most_ge (d : Day) (t : Nat) : present d t ≤ most d := by
  have h : ∀ u, u ≤ last d → present d u ≤ most d := fun u hu =>
    (foldl_max_ge ((List.range (last d + 1)).map (present d)) 0).2 _ (List.mem_map.mpr ⟨u, List.mem_range.mpr (by omega), rfl⟩)
  by_cases q : t ≤ last d
  · exact h t q
  · rw [present_last (show last d ≤ t by omega), ← present_last (Nat.le_refl (last d))]
    exact h _ (Nat.le_refl _)
theorem most_at (d : Day) : ∃ t, t ≤ last d ∧ present d t = most d := by
  rcases foldl_max_mem ((List.range (last d + 1)).map (present d)) 0 with h | h
  · refine ⟨0, Nat.zero_le _, ?_⟩
    have := most_ge d 0
    unfold most at this ⊢
    omega
  · obtain ⟨t, ht, q⟩ := List.mem_map.mp h
    exact ⟨t, by have := List.mem_range.mp ht; omega, q⟩
/-- the greatest of a list that holds all minutes' numbers -/
theorem most_eq {d : Day} {n : Nat} (hn : last d < n) {m : Int} (hm : m ∈ (List.range n).map fun t => (present d t : Int)) (h : ∀ x ∈ (List.range n).map fun t => (present d t : Int), x ≤ m) : m = (most d : Nat) := by
  obtain ⟨t, ht, q⟩ := List.mem_map.mp hm
  have a := most_ge d t
  obtain ⟨u, hu, q2⟩ := most_at d
  have b := h _ (List.mem_map.mpr ⟨u, List.mem_range.mpr (by omega), rfl⟩)
  omega
/-- its first place -/
theorem most_first {d : Day} {i : Nat} (hi : present d i = most d) (hf : ∀ j, j < i → present d j ≠ most d) : ((List.range (last d + 1)).find? fun t => present d t == most d).getD 0 = i := by
  have hl : i ≤ last d := by
    obtain ⟨u, hu, q⟩ := most_at d
    by_cases z : i ≤ u
    · omega
    · exact absurd q (hf u (by omega))
  have : (List.range (last d + 1)).find? (fun t => present d t == most d) = some i := by
    rw [List.find?_range_eq_some]
    refine ⟨by simpa using hi, by simp; omega, fun j hj => ?_⟩
    simpa using hf j hj
  rw [this]
  rfl

/-! busy, area -/
theorem busy_eq (d : Day) : (((List.range (last d + 1)).map fun t => (present d t : Int)).filter fun x => decide (0 < x)).length = busy d := by
  unfold busy
  rw [List.filter_map, List.length_map]
  congr 1
  apply List.filter_congr
  intro t _
  show decide ((0 : Int) < (present d t : Nat)) = (present d t != 0)
  by_cases h : present d t = 0
  · simp [h]
  · have q : (0 : Int) < (present d t : Nat) := by omega
    rw [decide_eq_true q]
    exact (bne_iff_ne.mpr h).symm
theorem area_eq (d : Day) (a b : Nat) : ((List.range (b - a)).map fun i => (present d (a + i) : Int)).sum = (area d a b : Nat) := by
  unfold area
  rw [sum_eq, sum_cast, List.map_map]
  rfl

/-! the first goes first -/
theorem dom_pair {I O : List Event} (sI : I.Pairwise fun a b => a.minute ≤ b.minute) (sO : O.Pairwise fun a b => a.minute ≤ b.minute) (h : ∀ t, before O t ≤ before I t) {i : Nat} {b : Event} (hb : O[i]? = some b) :
    ∃ a, I[i]? = some a ∧ a.minute ≤ b.minute := by
  obtain ⟨hi, eb⟩ := List.getElem?_eq_some_iff.mp hb
  have h1 : i + 1 ≤ before O b.minute := by
    have e : O.take (i + 1) ++ O.drop (i + 1) = O := List.take_append_drop ..
    have q : before (O.take (i + 1)) b.minute = i + 1 := by
      rw [before_all, List.length_take]
      · omega
      · intro x hx
        rw [take_succ_get hb] at hx
        rcases List.mem_append.mp hx with z | z
        · obtain ⟨j, hj, ej⟩ := List.mem_iff_getElem.mp z
          rw [List.length_take] at hj
          rw [List.getElem_take] at ej
          have := List.pairwise_iff_getElem.mp sO j i (by omega) hi (by omega)
          rw [ej, eb] at this
          exact this
        · rw [List.mem_singleton.mp z]; exact Nat.le_refl _
    rw [← e, before_append, q]
    omega
  have h2 := h b.minute
  have hl : i < I.length := by
    have := before_le I b.minute
    omega
  refine ⟨I[i], List.getElem?_eq_getElem hl, ?_⟩
  by_cases z : I[i].minute ≤ b.minute
  · exact z
  · exfalso
    have e : I.take i ++ I.drop i = I := List.take_append_drop ..
    have q : before (I.drop i) b.minute = 0 := by
      apply before_none
      intro x hx
      obtain ⟨j, hj, ej⟩ := List.mem_iff_getElem.mp hx
      rw [List.length_drop] at hj
      rw [List.getElem_drop] at ej
      by_cases hj0 : j = 0
      · subst hj0
        have : I[i] = x := ej
        rw [← this]
        omega
      · have := List.pairwise_iff_getElem.mp sI i (i + j) hl (by omega) (by omega)
        rw [ej] at this
        omega
    have q2 := before_le (I.take i) b.minute
    rw [List.length_take] at q2
    rw [← e, before_append, q] at h2
    omega
theorem Good.fifo {d : Day} (g : Good d) {i : Nat} {b : Event} (hb : d.outs[i]? = some b) : ∃ a, d.ins[i]? = some a ∧ a.minute ≤ b.minute := dom_pair g.sI g.sO g.all hb
theorem Good.fifoK {d : Day} (g : Good d) (k : Nat) {i : Nat} {b : Event} (hb : (ofKind d.outs k)[i]? = some b) : ∃ a, (ofKind d.ins k)[i]? = some a ∧ a.minute ≤ b.minute :=
  dom_pair (g.sI.filter _) (g.sO.filter _) (g.dom k) hb
theorem stays_nonneg {I O : List Event} (h : ∀ (i : Nat) (b : Event), O[i]? = some b → ∃ a : Event, I[i]? = some a ∧ a.minute ≤ b.minute) : 0 ≤ stays I O := by
  unfold stays
  rw [sum_eq, sum_eq]
  have : ∀ (I O : List Event), (∀ (i : Nat) (b : Event), O[i]? = some b → ∃ a : Event, I[i]? = some a ∧ a.minute ≤ b.minute) → ((minutes I).take O.length).sum ≤ (minutes O).sum := by
    intro I O
    induction O generalizing I with
    | nil => intro _; simp [minutes]
    | cons o O ih =>
      intro h
      cases I with
      | nil =>
        obtain ⟨a, ha, _⟩ := h 0 o rfl
        simp at ha
      | cons i I =>
        obtain ⟨a, ha, hle⟩ := h 0 o rfl
        have ha : i = a := by simpa using ha
        subst ha
        have := ih I fun j b hb => h (j + 1) b hb
        show ((i.minute :: (minutes I).take O.length)).sum ≤ (o.minute :: minutes O).sum
        rw [List.sum_cons, List.sum_cons]
        omega
  have := this I O h
  omega
theorem Good.stays {d : Day} (g : Good d) : 0 ≤ Kqu6.stays d.ins d.outs := stays_nonneg fun _ _ hb => g.fifo hb
theorem Good.staysK {d : Day} (g : Good d) (k : Nat) : 0 ≤ Kqu6.stays (ofKind d.ins k) (ofKind d.outs k) := stays_nonneg fun _ _ hb => g.fifoK k hb
end DS

set_option autoImplicit false
/-! The flat list of calls, call by call. -/
namespace DS
open Kqu6

def asInts (p : List Nat) : List Int := p.map fun (n : Nat) => (n : Int)
theorem ints_length (p : List Nat) : (asInts p).length = p.length := List.length_map ..
/-- a call as it is handed in -/
def flat : Call → List Int
  | .start => [0]
  | .in_ t k => [1, t, k]
  | .out t k => [2, t, k]
  | .close t => [3, t]
  | .present t => [4, t]
  | .there => [5]
  | .kinds => [6]
  | .most => [7]
  | .busy => [8]
  | .area a b => [9, a, b]
  | .total => [10]
  | .mean => [11]
  | .first => [12]
  | .latest => [13]
  | .as_ p => 14 :: (p.length : Int) :: asInts p
  | .kind k => [15, k]
  | .before t => [16, t]
  | .longer n => [17, n]
  | .undo => [18]
  | .state => [19]
/-- as the document's rows have it -/
def rowsOf : Call → List (List Int)
  | .as_ p => [[14], asInts p]
  | c => [flat c]
theorem toNat_ints (p : List Nat) : (asInts p).map Kqu6Neutral.n = p := by
  unfold asInts
  rw [List.map_map]
  have : (Kqu6Neutral.n ∘ fun (n : Nat) => (n : Int)) = id := by funext x; exact Int.toNat_natCast x
  rw [this, List.map_id]
theorem callOf_rows (c : Call) : Kqu6Neutral.callOf (rowsOf c) = some c := by
  cases c
  case as_ p => exact congrArg (fun q => some (Call.as_ q)) (toNat_ints p)
  all_goals rfl
theorem step_rows (s : Option Day) (c : Call) : Kqu6Neutral.step s (rowsOf c) = ((step s c).1, Kqu6Neutral.tell (step s c).2) := by
  unfold Kqu6Neutral.step
  rw [callOf_rows]
theorem whole_rows (c : Call) : PyKqu6.whole (rowsOf c) = rowsOf c := by
  cases c <;> rfl
theorem put_rows (c : Call) : PyFlat.put1 (rowsOf c) = flat c := by
  cases c
  case as_ p =>
    show (14 : Int) :: (((asInts p).length : Int) :: asInts p ++ []) = 14 :: (p.length : Int) :: asInts p
    rw [List.append_nil, ints_length]
  all_goals rfl
theorem natural {z : Int} (h : 0 ≤ z) : ∃ n : Nat, z = n := ⟨z.toNat, by omega⟩
theorem naturals : ∀ {l : List Int}, (∀ z ∈ l, 0 ≤ z) → ∃ p : List Nat, l = asInts p
  | [], _ => ⟨[], rfl⟩
  | z :: l, h => by
    obtain ⟨n, e⟩ := natural (h z (List.mem_cons_self ..))
    obtain ⟨p, e2⟩ := naturals (l := l) fun y hy => h y (List.mem_cons_of_mem _ hy)
    exact ⟨n :: p, by rw [e, e2]; rfl⟩
/-- what a call's numbers may be -/
def Bd : Call → Prop
  | .as_ p => p.length ≤ 60 ∧ ∀ x ∈ p, x ≤ 4294967295
  | .in_ t k => t ≤ 4294967295 ∧ k ≤ 4294967295
  | .out t k => t ≤ 4294967295 ∧ k ≤ 4294967295
  | .area t k => t ≤ 4294967295 ∧ k ≤ 4294967295
  | .close t => t ≤ 4294967295
  | .present t => t ≤ 4294967295
  | .kind t => t ≤ 4294967295
  | .before t => t ≤ 4294967295
  | .longer t => t ≤ 4294967295
  | _ => True
theorem within_iff {lo hi z : Int} (h : PyInside.within lo hi z = true) : lo ≤ z ∧ z ≤ hi := by
  unfold PyInside.within at h
  simpa using h
theorem one_of {a : List Int} (h : a.length = 0) : a = [] := List.length_eq_zero_iff.mp h
theorem call_is {c : List (List Int)} (h : PyFlat.okCall PyKqu6.shape c) (hb : PyInside.call PyKqu6.bound c = true) : ∃ x : Call, c = rowsOf x ∧ Bd x := by
  obtain ⟨p, a, xs, rfl, hs⟩ := h
  have two : ∀ {u v : Int}, PyInside.each [(0, 4294967295), (0, 4294967295)] [u, v] = true → (0 ≤ u ∧ u ≤ 4294967295) ∧ 0 ≤ v ∧ v ≤ 4294967295 := by
    intro u v q
    simp [PyInside.each, PyInside.within] at q
    omega
  have one : ∀ {u : Int}, PyInside.each [(0, 4294967295)] [u] = true → 0 ≤ u ∧ u ≤ 4294967295 := by
    intro u q
    simp [PyInside.each, PyInside.within] at q
    omega
  have hb : (PyInside.each (PyKqu6.bound p).1 a && PyInside.lists (PyKqu6.bound p).2 xs) = true := hb
  rw [Bool.and_eq_true] at hb
  have no {m n : Nat} (q : some (m, n) = some (a.length, xs.length)) : a.length = m ∧ xs.length = n := by
    injection q with q
    injection q with q1 q2
    exact ⟨q1.symm, q2.symm⟩
  have z0 (q : some (0, 0) = some (a.length, xs.length)) : a = [] ∧ xs = [] := ⟨one_of (no q).1, List.length_eq_zero_iff.mp (no q).2⟩
  have z1 (q : some (1, 0) = some (a.length, xs.length)) : ∃ u, a = [u] ∧ xs = [] := by
    obtain ⟨q1, q2⟩ := no q
    obtain ⟨u, e⟩ := List.length_eq_one_iff.mp q1
    exact ⟨u, e, List.length_eq_zero_iff.mp q2⟩
  have z2 (q : some (2, 0) = some (a.length, xs.length)) : ∃ u v, a = [u, v] ∧ xs = [] := by
    obtain ⟨q1, q2⟩ := no q
    match a, q1 with
    | [u, v], _ => exact ⟨u, v, rfl, List.length_eq_zero_iff.mp q2⟩
  have plain (x : Call) (e : rowsOf x = [flat x]) (ef : flat x = [p]) (hbx : Bd x) (q : some (0, 0) = some (a.length, xs.length)) : ∃ x : Call, (p :: a) :: xs = rowsOf x ∧ Bd x := by
    obtain ⟨rfl, rfl⟩ := z0 q
    exact ⟨x, by rw [e, ef], hbx⟩
  have un (f : Nat → Call) (e : ∀ n, rowsOf (f n) = [[p, (n : Int)]]) (hbx : ∀ n, n ≤ 4294967295 → Bd (f n)) (hbd : (PyKqu6.bound p).1 = [(0, 4294967295)]) (q : some (1, 0) = some (a.length, xs.length)) : ∃ x : Call, (p :: a) :: xs = rowsOf x ∧ Bd x := by
    obtain ⟨u, rfl, rfl⟩ := z1 q
    have hu := one (hbd ▸ hb.1)
    obtain ⟨n, rfl⟩ := natural hu.1
    exact ⟨f n, (e n).symm, hbx n (by omega)⟩
  have bi (f : Nat → Nat → Call) (e : ∀ n m, rowsOf (f n m) = [[p, (n : Int), (m : Int)]]) (hbx : ∀ n m, n ≤ 4294967295 → m ≤ 4294967295 → Bd (f n m)) (hbd : (PyKqu6.bound p).1 = [(0, 4294967295), (0, 4294967295)]) (q : some (2, 0) = some (a.length, xs.length)) : ∃ x : Call, (p :: a) :: xs = rowsOf x ∧ Bd x := by
    obtain ⟨u, v, rfl, rfl⟩ := z2 q
    have hu := two (hbd ▸ hb.1)
    obtain ⟨n, rfl⟩ := natural hu.1.1
    obtain ⟨m, rfl⟩ := natural hu.2.1
    exact ⟨f n m, (e n m).symm, hbx n m (by omega) (by omega)⟩
  unfold PyKqu6.shape at hs
  by_cases h0 : p = 0
  · rw [if_pos h0] at hs; subst h0; exact plain .start rfl rfl trivial hs
  rw [if_neg h0] at hs
  by_cases h1 : p = 1
  · rw [if_pos h1] at hs; subst h1; exact bi .in_ (fun _ _ => rfl) (fun _ _ x y => ⟨x, y⟩) rfl hs
  rw [if_neg h1] at hs
  by_cases h2 : p = 2
  · rw [if_pos h2] at hs; subst h2; exact bi .out (fun _ _ => rfl) (fun _ _ x y => ⟨x, y⟩) rfl hs
  rw [if_neg h2] at hs
  by_cases h3 : p = 3
  · rw [if_pos h3] at hs; subst h3; exact un .close (fun _ => rfl) (fun _ x => x) rfl hs
  rw [if_neg h3] at hs
  by_cases h4 : p = 4
  · rw [if_pos h4] at hs; subst h4; exact un .present (fun _ => rfl) (fun _ x => x) rfl hs
  rw [if_neg h4] at hs
  by_cases h5 : p = 5
  · rw [if_pos h5] at hs; subst h5; exact plain .there rfl rfl trivial hs
  rw [if_neg h5] at hs
  by_cases h6 : p = 6
  · rw [if_pos h6] at hs; subst h6; exact plain .kinds rfl rfl trivial hs
  rw [if_neg h6] at hs
  by_cases h7 : p = 7
  · rw [if_pos h7] at hs; subst h7; exact plain .most rfl rfl trivial hs
  rw [if_neg h7] at hs
  by_cases h8 : p = 8
  · rw [if_pos h8] at hs; subst h8; exact plain .busy rfl rfl trivial hs
  rw [if_neg h8] at hs
  by_cases h9 : p = 9
  · rw [if_pos h9] at hs; subst h9; exact bi .area (fun _ _ => rfl) (fun _ _ x y => ⟨x, y⟩) rfl hs
  rw [if_neg h9] at hs
  by_cases h10 : p = 10
  · rw [if_pos h10] at hs; subst h10; exact plain .total rfl rfl trivial hs
  rw [if_neg h10] at hs
  by_cases h11 : p = 11
  · rw [if_pos h11] at hs; subst h11; exact plain .mean rfl rfl trivial hs
  rw [if_neg h11] at hs
  by_cases h12 : p = 12
  · rw [if_pos h12] at hs; subst h12; exact plain .first rfl rfl trivial hs
  rw [if_neg h12] at hs
  by_cases h13 : p = 13
  · rw [if_pos h13] at hs; subst h13; exact plain .latest rfl rfl trivial hs
  rw [if_neg h13] at hs
  by_cases h14 : p = 14
  · rw [if_pos h14] at hs
    subst h14
    obtain ⟨q1, q2⟩ := no hs
    have ea := one_of q1
    obtain ⟨r, rfl⟩ := List.length_eq_one_iff.mp q2
    subst ea
    have hl : (decide (0 ≤ r.length) && decide (r.length ≤ 60) && r.all (PyInside.within 0 4294967295) && PyInside.lists [] []) = true := hb.2
    rw [Bool.and_eq_true, Bool.and_eq_true, Bool.and_eq_true, List.all_eq_true] at hl
    obtain ⟨ps, rfl⟩ := naturals (l := r) fun z hz => (within_iff (hl.1.2 z hz)).1
    refine ⟨.as_ ps, rfl, ?_, fun x hx => ?_⟩
    · have := of_decide_eq_true hl.1.1.2
      rwa [ints_length] at this
    · have := (within_iff (hl.1.2 (x : Int) (List.mem_map.mpr ⟨x, hx, rfl⟩))).2
      omega
  rw [if_neg h14] at hs
  by_cases h15 : p = 15
  · rw [if_pos h15] at hs; subst h15; exact un .kind (fun _ => rfl) (fun _ x => x) rfl hs
  rw [if_neg h15] at hs
  by_cases h16 : p = 16
  · rw [if_pos h16] at hs; subst h16; exact un .before (fun _ => rfl) (fun _ x => x) rfl hs
  rw [if_neg h16] at hs
  by_cases h17 : p = 17
  · rw [if_pos h17] at hs; subst h17; exact un .longer (fun _ => rfl) (fun _ x => x) rfl hs
  rw [if_neg h17] at hs
  by_cases h18 : p = 18
  · rw [if_pos h18] at hs; subst h18; exact plain .undo rfl rfl trivial hs
  rw [if_neg h18] at hs
  by_cases h19 : p = 19
  · rw [if_pos h19] at hs; subst h19; exact plain .state rfl rfl trivial hs
  rw [if_neg h19] at hs
  cases hs

/-- what is answered from a state on -/
def tells (s : Option Day) : List Call → List Int
  | [] => []
  | x :: xs => (((Kqu6Neutral.tell (step s x).2).length : Int) :: Kqu6Neutral.tell (step s x).2) ++ tells (step s x).1 xs
theorem played_rows : ∀ (xs : List Call) (s : Option Day), PyFlat.told (PyFlat.played Kqu6Neutral.step s (xs.map rowsOf)) = tells s xs
  | [], _ => rfl
  | x :: xs, s => by
    show PyFlat.told ((Kqu6Neutral.step s (rowsOf x)).2 :: PyFlat.played Kqu6Neutral.step (Kqu6Neutral.step s (rowsOf x)).1 (xs.map rowsOf)) = _
    rw [step_rows]
    show _ ++ PyFlat.told (PyFlat.played Kqu6Neutral.step (step s x).1 (xs.map rowsOf)) = _
    rw [played_rows xs]
    rfl
theorem calls_are : ∀ {cs : List (List (List Int))}, (∀ c ∈ cs, PyFlat.okCall PyKqu6.shape c) → cs.all (PyInside.call PyKqu6.bound) = true → ∃ xs : List Call, cs = xs.map rowsOf ∧ ∀ x ∈ xs, Bd x
  | [], _, _ => ⟨[], rfl, by simp⟩
  | c :: cs, h, hb => by
    rw [List.all_cons, Bool.and_eq_true] at hb
    obtain ⟨x, e, q⟩ := call_is (h c (List.mem_cons_self ..)) hb.1
    obtain ⟨xs, e2, q2⟩ := calls_are (cs := cs) (fun d hd => h d (List.mem_cons_of_mem _ hd)) hb.2
    refine ⟨x :: xs, by rw [e, e2]; rfl, fun y hy => ?_⟩
    rcases List.mem_cons.mp hy with rfl | hy
    · exact q
    · exact q2 y hy
theorem put_flat : ∀ xs : List Call, PyFlat.put (xs.map rowsOf) = xs.flatMap flat
  | [] => rfl
  | x :: xs => by
    show PyFlat.put1 (rowsOf x) ++ PyFlat.put (xs.map rowsOf) = _
    rw [put_rows, put_flat xs]
    rfl
/-- THE REQUEST -/
theorem asked_is {l : List Int} (h : PyKqu6.answers_asked l = true) : ∃ xs : List Call, l = xs.flatMap flat ∧ (∀ x ∈ xs, Bd x) ∧ xs.length ≤ 200 ∧ PyKqu6.answers l = tells none xs := by
  unfold PyKqu6.answers_asked at h
  cases e : PyFlat.calls PyKqu6.shape l.length l with
  | none => rw [e] at h; cases h
  | some cs =>
    rw [e] at h
    simp only [Bool.and_eq_true] at h
    obtain ⟨⟨⟨⟨_, h1⟩, h2⟩, _⟩, _⟩ := h
    obtain ⟨q1, q2⟩ := PyFlat.put_calls _ _ _ e
    obtain ⟨xs, rfl, hx⟩ := calls_are q2 h2
    refine ⟨xs, by rw [q1, put_flat], hx, ?_, ?_⟩
    · have := of_decide_eq_true (show decide ((xs.map rowsOf).length ≤ 200) = true from h1)
      rwa [List.length_map] at this
    · unfold PyKqu6.answers PyKqu6.calls
      rw [e]
      show PyFlat.told (PyFlat.played Kqu6Neutral.step none ((xs.map rowsOf).map PyKqu6.whole)) = _
      rw [List.map_map, show PyKqu6.whole ∘ rowsOf = rowsOf from funext whole_rows, played_rows]
theorem tell_len (s : Option Day) (c : Call) : (Kqu6Neutral.tell (step s c).2).length ≤ 5 := by
  cases s with
  | none => cases c <;> (show 1 ≤ 5; decide)
  | some d =>
    cases c <;> unfold step <;> dsimp only
    case start => exact (by decide)
    all_goals first
      | exact (by decide)
      | (show 1 ≤ 5; decide)
      | (show 2 ≤ 5; decide)
      | (show 3 ≤ 5; decide)
      | (show 5 ≤ 5; decide)
      | (split <;> first | exact (by decide) | (show 1 ≤ 5; decide) | (show 2 ≤ 5; decide) | (show 3 ≤ 5; decide) | (split <;> first | exact (by decide) | (show 1 ≤ 5; decide) | (show 2 ≤ 5; decide) | (show 3 ≤ 5; decide)))
      | skip
end DS

set_option autoImplicit false
/-! Who went as whom. -/
namespace DS
open Kqu6

/-- how many of a list are at most t -/
def cle (l : List Nat) (t : Nat) : Nat := (l.filter fun x => decide (x ≤ t)).length
theorem cle_cons (x : Nat) (l : List Nat) (t : Nat) : cle (x :: l) t = (if x ≤ t then 1 else 0) + cle l t := by
  unfold cle
  by_cases h : x ≤ t
  · simp [h]; omega
  · simp [h]
theorem cle_none {l : List Nat} {t : Nat} (h : ∀ x ∈ l, t < x) : cle l t = 0 := by
  unfold cle
  rw [List.filter_eq_nil_iff.mpr]
  · rfl
  intro x hx
  have := h x hx
  simp; omega
theorem cle_minutes (l : List Event) (t : Nat) : cle (minutes l) t = before l t := by
  induction l with
  | nil => rfl
  | cons e l ih =>
    show cle (e.minute :: minutes l) t = _
    rw [cle_cons, before_cons, ih]
theorem minutes_length (l : List Event) : (minutes l).length = l.length := List.length_map ..
theorem minutes_append (a b : List Event) : minutes (a ++ b) = minutes a ++ minutes b := List.map_append ..
theorem minutes_get {l : List Event} {i : Nat} {e : Event} (h : l[i]? = some e) : (minutes l)[i]? = some e.minute := by
  unfold minutes
  rw [List.getElem?_map, h]
  rfl
theorem minutes_getD {l : List Event} {i : Nat} {e : Event} (h : l[i]? = some e) : (minutes l).getD i 0 = e.minute := by
  rw [List.getD_eq_getElem?_getD, minutes_get h]
  rfl

/-- whoever is here has come by each that goes; so many have come -/
structure LO (here ins outs : List Nat) : Prop where
  sI : ins.Pairwise (· ≤ ·)
  sO : outs.Pairwise (· ≤ ·)
  hle : ∀ x ∈ here, ∀ o ∈ outs, x ≤ o
  dom : ∀ t, cle outs t ≤ here.length + cle ins t
theorem pw_minutes {l : List Event} (h : l.Pairwise fun a b => a.minute ≤ b.minute) : (minutes l).Pairwise (· ≤ ·) := List.pairwise_map.mpr h
theorem LO.init {d : Day} (g : Good d) : LO [] (minutes d.ins) (minutes d.outs) where
  sI := pw_minutes g.sI
  sO := pw_minutes g.sO
  hle := by simp
  dom := fun t => by
    rw [cle_minutes, cle_minutes]
    have := g.all t
    show before d.outs t ≤ 0 + before d.ins t
    omega
theorem LO.push {here r l : List Nat} {i o : Nat} (h : LO here (i :: r) (o :: l)) (hio : i ≤ o) : LO (i :: here) r (o :: l) where
  sI := (List.pairwise_cons.mp h.sI).2
  sO := h.sO
  hle := fun x hx y hy => by
    rcases List.mem_cons.mp hx with rfl | hx
    · rcases List.mem_cons.mp hy with rfl | hy
      · exact hio
      · exact Nat.le_trans hio ((List.pairwise_cons.mp h.sO).1 y hy)
    · exact h.hle x hx y hy
  dom := fun t => by
    have q := h.dom t
    rw [cle_cons i] at q
    show _ ≤ here.length + 1 + cle r t
    by_cases z : i ≤ t
    · rw [if_pos z] at q; omega
    · rw [if_neg z] at q
      omega
theorem lastOut_push {here r l : List Nat} {i o : Nat} (hio : i ≤ o) : lastOut here (i :: r) (o :: l) = lastOut (i :: here) r (o :: l) := by
  rw [lastOut.eq_def]
  dsimp only
  rw [if_pos hio]
theorem LO.pop {here ins l : List Nat} {o : Nat} (h : LO here ins (o :: l)) (hn : ∀ i, ins.head? = some i → o < i) :
    ∃ x hs, here = x :: hs ∧ x ≤ o ∧ lastOut here ins (o :: l) = (o - x) :: lastOut hs ins l ∧ LO hs ins l := by
  have c0 : ∀ t, t ≤ o → cle ins t = 0 := fun t ht => by
    apply cle_none
    intro x hx
    cases ins with
    | nil => cases hx
    | cons i r =>
      have a := hn i rfl
      rcases List.mem_cons.mp hx with rfl | hx
      · omega
      · have := (List.pairwise_cons.mp h.sI).1 x hx
        omega
  have q := h.dom o
  rw [cle_cons, if_pos (Nat.le_refl o), c0 o (Nat.le_refl o)] at q
  cases here with
  | nil =>
    exfalso
    have : ([] : List Nat).length = 0 := rfl
    omega
  | cons x hs =>
    refine ⟨x, hs, rfl, h.hle x (List.mem_cons_self ..) o (List.mem_cons_self ..), ?_, (h.sI), (List.pairwise_cons.mp h.sO).2, fun y hy z hz => h.hle y (List.mem_cons_of_mem _ hy) z (List.mem_cons_of_mem _ hz), fun t => ?_⟩
    · cases ins with
      | nil => rw [lastOut.eq_def]
      | cons i r =>
        have := hn i rfl
        rw [lastOut.eq_def]
        dsimp only
        rw [if_neg (by omega)]
    · have p := h.dom t
      rw [cle_cons] at p
      have e : (x :: hs).length = hs.length + 1 := rfl
      by_cases z : o ≤ t
      · rw [if_pos z] at p; omega
      · have w : cle l t = 0 := cle_none fun y hy => by
          have := (List.pairwise_cons.mp h.sO).1 y hy
          omega
        omega
theorem lastOut_nil (here ins : List Nat) : lastOut here ins [] = [] := by
  rw [lastOut.eq_def]

/-! the first goes first -/
theorem firstOut_take_succ {I O : List Nat} {i a b : Nat} (ha : I[i]? = some a) (hb : O[i]? = some b) : firstOut (I.take (i + 1)) (O.take (i + 1)) = firstOut (I.take i) (O.take i) ++ [b - a] := by
  rw [take_succ_get ha, take_succ_get hb]
  unfold firstOut
  have h1 := (List.getElem?_eq_some_iff.mp ha).1
  have h2 := (List.getElem?_eq_some_iff.mp hb).1
  rw [List.zip_append (by rw [List.length_take, List.length_take]; omega), List.map_append]
  rfl
theorem firstOut_length {I O : List Nat} (h : O.length ≤ I.length) : (firstOut I O).length = O.length := by
  unfold firstOut
  rw [List.length_map, List.length_zip]
  omega
theorem firstOut_get {I O : List Nat} {i a b : Nat} (ha : I[i]? = some a) (hb : O[i]? = some b) : (firstOut I O)[i]? = some (b - a) := by
  unfold firstOut
  rw [List.getElem?_map, List.getElem?_zip_eq_some (z := (a, b)) |>.mpr ⟨ha, hb⟩]
  rfl
theorem pairs_length {d : Day} (g : Good d) : (pairs d).length = d.outs.length := by
  unfold pairs
  rw [firstOut_length (by rw [minutes_length, minutes_length]; exact g.len), minutes_length]
theorem pairs_get {d : Day} (g : Good d) {i : Nat} {b : Event} (hb : d.outs[i]? = some b) : ∃ a, d.ins[i]? = some a ∧ a.minute ≤ b.minute ∧ (pairs d)[i]? = some (b.minute - a.minute) := by
  obtain ⟨a, ha, hle⟩ := g.fifo hb
  exact ⟨a, ha, hle, firstOut_get (minutes_get ha) (minutes_get hb)⟩

/-! told of stays, in whole numbers -/
theorem told_sum (l : List Nat) : ((Kqu6.sum l : Nat) : Int) = (asInts l).sum := by rw [sum_eq, sum_cast]; rfl
theorem told_squares (l : List Nat) : ((squares l : Nat) : Int) = ((asInts l).map fun x => x * x).sum := by
  unfold squares
  rw [sum_eq, sum_cast]
  unfold asInts
  rw [List.map_map, List.map_map]
  congr 1
theorem told_greatest {l : List Nat} {m : Int} (hm : m ∈ asInts l) (h : ∀ y ∈ asInts l, y ≤ m) : m = (greatest l : Nat) := by
  obtain ⟨n, hn, rfl⟩ := List.mem_map.mp hm
  unfold greatest
  rw [max_unique hn fun x hx => ?_]
  have := h (x : Int) (List.mem_map.mpr ⟨x, hx, rfl⟩)
  omega
theorem greatest_nil : greatest [] = 0 := rfl
theorem squares_nil : squares [] = 0 := rfl

/-! gone so -/
structure AsOk (I O p : List Nat) (i : Nat) : Prop where
  once : p.getD i 0 ∉ p.drop (i + 1)
  who : p.getD i 0 < I.length
  came : I.getD (p.getD i 0) 0 ≤ O.getD i 0
theorem as_some {I O p : List Nat} (hl : p.length = O.length) (h : ∀ i, i < p.length → AsOk I O p i) : as_ I O p = some ((List.range p.length).map fun i => O.getD i 0 - I.getD (p.getD i 0) 0) := by
  unfold as_
  rw [if_pos]
  refine ⟨hl, ?_⟩
  rw [List.all_eq_true]
  intro i hi
  have q := h i (List.mem_range.mp hi)
  rw [Bool.and_eq_true, Bool.and_eq_true]
  refine ⟨⟨?_, decide_eq_true q.who⟩, decide_eq_true q.came⟩
  have := q.once
  simpa using this
theorem as_none_len {I O p : List Nat} (hl : p.length ≠ O.length) : as_ I O p = none := by
  unfold as_
  rw [if_neg]
  exact fun q => hl q.1
theorem as_none {I O p : List Nat} {i : Nat} (hi : i < p.length) (h : ¬ AsOk I O p i) : as_ I O p = none := by
  unfold as_
  rw [if_neg]
  rintro ⟨_, q⟩
  rw [List.all_eq_true] at q
  have q := q i (List.mem_range.mpr hi)
  rw [Bool.and_eq_true, Bool.and_eq_true] at q
  refine h ⟨?_, of_decide_eq_true q.1.2, of_decide_eq_true q.2⟩
  have z := q.1.1
  simpa using z
/-- no place twice -/
theorem once_iff_nodup {p : List Nat} : (∀ i, i < p.length → p.getD i 0 ∉ p.drop (i + 1)) ↔ p.Nodup := by
  induction p with
  | nil => simp
  | cons x p ih =>
    rw [List.nodup_cons, ← ih]
    constructor
    · intro h
      refine ⟨h 0 (by simp), fun i hi => ?_⟩
      exact h (i + 1) (by simpa using hi)
    · rintro ⟨h1, h2⟩ i hi
      cases i with
      | zero => exact h1
      | succ i => exact h2 i (by simpa using hi)
end DS

set_option autoImplicit false
/-! The second stage's numbers, as the program reckons them. -/
namespace DS
open Kqu6
theorem asInts_get {l : List Nat} {i x : Nat} (h : l[i]? = some x) : (asInts l)[i]? = some (x : Int) := by
  unfold asInts
  rw [List.getElem?_map, h]
  rfl
theorem asInts_append (a b : List Nat) : asInts (a ++ b) = asInts a ++ asInts b := List.map_append ..
theorem asInts_take (a : List Nat) (i : Nat) : (asInts a).take i = asInts (a.take i) := by
  unfold asInts
  rw [List.map_take]
theorem take_snoc {l : List Nat} {i x : Nat} (h : l[i]? = some x) : asInts (l.take (i + 1)) = asInts (l.take i) ++ [(x : Int)] := by
  rw [take_succ_get h, asInts_append]
  rfl
theorem filter_snoc {α : Type} {p : α → Bool} {l : List α} {i : Nat} {x : α} (h : l[i]? = some x) : (l.take (i + 1)).filter p = (l.take i).filter p ++ if p x = true then [x] else [] := by
  rw [take_succ_get h, List.filter_append]
  congr 1
  by_cases q : p x = true
  · rw [if_pos q, List.filter_cons_of_pos q]
    rfl
  · rw [if_neg q, List.filter_cons_of_neg q]
    rfl
theorem minutes_ofKind_get {l : List Event} {i : Nat} {e : Event} (h : l[i]? = some e) (k : Nat) :
    asInts (minutes (ofKind (l.take (i + 1)) k)) = asInts (minutes (ofKind (l.take i) k)) ++ if e.kind = k then [(e.minute : Int)] else [] := by
  unfold ofKind
  rw [filter_snoc h, minutes_append, asInts_append]
  congr 1
  by_cases q : e.kind = k
  · rw [if_pos q, if_pos (by simpa using q)]
    rfl
  · rw [if_neg q, if_neg (by simpa using q)]
    rfl
theorem minutes_mem_le {l : List Event} (h : ∀ e ∈ l, E4 e) : ∀ x ∈ minutes l, x ≤ 500 := by
  intro x hx
  obtain ⟨e, he, rfl⟩ := List.mem_map.mp hx
  exact (h e he).1
/-! stays -/
theorem firstOut_le {I O : List Nat} {m : Nat} (h : ∀ o ∈ O, o ≤ m) : ∀ x ∈ firstOut I O, x ≤ m := by
  intro x hx
  obtain ⟨⟨a, b⟩, hp, rfl⟩ := List.mem_map.mp hx
  have := h b (List.of_mem_zip hp).2
  show b - a ≤ m
  omega
theorem firstOut_len_le (I O : List Nat) : (firstOut I O).length ≤ O.length := by
  unfold firstOut
  rw [List.length_map, List.length_zip]
  omega
theorem lastOut_le {m : Nat} : ∀ (n : Nat) (here ins outs : List Nat), ins.length + outs.length ≤ n → (∀ o ∈ outs, o ≤ m) → (lastOut here ins outs).length ≤ outs.length ∧ ∀ x ∈ lastOut here ins outs, x ≤ m := by
  intro n
  induction n with
  | zero =>
    intro here ins outs h _
    have : outs = [] := List.length_eq_zero_iff.mp (by omega)
    subst this
    rw [lastOut_nil]
    simp
  | succ n ih =>
    intro here ins outs h ho
    cases outs with
    | nil => rw [lastOut_nil]; simp
    | cons o l =>
      have hl : ∀ y ∈ l, y ≤ m := fun y hy => ho y (List.mem_cons_of_mem _ hy)
      have ho0 := ho o (List.mem_cons_self ..)
      have popped : ∀ (x : Nat) (hs ins' : List Nat), ins'.length + (o :: l).length ≤ n + 1 → ((o - x) :: lastOut hs ins' l).length ≤ (o :: l).length ∧ ∀ y ∈ (o - x) :: lastOut hs ins' l, y ≤ m := by
        intro x hs ins' hi
        rw [List.length_cons] at hi
        have q := ih hs ins' l (by omega) hl
        refine ⟨by rw [List.length_cons, List.length_cons]; omega, fun y hy => ?_⟩
        rcases List.mem_cons.mp hy with rfl | hy
        · omega
        · exact q.2 y hy
      cases ins with
      | nil =>
        rw [lastOut.eq_def]
        dsimp only
        cases here with
        | nil => simp
        | cons x hs => exact popped x hs [] (by simpa using h)
      | cons i r =>
        by_cases z : i ≤ o
        · rw [lastOut_push z]
          exact ih _ r (o :: l) (by rw [List.length_cons] at h; omega) ho
        · rw [lastOut.eq_def]
          dsimp only
          rw [if_neg z]
          cases here with
          | nil => simp
          | cons x hs => exact popped x hs (i :: r) h
theorem take_minutes {l : List Event} {n : Nat} (h : l.length ≤ n) : (minutes l).take n = minutes l := List.take_of_length_le (by rw [minutes_length]; exact h)
theorem stays_whole {I O : List Event} (h : I.length ≤ O.length) : stays I O = (asInts (minutes O)).sum - (asInts (minutes I)).sum := by
  unfold stays
  rw [take_minutes h, told_sum, told_sum]
theorem there_zero {d : Day} (h : there d = 0) : d.ins.length ≤ d.outs.length := by
  unfold there at h
  omega
theorem kind_zero {d : Day} {k : Nat} (h : kindThere d k = 0) : (ofKind d.ins k).length ≤ (ofKind d.outs k).length := by
  unfold kindThere at h
  omega
theorem stays_cast {x : Int} (h : 0 ≤ x) : ((x.toNat : Nat) : Int) = x := Int.toNat_of_nonneg h
theorem before_filter (l : List Event) (t : Nat) : (((minutes l).filter fun x => decide (x ≤ t)).length) = before l t := cle_minutes l t
theorem pairs_le {d : Day} (g : Good d) : ∀ x ∈ pairs d, x ≤ 500 := firstOut_le (minutes_mem_le g.outs_ok)
theorem fifo_le {d : Day} (g : Good d) {i a b : Nat} (ha : (minutes d.ins)[i]? = some a) (hb : (minutes d.outs)[i]? = some b) : a ≤ b := by
  unfold minutes at ha hb
  rw [List.getElem?_map] at ha hb
  cases e : d.outs[i]? with
  | none => rw [e] at hb; cases hb
  | some o =>
    rw [e] at hb
    obtain ⟨x, hx, hle⟩ := g.fifo e
    rw [hx] at ha
    cases ha
    cases hb
    exact hle
/-! gone so -/
theorem as_so {I O p l : List Nat} (h : as_ I O p = some l) : p.length = O.length ∧ (∀ x ∈ p, x < I.length) ∧ (∀ (i a b : Nat), (p.map fun x => I.getD x 0)[i]? = some a → O[i]? = some b → a ≤ b) ∧ l = firstOut (p.map fun x => I.getD x 0) O := by
  unfold as_ at h
  split at h
  · rename_i hc
    obtain ⟨hl, hall⟩ := hc
    rw [List.all_eq_true] at hall
    have each : ∀ i, i < p.length → p.getD i 0 < I.length ∧ I.getD (p.getD i 0) 0 ≤ O.getD i 0 := by
      intro i hi
      have q := hall i (List.mem_range.mpr hi)
      rw [Bool.and_eq_true, Bool.and_eq_true] at q
      exact ⟨of_decide_eq_true q.1.2, of_decide_eq_true q.2⟩
    have h := Option.some.inj h
    refine ⟨hl, ?_, ?_, ?_⟩
    · intro x hx
      obtain ⟨i, hi, e⟩ := List.mem_iff_getElem.mp hx
      have := (each i hi).1
      rw [List.getD_eq_getElem?_getD, List.getElem?_eq_getElem hi] at this
      rw [← e]
      exact this
    · intro i a b ha hb
      rw [List.getElem?_map] at ha
      cases e : p[i]? with
      | none => rw [e] at ha; cases ha
      | some x =>
        rw [e] at ha
        have hi := (List.getElem?_eq_some_iff.mp e).1
        have q := (each i hi).2
        rw [List.getD_eq_getElem?_getD (l := p), e, List.getD_eq_getElem?_getD (l := O), hb] at q
        have ha : I.getD x 0 = a := Option.some.inj ha
        rw [← ha]
        exact q
    · rw [← h]
      apply List.ext_getElem?
      intro i
      by_cases hi : i < p.length
      · have ep : p[i]? = some p[i] := List.getElem?_eq_getElem hi
        have eo : O[i]? = some (O[i]'(by omega)) := List.getElem?_eq_getElem (by omega)
        have em : (p.map fun x => I.getD x 0)[i]? = some (I.getD p[i] 0) := by rw [List.getElem?_map, ep]; rfl
        rw [map_range_get _ hi, firstOut_get em eo, List.getD_eq_getElem?_getD (l := O), eo, List.getD_eq_getElem?_getD (l := p), ep]
        rfl
      · rw [List.getElem?_eq_none (by simp; omega), List.getElem?_eq_none]
        unfold firstOut
        rw [List.length_map, List.length_zip, List.length_map]
        omega
  · cases h
theorem as_yes {I O p : List Nat} (hl : p.length = O.length) (hn : p.Nodup) (h : ∀ (i x b : Nat), p[i]? = some x → O[i]? = some b → x < I.length ∧ I.getD x 0 ≤ b) : (as_ I O p).isSome = true := by
  rw [as_some hl]
  · rfl
  · intro i hi
    have ep : p[i]? = some p[i] := List.getElem?_eq_getElem hi
    have eo : O[i]? = some (O[i]'(by omega)) := List.getElem?_eq_getElem (by omega)
    have q := h i _ _ ep eo
    have gp : p.getD i 0 = p[i] := by rw [List.getD_eq_getElem?_getD, ep]; rfl
    have go : O.getD i 0 = O[i]'(by omega) := by rw [List.getD_eq_getElem?_getD, eo]; rfl
    refine ⟨(once_iff_nodup.mpr hn) i hi, ?_, ?_⟩
    · rw [gp]; exact q.1
    · rw [gp, go]; exact q.2
theorem as_no_nodup {I O p : List Nat} (hn : ¬ p.Nodup) : as_ I O p = none := by
  cases e : as_ I O p with
  | none => rfl
  | some l =>
    exfalso
    apply hn
    rw [← once_iff_nodup]
    intro i hi q
    rw [as_none hi fun z => z.once q] at e
    cases e
theorem as_no_at {I O p : List Nat} {i x b : Nat} (ep : p[i]? = some x) (eo : O[i]? = some b) (h : ¬ (x < I.length ∧ I.getD x 0 ≤ b)) : as_ I O p = none := by
  have hi := (List.getElem?_eq_some_iff.mp ep).1
  refine as_none hi fun z => h ?_
  have gp : p.getD i 0 = x := by rw [List.getD_eq_getElem?_getD, ep]; rfl
  have go : O.getD i 0 = b := by rw [List.getD_eq_getElem?_getD, eo]; rfl
  have w := z.who
  have c := z.came
  rw [gp] at w c
  rw [go] at c
  exact ⟨w, c⟩
theorem step_as (d : Day) (p : List Nat) : step (some d) (.as_ p) = (some d, match as_ (minutes d.ins) (minutes d.outs) p with
    | none => .num (-22)
    | some l => told l) := rfl
/-! the common divisor -/
theorem gcd_turn {a b : Nat} : Nat.gcd b (a % b) = Nat.gcd a b := by
  rw [Nat.gcd_comm, ← Nat.gcd_rec, Nat.gcd_comm]
theorem frac_eq {n m : Nat} : frac n m = [n / Nat.gcd n m, m / Nat.gcd n m] := rfl
end DS

set_option autoImplicit false
set_option Elab.async false
set_option maxRecDepth 100000
set_option maxHeartbeats 2000000
/-! max of a list of asInts with a default. -/
namespace MD
open PySem
/-- what stands in the loop's own list behind j items -/
def Best (P : Nat → Value → Prop) (bt : Nat → Nat → Bool) : Nat → Array Value → Prop
  | 0, B => B = #[]
  | j + 1, B => ∃ v, B = #[v, v] ∧ P (argBest bt j) v
/-- what comes out behind n items -/
def Out (P : Nat → Value → Prop) (bt : Nat → Nat → Bool) (d : Value) : Nat → Value → Prop
  | 0, v => v = d
  | n + 1, v => P (argBest bt n) v
theorem name_loop : (toString "max" ++ toString ".loop" : String) = "max.loop" := by decide
abbrev lo (B : Array Value) (c : Nat) : Obj := { cls := .type "list", dict := none, data := .seq B c, slots := #[] }
theorem loop {prog : Program} {w : World} {A : Around} {R : Result → Shared → Prop} {I S : Addr} {fp wr : List Addr} {n : Nat} {P : Nat → Value → Prop} {St : Nat → Heap → Prop} {bt : Nat → Nat → Bool} {d : Value}
    (W : Walks prog w A.in1 I fp wr n P St) (C : CmpOf prog w A.in1 .Gt P bt) (hS : S ∉ fp) :
    ∀ (k j : Nat) (s : Shared) (B : Array Value) (c : Nat), n = j + k → St j s.heap → Best P bt j B → s.heap.get? S = some (lo B c) →
      (∀ v h' tk, Out P bt d n v → (∀ b o, b ∉ wr → b ≠ S → s.heap.get? b = some o → h'.get? b = some o) → R (.ok (.ret v)) { s with heap := h', toks := tk }) →
      codeAny (model prog w) A (.builtin "max.loop" ⟨[.ref I, .none, .ref S], [(Str.ofString "default", d)]⟩) R s := by
  have nw : S ∉ wr := fun q => hS (W.sub _ q)
  intro k
  induction k with
  | zero =>
    intro j s B c e st hB g hR
    have e : n = j := e
    subst e
    refine codeAny_builtin F.entry_max_loop ?_
    rw [Around.under_plainId F.plain_max_loop _]
    cases n with
    | zero =>
      have hB : B = #[] := hB
      subst hB
      show wpAny _ A.in1 (seqItems? (.ref S) >>= _) _ _ s
      refine wpAny_bind (wpAny_seqItems g rfl ?_)
      show wpAny _ A.in1 (tryCatch (pyNext (.ref I)) _ >>= _) _ _ s
      refine wpAny_bind (wpAny_tryCatch (W.done s _ _ st fun h' tk kp => ?_))
      show wpAny _ A.in1 (rule _ >>= _) _ _ _
      refine wpAny_bind (wpAny_rule (wpAny_pure ?_))
      exact hR d h' tk rfl fun b o z _ => kp b o z
    | succ m =>
      obtain ⟨v, rfl, hv⟩ := hB
      show wpAny _ A.in1 (seqItems? (.ref S) >>= _) _ _ s
      refine wpAny_bind (wpAny_seqItems g rfl ?_)
      show wpAny _ A.in1 (tryCatch (pyNext (.ref I)) _ >>= _) _ _ s
      refine wpAny_bind (wpAny_tryCatch (W.done s _ _ st fun h' tk kp => ?_))
      have g' := kp S _ nw g
      show wpAny _ A.in1 (updateSeq S (fun _ => #[]) >>= _) _ _ _
      refine wpAny_bind ?_
      refine wpAny_updateSeq g' rfl (wpAny_bind (wpAny_letGo (wpAny_pure ?_)))
      exact hR v _ tk hv fun b o z1 z2 q => (Heap.get?_update_other _ _ z2.symm).trans (kp b o z1 q)
  | succ k ih =>
    intro j s B c e st hB g hR
    have lt : j < n := by omega
    refine codeAny_builtin F.entry_max_loop ?_
    rw [Around.under_plainId F.plain_max_loop _]
    cases j with
    | zero =>
      have hB : B = #[] := hB
      subst hB
      show wpAny _ A.in1 (seqItems? (.ref S) >>= _) _ _ s
      refine wpAny_bind (wpAny_seqItems g rfl ?_)
      show wpAny _ A.in1 (tryCatch (pyNext (.ref I)) _ >>= _) _ _ s
      refine wpAny_bind (wpAny_tryCatch (W.item 0 s _ _ lt st fun v h' tk hP st' kp => ?_))
      have g' := kp S _ nw g
      show wpAny _ A.in1 (updateSeq S (fun _ => #[v, v]) >>= _) _ _ _
      refine wpAny_bind ?_
      refine wpAny_updateSeq g' rfl ?_
      rw [name_loop]
      refine wpAny_pure ⟨plainId_quiet F.plain_max_loop _, ih 1 _ #[v, v] _ (by omega) (W.frame _ _ _ st' fun b z o q => ?_) ⟨v, rfl, hP⟩ (Heap.get?_update_self _ g' rfl) fun v' h2 tk2 ho kp2 => ?_⟩
      · exact (Heap.get?_update_other _ _ (fun x : S = b => hS (x ▸ z))).trans q
      · exact hR v' h2 tk2 ho fun b o z1 z2 q => kp2 b o z1 z2 ((Heap.get?_update_other _ _ z2.symm).trans (kp b o z1 q))
    | succ m =>
      obtain ⟨vb, rfl, hv⟩ := hB
      show wpAny _ A.in1 (seqItems? (.ref S) >>= _) _ _ s
      refine wpAny_bind (wpAny_seqItems g rfl ?_)
      show wpAny _ A.in1 (tryCatch (pyNext (.ref I)) _ >>= _) _ _ s
      refine wpAny_bind (wpAny_tryCatch (W.item (m + 1) s _ _ lt st fun v h' tk hP st' kp => ?_))
      have g' := kp S _ nw g
      show wpAny _ A.in1 (tryCatch (holding [v, v] (richCompare .Gt v vb >>= _)) _ >>= _) _ _ _
      refine wpAny_bind (wpAny_tryCatch (wpAny_holding (wpAny_bind (C (m + 1) (argBest bt m) v vb _ _ _ hP hv ?_))))
      refine wpAny_bind (wpAny_holding (wpAny_truthy_bool ?_))
      refine wpAny_bind (wpAny_letGo (wpAny_pure ?_))
      cases hb : bt (m + 1) (argBest bt m) with
      | true =>
        rw [if_pos rfl]
        refine wpAny_bind ?_
        refine wpAny_updateSeq g' rfl (wpAny_bind (wpAny_letGo ?_))
        rw [name_loop]
        refine wpAny_pure ⟨plainId_quiet F.plain_max_loop _, ih (m + 2) _ #[v, v] _ (by omega) (W.frame _ _ _ st' fun b z o q => ?_) ⟨v, rfl, ?_⟩ (Heap.get?_update_self _ g' rfl) fun v' h2 tk2 ho kp2 => ?_⟩
        · exact (Heap.get?_update_other _ _ (fun x : S = b => hS (x ▸ z))).trans q
        · show P (if bt (m + 1) (argBest bt m) = true then m + 1 else argBest bt m) v
          rw [if_pos hb]
          exact hP
        · exact hR v' h2 tk2 ho fun b o z1 z2 q => kp2 b o z1 z2 ((Heap.get?_update_other _ _ z2.symm).trans (kp b o z1 q))
      | false =>
        rw [if_neg Bool.false_ne_true]
        refine wpAny_bind (wpAny_letGo ?_)
        rw [name_loop]
        refine wpAny_pure ⟨plainId_quiet F.plain_max_loop _, ih (m + 2) _ #[vb, vb] c (by omega) st' ⟨vb, rfl, ?_⟩ g' fun v' h2 tk2 ho kp2 => ?_⟩
        · show P (if bt (m + 1) (argBest bt m) = true then m + 1 else argBest bt m) vb
          rw [if_neg (by rw [hb]; exact Bool.false_ne_true)]
          exact hv
        · exact hR v' h2 tk2 ho fun b o z1 z2 q => kp2 b o z1 z2 (kp b o z1 q)
theorem args_ok (a v : Value) : argsOk "max" ⟨[a], [(Str.ofString "default", v)]⟩ := by unfold argsOk; kernel_rfl
theorem entry {prog : Program} {w : World} {A : Around} {E : Value → Shared → Prop} {s : Shared} {args : List Value} {kw : List (Str × Value)} {Q : Value → Shared → Prop} (ha : argsOk "max" ⟨args, kw⟩)
    (hc : wpAny (model prog w) A.in1 (Builtin.«max» ⟨args, kw⟩) (fun fin s' => match fin with
      | .done f => (match (Except.ok f : Result) with | .ok (.ret v) => Q v s' | .ok _ => False | .error e => E e s')
      | .again c => c.quiet = true ∧ codeAny (model prog w) A c (fun r s' => match r with | .ok (.ret v) => Q v s' | .ok _ => False | .error e => E e s') s') E s) :
    wpAny (model prog w) A (call (.builtin "max") args kw) Q E s := by
  refine wpAny_call (codeAny_call_builtin F.plain_max F.entry_max ?_)
  simp only [checkBuiltinCall, F.kind_max]
  cases q : Manifest.signature? "max" with
  | none => exact wpAny_pure hc
  | some sig =>
    have z : Bind.checkArgs "max" sig ⟨args, kw⟩ = pure () := by simpa only [argsOk, q] using ha
    simp only [z]
    exact wpAny_pure hc
theorem raw {prog : Program} {w : World} {A : Around} {E : Value → Shared → Prop} {s : Shared} {l : Addr} {xs : Array (Int × Tok)} {d : Value} {Q : Value → Shared → Prop} (hh : A.handled = none) (hl : s.heap.IsList l (intItems xs))
    (h : ∀ v h' tk, Out (fun i v => (intItems xs)[i]? = some v) (fun i j => decide (numAt xs i > numAt xs j)) d xs.size v → (∀ b o, s.heap.get? b = some o → h'.get? b = some o) → Q v { s with heap := h', toks := tk }) :
    wpAny (model prog w) A (call (.builtin "max") [.ref l] [(Str.ofString "default", d)]) Q E s := by
  refine entry (args_ok _ _) ?_
  show wpAny _ A.in1 (Builtin.Builtins.bindParams "max" ["key", "default"] 0 ⟨[], [(Str.ofString "default", d)]⟩ >>= _) _ _ s
  refine wpAny_bind (wpAny_of_eq (show Builtin.Builtins.bindParams "max" ["key", "default"] 0 ⟨[], [(Str.ofString "default", d)]⟩ = pure [none, some d] from rfl) ?_)
  refine wpAny_bind (wpAny_pure ?_)
  refine wpAny_bind (iter_intList hl fun s2 e st hfp ne => ?_)
  subst e
  refine wpAny_bind (wpAny_newObj_type ?_)
  rw [name_loop]
  have W := Walks.list (prog := prog) (w := w) (A := A.in1) hh s.heap.objs.size l ne (intItems xs)
  have C : CmpOf prog w A.in1 .Gt (fun i v => (intItems xs)[i]? = some v) (fun i j => decide (numAt xs i > numAt xs j)) := CmpOf.ints_gt (numAt xs) fun _ _ => intItems_at
  have hs : (intItems xs).size = xs.size := by simp [intItems]
  refine wpAny_pure ⟨plainId_quiet F.plain_max_loop _, loop W C (fun q => Nat.lt_irrefl _ (hfp _ q)) _ 0 _ #[] 0 (by rw [Nat.zero_add]) (W.frame _ _ _ st fun b _ o q => Heap.get?_push_of_some _ q) rfl (Heap.get?_push_size _ rfl) fun v h' tk ho kp => ?_⟩
  rw [hs] at ho
  refine h v h' tk ho (old_kept (l := l) fun b o z q => kp b o z (Nat.ne_of_lt (Heap.lt_size q)) (Heap.get?_push_of_some _ q))
end MD

set_option autoImplicit false
set_option Elab.async false
set_option linter.all false
set_option maxRecDepth 100000
set_option maxHeartbeats 2000000
/-! What the layer lacks: max with a default, an item of a list as a value. -/
namespace DP
open PySem PySem.Spec PyProof.Rows L2
section
variable {X : Cx}
/-- xs[i] by values -/
theorem get_list : PGet X (rIxL X.K) := by
  intro pins s σ H o i ov iv Q I ro ri h
  obtain ⟨p, xs, k, v, rfl, rfl, hq, he, q⟩ := h
  cases ro
  obtain ⟨t, rfl⟩ := ri
  obtain ⟨its, r, pl, hz⟩ := I.list hq
  obtain ⟨j, h1, h2, h3, h4, h5⟩ := atI_get he
  obtain ⟨u, eu, ru⟩ := r.get h2
  have hl := r.length
  have hn := line63
  by_cases h0 : 0 ≤ k
  · have hj : k.toNat = j := by
      rw [seqIndex_of h0 h5] at h1
      exact Option.some.inj h1
    exact wpAny_getItem_list pl.isList h0 (by omega) (by rw [hj]; simpa using eu) ⟨v, H, I, ru, q⟩
  · have hj : (k + (its.toArray.size : Int)).toNat = j := by
      rw [seqIndex_neg (by omega) h4] at h1
      rw [List.size_toArray, ← hl]
      exact Option.some.inj h1
    exact wpAny_getItem_list_neg pl.isList (by omega) (by rw [List.size_toArray, ← hl]; exact h4) (by omega) (by rw [hj]; simpa using eu) ⟨v, H, I, ru, q⟩
/-- max(xs, default=d) of asInts: the arguments, then the keyword -/
def tMaxD (K : PySem.W.Frag) (t tk : TA) : TE := fun σ H Q => t σ H fun vs H1 => tk σ H1 fun ws H2 => ∃ (a : Addr) (ns : List Int) (d : Int), vs = [.ref a] ∧ ws = [.int d] ∧ SqL K H2 a (ns.map V.int) ∧
  ∀ m, (ns = [] ∧ m = d ∨ m ∈ ns ∧ ∀ z, z ∈ ns → z ≤ m) → Q (.int m) H2
theorem pe_maxD {e : Expr} {es : List Expr} {kws : List Keyword} {t tk : TA} {p pos : Pos} (hc : X.calm = true) (hg : Gl X "max") (hm : X.mg "max" = none) (ha : PA X (e :: es) t) (hk : PK X kws tk)
    (he : backTo pos (starEach (e :: es) X.env) = (false, eval e X.env) :: backTo pos (starEach es X.env) := by rfl)
    (hpl : (backTo pos (starEach (e :: es) X.env)).any (·.1) = false := by rfl)
    (hall : (backToKw pos (keywordEach kws X.env)).all (·.1.isSome) = true := by rfl)
    (hkw : (backToKw pos (keywordEach kws X.env)).any (·.1.isNone) = false := by rfl)
    (hks : (backToKw pos (keywordEach kws X.env)).filterMap (·.1) = [Str.ofString "default"] := by rfl) : PE X (.Call (.Name "max" p) (e :: es) kws pos) (tMaxD X.K t tk) := by
  intro pins s σ H Q I h
  refine wpAny_Call_Name_kw (ld_blt I hg hm PyProof.Rows.boot_max ?_)
  refine callWith_kw (thn (ha pos pins s σ H _ I h) fun us s1 ⟨vs, H1, I1, r1, q1⟩ => thn (hk pos pins s1 σ H1 _ I1 q1) fun ws s2 ⟨zs, H2, I2, r2, q2⟩ => ?_) he hpl hall hkw
  obtain ⟨a, ns, d, rfl, rfl, hs, q⟩ := q2
  obtain ⟨u, rfl, ru⟩ := r1.one
  obtain ⟨u2, rfl, t2, rfl⟩ := r2.one
  cases ru
  rw [hks]
  obtain ⟨its, rv, hl, _⟩ := I2.list hs
  have hl := hl.isList
  have hi := rv.ints
  obtain ⟨xs, ex⟩ := hi.allInts.items
  have hn : numsOf (intItems xs).toList = ns := by rw [← ex]; exact hi.numsOf
  rw [nums_intItems] at hn
  rw [ex] at hl
  refine MD.raw (I2.ok.hd hc) hl fun v h' tk ho hk => ?_
  have hlen : ns.length = xs.size := by rw [← hn, List.length_map, Array.length_toList]
  cases hz : xs.size with
  | zero =>
    rw [hz] at ho
    have ho : v = .int d t2 := ho
    subst ho
    have hnil : ns = [] := List.length_eq_zero_iff.mp (hlen.trans hz)
    exact ⟨.int d, H2, I2.kept hk, ⟨_, rfl⟩, q d (.inl ⟨hnil, rfl⟩)⟩
  | succ n =>
    rw [hz] at ho
    have ho : (intItems xs)[argBest (fun i j => decide (numAt xs i > numAt xs j)) n]? = some v := ho
    obtain ⟨t, rfl⟩ := intItems_at ho
    obtain ⟨h1, h2⟩ := argBest_gt (numAt xs) n
    refine ⟨.int _, H2, I2.kept hk, ⟨_, rfl⟩, q _ (.inr ⟨?_, fun z hz' => ?_⟩)⟩
    · rw [← hn, numAt_eq]
      exact PySem.getD_mem (by rw [List.length_map, Array.length_toList]; omega)
    · rw [← hn] at hz'
      obtain ⟨j, hj, rfl⟩ := mem_getD hz'
      rw [List.length_map, Array.length_toList] at hj
      rw [← numAt_eq]
      exact h2 j (by omega)
end
end DP

set_option autoImplicit false
set_option Elab.async false
set_option linter.all false
set_option maxRecDepth 100000
set_option maxHeartbeats 2000000
/-! set(xs) of whole numbers and its len; walks over zip; a step of a filter. -/
namespace DP
open PySem PySem.Spec PyProof.Rows L2
/-! ### how many differ -/
theorem dedup_step (xs : List Int) (x : Int) : step_dedup xs x = if xs.any (· == x) then xs else xs ++ [x] := rfl
theorem met_len {ns : List Int} : ∀ n : Nat, n ≤ ns.length → ((firstMet (fun i => ns.getD i 0) n).length = n ↔ (ns.take n).Nodup)
  | 0, _ => by simp [firstMet_zero]
  | n + 1, h => by
    have ih := met_len (ns := ns) n (by omega)
    have hle := firstMet_length_le (fun i => ns.getD i 0) n
    have ea : ns[n]? = some (ns.getD n 0) := by
      rw [List.getD_eq_getElem?_getD, List.getElem?_eq_getElem (show n < ns.length by omega)]
      rfl
    have em : (List.range n).map (fun i => ns.getD i 0) = ns.take n := by
      apply List.ext_getElem?
      intro i
      by_cases hi : i < n
      · rw [DS.map_range_get _ hi, List.getElem?_take_of_lt hi, List.getD_eq_getElem?_getD, List.getElem?_eq_getElem (show i < ns.length by omega)]
        rfl
      · rw [List.getElem?_eq_none (by simp; omega), List.getElem?_eq_none (by simp; omega)]
    rw [firstMet_succ, dedup_step, firstMet_any, em, DS.take_succ_get ea, List.nodup_append]
    by_cases q : (ns.take n).any (· == ns.getD n 0) = true
    · rw [if_pos q]
      obtain ⟨y, hy, e⟩ := List.any_eq_true.mp q
      have e : y = ns.getD n 0 := by simpa using e
      constructor
      · intro z; omega
      · intro z
        exact absurd e (z.2.2 y hy _ (List.mem_singleton.mpr rfl))
    · rw [if_neg q, List.length_append]
      have nn : ∀ y ∈ ns.take n, y ≠ ns.getD n 0 := fun y hy e => q (List.any_eq_true.mpr ⟨y, hy, by simpa using e⟩)
      constructor
      · intro z
        have z : (firstMet (fun i => ns.getD i 0) n).length + 1 = n + 1 := z
        refine ⟨ih.mp (by omega), by simp, fun a ha b hb => ?_⟩
        rw [List.mem_singleton.mp hb]
        exact nn a ha
      · intro z
        have := ih.mpr z.1
        show (firstMet (fun i => ns.getD i 0) n).length + 1 = n + 1
        omega
section
variable {X : Cx}
/-- set(xs) of a list of whole numbers: its size -/
def rSet (K : PySem.W.Frag) : List V → Hp → VK → Prop := fun vs H Q => ∃ (a : Addr) (ns : List Int), vs = [.ref a] ∧ SqL K H a (ns.map V.int) ∧ ns.length ≤ 1000 ∧
  ∀ (l : Addr) (S : Int → Bool) (n : Nat), H l = none → (n = ns.length ↔ ns.Nodup) → Q (.ref l) (upd H l (.set S n))
theorem cr_set (hc : X.calm = true) : CallR X (.type "set") (rSet X.K) := by
  intro pins s σ H vs us Q I r h
  obtain ⟨a, ns, rfl, hs, hn, q⟩ := h
  obtain ⟨its, rv, hl, _⟩ := I.list hs
  have hi := rv.ints
  rw [Vals.ref1 r]
  have hlen : its.length = ns.length := IntsAre.length hi
  refine PySem.call_set_list (items := its.toArray) (ns := ns) (I.ok.hd hc) hl.isList (by simpa using hi) (by rw [List.size_toArray]; unfold scanBound; omega) fun h' tk hS hk => ?_
  have hz : (firstMet (fun i => ns.getD i 0) its.toArray.size).length = ns.length ↔ ns.Nodup := by
    rw [List.size_toArray, hlen]
    have := met_len (ns := ns) ns.length (Nat.le_refl _)
    rwa [List.take_length] at this
  have kp : ∀ b u, s.heap.get? b = some u → h'.get? b = some u := fun b u e => hk b u (Heap.lt_size e) e
  have I2 := I.laid (a := s.heap.objs.size) (o := .set _ _) (t' := tk) kp (Nat.le_refl _) hS
  exact ⟨.ref s.heap.objs.size, _, I2, rfl, q _ _ _ (I.hok.fresh (Nat.le_refl _)) hz⟩
/-- len of a set -/
theorem call_lenS : CallR X (.builtin "len") (fun xs H Q => ∃ a S n, xs = [V.ref a] ∧ H a = some (.set S n) ∧ Q (.int (n : Nat)) H) := by
  intro pins s σ H xs us Q I r h
  obtain ⟨a, S, n, rfl, ha, q⟩ := h
  obtain ⟨u, rfl, ru⟩ := vals1 r
  cases ru
  obtain ⟨o, es, ep, t, ho, hx, hd, _, _, hb, hf, hz⟩ := I.hok a _ ha
  have h63 : (es.size : Int) < 2 ^ 63 := by
    unfold scanBound at hb
    have : (es.size : Int) < 4096 := by omega
    exact Int.lt_of_lt_of_le this (by decide)
  exact PySem.call_len_set ho hx hd hf h63 ⟨.int (n : Nat), H, I.tok _, ⟨s.toks + 1, by rw [hz]⟩, q⟩
end
/-! ### walks over zip -/
theorem for_zip {K : PySem.W.Frag} {a b : Addr} {xs ys : List V} {g : TG} {tb : TS} {D : Ends} {σ : L2.St} {H : Hp} (Pv : Nat → L2.St → Hp → Prop) (h0 : Pv 0 σ H) (hl : ∀ i σ H, Pv i σ H → SqL K H a xs ∧ SqL K H b ys) (hlen : xs.length = ys.length)
    (hs : ∀ i x y σ H T, xs[i]? = some x → ys[i]? = some y → H T = none → Pv i σ H → g (.ref T) σ (upd H T (.tup [x, y])) fun σ2 H2 => tb { D with nx := Pv (i + 1), ct := Pv (i + 1), bk := D.nx } σ2 H2) (hd : ∀ σ H, Pv xs.length σ H → D.nx σ H) :
    ∃ W : Nat → Nat → L2.St → Hp → Prop, (∃ m, W 0 m σ H) ∧ ∀ i m σ H, W i m σ H →
      ((Itz K a b).stop i H ∧ D.nx σ H) ∨ ((Itz K a b).go i H ∧ ∃ N : L2.St → Hp → Prop, (∀ σ' H', N σ' H' → ∃ m', m' < m ∧ W (i + 1) m' σ' H') ∧ ∀ x H', (Itz K a b).yld i H x H' → g x σ H' fun σ2 H2 => tb { D with nx := N, ct := N, bk := D.nx } σ2 H2) := by
  refine ⟨fun i m σ H => m = xs.length - i ∧ i ≤ xs.length ∧ Pv i σ H, ⟨xs.length, by simp, Nat.zero_le _, h0⟩, ?_⟩
  rintro i m σ H ⟨rfl, hi, p⟩
  obtain ⟨q1, q2⟩ := hl i σ H p
  by_cases hlt : i < xs.length
  · refine .inr ⟨⟨xs, ys, xs[i], ys[i]'(by omega), q1, q2, by simp [hlt], by simp [hlen ▸ hlt]⟩, Pv (i + 1), fun σ' H' p' => ⟨xs.length - (i + 1), by omega, rfl, hlt, p'⟩, fun x H' y => ?_⟩
    obtain ⟨T, u, v, rfl, hT, rfl, h1, h2⟩ := y
    exact hs i u v σ H T (h1 xs q1) (h2 ys q2) hT p
  · have e : i = xs.length := by omega
    subst e
    exact .inl ⟨⟨xs, ys, q1, q2, .inl (Nat.le_refl _)⟩, hd σ H p⟩
theorem lc_zip {K : PySem.W.Frag} {a b : Addr} {xs ys : List V} {g : TG} {tt : TT} {te : TE} {vs : List Nat} {σ : L2.St} {H1 : Hp} {D : Addr} {Qd : Hp → Prop} (Pv : Nat → Hp → Prop) (h0 : Pv 0 (upd H1 D (.lst []))) (hl : ∀ i H, Pv i H → SqL K H a xs ∧ SqL K H b ys) (n : Nat) (hn : n = min xs.length ys.length)
    (hs : ∀ i x y H T, xs[i]? = some x → ys[i]? = some y → H T = none → Pv i H → g (.ref T) (wipe σ vs) (upd H T (.tup [x, y])) fun σ2 H2 => wipe σ2 vs = wipe σ vs ∧ tt σ2 H2 fun b H3 =>
      if b = true then te σ2 H3 fun y H4 => ∃ acc, H4 D = some (.lst acc) ∧ acc.length < sizeLine ∧ Pv (i + 1) (upd H4 D (.lst (acc ++ [y]))) else Pv (i + 1) H3) (hd : ∀ H, Pv n H → Qd H) :
    ∃ W : Nat → Nat → Hp → Prop, (∃ m, W 0 m (upd H1 D (.lst []))) ∧ ∀ i m H, W i m H →
      ((Itz K a b).stop i H ∧ Qd H) ∨ ((Itz K a b).go i H ∧ ∃ Nx : Hp → Prop, (∀ H', Nx H' → ∃ m', m' < m ∧ W (i + 1) m' H') ∧ ∀ x H', (Itz K a b).yld i H x H' → g x (wipe σ vs) H' fun σ2 H2 => wipe σ2 vs = wipe σ vs ∧ tt σ2 H2 fun b H3 =>
        if b = true then te σ2 H3 fun y H4 => ∃ acc, H4 D = some (.lst acc) ∧ acc.length < sizeLine ∧ Nx (upd H4 D (.lst (acc ++ [y]))) else Nx H3) := by
  refine ⟨fun i m H => m = n - i ∧ i ≤ n ∧ Pv i H, ⟨n, by simp, Nat.zero_le _, h0⟩, ?_⟩
  rintro i m H ⟨rfl, hi, p⟩
  obtain ⟨q1, q2⟩ := hl i H p
  by_cases hlt : i < n
  · have l1 : i < xs.length := by omega
    have l2 : i < ys.length := by omega
    refine .inr ⟨⟨xs, ys, xs[i], ys[i], q1, q2, by simp [l1], by simp [l2]⟩, Pv (i + 1), fun H' p' => ⟨n - (i + 1), by omega, rfl, hlt, p'⟩, fun x H' y => ?_⟩
    obtain ⟨T, u, v, rfl, hT, rfl, h1, h2⟩ := y
    exact hs i u v H T (h1 xs q1) (h2 ys q2) hT p
  · have e : i = n := by omega
    subst e
    exact .inl ⟨⟨xs, ys, q1, q2, by omega⟩, hd H p⟩
/-- a pair in two names -/
theorem gtwo {K : PySem.W.Frag} {σ : L2.St} {H : Hp} {Q : L2.St → Hp → Prop} {t : Addr} {x y : V} {i j : Nat} (h : H t = some (.tup [x, y])) (q : Q ((σ.set i (some x)).set j (some y)) H) :
    gTup K 2 (gCons (gName i) (gCons (gName j) gNil)) (.ref t) σ H Q := ⟨t, _, rfl, SqT.of h, rfl, _, _, rfl, _, _, rfl, rfl, q⟩
theorem nat_at {l : List Nat} {i : Nat} {v : V} (h : ((DS.asInts l).map V.int)[i]? = some v) : ∃ x : Nat, l[i]? = some x ∧ v = .int (x : Nat) := by
  unfold DS.asInts at h
  rw [List.map_map, List.getElem?_map] at h
  cases e : l[i]? with
  | none => rw [e] at h; cases h
  | some x =>
    rw [e] at h
    exact ⟨x, rfl, (Option.some.inj h).symm⟩
theorem nat_get {l : List Nat} {i x : Nat} (h : l[i]? = some x) : ((DS.asInts l).map V.int)[i]? = some (.int (x : Nat)) := by
  unfold DS.asInts
  rw [List.map_map, List.getElem?_map, h]
  rfl
theorem nat_len (l : List Nat) : ((DS.asInts l).map V.int).length = l.length := by rw [List.length_map, DS.ints_length]
end DP

set_option autoImplicit false
set_option Elab.async false
set_option linter.all false
set_option maxRecDepth 100000
set_option maxHeartbeats 2000000
/-! The data of a day on the heap, and the loops over it. -/
namespace DP
open PySem PySem.Spec PyProof.Rows L2
/-! ### events -/
def evT (e : Kqu6.Event) : HO := .tup [.int (e.minute : Nat), .int (e.kind : Nat)]
def Evs (H : Hp) : List Addr → List Kqu6.Event → Prop
  | [], [] => True
  | p :: ps, e :: es => H p = some (evT e) ∧ Evs H ps es
  | [], _ :: _ => False
  | _ :: _, [] => False
theorem Evs.len {H : Hp} : ∀ {ps : List Addr} {es : List Kqu6.Event}, Evs H ps es → ps.length = es.length
  | [], [], _ => rfl
  | _ :: _, _ :: _, h => congrArg (· + 1) (Evs.len h.2)
  | [], _ :: _, h => h.elim
  | _ :: _, [], h => h.elim
/-- tuples stay -/
def Tups (H H' : Hp) : Prop := ∀ p xs, H p = some (.tup xs) → H' p = some (.tup xs)
theorem Evs.mono {H H' : Hp} (k : Tups H H') : ∀ {ps : List Addr} {es : List Kqu6.Event}, Evs H ps es → Evs H' ps es
  | [], [], _ => True.intro
  | _ :: _, _ :: _, h => ⟨k _ _ h.1, Evs.mono k h.2⟩
  | [], _ :: _, h => h.elim
  | _ :: _, [], h => h.elim
theorem Evs.append {H : Hp} : ∀ {ps qs : List Addr} {es fs : List Kqu6.Event}, Evs H ps es → Evs H qs fs → Evs H (ps ++ qs) (es ++ fs)
  | [], _, [], _, _, g => g
  | _ :: _, _, _ :: _, _, h, g => ⟨h.1, Evs.append h.2 g⟩
  | [], _, _ :: _, _, h, _ => h.elim
  | _ :: _, _, [], _, h, _ => h.elim
theorem Evs.rep {H : Hp} {p : Addr} {e : Kqu6.Event} (h : H p = some (evT e)) : ∀ n : Nat, Evs H (List.replicate n p) (List.replicate n e)
  | 0 => True.intro
  | n + 1 => ⟨h, Evs.rep h n⟩
theorem Evs.dropLast {H : Hp} : ∀ {ps : List Addr} {es : List Kqu6.Event}, Evs H ps es → Evs H ps.dropLast es.dropLast
  | [], [], _ => True.intro
  | [_], [_], _ => True.intro
  | _ :: p :: ps, _ :: e :: es, h => ⟨h.1, Evs.dropLast (ps := p :: ps) (es := e :: es) h.2⟩
  | [_], _ :: _ :: _, h => h.2.elim
  | _ :: _ :: _, [_], h => h.2.elim
  | [], _ :: _, h => h.elim
  | _ :: _, [], h => h.elim
theorem Evs.at {H : Hp} : ∀ {ps : List Addr} {es : List Kqu6.Event} {i : Nat} {x : V}, Evs H ps es → (ps.map V.ref)[i]? = some x → ∃ p e, x = .ref p ∧ es[i]? = some e ∧ H p = some (evT e)
  | [], [], _, _, _, h => by simp at h
  | p :: _, e :: _, 0, x, g, h => by
    have z : V.ref p = x := by simpa using h
    exact ⟨p, e, z.symm, rfl, g.1⟩
  | _ :: _, _ :: _, i + 1, x, g, h => Evs.at (i := i) g.2 (by simpa using h)
  | [], _ :: _, _, _, h, _ => h.elim
  | _ :: _, [], _, _, h, _ => h.elim
theorem Evs.get {H : Hp} {ps : List Addr} {es : List Kqu6.Event} {i : Nat} {e : Kqu6.Event} (g : Evs H ps es) (h : es[i]? = some e) : ∃ p, (ps.map V.ref)[i]? = some (.ref p) ∧ H p = some (evT e) := by
  have hi := (List.getElem?_eq_some_iff.mp h).1
  rw [← g.len] at hi
  obtain ⟨p, e', q1, q2, q3⟩ := g.at (x := .ref ps[i]) (i := i) (by simp [hi])
  rw [h] at q2
  cases q2
  cases q1
  exact ⟨ps[i], by simp [hi], q3⟩
/-! ### a heap that keeps all but one, two -/
def Keep (H H' : Hp) (c : Addr) : Prop := ∀ x o, H x = some o → x ≠ c → H' x = some o
theorem Keep.refl (H : Hp) (c : Addr) : Keep H H c := fun _ _ h _ => h
theorem Keep.upd {H H' : Hp} {c : Addr} {o : HO} (k : Keep H H' c) : Keep H (upd H' c o) c := fun x u h n => by
  rw [upd_ne n]
  exact k x u h n
theorem Keep.same {H H' : Hp} {c : Addr} (k : Keep H H' c) (h : H c = none) : Same H H' := fun x o e => k x o e (ne_of_none e h)
theorem _root_.L2.Same.tups {H H' : Hp} (s : Same H H') : Tups H H' := fun p xs h => s p _ h
theorem _root_.L2.Same.upd {H H' : Hp} {c : Addr} {o : HO} (s : Same H H') (h : H c = none) : Same H (upd H' c o) := fun x u e => by
  rw [upd_ne (ne_of_none e h)]
  exact s x u e
theorem same_new {H : Hp} {c : Addr} {o : HO} (h : H c = none) : Same H (upd H c o) := Same.upd (Same.refl H) h
theorem keep_tups {H H' : Hp} {c : Addr} (k : Keep H H' c) (h : ∀ xs, H c ≠ some (.tup xs)) : Tups H H' := fun p xs e => k p _ e fun q => h xs (q ▸ e)
/-! ### for a, b in pairs -/
theorem gpair {K : PySem.W.Frag} {σ : L2.St} {H : Hp} {Q : L2.St → Hp → Prop} {t : Addr} {e : Kqu6.Event} {i j : Nat} (h : H t = some (evT e)) (q : Q ((σ.set i (some (.int (e.minute : Nat)))).set j (some (.int (e.kind : Nat)))) H) :
    gTup K 2 (gCons (gName i) (gCons (gName j) gNil)) (.ref t) σ H Q := ⟨t, _, rfl, SqT.of h, rfl, _, _, rfl, _, _, rfl, rfl, q⟩
theorem ix_nat {n j : Nat} (h : j < n) : ixN n (j : Int) = some j := by
  unfold ixN
  rw [if_pos (by omega), if_pos (by omega)]
  simp
/-- a tally: by each event one place of a list goes up, or down -/
theorem tally_for {K : PySem.W.Frag} {a c : Addr} {P : Option V} {rest : L2.St} {m0 k0 : Option V} {ps : List Addr} {es : List Kqu6.Event} {H : Hp} {D : Ends} {opf : Int → Int → Int} {n ks : Nat} {key : Kqu6.Event → Nat} (F : Nat → Nat → Int)
    (hks : (∀ e : Kqu6.Event, key e = e.minute) ∧ ks = 2 ∨ (∀ e : Kqu6.Event, key e = e.kind) ∧ ks = 3) (hF : ∀ (i : Nat) (e : Kqu6.Event) (j : Nat), es[i]? = some e → F (i + 1) j = if j = key e then opf (F i j) 1 else F i j) (hn : ∀ e ∈ es, key e < n)
    (ha : H a = some (.lst (ps.map V.ref))) (he : Evs H ps es) (hc : H c = some (.lst ((List.range n).map fun j => V.int (F 0 j)))) (hac : a ≠ c)
    (hd : ∀ (m k : Option V) (H' : Hp), Keep H H' c → H' c = some (.lst ((List.range n).map fun j => V.int (F es.length j))) → D.nx (P :: some (.ref c) :: m :: k :: rest) H') :
    ∃ W : Nat → Nat → L2.St → Hp → Prop, (∃ m, W 0 m (P :: some (.ref c) :: m0 :: k0 :: rest) H) ∧ ∀ i m σ H, W i m σ H →
      ((Itl K a).stop i H ∧ D.nx σ H) ∨ ((Itl K a).go i H ∧ ∃ N : L2.St → Hp → Prop, (∀ σ' H', N σ' H' → ∃ m', m' < m ∧ W (i + 1) m' σ' H') ∧ ∀ x H', (Itl K a).yld i H x H' →
        gTup K 2 (gCons (gName 2) (gCons (gName 3) gNil)) x σ H' fun σ2 H2 => tAugS (tVar 1) (tVar ks) (tC (.int 1)) (rIxL K) (ipI opf) rSetL { D with nx := N, ct := N, bk := D.nx } σ2 H2) := by
  have tc : ∀ xs, H c ≠ some (.tup xs) := fun xs q => by rw [hc] at q; cases q
  refine for_list (K := K) (a := a) (xs := ps.map V.ref) (fun i σ H' => ∃ m k : Option V, σ = P :: some (.ref c) :: m :: k :: rest ∧ Keep H H' c ∧ H' c = some (.lst ((List.range n).map fun j => V.int (F i j)))) ⟨m0, k0, rfl, Keep.refl H c, hc⟩
    (fun i σ H' _ ⟨_, _, _, kp, _⟩ => SqL.of (kp a _ ha hac)) ?_ ?_
  · rintro i x σ H' hx ⟨m, k, rfl, kp, hc'⟩
    obtain ⟨t, e, rfl, hei, ht⟩ := he.at hx
    have hlt : key e < n := hn e (List.mem_of_getElem? hei)
    refine gpair (keep_tups kp tc t _ ht) ?_
    have hks' : (((P :: some (V.ref c) :: m :: k :: rest).set 2 (some (.int (e.minute : Nat)))).set 3 (some (.int (e.kind : Nat))))[ks]? = some (some (V.int (key e : Nat))) := by
      rcases hks with ⟨h1, h2⟩ | ⟨h1, h2⟩ <;> subst h2 <;> rw [h1] <;> rfl
    refine ⟨_, rfl, _, hks', c, _, _, _, rfl, rfl, SqL.of hc', atI_nat (DS.map_range_get _ hlt), _, _, rfl, rfl, c, _, _, key e, rfl, rfl, hc', ix_nat (by simpa using hlt), ?_⟩
    refine ⟨_, _, rfl, kp.upd, ?_⟩
    rw [upd_same, DS.map_range_set]
    congr 2
    apply List.map_congr_left
    intro j _
    rw [hF i e j hei]
    by_cases z : j = key e
    · rw [if_pos z, if_pos z, z]
    · rw [if_neg z, if_neg z]
  · rintro σ H' ⟨m, k, rfl, kp, hc'⟩
    rw [List.length_map, he.len] at hc'
    exact hd m k H' kp hc'
/-- a tally of minutes: by each number of a list one place of another goes up, or down -/
theorem tally_ints {K : PySem.W.Frag} {a c : Addr} {P : Option V} {rest : L2.St} {m0 : Option V} {ms : List Nat} {H : Hp} {D : Ends} {opf : Int → Int → Int} {n : Nat} (F : Nat → Nat → Int)
    (hF : ∀ (i x j : Nat), ms[i]? = some x → F (i + 1) j = if j = x then opf (F i j) 1 else F i j) (hn : ∀ x ∈ ms, x < n)
    (ha : H a = some (.lst ((DS.asInts ms).map V.int))) (hc : H c = some (.lst ((List.range n).map fun j => V.int (F 0 j)))) (hac : a ≠ c)
    (hd : ∀ (m : Option V) (H' : Hp), Keep H H' c → H' c = some (.lst ((List.range n).map fun j => V.int (F ms.length j))) → D.nx (P :: some (.ref c) :: m :: rest) H') :
    ∃ W : Nat → Nat → L2.St → Hp → Prop, (∃ m, W 0 m (P :: some (.ref c) :: m0 :: rest) H) ∧ ∀ i m σ H, W i m σ H →
      ((Itl K a).stop i H ∧ D.nx σ H) ∨ ((Itl K a).go i H ∧ ∃ N : L2.St → Hp → Prop, (∀ σ' H', N σ' H' → ∃ m', m' < m ∧ W (i + 1) m' σ' H') ∧ ∀ x H', (Itl K a).yld i H x H' →
        gName 2 x σ H' fun σ2 H2 => tAugS (tVar 1) (tVar 2) (tC (.int 1)) (rIxL K) (ipI opf) rSetL { D with nx := N, ct := N, bk := D.nx } σ2 H2) := by
  refine for_list (K := K) (a := a) (xs := (DS.asInts ms).map V.int) (fun i σ H' => ∃ m : Option V, σ = P :: some (.ref c) :: m :: rest ∧ Keep H H' c ∧ H' c = some (.lst ((List.range n).map fun j => V.int (F i j)))) ⟨m0, rfl, Keep.refl H c, hc⟩
    (fun i σ H' _ ⟨_, _, kp, _⟩ => SqL.of (kp a _ ha hac)) ?_ ?_
  · rintro i x σ H' hx ⟨m, rfl, kp, hc'⟩
    obtain ⟨t, ht, rfl⟩ := nat_at hx
    have hlt : t < n := hn t (List.mem_of_getElem? ht)
    refine ⟨_, rfl, _, rfl, c, _, _, _, rfl, rfl, SqL.of hc', atI_nat (DS.map_range_get _ hlt), _, _, rfl, rfl, c, _, _, t, rfl, rfl, hc', ix_nat (by simpa using hlt), ?_⟩
    refine ⟨_, rfl, kp.upd, ?_⟩
    rw [upd_same, DS.map_range_set]
    congr 2
    apply List.map_congr_left
    intro j _
    rw [hF i t j ht]
    by_cases z : j = t
    · rw [if_pos z, if_pos z, z]
    · rw [if_neg z, if_neg z]
  · rintro σ H' ⟨m, rfl, kp, hc'⟩
    rw [nat_len] at hc'
    exact hd m H' kp hc'
/-! ### tallies of days -/
def tal (key : Kqu6.Event → Nat) (l : List Kqu6.Event) (j : Nat) : Int := ((l.filter fun e => key e == j).length : Nat)
theorem tal_succ {key : Kqu6.Event → Nat} {l : List Kqu6.Event} {i : Nat} {e : Kqu6.Event} (h : l[i]? = some e) (j : Nat) : tal key (l.take (i + 1)) j = if j = key e then tal key (l.take i) j + 1 else tal key (l.take i) j := by
  unfold tal
  rw [DS.take_succ_get h, List.filter_append]
  by_cases q : j = key e
  · rw [if_pos q, List.filter_cons_of_pos (by simp [q])]
    simp
  · rw [if_neg q, List.filter_cons_of_neg (by simp; omega)]
    simp
/-- how often a number stands in a list -/
def cnt (l : List Nat) (j : Nat) : Int := ((l.filter fun x => x == j).length : Nat)
theorem cnt_succ {l : List Nat} {i x : Nat} (h : l[i]? = some x) (j : Nat) : cnt (l.take (i + 1)) j = if j = x then cnt (l.take i) j + 1 else cnt (l.take i) j := by
  unfold cnt
  rw [DS.take_succ_get h, List.filter_append]
  by_cases q : j = x
  · rw [if_pos q, List.filter_cons_of_pos (by simp [q])]
    simp
  · rw [if_neg q, List.filter_cons_of_neg (by simp; omega)]
    simp
theorem cnt_minutes (l : List Kqu6.Event) (j : Nat) : cnt (Kqu6.minutes l) j = (DS.at_ l j : Nat) := by
  unfold cnt DS.at_ Kqu6.minutes
  rw [List.filter_map, List.length_map]
  rfl
/-! ### a day -/
def df (b : Bool) (ca go : Addr) : List (Str × V) := [("started", .bl b), ("came", .ref ca), ("gone", .ref go)]
section
theorem n_cs : (("came" : Str) == "started") = false := by decide +kernel
theorem n_gs : (("gone" : Str) == "started") = false := by decide +kernel
theorem n_gc : (("gone" : Str) == "came") = false := by decide +kernel
variable {b : Bool} {ca go : Addr}
theorem df_started : (df b ca go).lookup ("started" : Str) = some (.bl b) := by
  unfold df
  simp only [List.lookup, beq_self_eq_true]
theorem df_came : (df b ca go).lookup ("came" : Str) = some (.ref ca) := by
  unfold df
  simp only [List.lookup, beq_self_eq_true, n_cs]
theorem df_gone : (df b ca go).lookup ("gone" : Str) = some (.ref go) := by
  unfold df
  simp only [List.lookup, beq_self_eq_true, n_gs, n_gc]
theorem df_no {m : Str} (h1 : (m == "started") = false) (h2 : (m == "came") = false) (h3 : (m == "gone") = false) : (df b ca go).lookup m = none := by
  unfold df
  simp only [List.lookup, h1, h2, h3]
theorem df_pS (v : Bool) : putF "started" (.bl v) (df b ca go) = df v ca go := by
  unfold df
  simp only [putF, if_true]
theorem df_pC (x : Addr) : putF "came" (.ref x) (df b ca go) = df b x go := by
  unfold df
  simp only [putF, if_true, if_neg (show ¬ ("started" : Str) = "came" by decide +kernel)]
theorem df_pG (x : Addr) : putF "gone" (.ref x) (df b ca go) = df b ca x := by
  unfold df
  simp only [putF, if_true, if_neg (show ¬ ("started" : Str) = "gone" by decide +kernel), if_neg (show ¬ ("came" : Str) = "gone" by decide +kernel)]
end
structure DayAt (C : Addr) (H : Hp) (p ca go : Addr) (b : Bool) (d : Kqu6.Day) : Prop where
  obj : ∃ dx, H p = some (.ins C dx (df b ca go))
  ne : ca ≠ go
  ins : ∃ ps, H ca = some (.lst (ps.map V.ref)) ∧ Evs H ps d.ins
  outs : ∃ ps, H go = some (.lst (ps.map V.ref)) ∧ Evs H ps d.outs
theorem DayAt.same {C : Addr} {H H' : Hp} {p ca go : Addr} {b : Bool} {d : Kqu6.Day} (h : DayAt C H p ca go b d) (s : Same H H') : DayAt C H' p ca go b d := by
  obtain ⟨⟨dx, h1⟩, h2, ⟨ps, h3, h4⟩, qs, h5, h6⟩ := h
  exact ⟨⟨dx, s _ _ h1⟩, h2, ⟨ps, s _ _ h3, h4.mono s.tups⟩, qs, s _ _ h5, h6.mono s.tups⟩
end DP

set_option autoImplicit false
set_option Elab.async false
set_option linter.all false
set_option maxRecDepth 100000
set_option maxHeartbeats 2000000
/-! The day's own methods that only read. -/
namespace DP
open PySem PySem.Spec PyProof.Rows L2
/-! ### the text by places -/
def top (i : Nat) : Stmt := PySem.Challenge.pw_daysums_s01_answers.main.body.getD i (.Pass ⟨0, 0, 0, 0⟩)
abbrev cDay : Stmt := top 18
abbrev sInit : Stmt := inClass cDay 0
abbrev sLast : Stmt := inClass cDay 1
abbrev sCameM : Stmt := inClass cDay 2
abbrev sGoneM : Stmt := inClass cDay 3
abbrev sWrongM : Stmt := inClass cDay 4
abbrev sWrongN : Stmt := inClass cDay 5
abbrev sThereNow : Stmt := inClass cDay 6
abbrev sAll : Stmt := inClass cDay 7
abbrev sByKind : Stmt := inClass cDay 8
abbrev sByMin : Stmt := inClass cDay 9
abbrev sStart : Stmt := inClass cDay 10
abbrev sCome : Stmt := inClass cDay 11
abbrev sLeave : Stmt := inClass cDay 12
abbrev sClose : Stmt := inClass cDay 13
abbrev sUndo : Stmt := inClass cDay 14
abbrev sPresent : Stmt := inClass cDay 15
abbrev sThere : Stmt := inClass cDay 16
abbrev sKinds : Stmt := inClass cDay 17
abbrev sMost : Stmt := inClass cDay 18
abbrev sBusy : Stmt := inClass cDay 19
abbrev sArea : Stmt := inClass cDay 20
abbrev sBefore : Stmt := inClass cDay 21
abbrev sTotal : Stmt := inClass cDay 22
abbrev sMean : Stmt := inClass cDay 23
abbrev sKind : Stmt := inClass cDay 24
abbrev sFirst : Stmt := inClass cDay 25
abbrev sLatest : Stmt := inClass cDay 26
abbrev sAsIf : Stmt := inClass cDay 27
abbrev sLonger : Stmt := inClass cDay 28
abbrev sState : Stmt := inClass cDay 29
abbrev sFF : Stmt := top 1
abbrev sLG : Stmt := top 2
abbrev sCan : Stmt := top 3
abbrev sSo : Stmt := top 4
abbrev sTold : Stmt := top 5
abbrev sGcd : Stmt := top 6
abbrev sShort : Stmt := top 7
abbrev sAnswers : Stmt := top 40
abbrev sEndOf : Stmt := top 41
abbrev sAnswerTo : Stmt := top 42
abbrev sNote : Stmt := top 43
abbrev sTellC : Stmt := top 44
abbrev sTellS : Stmt := top 45
/-! ### what the top has written -/
/-- a number of the file's top -/
def Num (mg : Str → Option Value) (x : Str) (z : Int) : Prop := ∃ u, mg x = some u ∧ RelV (.int z) u
structure Txt (K : PySem.W.Frag) (mg : Str → Option Value) (C : Addr) : Prop where
  cl : Cls K C
  nS : NoAttr K C "started"
  nC : NoAttr K C "came"
  nG : NoAttr K C "gone"
  mgC : mg "Day" = some (.ref C)
  len : mg "len" = none
  max : mg "max" = none
  sum : mg "sum" = none
  range : mg "range" = none
  zip : mg "zip" = none
  set : mg "set" = none
  minute : Num mg "LAST_MINUTE" 500
  kinds : Num mg "KINDS" 4
  most : Num mg "MOST_WHO_COME" 30
  r11 : Num mg "NOT_STARTED" (-11)
  r22 : Num mg "WRONG_NUMBER" (-22)
  r28 : Num mg "ALL_HAVE_COME" (-28)
  r16 : Num mg "NONE_OF_THE_KIND" (-16)
  r16s : Num mg "SOMEBODY_IS_THERE" (-16)
  r6 : Num mg "NOBODY" (-6)
theorem pe_num {X : Cx} {x : Str} {z : Int} {pos : Pos} (h : Num X.mg x z) (hg : Gl X x) (hd : (x == ("__debug__" : Str)) = false := by decide) : PE X (.Name x pos) (tC (.int z)) := by
  obtain ⟨u, hm, r⟩ := h
  exact pe_glob hg hm r hd
/-! ### promises -/
/-- the day stands there; nothing but that is said of it -/
def spLast (C : Addr) : Sp := fun vs H Q _ => ∃ (p ca go : Addr) (b : Bool) (d : Kqu6.Day), vs = [.ref p] ∧ DayAt C H p ca go b d ∧ DS.Good d ∧ ∀ H' : Hp, Same H H' → Q (.int (Kqu6.last d : Nat)) H'
def spWrongM (C : Addr) : Sp := fun vs H Q _ => ∃ (p ca go : Addr) (b : Bool) (d : Kqu6.Day) (t : Nat), vs = [.ref p, .int (t : Nat)] ∧ DayAt C H p ca go b d ∧ DS.Good d ∧ ∀ H' : Hp, Same H H' → Q (.bl (decide (t < Kqu6.last d ∨ Kqu6.MINUTE < t))) H'
def spWrongN (C : Addr) : Sp := fun vs H Q _ => ∃ (p ca go : Addr) (b : Bool) (d : Kqu6.Day) (t k : Nat), vs = [.ref p, .int (t : Nat), .int (k : Nat)] ∧ DayAt C H p ca go b d ∧ DS.Good d ∧ ∀ H' : Hp, Same H H' → Q (.bl (decide (t < Kqu6.last d ∨ Kqu6.MINUTE < t ∨ 3 < k))) H'
def spThereNow (C : Addr) : Sp := fun vs H Q _ => ∃ (p ca go : Addr) (b : Bool) (d : Kqu6.Day), vs = [.ref p] ∧ DayAt C H p ca go b d ∧ DS.Good d ∧ ∀ H' : Hp, Same H H' → Q (.int (Kqu6.there d : Nat)) H'
/-- the minutes of those who came, or went, as a new list -/
def spMins (C : Addr) (f : Kqu6.Day → List Kqu6.Event) : Sp := fun vs H Q _ => ∃ (p ca go : Addr) (b : Bool) (d : Kqu6.Day), vs = [.ref p] ∧ DayAt C H p ca go b d ∧ DS.Good d ∧
  ∀ (H' : Hp) (l : Addr), Same H H' → H l = none → H' l = some (.lst ((DS.asInts (Kqu6.minutes (f d))).map V.int)) → Q (.ref l) H'
def spAll (C : Addr) : Sp := fun vs H Q _ => ∃ (p ca go : Addr) (b : Bool) (d : Kqu6.Day), vs = [.ref p] ∧ DayAt C H p ca go b d ∧ DS.Good d ∧
  ∀ H' : Hp, Same H H' → Q (.int ((DS.asInts (Kqu6.minutes d.outs)).sum - (DS.asInts (Kqu6.minutes d.ins)).sum)) H'
/-- a new list, by places -/
def spList (C : Addr) (n : Nat) (f : Kqu6.Day → Nat → Nat) : Sp := fun vs H Q _ => ∃ (p ca go : Addr) (b : Bool) (d : Kqu6.Day), vs = [.ref p] ∧ DayAt C H p ca go b d ∧ DS.Good d ∧
  ∀ (H' : Hp) (l : Addr), Same H H' → H' l = some (.lst ((List.range n).map fun j => V.int (f d j : Nat))) → Q (.ref l) H'
section
variable {P : Program} {w : World} {K : PySem.W.Frag} {mg : Str → Option Value} {base : Heap}
theorem small {n : Nat} (h : n ≤ 100000) : n ≤ sizeLine := Nat.le_trans h (by decide)
theorem small' {n : Nat} (h : n ≤ 100000) : n < sizeLine := Nat.lt_of_le_of_lt h (by decide)
/-! ### came_minutes, gone_minutes -/
theorem scCameM : FnScope ["self", "minute", "kind"] ["self"] (defScope sCameM) := ⟨rfl, rfl, rfl, by decide +kernel, rfl, by decide +kernel, by decide +kernel⟩
theorem ok_CameM {f C : Addr} {fd : FuncData} (F : Fun K "came_minutes" "Day.came_minutes" sCameM f fd) (T : Txt K mg C) : FnOk P w K mg base CX0 1 f fd ["self"] (spMins C Kqu6.Day.ins) := by
  refine F.ok scCameM (fun vs H Q E h => ?_) (fun cdv A outer s H vs Q E hr h => ?_)
  · obtain ⟨p, ca, go, b, d, rfl, _⟩ := h
    rfl
  · obtain ⟨p, ca, go, b, d, rfl, hD, g, k⟩ := h
    obtain ⟨⟨dx, hp⟩, hne, ⟨pi, hca, hin⟩, po, hgo, hou⟩ := id hD
    refine ⟨_, pss_one (ps_ret (pe_lc (own := [("minute", 1), ("kind", 2)]) (g := gTup K 2 (gCons (gName 1) (gCons (gName 2) gNil))) (tt := tYes) (te := tVar 1) rfl scCameM.nd (pi_list (pe_fld (pv 0) rfl)) (blkOk_by rfl)
      (fun s H C cl fp => pg_tup rfl (pgs_cons (pg_name (i := 1) scCameM.nd rfl (Or.inl rfl) (Or.inr rfl)) (pgs_cons (pg_name (i := 2) scCameM.nd rfl (Or.inl rfl) (Or.inr rfl)) pgs_nil))) (fun s H C cl fp => pts_nil) (fun s H C cl fp => pv 1))), ?_⟩
    refine ⟨_, rfl, p, C, dx, _, _, rfl, hp, T.cl, T.nC, df_came, ca, rfl, ⟨_, SqL.of hca⟩, fun D hD' => ?_⟩
    have hl : d.ins.length ≤ 30 := g.n30
    refine lc_list (K := K) (a := ca) (xs := pi.map V.ref) (fun i H' => Same H H' ∧ H' D = some (.lst ((DS.asInts ((Kqu6.minutes d.ins).take i)).map V.int)))
      ⟨same_new hD', upd_same⟩ (fun i H' _ ⟨s', _⟩ => SqL.of (s' _ _ hca)) ?_ ?_
    · rintro i x H' hx ⟨s', hD2⟩
      obtain ⟨t, e, rfl, hei, ht⟩ := hin.at hx
      refine gpair (s' _ _ ht) ⟨rfl, ?_⟩
      refine ⟨_, rfl, _, hD2, small' (by rw [nat_len, List.length_take, DS.minutes_length]; omega), s'.upd hD', ?_⟩
      rw [upd_same, DS.take_snoc (DS.minutes_get hei), List.map_append]
      rfl
    · rintro H' ⟨s', hD2⟩
      rw [List.length_map, hin.len, ← DS.minutes_length, List.take_length] at hD2
      exact k H' D s' hD' hD2
theorem scGoneM : FnScope ["self", "minute", "kind"] ["self"] (defScope sGoneM) := ⟨rfl, rfl, rfl, by decide +kernel, rfl, by decide +kernel, by decide +kernel⟩
theorem ok_GoneM {f C : Addr} {fd : FuncData} (F : Fun K "gone_minutes" "Day.gone_minutes" sGoneM f fd) (T : Txt K mg C) : FnOk P w K mg base CX0 1 f fd ["self"] (spMins C Kqu6.Day.outs) := by
  refine F.ok scGoneM (fun vs H Q E h => ?_) (fun cdv A outer s H vs Q E hr h => ?_)
  · obtain ⟨p, ca, go, b, d, rfl, _⟩ := h
    rfl
  · obtain ⟨p, ca, go, b, d, rfl, hD, g, k⟩ := h
    obtain ⟨⟨dx, hp⟩, hne, ⟨pi, hca, hin⟩, po, hgo, hou⟩ := id hD
    refine ⟨_, pss_one (ps_ret (pe_lc (own := [("minute", 1), ("kind", 2)]) (g := gTup K 2 (gCons (gName 1) (gCons (gName 2) gNil))) (tt := tYes) (te := tVar 1) rfl scGoneM.nd (pi_list (pe_fld (pv 0) rfl)) (blkOk_by rfl)
      (fun s H C cl fp => pg_tup rfl (pgs_cons (pg_name (i := 1) scGoneM.nd rfl (Or.inl rfl) (Or.inr rfl)) (pgs_cons (pg_name (i := 2) scGoneM.nd rfl (Or.inl rfl) (Or.inr rfl)) pgs_nil))) (fun s H C cl fp => pts_nil) (fun s H C cl fp => pv 1))), ?_⟩
    refine ⟨_, rfl, p, C, dx, _, _, rfl, hp, T.cl, T.nG, df_gone, go, rfl, ⟨_, SqL.of hgo⟩, fun D hD' => ?_⟩
    have hl : d.outs.length ≤ 30 := g.o30
    refine lc_list (K := K) (a := go) (xs := po.map V.ref) (fun i H' => Same H H' ∧ H' D = some (.lst ((DS.asInts ((Kqu6.minutes d.outs).take i)).map V.int)))
      ⟨same_new hD', upd_same⟩ (fun i H' _ ⟨s', _⟩ => SqL.of (s' _ _ hgo)) ?_ ?_
    · rintro i x H' hx ⟨s', hD2⟩
      obtain ⟨t, e, rfl, hei, ht⟩ := hou.at hx
      refine gpair (s' _ _ ht) ⟨rfl, ?_⟩
      refine ⟨_, rfl, _, hD2, small' (by rw [nat_len, List.length_take, DS.minutes_length]; omega), s'.upd hD', ?_⟩
      rw [upd_same, DS.take_snoc (DS.minutes_get hei), List.map_append]
      rfl
    · rintro H' ⟨s', hD2⟩
      rw [List.length_map, hou.len, ← DS.minutes_length, List.take_length] at hD2
      exact k H' D s' hD' hD2
/-! ### last_noted, all_stays -/
theorem scLast : FnScope ["self"] ["self"] (defScope sLast) := ⟨rfl, rfl, rfl, by decide +kernel, rfl, by decide +kernel, by decide +kernel⟩
theorem ok_last {f C f1 f2 : Addr} {fd fd1 fd2 : FuncData} (F : Fun K "last_noted" "Day.last_noted" sLast f fd) (T : Txt K mg C)
    (F1 : FnOk P w K mg base CX0 1 f1 fd1 ["self"] (spMins C Kqu6.Day.ins)) (b1 : Binds K fd1 ["self"] []) (m1 : Meth K C "came_minutes" f1)
    (F2 : FnOk P w K mg base CX0 1 f2 fd2 ["self"] (spMins C Kqu6.Day.outs)) (b2 : Binds K fd2 ["self"] []) (m2 : Meth K C "gone_minutes" f2) : FnOk P w K mg base CX0 2 f fd ["self"] (spLast C) := by
  refine F.ok scLast (fun vs H Q E h => ?_) (fun cdv A outer s H vs Q E hr h => ?_)
  · obtain ⟨p, ca, go, b, d, rfl, _⟩ := h
    rfl
  · obtain ⟨p, ca, go, b, d, rfl, hD, g, k⟩ := h
    obtain ⟨⟨dx, hp⟩, hne, _, _⟩ := id hD
    refine ⟨_, pss_one (ps_ret (pe_maxD rfl rfl T.max (pa_cons (pe_op op_cat (pe_meth0 (pv 0) T.cl m1 F1 hr b1 .nil pass0) (pe_meth0 (pv 0) T.cl m2 F2 hr b2 .nil pass0)) pa_nil) (pk_cons pe_int pk_nil))), ?_⟩
    refine ⟨_, rfl, p, dx, _, rfl, hp, df_no (by decide +kernel) (by decide +kernel) (by decide +kernel), p, ca, go, b, d, rfl, hD, g, fun H1 l1 s1 n1 h1 => ?_⟩
    have hD1 := hD.same s1
    obtain ⟨⟨dx1, hp1⟩, _, _, _⟩ := id hD1
    refine ⟨_, rfl, p, dx1, _, rfl, hp1, df_no (by decide +kernel) (by decide +kernel) (by decide +kernel), p, ca, go, b, d, rfl, hD1, g, fun H2 l2 s2 n2 h2 => ?_⟩
    refine ⟨l1, l2, _, _, rfl, rfl, s2 _ _ h1, h2, small (by rw [nat_len, nat_len, DS.minutes_length, DS.minutes_length]; have := g.n30; have := g.o30; omega), fun q hq => ?_⟩
    have eq : upd H2 q (.lst ((DS.asInts (Kqu6.minutes d.ins)).map V.int ++ (DS.asInts (Kqu6.minutes d.outs)).map V.int)) q = some (.lst ((DS.asInts (Kqu6.minutes (d.ins ++ d.outs))).map V.int)) := by
      rw [upd_same, DS.minutes_append, DS.asInts_append, List.map_append]
    refine ⟨q, _, 0, rfl, rfl, SqL.of eq, fun m hm => ?_⟩
    have e : m = (Kqu6.last d : Nat) := by
      unfold Kqu6.last
      rw [← DS.minutes_append]
      rcases hm with ⟨h1, rfl⟩ | ⟨h1, h2⟩
      · have : Kqu6.minutes (d.ins ++ d.outs) = [] := List.map_eq_nil_iff.mp h1
        rw [this]
        rfl
      · exact DS.told_greatest h1 h2
    rw [e]
    exact k _ (s1.trans (s2.trans (same_new hq)))
theorem scAll : FnScope ["self"] ["self"] (defScope sAll) := ⟨rfl, rfl, rfl, by decide +kernel, rfl, by decide +kernel, by decide +kernel⟩
theorem ok_all {f C f1 f2 : Addr} {fd fd1 fd2 : FuncData} (F : Fun K "all_stays" "Day.all_stays" sAll f fd) (T : Txt K mg C)
    (F1 : FnOk P w K mg base CX0 1 f1 fd1 ["self"] (spMins C Kqu6.Day.ins)) (b1 : Binds K fd1 ["self"] []) (m1 : Meth K C "came_minutes" f1)
    (F2 : FnOk P w K mg base CX0 1 f2 fd2 ["self"] (spMins C Kqu6.Day.outs)) (b2 : Binds K fd2 ["self"] []) (m2 : Meth K C "gone_minutes" f2) : FnOk P w K mg base CX0 2 f fd ["self"] (spAll C) := by
  refine F.ok scAll (fun vs H Q E h => ?_) (fun cdv A outer s H vs Q E hr h => ?_)
  · obtain ⟨p, ca, go, b, d, rfl, _⟩ := h
    rfl
  · obtain ⟨p, ca, go, b, d, rfl, hD, g, k⟩ := h
    obtain ⟨⟨dx, hp⟩, hne, _, _⟩ := id hD
    refine ⟨_, pss_one (ps_ret (pe_op op_sub (pe_callB (cr_sum rfl) (by rfl) T.sum PyProof.Rows.boot_sum (pa_cons (pe_meth0 (pv 0) T.cl m2 F2 hr b2 .nil pass0) pa_nil)) (pe_callB (cr_sum rfl) (by rfl) T.sum PyProof.Rows.boot_sum (pa_cons (pe_meth0 (pv 0) T.cl m1 F1 hr b1 .nil pass0) pa_nil)))), ?_⟩
    refine ⟨_, rfl, p, dx, _, rfl, hp, df_no (by decide +kernel) (by decide +kernel) (by decide +kernel), p, ca, go, b, d, rfl, hD, g, fun H1 l1 s1 n1 h1 => ?_⟩
    have hD1 := hD.same s1
    obtain ⟨⟨dx1, hp1⟩, _, _, _⟩ := id hD1
    refine ⟨l1, _, rfl, SqL.of h1, _, rfl, p, dx1, _, rfl, hp1, df_no (by decide +kernel) (by decide +kernel) (by decide +kernel), p, ca, go, b, d, rfl, hD1, g, fun H2 l2 s2 n2 h2 => ?_⟩
    exact ⟨l2, _, rfl, SqL.of h2, _, _, rfl, rfl, k _ (s1.trans s2)⟩
/-! ### is_wrong_minute, is_wrong_note -/
theorem scWM : FnScope ["self", "minute"] ["self", "minute"] (defScope sWrongM) := ⟨rfl, rfl, rfl, by decide +kernel, rfl, by decide +kernel, by decide +kernel⟩
theorem ok_wrongM {f C f1 : Addr} {fd fd1 : FuncData} (F : Fun K "is_wrong_minute" "Day.is_wrong_minute" sWrongM f fd) (T : Txt K mg C) (F1 : FnOk P w K mg base CX0 2 f1 fd1 ["self"] (spLast C)) (b1 : Binds K fd1 ["self"] []) (m1 : Meth K C "last_noted" f1) :
    FnOk P w K mg base CX0 3 f fd ["self", "minute"] (spWrongM C) := by
  refine F.ok scWM (fun vs H Q E h => ?_) (fun cdv A outer s H vs Q E hr h => ?_)
  · obtain ⟨p, ca, go, b, d, t, rfl, _⟩ := h
    rfl
  · obtain ⟨p, ca, go, b, d, t, rfl, hD, g, k⟩ := h
    obtain ⟨⟨dx, hp⟩, hne, _, _⟩ := id hD
    refine ⟨_, pss_one (ps_ret (pe_or (pe_cmpR op_lt (pv 1) (pe_meth0 (pv 0) T.cl m1 F1 hr b1 .nil pass0) (nomark _)) (pe_one (pe_cmpR op_gt (pv 1) (pe_num T.minute rfl) (nomark _))))), ?_⟩
    refine ⟨_, rfl, _, rfl, p, dx, _, rfl, hp, df_no (by decide +kernel) (by decide +kernel) (by decide +kernel), p, ca, go, b, d, rfl, hD, g, fun H' s' => ?_⟩
    refine ⟨_, _, rfl, rfl, _, rfl, ?_⟩
    by_cases z : t < Kqu6.last d
    · have e1 : decide ((t : Int) < (Kqu6.last d : Nat)) = true := decide_eq_true (by omega)
      rw [e1]
      have := k H' s'
      rw [decide_eq_true (show t < Kqu6.last d ∨ Kqu6.MINUTE < t from .inl z)] at this
      exact iteT this
    · have e1 : decide ((t : Int) < (Kqu6.last d : Nat)) = false := decide_eq_false (by omega)
      rw [e1]
      refine iteF ⟨_, rfl, _, _, rfl, rfl, ?_⟩
      have := k H' s'
      have e2 : decide (t < Kqu6.last d ∨ Kqu6.MINUTE < t) = decide ((500 : Int) < (t : Nat)) := by
        unfold Kqu6.MINUTE
        exact decide_eq_decide.mpr (by omega)
      rw [e2] at this
      exact this
theorem scWN : FnScope ["self", "minute", "kind"] ["self", "minute", "kind"] (defScope sWrongN) := ⟨rfl, rfl, rfl, by decide +kernel, rfl, by decide +kernel, by decide +kernel⟩
theorem ok_wrongN {f C f1 : Addr} {fd fd1 : FuncData} (F : Fun K "is_wrong_note" "Day.is_wrong_note" sWrongN f fd) (T : Txt K mg C) (F1 : FnOk P w K mg base CX0 3 f1 fd1 ["self", "minute"] (spWrongM C)) (b1 : Binds K fd1 ["self", "minute"] []) (m1 : Meth K C "is_wrong_minute" f1) :
    FnOk P w K mg base CX0 4 f fd ["self", "minute", "kind"] (spWrongN C) := by
  refine F.ok scWN (fun vs H Q E h => ?_) (fun cdv A outer s H vs Q E hr h => ?_)
  · obtain ⟨p, ca, go, b, d, t, q, rfl, _⟩ := h
    rfl
  · obtain ⟨p, ca, go, b, d, t, q, rfl, hD, g, k⟩ := h
    obtain ⟨⟨dx, hp⟩, hne, _, _⟩ := id hD
    refine ⟨_, pss_one (ps_ret (pe_or (pe_meth (pv 0) T.cl m1 F1 hr b1 .nil pass0 (pa_cons (pv 1) pa_nil)) (pe_one (pe_cmpR op_ge (pv 2) (pe_num T.kinds rfl) (nomark _))))), ?_⟩
    refine ⟨_, rfl, p, dx, _, rfl, hp, df_no (by decide +kernel) (by decide +kernel) (by decide +kernel), _, rfl, p, ca, go, b, d, t, rfl, hD, g, fun H' s' => ⟨_, rfl, ?_⟩⟩
    by_cases z : t < Kqu6.last d ∨ Kqu6.MINUTE < t
    · rw [decide_eq_true z]
      have := k H' s'
      rw [decide_eq_true (show t < Kqu6.last d ∨ Kqu6.MINUTE < t ∨ 3 < q from z.elim .inl fun y => .inr (.inl y))] at this
      exact iteT this
    · rw [decide_eq_false z]
      refine iteF ⟨_, rfl, _, _, rfl, rfl, ?_⟩
      have := k H' s'
      have e2 : decide (t < Kqu6.last d ∨ Kqu6.MINUTE < t ∨ 3 < q) = decide ((4 : Int) ≤ (q : Nat)) := decide_eq_decide.mpr (by omega)
      rw [e2] at this
      exact this
/-! ### there_now -/
theorem scTN : FnScope ["self"] ["self"] (defScope sThereNow) := ⟨rfl, rfl, rfl, by decide +kernel, rfl, by decide +kernel, by decide +kernel⟩
theorem ok_thereNow {f C : Addr} {fd : FuncData} (F : Fun K "there_now" "Day.there_now" sThereNow f fd) (T : Txt K mg C) : FnOk P w K mg base CX0 1 f fd ["self"] (spThereNow C) := by
  refine F.ok scTN (fun vs H Q E h => ?_) (fun cdv A outer s H vs Q E hr h => ?_)
  · obtain ⟨p, ca, go, b, d, rfl, _⟩ := h
    rfl
  · obtain ⟨p, ca, go, b, d, rfl, hD, g, k⟩ := h
    obtain ⟨⟨dx, hp⟩, hne, ⟨pi, hca, hin⟩, po, hgo, hou⟩ := id hD
    refine ⟨_, pss_one (ps_ret (pe_op op_sub (pe_callB call_len_seq (by rfl) T.len PySem.boot_len (pa_cons (pe_fld (pv 0) rfl) pa_nil)) (pe_callB call_len_seq (by rfl) T.len PySem.boot_len (pa_cons (pe_fld (pv 0) rfl) pa_nil)))), ?_⟩
    refine ⟨_, rfl, p, C, dx, _, _, rfl, hp, T.cl, T.nC, df_came, ca, _, rfl, .inl (SqL.of hca), _, rfl, p, C, dx, _, _, rfl, hp, T.cl, T.nG, df_gone, go, _, rfl, .inl (SqL.of hgo), _, _, rfl, rfl, ?_⟩
    have := k H (Same.refl H)
    rw [← g.there, ← hin.len, ← hou.len] at this
    rw [List.length_map, List.length_map]
    exact this
/-! ### there_by_kind -/
theorem scBK : FnScope ["self", "counts", "minute", "kind"] ["self"] (defScope sByKind) := ⟨rfl, rfl, rfl, by decide +kernel, rfl, by decide +kernel, by decide +kernel⟩
theorem ok_byKind {f C : Addr} {fd : FuncData} (F : Fun K "there_by_kind" "Day.there_by_kind" sByKind f fd) (T : Txt K mg C) : FnOk P w K mg base CX0 1 f fd ["self"] (spList C 4 Kqu6.kindThere) := by
  refine F.ok scBK (fun vs H Q E h => ?_) (fun cdv A outer s H vs Q E hr h => ?_)
  · obtain ⟨p, ca, go, b, d, rfl, _⟩ := h
    rfl
  · obtain ⟨p, ca, go, b, d, rfl, hD, g, k⟩ := h
    obtain ⟨⟨dx, hp⟩, hne, ⟨pi, hca, hin⟩, po, hgo, hou⟩ := id hD
    refine ⟨_, pss_cons (ps_set (i := 1) scBK.nd rfl (Or.inl rfl) (pe_op op_rep (pe_lst (pa_cons pe_int pa_nil)) (pe_num T.kinds rfl)))
      (pss_cons (ps_for PassesOwn.never rfl (pi_list (pe_fld (pv 0) rfl)) (pg_tup rfl (pgs_cons (pg_name (i := 2) scBK.nd rfl (Or.inl rfl)) (pgs_cons (pg_name (i := 3) scBK.nd rfl (Or.inl rfl)) pgs_nil)))
        (pss_one (ps_augS (pv 1) (pv 3) get_list pe_int ip_add set_list)))
      (pss_cons (ps_for PassesOwn.never rfl (pi_list (pe_fld (pv 0) rfl)) (pg_tup rfl (pgs_cons (pg_name (i := 2) scBK.nd rfl (Or.inl rfl)) (pgs_cons (pg_name (i := 3) scBK.nd rfl (Or.inl rfl)) pgs_nil)))
        (pss_one (ps_augS (pv 1) (pv 3) get_list pe_int ip_sub set_list)))
      (pss_one (ps_ret (pv 1))))), ?_⟩
    refine ⟨(by show 1 ≤ sizeLine; decide), fun l hl => ⟨l, 4, _, rfl, rfl, upd_same, by decide, by decide, (by show 1 * 4 ≤ sizeLine; decide), fun c hc => ?_⟩⟩
    have hHc : H c = none := (same_new hl).free hc
    have s1 : Same H (upd (upd H l (.lst [V.int 0])) c (.lst (List.replicate (4 : Int).toNat [V.int 0]).flatten)) := (same_new hl).upd hHc
    generalize hH1 : upd (upd H l (.lst [V.int 0])) c (.lst (List.replicate (4 : Int).toNat [V.int 0]).flatten) = H1 at s1
    have hc1 : H1 c = some (.lst ((List.range 4).map fun j => V.int (DP.tal Kqu6.Event.kind (d.ins.take 0) j))) := by rw [← hH1, upd_same]; rfl
    refine ⟨_, rfl, p, C, dx, _, _, rfl, s1 _ _ hp, T.cl, T.nC, df_came, ca, rfl, ⟨_, SqL.of (s1 _ _ hca)⟩, ?_⟩
    refine tally_for (P := some (.ref p)) (rest := []) (c := c) (es := d.ins) (n := 4) (key := Kqu6.Event.kind) (fun i j => DP.tal Kqu6.Event.kind (d.ins.take i) j) (.inr ⟨fun _ => rfl, rfl⟩) (fun i e j he => tal_succ he j) (fun e he => by have := (g.ins_ok e he).2; omega)
      (s1 _ _ hca) (hin.mono s1.tups) hc1 (ne_of_none hca hHc) (fun m k' H2 kp hc2 => ?_)
    have s2 : Same H H2 := fun x o e => kp x o (s1 x o e) (ne_of_none e hHc)
    rw [List.take_length] at hc2
    refine ⟨_, rfl, p, C, dx, _, _, rfl, s2 _ _ hp, T.cl, T.nG, df_gone, go, rfl, ⟨_, SqL.of (s2 _ _ hgo)⟩, ?_⟩
    refine tally_for (P := some (.ref p)) (rest := []) (c := c) (es := d.outs) (n := 4) (key := Kqu6.Event.kind) (fun i j => DP.tal Kqu6.Event.kind d.ins j - DP.tal Kqu6.Event.kind (d.outs.take i) j) (.inr ⟨fun _ => rfl, rfl⟩)
      (fun i e j he => by
        rw [tal_succ he j]
        by_cases q : j = e.kind
        · rw [if_pos q, if_pos q]; omega
        · rw [if_neg q, if_neg q]) (fun e he => by have := (g.outs_ok e he).2; omega)
      (s2 _ _ hgo) (hou.mono s2.tups) (by rw [hc2]; congr 2) (ne_of_none hgo hHc) (fun m2 k2 H3 kp3 hc3 => ?_)
    have s3 : Same H H3 := fun x o e => kp3 x o (s2 x o e) (ne_of_none e hHc)
    rw [List.take_length] at hc3
    refine ⟨_, rfl, k H3 c s3 ?_⟩
    rw [hc3]
    congr 2
    apply List.map_congr_left
    intro j _
    exact congrArg V.int (g.kindThere j)
end
end DP

set_option autoImplicit false
set_option Elab.async false
set_option linter.all false
set_option maxRecDepth 100000
set_option maxHeartbeats 2000000
/-! Who is there, minute by minute; the calls that write. -/
namespace DP
open PySem PySem.Spec PyProof.Rows L2
section
variable {P : Program} {w : World} {K : PySem.W.Frag} {mg : Str → Option Value} {base : Heap}
/-! ### there_by_minute -/
/-- the running count behind i minutes -/
def run (d : Kqu6.Day) : Nat → Int
  | 0 => 0
  | i + 1 => DS.prs d i
theorem run_succ (d : Kqu6.Day) (i : Nat) : run d (i + 1) = run d i + DS.chg d i := by
  cases i with
  | zero =>
    show DS.prs d 0 = 0 + DS.chg d 0
    rw [DS.prs_zero]
    omega
  | succ i => exact DS.prs_succ d i
theorem cnt_chg (d : Kqu6.Day) (j : Nat) : cnt (Kqu6.minutes d.ins) j - cnt (Kqu6.minutes d.outs) j = DS.chg d j := by
  rw [cnt_minutes, cnt_minutes]
  rfl
theorem scBM : FnScope ["self", "changes", "minute", "counts", "count", "change"] ["self"] (defScope sByMin) := ⟨rfl, rfl, rfl, by decide +kernel, rfl, by decide +kernel, by decide +kernel⟩
theorem rep0 (n : Nat) : (List.replicate n [V.int 0]).flatten = (List.range n).map fun _ => V.int 0 := by
  apply List.ext_getElem?
  intro i
  by_cases h : i < n
  · simp [h]
  · simp [h]
theorem ok_byMin {f C f1 f2 : Addr} {fd fd1 fd2 : FuncData} (F : Fun K "there_by_minute" "Day.there_by_minute" sByMin f fd) (T : Txt K mg C)
    (F1 : FnOk P w K mg base CX0 1 f1 fd1 ["self"] (spMins C Kqu6.Day.ins)) (b1 : Binds K fd1 ["self"] []) (m1 : Meth K C "came_minutes" f1)
    (F2 : FnOk P w K mg base CX0 1 f2 fd2 ["self"] (spMins C Kqu6.Day.outs)) (b2 : Binds K fd2 ["self"] []) (m2 : Meth K C "gone_minutes" f2) : FnOk P w K mg base CX0 2 f fd ["self"] (spList C 501 Kqu6.present) := by
  refine F.ok scBM (fun vs H Q E h => ?_) (fun cdv A outer s H vs Q E hr h => ?_)
  · obtain ⟨p, ca, go, b, d, rfl, _⟩ := h
    rfl
  · obtain ⟨p, ca, go, b, d, rfl, hD, g, k⟩ := h
    obtain ⟨⟨dx, hp⟩, hne, _, _⟩ := id hD
    refine ⟨_, pss_cons (ps_set (i := 1) scBM.nd rfl (Or.inl rfl) (pe_op op_rep (pe_lst (pa_cons pe_int pa_nil)) (pe_op op_add (pe_num T.minute rfl) pe_int)))
      (pss_cons (ps_for PassesOwn.never rfl (pi_list (pe_meth0 (pv 0) T.cl m1 F1 hr b1 .nil pass0)) (pg_name (i := 2) scBM.nd rfl (Or.inl rfl))
        (pss_one (ps_augS (pv 1) (pv 2) get_list pe_int ip_add set_list)))
      (pss_cons (ps_for PassesOwn.never rfl (pi_list (pe_meth0 (pv 0) T.cl m2 F2 hr b2 .nil pass0)) (pg_name (i := 2) scBM.nd rfl (Or.inl rfl))
        (pss_one (ps_augS (pv 1) (pv 2) get_list pe_int ip_sub set_list)))
      (pss_cons (ps_set (i := 3) scBM.nd rfl (Or.inl rfl) (pe_lst pa_nil))
      (pss_cons (ps_set (i := 4) scBM.nd rfl (Or.inl rfl) pe_int)
      (pss_cons (ps_for PassesOwn.never rfl (pi_list (pv 1)) (pg_name (i := 5) scBM.nd rfl (Or.inl rfl))
        (pss_cons (ps_aug (i := 4) scBM.nd rfl (Or.inl rfl) (pv 5) ip_add)
        (pss_one (ps_expr (pe_bm PySem.F.plainAttrs_list PySem.F.slot_list_append PySem.F.type_list_append mt_append (pv 3) (pa_cons (pv 4) pa_nil))))))
      (pss_one (ps_ret (pv 3)))))))), ?_⟩
    refine ⟨(by show 1 ≤ sizeLine; decide), fun l hl => ⟨_, _, rfl, rfl, l, 501, _, rfl, rfl, upd_same, by decide, by decide, (by show 1 * 501 ≤ sizeLine; decide), fun c hc => ?_⟩⟩
    have hHc : H c = none := (same_new hl).free hc
    have s1 : Same H (upd (upd H l (.lst [V.int 0])) c (.lst (List.replicate (501 : Int).toNat [V.int 0]).flatten)) := (same_new hl).upd hHc
    have e0 : (List.replicate (501 : Int).toNat [V.int 0]).flatten = (List.range 501).map fun j => V.int (cnt ((Kqu6.minutes d.ins).take 0) j) := rep0 501
    rw [e0] at s1 ⊢
    generalize hH1 : upd (upd H l (.lst [V.int 0])) c (.lst ((List.range 501).map fun j => V.int (cnt ((Kqu6.minutes d.ins).take 0) j))) = H1 at s1
    have hc1 : H1 c = some (.lst ((List.range 501).map fun j => V.int (cnt ((Kqu6.minutes d.ins).take 0) j))) := by rw [← hH1, upd_same]
    refine ⟨_, rfl, p, dx, _, rfl, s1 _ _ hp, df_no (by decide +kernel) (by decide +kernel) (by decide +kernel), p, ca, go, b, d, rfl, hD.same s1, g, fun H2 l1 s2 n1 h1 => ⟨l1, rfl, ⟨_, SqL.of h1⟩, ?_⟩⟩
    refine tally_ints (P := some (.ref p)) (rest := [none, none, none]) (c := c) (ms := Kqu6.minutes d.ins) (n := 501) (fun i j => cnt ((Kqu6.minutes d.ins).take i) j) (fun i x j hx => cnt_succ hx j) (fun x hx => by have := DS.minutes_mem_le g.ins_ok x hx; omega)
      h1 (s2 _ _ hc1) (ne_of_none hc1 n1).symm (fun m H3 kp hc3 => ?_)
    have s3 : Same H H3 := fun x o e => kp x o (s2 _ _ (s1 x o e)) (ne_of_none e hHc)
    rw [List.take_length] at hc3
    obtain ⟨⟨dx3, hp3⟩, _, _, _⟩ := id (hD.same s3)
    refine ⟨_, rfl, p, dx3, _, rfl, hp3, df_no (by decide +kernel) (by decide +kernel) (by decide +kernel), p, ca, go, b, d, rfl, hD.same s3, g, fun H4 l2 s4 n2 h2 => ⟨l2, rfl, ⟨_, SqL.of h2⟩, ?_⟩⟩
    refine tally_ints (P := some (.ref p)) (rest := [none, none, none]) (c := c) (ms := Kqu6.minutes d.outs) (n := 501) (fun i j => cnt (Kqu6.minutes d.ins) j - cnt ((Kqu6.minutes d.outs).take i) j)
      (fun i x j hx => by
        rw [cnt_succ hx j]
        by_cases q : j = x
        · rw [if_pos q, if_pos q]; omega
        · rw [if_neg q, if_neg q]) (fun x hx => by have := DS.minutes_mem_le g.outs_ok x hx; omega)
      h2 (by rw [s4 _ _ hc3]; congr 2) (ne_of_none hc3 n2).symm (fun m2 H5 kp5 hc5 => ?_)
    have s5 : Same H H5 := fun x o e => kp5 x o (s4 _ _ (s3 x o e)) (ne_of_none e hHc)
    rw [List.take_length] at hc5
    refine ⟨Nat.zero_le _, fun r hr' => ?_⟩
    have s6 : Same H5 (upd H5 r (.lst [])) := same_new hr'
    refine ⟨_, rfl, c, rfl, ⟨_, SqL.of (s6 _ _ hc5)⟩, for_list (K := K) (a := c) (xs := (List.range 501).map fun j => V.int (cnt (Kqu6.minutes d.ins) j - cnt (Kqu6.minutes d.outs) j))
      (fun i σ H' => ∃ z : Option V, σ = [some (.ref p), some (.ref c), m2, some (.ref r), some (.int (run d i)), z] ∧ Same H5 H' ∧ H' r = some (.lst ((List.range i).map fun j => V.int (DS.prs d j))))
      ⟨none, rfl, s6, upd_same⟩ (fun i σ H' _ ⟨_, _, s7, _⟩ => SqL.of (s7 _ _ hc5)) ?_ ?_⟩
    · rintro i x σ H' hi ⟨z, rfl, s7, hr2⟩
      have hlt : i < 501 := by
        have := (List.getElem?_eq_some_iff.mp hi).1
        simpa using this
      rw [DS.map_range_get _ hlt, cnt_chg] at hi
      cases hi
      refine ⟨_, rfl, _, rfl, _, _, rfl, rfl, ?_⟩
      refine ⟨_, rfl, .inl ⟨rfl, _, SqL.of hr2⟩, _, rfl, r, _, _, rfl, rfl, hr2, small' (by simp; omega), ?_⟩
      have er : run d i + DS.chg d i = run d (i + 1) := (run_succ d i).symm
      refine ⟨some (.int (DS.chg d i)), ?_, s7.upd hr', ?_⟩
      · show [some (V.ref p), some (V.ref c), m2, some (V.ref r), some (V.int (run d i + DS.chg d i)), some (V.int (DS.chg d i))] = _
        rw [er]
      · rw [upd_same, List.range_succ, List.map_append]
        exact congrArg (fun q => some (HO.lst (_ ++ [V.int q]))) er
    · rintro σ H' ⟨z, rfl, s7, hr2⟩
      refine ⟨_, rfl, k H' r (s5.trans s7) ?_⟩
      rw [hr2, List.length_map, List.length_range]
      congr 2
      apply List.map_congr_left
      intro j _
      exact congrArg V.int (g.prs j)
end
/-! ### what a call leaves -/
def begun : Option Kqu6.Day → Bool
  | none => false
  | some _ => true
def dayOf : Option Kqu6.Day → Kqu6.Day
  | none => ⟨[], []⟩
  | some d => d
def ansV (a : Kqu6.Ans) : List V := (Kqu6Neutral.tell a).map V.int
structure Frm (H H' : Hp) (p ca go ca' go' : Addr) : Prop where
  keep : ∀ x o, H x = some o → x ≠ p → x ≠ ca → x ≠ go → H' x = some o
  ca : ca' = ca ∨ H ca' = none
  go : go' = go ∨ H go' = none
theorem Frm.of {H H' : Hp} (s : Same H H') (p ca go : Addr) : Frm H H' p ca go ca go := ⟨fun x o e _ _ _ => s x o e, .inl rfl, .inl rfl⟩
theorem Frm.same {H H' H'' : Hp} {p ca go ca' go' : Addr} (f : Frm H H' p ca go ca' go') (s : Same H' H'') : Frm H H'' p ca go ca' go' := ⟨fun x o e a b c => s x o (f.keep x o e a b c), f.ca, f.go⟩
/-- the answer comes as a new list, the day stands behind the step -/
def Then (C : Addr) (H : Hp) (p ca go : Addr) (r : Option Kqu6.Day × Kqu6.Ans) (Q : VK) : Prop :=
  ∀ (H' : Hp) (l ca' go' : Addr), H l = none → H' l = some (.lst (ansV r.2)) → DayAt C H' p ca' go' (begun r.1) (dayOf r.1) → Frm H H' p ca go ca' go' → Q (.ref l) H'
theorem Then.new {C : Addr} {H H1 : Hp} {p ca go l : Addr} {d : Kqu6.Day} {a : Kqu6.Ans} {Q : VK} (t : Then C H p ca go (some d, a) Q) (h : DayAt C H p ca go true d) (s : Same H H1) (hl : H1 l = none) : Q (.ref l) (upd H1 l (.lst (ansV a))) :=
  t _ l ca go (s.free hl) upd_same (h.same (s.trans (same_new hl))) (Frm.of (s.trans (same_new hl)) p ca go)
theorem upd_none {H : Hp} {a b : Addr} {o : HO} (h : upd H a o b = none) : H b = none ∧ b ≠ a := by
  have n : b ≠ a := fun q => by rw [q, upd_same] at h; cases h
  rw [upd_ne n] at h
  exact ⟨h, n⟩
def spCall0 (C : Addr) (c : Kqu6.Call) : Sp := fun vs H Q _ => ∃ (p ca go : Addr) (d : Kqu6.Day), vs = [.ref p] ∧ DayAt C H p ca go true d ∧ DS.Good d ∧ Then C H p ca go (Kqu6.step (some d) c) Q
def spCall1 (C : Addr) (c : Nat → Kqu6.Call) : Sp := fun vs H Q _ => ∃ (p ca go : Addr) (d : Kqu6.Day) (t : Nat), vs = [.ref p, .int (t : Nat)] ∧ DayAt C H p ca go true d ∧ DS.Good d ∧ Then C H p ca go (Kqu6.step (some d) (c t)) Q
def spCall2 (C : Addr) (c : Nat → Nat → Kqu6.Call) : Sp := fun vs H Q _ => ∃ (p ca go : Addr) (d : Kqu6.Day) (t k : Nat), vs = [.ref p, .int (t : Nat), .int (k : Nat)] ∧ DayAt C H p ca go true d ∧ DS.Good d ∧ Then C H p ca go (Kqu6.step (some d) (c t k)) Q
def spStart (C : Addr) : Sp := fun vs H Q _ => ∃ (p ca go : Addr) (b : Bool) (d : Kqu6.Day), vs = [.ref p] ∧ DayAt C H p ca go b d ∧ Then C H p ca go (some ⟨[], []⟩, .num 0) Q
def spInit (C : Addr) : Sp := fun vs H Q _ => ∃ (p dx : Addr), vs = [.ref p] ∧ H p = some (.ins C dx []) ∧ ∀ (H' : Hp) (ca go : Addr), DayAt C H' p ca go false ⟨[], []⟩ → (∀ x o, H x = some o → x ≠ p → H' x = some o) → H ca = none → H go = none → Q .non H'
/-! ### a list of the day grows -/
theorem lst_tups {H : Hp} {c : Addr} {xs ys : List V} (h : H c = some (.lst xs)) : Tups H (upd H c (.lst ys)) := fun p zs e => by
  rw [upd_ne (fun q => by rw [q, h] at e; cases e)]
  exact e
theorem DayAt.addIn {C : Addr} {H : Hp} {p ca go t : Addr} {b : Bool} {d : Kqu6.Day} {e : Kqu6.Event} {ps : List Addr} (h : DayAt C H p ca go b d) (h1 : H ca = some (.lst (ps.map V.ref))) (h2 : Evs H ps d.ins) (ht : H t = some (evT e)) :
    DayAt C (upd H ca (.lst (ps.map V.ref ++ [.ref t]))) p ca go b { d with ins := d.ins ++ [e] } := by
  obtain ⟨⟨dx, hp⟩, hne, _, po, hgo, hou⟩ := h
  have k := lst_tups (ys := ps.map V.ref ++ [.ref t]) h1
  refine ⟨⟨dx, ?_⟩, hne, ⟨ps ++ [t], ?_, (h2.mono k).append ⟨k _ _ ht, True.intro⟩⟩, po, ?_, hou.mono k⟩
  · rw [upd_ne (ne_of hp h1 (by intro q; cases q))]
    exact hp
  · rw [upd_same, List.map_append]
    rfl
  · rw [upd_ne hne.symm]
    exact hgo
theorem DayAt.addOut {C : Addr} {H : Hp} {p ca go : Addr} {b : Bool} {d : Kqu6.Day} {es : List Kqu6.Event} {ps qs : List Addr} (h : DayAt C H p ca go b d) (h1 : H go = some (.lst (ps.map V.ref))) (h2 : Evs H ps d.outs) (ht : Evs H qs es) :
    DayAt C (upd H go (.lst (ps.map V.ref ++ qs.map V.ref))) p ca go b { d with outs := d.outs ++ es } := by
  obtain ⟨⟨dx, hp⟩, hne, ⟨pi, hca, hin⟩, _⟩ := h
  have k := lst_tups (ys := ps.map V.ref ++ qs.map V.ref) h1
  refine ⟨⟨dx, ?_⟩, hne, ⟨pi, ?_, hin.mono k⟩, ps ++ qs, ?_, (h2.mono k).append (ht.mono k)⟩
  · rw [upd_ne (ne_of hp h1 (by intro q; cases q))]
    exact hp
  · rw [upd_ne hne]
    exact hca
  · rw [upd_same, List.map_append]
section
variable {P : Program} {w : World} {K : PySem.W.Frag} {mg : Str → Option Value} {base : Heap}
/-! ### __init__, start -/
theorem scInit : FnScope ["self"] ["self"] (defScope sInit) := ⟨rfl, rfl, rfl, by decide +kernel, rfl, by decide +kernel, by decide +kernel⟩
theorem ok_init {f C : Addr} {fd : FuncData} (F : Fun K "__init__" "Day.__init__" sInit f fd) (T : Txt K mg C) : FnOk P w K mg base CX0 1 f fd ["self"] (spInit C) := by
  refine F.ok scInit (fun vs H Q E h => ?_) (fun cdv A outer s H vs Q E hr h => ?_)
  · obtain ⟨p, dx, rfl, _⟩ := h
    rfl
  · obtain ⟨p, dx, rfl, hp, k⟩ := h
    refine ⟨_, pss_cons (ps_fld (pv 0) pe_bl rfl) (pss_cons (ps_fld (pv 0) (pe_lst pa_nil) rfl) (pss_one (ps_fld (pv 0) (pe_lst pa_nil) rfl))), ?_⟩
    refine ⟨_, rfl, p, C, dx, _, rfl, hp, T.cl, T.nS, (by show 0 < 1000; decide), ?_⟩
    refine ⟨Nat.zero_le _, fun x hx => ⟨_, rfl, p, C, dx, _, rfl, (upd_ne (ne_of_none upd_same hx)).trans upd_same, T.cl, T.nC, (by show 1 < 1000; decide), ?_⟩⟩
    refine ⟨Nat.zero_le _, fun y hy => ⟨_, rfl, p, C, dx, _, rfl, (upd_ne (ne_of_none upd_same hy)).trans upd_same, T.cl, T.nG, (by show 2 < 1000; decide), ?_⟩⟩
    have px : x ≠ p := fun q => by rw [q, upd_same] at hx; cases hx
    have py : y ≠ p := fun q => by rw [q, upd_same] at hy; cases hy
    have hxy : x ≠ y := fun q => by
      rw [← q, upd_ne px, upd_same] at hy
      cases hy
    have hx0 : H x = none := by rw [upd_ne px] at hx; exact hx
    have hy0 : H y = none := by
      rw [upd_ne py, upd_ne hxy.symm, upd_ne py] at hy
      exact hy
    refine k _ x y ⟨⟨dx, ?_⟩, hxy, ⟨[], ?_, True.intro⟩, [], ?_, True.intro⟩ (fun z o e hz => ?_) hx0 hy0
    · rw [upd_same]
      simp only [putF, df, if_true, if_neg (show ¬ ("started" : Str) = "came" by decide +kernel), if_neg (show ¬ ("started" : Str) = "gone" by decide +kernel), if_neg (show ¬ ("came" : Str) = "gone" by decide +kernel)]
    · rw [upd_ne px, upd_ne hxy, upd_ne px, upd_same]
      rfl
    · rw [upd_ne py, upd_same]
      rfl
    · rw [upd_ne hz, upd_ne (ne_of_none e hy0), upd_ne hz, upd_ne (ne_of_none e hx0), upd_ne hz]
      exact e
theorem scStart : FnScope ["self"] ["self"] (defScope sStart) := ⟨rfl, rfl, rfl, by decide +kernel, rfl, by decide +kernel, by decide +kernel⟩
theorem ok_start {f C : Addr} {fd : FuncData} (F : Fun K "start" "Day.start" sStart f fd) (T : Txt K mg C) : FnOk P w K mg base CX0 1 f fd ["self"] (spStart C) := by
  refine F.ok scStart (fun vs H Q E h => ?_) (fun cdv A outer s H vs Q E hr h => ?_)
  · obtain ⟨p, ca, go, b, d, rfl, _⟩ := h
    rfl
  · obtain ⟨p, ca, go, b, d, rfl, hD, k⟩ := h
    obtain ⟨⟨dx, hp⟩, hne, _, _⟩ := id hD
    refine ⟨_, pss_cons (ps_fld (pv 0) pe_bl rfl) (pss_cons (ps_fld (pv 0) (pe_lst pa_nil) rfl) (pss_cons (ps_fld (pv 0) (pe_lst pa_nil) rfl) (pss_one (ps_ret (pe_lst (pa_cons pe_int pa_nil)))))), ?_⟩
    refine ⟨_, rfl, p, C, dx, _, rfl, hp, T.cl, T.nS, (by show 3 < 1000; decide), ?_⟩
    rw [df_pS]
    refine ⟨Nat.zero_le _, fun x hx => ⟨_, rfl, p, C, dx, _, rfl, (upd_ne (ne_of_none upd_same hx)).trans upd_same, T.cl, T.nC, (by show 3 < 1000; decide), ?_⟩⟩
    rw [df_pC]
    refine ⟨Nat.zero_le _, fun y hy => ⟨_, rfl, p, C, dx, _, rfl, (upd_ne (ne_of_none upd_same hy)).trans upd_same, T.cl, T.nG, (by show 3 < 1000; decide), ?_⟩⟩
    rw [df_pG]
    have px : x ≠ p := fun q => by rw [q, upd_same] at hx; cases hx
    have py : y ≠ p := fun q => by rw [q, upd_same] at hy; cases hy
    have hxy : x ≠ y := fun q => by
      rw [← q, upd_ne px, upd_same] at hy
      cases hy
    have hx0 : H x = none := by rw [upd_ne px] at hx; exact hx
    have hy0 : H y = none := by
      rw [upd_ne py, upd_ne hxy.symm, upd_ne py] at hy
      exact hy
    refine ⟨(by show 1 ≤ sizeLine; decide), fun l hl => ?_⟩
    have sl : Same _ (upd _ l (.lst [V.int 0])) := same_new hl
    have hl0 : H l = none := (upd_none (upd_none (upd_none (upd_none (upd_none hl).1).1).1).1).1
    refine k _ l x y hl0 upd_same (DayAt.same ⟨⟨dx, upd_same⟩, hxy, ⟨[], ?_, True.intro⟩, [], ?_, True.intro⟩ sl) ⟨fun z o e hz _ _ => sl _ _ ?_, .inr hx0, .inr hy0⟩
    · rw [upd_ne px, upd_ne hxy, upd_ne px, upd_same]
      rfl
    · rw [upd_ne py, upd_same]
      rfl
    · rw [upd_ne hz, upd_ne (ne_of_none e hy0), upd_ne hz, upd_ne (ne_of_none e hx0), upd_ne hz]
      exact e
end
end DP

set_option autoImplicit false
set_option Elab.async false
set_option linter.all false
set_option maxRecDepth 100000
set_option maxHeartbeats 2000000
/-! in, out, close. -/
namespace DP
open PySem PySem.Spec PyProof.Rows L2
/-! ### the steps, way by way -/
theorem st_in1 {d : Kqu6.Day} {t k : Nat} (h : t < Kqu6.last d ∨ Kqu6.MINUTE < t ∨ 3 < k) : Kqu6.step (some d) (.in_ t k) = (some d, .num (-22)) := by
  show (if _ then _ else _) = _
  rw [if_pos h]
theorem st_in2 {d : Kqu6.Day} {t k : Nat} (h : ¬ (t < Kqu6.last d ∨ Kqu6.MINUTE < t ∨ 3 < k)) (h2 : 30 ≤ d.ins.length) : Kqu6.step (some d) (.in_ t k) = (some d, .num (-28)) := by
  show (if _ then _ else _) = _
  rw [if_neg h, if_pos h2]
theorem st_in3 {d : Kqu6.Day} {t k : Nat} (h : ¬ (t < Kqu6.last d ∨ Kqu6.MINUTE < t ∨ 3 < k)) (h2 : ¬ 30 ≤ d.ins.length) : Kqu6.step (some d) (.in_ t k) = (some { d with ins := d.ins ++ [⟨t, k⟩] }, .num (Kqu6.there d + 1 : Nat)) := by
  show (if _ then _ else _) = _
  rw [if_neg h, if_neg h2]
theorem st_out1 {d : Kqu6.Day} {t k : Nat} (h : t < Kqu6.last d ∨ Kqu6.MINUTE < t ∨ 3 < k) : Kqu6.step (some d) (.out t k) = (some d, .num (-22)) := by
  show (if _ then _ else _) = _
  rw [if_pos h]
theorem st_out2 {d : Kqu6.Day} {t k : Nat} (h : ¬ (t < Kqu6.last d ∨ Kqu6.MINUTE < t ∨ 3 < k)) (h2 : Kqu6.kindThere d k = 0) : Kqu6.step (some d) (.out t k) = (some d, .num (-16)) := by
  show (if _ then _ else _) = _
  rw [if_neg h, if_pos h2]
theorem st_out3 {d : Kqu6.Day} {t k : Nat} (h : ¬ (t < Kqu6.last d ∨ Kqu6.MINUTE < t ∨ 3 < k)) (h2 : ¬ Kqu6.kindThere d k = 0) : Kqu6.step (some d) (.out t k) = (some { d with outs := d.outs ++ [⟨t, k⟩] }, .num (Kqu6.there d - 1 : Nat)) := by
  show (if _ then _ else _) = _
  rw [if_neg h, if_neg h2]
theorem st_close1 {d : Kqu6.Day} {t : Nat} (h : t < Kqu6.last d ∨ Kqu6.MINUTE < t) : Kqu6.step (some d) (.close t) = (some d, .num (-22)) := by
  show (if _ then _ else _) = _
  rw [if_pos h]
theorem st_close2 {d : Kqu6.Day} {t : Nat} (h : ¬ (t < Kqu6.last d ∨ Kqu6.MINUTE < t)) (h2 : Kqu6.there d = 0) : Kqu6.step (some d) (.close t) = (some d, .num (-6)) := by
  show (if _ then _ else _) = _
  rw [if_neg h, if_pos h2]
theorem st_close3 {d : Kqu6.Day} {t : Nat} (h : ¬ (t < Kqu6.last d ∨ Kqu6.MINUTE < t)) (h2 : ¬ Kqu6.there d = 0) : Kqu6.step (some d) (.close t) = (some (Kqu6.closed d t), .num (Kqu6.there d)) := by
  show (if _ then _ else _) = _
  rw [if_neg h, if_neg h2]
/-- who leaves, up to a kind -/
def lv (d : Kqu6.Day) (t i : Nat) : List Kqu6.Event := (List.range i).flatMap fun k => List.replicate (Kqu6.kindThere d k) ⟨t, k⟩
theorem lv_succ (d : Kqu6.Day) (t i : Nat) : lv d t (i + 1) = lv d t i ++ List.replicate (Kqu6.kindThere d i) ⟨t, i⟩ := by
  unfold lv
  rw [List.range_succ, List.flatMap_append]
  simp
theorem kind_le {d : Kqu6.Day} (g : DS.Good d) (k : Nat) : Kqu6.kindThere d k ≤ 30 := by
  have h1 : (Kqu6.ofKind d.ins k).length ≤ d.ins.length := List.length_filter_le ..
  have := g.n30
  unfold Kqu6.kindThere
  omega
theorem lv_len {d : Kqu6.Day} (g : DS.Good d) (t : Nat) : ∀ i : Nat, (lv d t i).length ≤ 30 * i
  | 0 => Nat.le_refl _
  | i + 1 => by
    rw [lv_succ, List.length_append, List.length_replicate]
    have := lv_len g t i
    have := kind_le g i
    omega
theorem sum4 {d : Kqu6.Day} (g : DS.Good d) : ((List.range 4).map fun j => (Kqu6.kindThere d j : Int)).sum = (Kqu6.there d : Nat) := by
  rw [g.there_kinds]
  show ([(Kqu6.kindThere d 0 : Int), Kqu6.kindThere d 1, Kqu6.kindThere d 2, Kqu6.kindThere d 3] : List Int).sum = _
  simp
  omega
theorem map4 (n : Nat) (f : Nat → Nat) : ((List.range n).map fun j => V.int (f j : Nat)) = ((List.range n).map fun j => ((f j : Nat) : Int)).map V.int := by
  rw [List.map_map]
  rfl
theorem flat1 (n : Nat) (x : V) : (List.replicate n [x]).flatten = List.replicate n x := by
  induction n with
  | zero => rfl
  | succ n ih => rw [List.replicate_succ, List.flatten_cons, ih]; rfl
section
variable {P : Program} {w : World} {K : PySem.W.Frag} {mg : Str → Option Value} {base : Heap}
/-! ### come -/
theorem scCome : FnScope ["self", "minute", "kind"] ["self", "minute", "kind"] (defScope sCome) := ⟨rfl, rfl, rfl, by decide +kernel, rfl, by decide +kernel, by decide +kernel⟩
theorem ok_come {f C f1 f2 : Addr} {fd fd1 fd2 : FuncData} (F : Fun K "come" "Day.come" sCome f fd) (T : Txt K mg C)
    (F1 : FnOk P w K mg base CX0 4 f1 fd1 ["self", "minute", "kind"] (spWrongN C)) (b1 : Binds K fd1 ["self", "minute", "kind"] []) (m1 : Meth K C "is_wrong_note" f1)
    (F2 : FnOk P w K mg base CX0 1 f2 fd2 ["self"] (spThereNow C)) (b2 : Binds K fd2 ["self"] []) (m2 : Meth K C "there_now" f2) :
    FnOk P w K mg base CX0 5 f fd ["self", "minute", "kind"] (spCall2 C .in_) := by
  refine F.ok scCome (fun vs H Q E h => ?_) (fun cdv A outer s H vs Q E hr h => ?_)
  · obtain ⟨p, ca, go, d, t, q, rfl, _⟩ := h
    rfl
  · obtain ⟨p, ca, go, d, t, q, rfl, hD, g, k⟩ := h
    have hr1 : Room 1 _ := hr.mono (by decide)
    refine ⟨_, pss_cons (ps_if (pt_val (pe_meth (pv 0) T.cl m1 F1 hr b1 .nil pass0 (pa_cons (pv 1) (pa_cons (pv 2) pa_nil)))) (pss_one (ps_ret (pe_lst (pa_cons (pe_num T.r22 rfl) pa_nil)))) pss_nil)
      (pss_cons (ps_if (pt_cmpR op_ge (pe_callB call_len_seq (by rfl) T.len PySem.boot_len (pa_cons (pe_fld (pv 0) rfl) pa_nil)) (pe_num T.most rfl) (nomark _)) (pss_one (ps_ret (pe_lst (pa_cons (pe_num T.r28 rfl) pa_nil)))) pss_nil)
      (pss_cons (ps_expr (pe_bm PySem.F.plainAttrs_list PySem.F.slot_list_append PySem.F.type_list_append mt_append (pe_fld (pv 0) rfl) (pa_cons (pe_tup (pa_cons (pv 1) (pa_cons (pv 2) pa_nil))) pa_nil)))
      (pss_one (ps_ret (pe_lst (pa_cons (pe_meth0 (pv 0) T.cl m2 F2 hr1 b2 .nil pass0) pa_nil)))))), ?_⟩
    obtain ⟨⟨dx, hp⟩, hne, _, _⟩ := id hD
    refine ⟨_, rfl, p, dx, _, rfl, hp, df_no (by decide +kernel) (by decide +kernel) (by decide +kernel), _, rfl, _, rfl, p, ca, go, true, d, t, q, rfl, hD, g, fun H1 s1 => ⟨_, rfl, ite2 (fun z => ?_) (fun z => ?_)⟩⟩
    · have z := of_decide_eq_true z
      rw [st_in1 z] at k
      exact ⟨(by show 1 ≤ sizeLine; decide), fun l hl => k.new hD s1 hl⟩
    have z : ¬ (t < Kqu6.last d ∨ Kqu6.MINUTE < t ∨ 3 < q) := fun y => z (decide_eq_true y)
    have hD1 := hD.same s1
    obtain ⟨⟨dx1, hp1⟩, _, ⟨pi, hca, hin⟩, po, hgo, hou⟩ := id hD1
    refine ⟨_, rfl, p, C, dx1, _, _, rfl, hp1, T.cl, T.nC, df_came, ca, _, rfl, .inl (SqL.of hca), _, _, rfl, rfl, _, rfl, ite2 (fun y => ?_) (fun y => ?_)⟩
    · have y := of_decide_eq_true y
      rw [List.length_map, hin.len] at y
      rw [st_in2 z (by omega)] at k
      exact ⟨(by show 1 ≤ sizeLine; decide), fun l hl => k.new hD s1 hl⟩
    have y : ¬ 30 ≤ d.ins.length := fun x => y (decide_eq_true (by rw [List.length_map, hin.len]; omega))
    rw [st_in3 z y] at k
    refine ⟨_, rfl, p, C, dx1, _, _, rfl, hp1, T.cl, T.nC, df_came, .inl ⟨rfl, _, SqL.of hca⟩, _, rfl, _, rfl, (by show 2 ≤ sizeLine; decide), fun tp htp => ?_⟩
    have s2 : Same H1 (upd H1 tp (.tup [.int (t : Nat), .int (q : Nat)])) := same_new htp
    have hca2 := s2 _ _ hca
    refine ⟨ca, _, _, rfl, rfl, hca2, small' (by rw [List.length_map, hin.len]; have := g.n30; omega), ?_⟩
    have hD3 := (hD1.same s2).addIn (e := ⟨t, q⟩) hca2 (hin.mono s2.tups) upd_same
    have g3 : DS.Good { d with ins := d.ins ++ [⟨t, q⟩] } := DS.good_in g z y
    obtain ⟨⟨dx3, hp3⟩, _, _, _⟩ := id hD3
    refine ⟨_, rfl, p, dx3, _, rfl, hp3, df_no (by decide +kernel) (by decide +kernel) (by decide +kernel), p, ca, go, true, _, rfl, hD3, g3, fun H4 s4 => ⟨(by show 1 ≤ sizeLine; decide), fun l hl => ?_⟩⟩
    have s5 : Same H4 (upd H4 l (.lst [V.int ((Kqu6.there { d with ins := d.ins ++ [⟨t, q⟩] } : Nat) : Int)])) := same_new hl
    refine k _ l ca go (s1.free (upd_none (upd_none (s4.free hl)).1).1) ?_ ((hD3.same s4).same s5) ⟨fun x o e n1 n2 n3 => s5 _ _ (s4 _ _ ?_), .inl rfl, .inl rfl⟩
    · rw [upd_same]
      have e : Kqu6.there { d with ins := d.ins ++ [⟨t, q⟩] } = Kqu6.there d + 1 := by
        have := g.len
        show (d.ins ++ [_]).length - d.outs.length = _
        rw [List.length_append]
        show d.ins.length + 1 - d.outs.length = d.ins.length - d.outs.length + 1
        omega
      rw [e]
      rfl
    · rw [upd_ne n2]
      exact s2 _ _ (s1 _ _ e)
/-! ### leave -/
theorem scLeave : FnScope ["self", "minute", "kind"] ["self", "minute", "kind"] (defScope sLeave) := ⟨rfl, rfl, rfl, by decide +kernel, rfl, by decide +kernel, by decide +kernel⟩
theorem ok_leave {f C f1 f2 f3 : Addr} {fd fd1 fd2 fd3 : FuncData} (F : Fun K "leave" "Day.leave" sLeave f fd) (T : Txt K mg C)
    (F1 : FnOk P w K mg base CX0 4 f1 fd1 ["self", "minute", "kind"] (spWrongN C)) (b1 : Binds K fd1 ["self", "minute", "kind"] []) (m1 : Meth K C "is_wrong_note" f1)
    (F2 : FnOk P w K mg base CX0 1 f2 fd2 ["self"] (spThereNow C)) (b2 : Binds K fd2 ["self"] []) (m2 : Meth K C "there_now" f2)
    (F3 : FnOk P w K mg base CX0 1 f3 fd3 ["self"] (spList C 4 Kqu6.kindThere)) (b3 : Binds K fd3 ["self"] []) (m3 : Meth K C "there_by_kind" f3) :
    FnOk P w K mg base CX0 5 f fd ["self", "minute", "kind"] (spCall2 C .out) := by
  refine F.ok scLeave (fun vs H Q E h => ?_) (fun cdv A outer s H vs Q E hr h => ?_)
  · obtain ⟨p, ca, go, d, t, q, rfl, _⟩ := h
    rfl
  · obtain ⟨p, ca, go, d, t, q, rfl, hD, g, k⟩ := h
    have hr1 : Room 1 _ := hr.mono (by decide)
    refine ⟨_, pss_cons (ps_if (pt_val (pe_meth (pv 0) T.cl m1 F1 hr b1 .nil pass0 (pa_cons (pv 1) (pa_cons (pv 2) pa_nil)))) (pss_one (ps_ret (pe_lst (pa_cons (pe_num T.r22 rfl) pa_nil)))) pss_nil)
      (pss_cons (ps_if (pt_cmpR op_eq (pe_ix ix_list (pe_meth0 (pv 0) T.cl m3 F3 hr1 b3 .nil pass0) (pv 2) (fun _ _ => rfl)) pe_int (nomark _)) (pss_one (ps_ret (pe_lst (pa_cons (pe_num T.r16 rfl) pa_nil)))) pss_nil)
      (pss_cons (ps_expr (pe_bm PySem.F.plainAttrs_list PySem.F.slot_list_append PySem.F.type_list_append mt_append (pe_fld (pv 0) rfl) (pa_cons (pe_tup (pa_cons (pv 1) (pa_cons (pv 2) pa_nil))) pa_nil)))
      (pss_one (ps_ret (pe_lst (pa_cons (pe_meth0 (pv 0) T.cl m2 F2 hr1 b2 .nil pass0) pa_nil)))))), ?_⟩
    obtain ⟨⟨dx, hp⟩, hne, _, _⟩ := id hD
    refine ⟨_, rfl, p, dx, _, rfl, hp, df_no (by decide +kernel) (by decide +kernel) (by decide +kernel), _, rfl, _, rfl, p, ca, go, true, d, t, q, rfl, hD, g, fun H1 s1 => ⟨_, rfl, ite2 (fun z => ?_) (fun z => ?_)⟩⟩
    · have z := of_decide_eq_true z
      rw [st_out1 z] at k
      exact ⟨(by show 1 ≤ sizeLine; decide), fun l hl => k.new hD s1 hl⟩
    have z : ¬ (t < Kqu6.last d ∨ Kqu6.MINUTE < t ∨ 3 < q) := fun y => z (decide_eq_true y)
    have hq4 : q < 4 := by omega
    have hD1 := hD.same s1
    obtain ⟨⟨dx1, hp1⟩, _, _, _⟩ := id hD1
    refine ⟨_, rfl, p, dx1, _, rfl, hp1, df_no (by decide +kernel) (by decide +kernel) (by decide +kernel), p, ca, go, true, d, rfl, hD1, g, fun H2 lk s2 hlk => ?_⟩
    refine ⟨_, rfl, lk, _, _, _, rfl, rfl, SqL.of hlk, atI_nat (DS.map_range_get _ hq4), rfl, _, rfl, ite2 (fun y => ?_) (fun y => ?_)⟩
    · have y : V.int ((Kqu6.kindThere d q : Nat) : Int) = V.int 0 := of_decide_eq_true y
      have y0 : Kqu6.kindThere d q = 0 := by
        injection y with y
        omega
      rw [st_out2 z y0] at k
      exact ⟨(by show 1 ≤ sizeLine; decide), fun l hl => k.new hD (s1.trans s2) hl⟩
    have y : ¬ Kqu6.kindThere d q = 0 := fun x => y (decide_eq_true (by rw [x]; rfl))
    rw [st_out3 z y] at k
    have hD2 := hD1.same s2
    obtain ⟨⟨dx2, hp2⟩, _, ⟨pi, hca, hin⟩, po, hgo, hou⟩ := id hD2
    refine ⟨_, rfl, p, C, dx2, _, _, rfl, hp2, T.cl, T.nG, df_gone, .inl ⟨rfl, _, SqL.of hgo⟩, _, rfl, _, rfl, (by show 2 ≤ sizeLine; decide), fun tp htp => ?_⟩
    have s3 : Same H2 (upd H2 tp (.tup [.int (t : Nat), .int (q : Nat)])) := same_new htp
    have hgo2 := s3 _ _ hgo
    refine ⟨go, _, _, rfl, rfl, hgo2, small' (by rw [List.length_map, hou.len]; have := g.o30; omega), ?_⟩
    have hD3 := (hD2.same s3).addOut (es := [⟨t, q⟩]) (qs := [tp]) hgo2 (hou.mono s3.tups) ⟨upd_same, True.intro⟩
    have g3 : DS.Good { d with outs := d.outs ++ [⟨t, q⟩] } := DS.good_out g z y
    obtain ⟨⟨dx3, hp3⟩, _, _, _⟩ := id hD3
    refine ⟨_, rfl, p, dx3, _, rfl, hp3, df_no (by decide +kernel) (by decide +kernel) (by decide +kernel), p, ca, go, true, _, rfl, hD3, g3, fun H4 s4 => ⟨(by show 1 ≤ sizeLine; decide), fun l hl => ?_⟩⟩
    have s5 : Same H4 (upd H4 l (.lst [V.int ((Kqu6.there { d with outs := d.outs ++ [⟨t, q⟩] } : Nat) : Int)])) := same_new hl
    refine k _ l ca go (s1.free (s2.free (upd_none (upd_none (s4.free hl)).1).1)) ?_ ((hD3.same s4).same s5) ⟨fun x o e n1 n2 n3 => s5 _ _ (s4 _ _ ?_), .inl rfl, .inl rfl⟩
    · rw [upd_same]
      have e : Kqu6.there { d with outs := d.outs ++ [⟨t, q⟩] } = Kqu6.there d - 1 := by
        show d.ins.length - (d.outs ++ [_]).length = _
        rw [List.length_append]
        show d.ins.length - (d.outs.length + 1) = d.ins.length - d.outs.length - 1
        omega
      rw [e]
      rfl
    · rw [upd_ne n3]
      exact s3 _ _ (s2 _ _ (s1 _ _ e))
end
end DP

set_option autoImplicit false
set_option Elab.async false
set_option linter.all false
set_option maxRecDepth 100000
set_option maxHeartbeats 2000000
/-! close; the calls that only read. -/
namespace DP
open PySem PySem.Spec PyProof.Rows L2
section
variable {P : Program} {w : World} {K : PySem.W.Frag} {mg : Str → Option Value} {base : Heap}
/-! ### close -/
theorem scClose : FnScope ["self", "minute", "leaving", "kind"] ["self", "minute"] (defScope sClose) := ⟨rfl, rfl, rfl, by decide +kernel, rfl, by decide +kernel, by decide +kernel⟩
theorem ok_close {f C f1 f3 : Addr} {fd fd1 fd3 : FuncData} (F : Fun K "close" "Day.close" sClose f fd) (T : Txt K mg C)
    (F1 : FnOk P w K mg base CX0 3 f1 fd1 ["self", "minute"] (spWrongM C)) (b1 : Binds K fd1 ["self", "minute"] []) (m1 : Meth K C "is_wrong_minute" f1)
    (F3 : FnOk P w K mg base CX0 1 f3 fd3 ["self"] (spList C 4 Kqu6.kindThere)) (b3 : Binds K fd3 ["self"] []) (m3 : Meth K C "there_by_kind" f3) :
    FnOk P w K mg base CX0 4 f fd ["self", "minute"] (spCall1 C .close) := by
  refine F.ok scClose (fun vs H Q E h => ?_) (fun cdv A outer s H vs Q E hr h => ?_)
  · obtain ⟨p, ca, go, d, t, rfl, _⟩ := h
    rfl
  · obtain ⟨p, ca, go, d, t, rfl, hD, g, k⟩ := h
    have hr1 : Room 1 _ := hr.mono (by decide)
    refine ⟨_, pss_cons (ps_if (pt_val (pe_meth (pv 0) T.cl m1 F1 hr b1 .nil pass0 (pa_cons (pv 1) pa_nil))) (pss_one (ps_ret (pe_lst (pa_cons (pe_num T.r22 rfl) pa_nil)))) pss_nil)
      (pss_cons (ps_set (i := 2) scClose.nd rfl (Or.inl rfl) (pe_meth0 (pv 0) T.cl m3 F3 hr1 b3 .nil pass0))
      (pss_cons (ps_if (pt_cmpR op_eq (pe_callB (cr_sum rfl) (by rfl) T.sum PyProof.Rows.boot_sum (pa_cons (pv 2) pa_nil)) pe_int (nomark _)) (pss_one (ps_ret (pe_lst (pa_cons (pe_num T.r6 rfl) pa_nil)))) pss_nil)
      (pss_cons (ps_for PassesOwn.never rfl (pi_range1 rfl T.range (pa_cons (pe_num T.kinds rfl) pa_nil)) (pg_name (i := 3) scClose.nd rfl (Or.inl rfl))
        (pss_one (ps_expr (pe_bm PySem.F.plainAttrs_list PySem.F.slot_list_extend PySem.F.type_list_extend mt_extend (pe_fld (pv 0) rfl)
          (pa_cons (pe_op op_rep (pe_lst (pa_cons (pe_tup (pa_cons (pv 1) (pa_cons (pv 3) pa_nil))) pa_nil)) (pe_ix ix_list (pv 2) (pv 3) (fun _ _ => rfl))) pa_nil)))))
      (pss_one (ps_ret (pe_lst (pa_cons (pe_callB (cr_sum rfl) (by rfl) T.sum PyProof.Rows.boot_sum (pa_cons (pv 2) pa_nil)) pa_nil))))))), ?_⟩
    obtain ⟨⟨dx, hp⟩, hne, _, _⟩ := id hD
    refine ⟨_, rfl, p, dx, _, rfl, hp, df_no (by decide +kernel) (by decide +kernel) (by decide +kernel), _, rfl, p, ca, go, true, d, t, rfl, hD, g, fun H1 s1 => ⟨_, rfl, ite2 (fun z => ?_) (fun z => ?_)⟩⟩
    · have z := of_decide_eq_true z
      rw [st_close1 z] at k
      exact ⟨(by show 1 ≤ sizeLine; decide), fun l hl => k.new hD s1 hl⟩
    have z : ¬ (t < Kqu6.last d ∨ Kqu6.MINUTE < t) := fun y => z (decide_eq_true y)
    have hD1 := hD.same s1
    obtain ⟨⟨dx1, hp1⟩, _, _, _⟩ := id hD1
    refine ⟨_, rfl, p, dx1, _, rfl, hp1, df_no (by decide +kernel) (by decide +kernel) (by decide +kernel), p, ca, go, true, d, rfl, hD1, g, fun H2 lk s2 hlk => ?_⟩
    have hlk' := hlk
    rw [map4] at hlk'
    refine ⟨_, rfl, lk, _, rfl, SqL.of hlk', rfl, _, rfl, ?_⟩
    rw [sum4 g]
    refine ite2 (fun y => ?_) (fun y => ?_)
    · have y : V.int ((Kqu6.there d : Nat) : Int) = V.int 0 := of_decide_eq_true y
      have y0 : Kqu6.there d = 0 := by
        injection y with y
        omega
      rw [st_close2 z y0] at k
      exact ⟨(by show 1 ≤ sizeLine; decide), fun l hl => k.new hD (s1.trans s2) hl⟩
    have y : ¬ Kqu6.there d = 0 := fun x => y (decide_eq_true (by rw [x]; rfl))
    rw [st_close3 z y] at k
    have s12 := s1.trans s2
    have hD2 := hD1.same s2
    -- for kind in range(KINDS)
    refine ⟨4, rfl, by decide, by decide, for_range (n := 4) (lo := 0) (fun i σ H' => ∃ v : Option V, σ = [some (.ref p), some (.int (t : Nat)), some (.ref lk), v] ∧ DayAt C H' p ca go true { d with outs := d.outs ++ lv d t i } ∧ (∀ x o, H2 x = some o → x ≠ go → H' x = some o))
      ⟨none, rfl, (by show DayAt C H2 p ca go true { d with outs := d.outs ++ [] }; rw [List.append_nil]; exact hD2), fun x o e _ => e⟩ ?_ ?_⟩
    · rintro i σ H' hi ⟨v, rfl, hD3, kp⟩
      obtain ⟨⟨dx3, hp3⟩, _, _, po, hgo, hou⟩ := id hD3
      obtain ⟨⟨_, _⟩, _, _, po2, hgo2, _⟩ := id hD2
      have nlk : lk ≠ go := fun q => by
        rw [q] at hlk
        rw [hgo2] at hlk
        injection hlk with hlk
        injection hlk with hlk
        have e1 : (po2.map V.ref)[0]? = ((List.range 4).map fun j => V.int (Kqu6.kindThere d j : Nat))[0]? := congrArg (·[0]?) hlk
        cases po2 with
        | nil => simp at e1
        | cons a r => simp at e1
      have hlk3 := kp _ _ hlk nlk
      have e0 : (0 : Int) + (i : Nat) = (i : Nat) := by omega
      rw [e0]
      refine ⟨_, rfl, p, C, dx3, _, _, rfl, hp3, T.cl, T.nG, df_gone, .inl ⟨rfl, _, SqL.of hgo⟩, ?_⟩
      refine ⟨_, rfl, _, rfl, (by show 2 ≤ sizeLine; decide), fun tp htp => ⟨(by show 1 ≤ sizeLine; decide), fun l1 hl1 => ?_⟩⟩
      have s3 : Same H' (upd H' tp (.tup [.int (t : Nat), .int (i : Nat)])) := same_new htp
      have s4 := s3.trans (same_new (o := .lst [V.ref tp]) hl1)
      have ki := kind_le g i
      refine ⟨_, rfl, _, rfl, lk, _, _, _, rfl, rfl, SqL.of (s4 _ _ hlk3), atI_nat (DS.map_range_get _ hi), l1, _, _, rfl, rfl, upd_same, (by omega), (by omega), (by rw [Int.toNat_natCast]; exact small (by simp; omega)), fun l2 hl2 => ?_⟩
      have s5 := s4.trans (same_new (o := .lst (List.replicate ((Kqu6.kindThere d i : Nat) : Int).toNat [V.ref tp]).flatten) hl2)
      have ho := hou.len
      have hlo : (d.outs ++ lv d t i).length ≤ 300 := by
        rw [List.length_append]
        have := lv_len g t i
        have := g.o30
        omega
      have ho : po.length = (d.outs ++ lv d t i).length := ho
      refine ⟨go, l2, _, _, rfl, rfl, s5 _ _ hgo, upd_same, small (by rw [List.length_map, len_rep, Int.toNat_natCast]; simp; omega), ?_⟩
      refine ⟨_, rfl, ?_, fun x o e n => ?_⟩
      · have e1 : (List.replicate ((Kqu6.kindThere d i : Nat) : Int).toNat [V.ref tp]).flatten = (List.replicate (Kqu6.kindThere d i) tp).map V.ref := by
          rw [Int.toNat_natCast, flat1, List.map_replicate]
        have htp5 : upd (upd (upd H' tp (.tup [.int (t : Nat), .int (i : Nat)])) l1 (.lst [V.ref tp])) l2 (.lst (List.replicate ((Kqu6.kindThere d i : Nat) : Int).toNat [V.ref tp]).flatten) tp = some (evT ⟨t, i⟩) :=
          (same_new (o := .lst (List.replicate ((Kqu6.kindThere d i : Nat) : Int).toNat [V.ref tp]).flatten) hl2) _ _ ((same_new (o := .lst [V.ref tp]) hl1) _ _ upd_same)
        have r := (hD3.same s5).addOut (es := List.replicate (Kqu6.kindThere d i) ⟨t, i⟩) (qs := List.replicate (Kqu6.kindThere d i) tp) (s5 _ _ hgo) (hou.mono s5.tups) (Evs.rep htp5 _)
        rw [e1, lv_succ, ← List.append_assoc]
        rw [e1] at r
        exact r
      · rw [upd_ne n]
        exact s5 _ _ (kp x o e n)
    · rintro σ H' ⟨v, rfl, hD3, kp⟩
      obtain ⟨⟨_, _⟩, _, _, po2, hgo2, _⟩ := id hD2
      have nlk : lk ≠ go := fun q => by
        rw [q] at hlk
        rw [hgo2] at hlk
        injection hlk with hlk
        injection hlk with hlk
        have e1 : (po2.map V.ref)[0]? = ((List.range 4).map fun j => V.int (Kqu6.kindThere d j : Nat))[0]? := congrArg (·[0]?) hlk
        cases po2 with
        | nil => simp at e1
        | cons a r => simp at e1
      refine ⟨_, rfl, lk, _, rfl, SqL.of (kp _ _ hlk' nlk), ?_⟩
      rw [sum4 g]
      refine ⟨(by show 1 ≤ sizeLine; decide), fun l hl => ?_⟩
      have s6 : Same H' (upd H' l (.lst [V.int ((Kqu6.there d : Nat) : Int)])) := same_new hl
      have hl2 : H2 l = none := by
        cases q : H2 l with
        | none => rfl
        | some o =>
          obtain ⟨_, _, _, po3, hgo3, _⟩ := id hD3
          have n : l ≠ go := fun e => by rw [e, hgo3] at hl; cases hl
          rw [kp l o q n] at hl
          cases hl
      refine k _ l ca go (s12.free hl2) upd_same (hD3.same s6) ⟨fun x o e n1 n2 n3 => s6 _ _ (kp x o (s12 _ _ e) n3), .inl rfl, .inl rfl⟩
/-! ### present, there, kinds -/
theorem scPresent : FnScope ["self", "minute"] ["self", "minute"] (defScope sPresent) := ⟨rfl, rfl, rfl, by decide +kernel, rfl, by decide +kernel, by decide +kernel⟩
theorem ok_present {f C f3 : Addr} {fd fd3 : FuncData} (F : Fun K "present" "Day.present" sPresent f fd) (T : Txt K mg C)
    (F3 : FnOk P w K mg base CX0 2 f3 fd3 ["self"] (spList C 501 Kqu6.present)) (b3 : Binds K fd3 ["self"] []) (m3 : Meth K C "there_by_minute" f3) :
    FnOk P w K mg base CX0 3 f fd ["self", "minute"] (spCall1 C .present) := by
  refine F.ok scPresent (fun vs H Q E h => ?_) (fun cdv A outer s H vs Q E hr h => ?_)
  · obtain ⟨p, ca, go, d, t, rfl, _⟩ := h
    rfl
  · obtain ⟨p, ca, go, d, t, rfl, hD, g, k⟩ := h
    refine ⟨_, pss_cons (ps_if (pt_cmpR op_gt (pv 1) (pe_num T.minute rfl) (nomark _)) (pss_one (ps_ret (pe_lst (pa_cons (pe_num T.r22 rfl) pa_nil)))) pss_nil)
      (pss_one (ps_ret (pe_lst (pa_cons (pe_ix ix_list (pe_meth0 (pv 0) T.cl m3 F3 hr b3 .nil pass0) (pv 1) (fun _ _ => rfl)) pa_nil)))), ?_⟩
    obtain ⟨⟨dx, hp⟩, hne, _, _⟩ := id hD
    refine ⟨_, rfl, _, _, rfl, rfl, _, rfl, ite2 (fun z => ?_) (fun z => ?_)⟩
    · have z := of_decide_eq_true z
      have k : Then C H p ca go (some d, if Kqu6.MINUTE < t then .num (-22) else .num (Kqu6.present d t)) Q := k
      rw [if_pos (by unfold Kqu6.MINUTE; omega)] at k
      exact ⟨(by show 1 ≤ sizeLine; decide), fun l hl => k.new hD (Same.refl _) hl⟩
    have z : ¬ (500 : Int) < (t : Nat) := fun y => z (decide_eq_true y)
    have k : Then C H p ca go (some d, if Kqu6.MINUTE < t then .num (-22) else .num (Kqu6.present d t)) Q := k
    rw [if_neg (by unfold Kqu6.MINUTE; omega)] at k
    refine ⟨_, rfl, p, dx, _, rfl, hp, df_no (by decide +kernel) (by decide +kernel) (by decide +kernel), p, ca, go, true, d, rfl, hD, g, fun H2 lk s2 hlk => ?_⟩
    refine ⟨_, rfl, lk, _, _, _, rfl, rfl, SqL.of hlk, atI_nat (DS.map_range_get _ (by omega)), (by show 1 ≤ sizeLine; decide), fun l hl => k.new hD s2 hl⟩
theorem scThere : FnScope ["self"] ["self"] (defScope sThere) := ⟨rfl, rfl, rfl, by decide +kernel, rfl, by decide +kernel, by decide +kernel⟩
theorem ok_there {f C f3 : Addr} {fd fd3 : FuncData} (F : Fun K "there" "Day.there" sThere f fd) (T : Txt K mg C)
    (F3 : FnOk P w K mg base CX0 1 f3 fd3 ["self"] (spThereNow C)) (b3 : Binds K fd3 ["self"] []) (m3 : Meth K C "there_now" f3) :
    FnOk P w K mg base CX0 2 f fd ["self"] (spCall0 C .there) := by
  refine F.ok scThere (fun vs H Q E h => ?_) (fun cdv A outer s H vs Q E hr h => ?_)
  · obtain ⟨p, ca, go, d, rfl, _⟩ := h
    rfl
  · obtain ⟨p, ca, go, d, rfl, hD, g, k⟩ := h
    refine ⟨_, pss_one (ps_ret (pe_lst (pa_cons (pe_meth0 (pv 0) T.cl m3 F3 hr b3 .nil pass0) pa_nil))), ?_⟩
    obtain ⟨⟨dx, hp⟩, hne, _, _⟩ := id hD
    have k : Then C H p ca go (some d, .num (Kqu6.there d)) Q := k
    exact ⟨_, rfl, p, dx, _, rfl, hp, df_no (by decide +kernel) (by decide +kernel) (by decide +kernel), p, ca, go, true, d, rfl, hD, g, fun H2 s2 => ⟨(by show 1 ≤ sizeLine; decide), fun l hl => k.new hD s2 hl⟩⟩
theorem scKinds : FnScope ["self"] ["self"] (defScope sKinds) := ⟨rfl, rfl, rfl, by decide +kernel, rfl, by decide +kernel, by decide +kernel⟩
theorem ok_kinds {f C f3 : Addr} {fd fd3 : FuncData} (F : Fun K "kinds" "Day.kinds" sKinds f fd) (T : Txt K mg C)
    (F3 : FnOk P w K mg base CX0 1 f3 fd3 ["self"] (spList C 4 Kqu6.kindThere)) (b3 : Binds K fd3 ["self"] []) (m3 : Meth K C "there_by_kind" f3) :
    FnOk P w K mg base CX0 2 f fd ["self"] (spCall0 C .kinds) := by
  refine F.ok scKinds (fun vs H Q E h => ?_) (fun cdv A outer s H vs Q E hr h => ?_)
  · obtain ⟨p, ca, go, d, rfl, _⟩ := h
    rfl
  · obtain ⟨p, ca, go, d, rfl, hD, g, k⟩ := h
    refine ⟨_, pss_one (ps_ret (pe_op op_cat (pe_lst (pa_cons (pe_num T.kinds rfl) pa_nil)) (pe_meth0 (pv 0) T.cl m3 F3 hr b3 .nil pass0))), ?_⟩
    obtain ⟨⟨dx, hp⟩, hne, _, _⟩ := id hD
    have k : Then C H p ca go (some d, .some_ 4 ((List.range 4).map (Kqu6.kindThere d))) Q := k
    refine ⟨(by show 1 ≤ sizeLine; decide), fun l1 hl1 => ?_⟩
    have s1 : Same H (upd H l1 (.lst [V.int 4])) := same_new hl1
    refine ⟨_, rfl, p, dx, _, rfl, s1 _ _ hp, df_no (by decide +kernel) (by decide +kernel) (by decide +kernel), p, ca, go, true, d, rfl, hD.same s1, g, fun H2 lk s2 hlk => ?_⟩
    refine ⟨l1, lk, _, _, rfl, rfl, s2 _ _ upd_same, hlk, small (by simp), fun l hl => ?_⟩
    exact k.new hD (s1.trans s2) hl
end
end DP

set_option autoImplicit false
set_option Elab.async false
set_option linter.all false
set_option maxRecDepth 100000
set_option maxHeartbeats 2000000
/-! most, busy, area. -/
namespace DP
open PySem PySem.Spec PyProof.Rows L2
theorem least {p : Nat → Prop} [DecidablePred p] : ∀ n : Nat, p n → ∃ i, p i ∧ ∀ j, j < i → ¬ p j := by
  intro n
  induction n using Nat.strongRecOn with
  | ind n ih =>
    intro h
    by_cases q : ∃ j, j < n ∧ p j
    · obtain ⟨j, h1, h2⟩ := q
      exact ih j h1 h2
    · exact ⟨n, h, fun j hj hp => q ⟨j, hj, hp⟩⟩
section
variable {P : Program} {w : World} {K : PySem.W.Frag} {mg : Str → Option Value} {base : Heap}
theorem scMost : FnScope ["self", "counts", "top"] ["self"] (defScope sMost) := ⟨rfl, rfl, rfl, by decide +kernel, rfl, by decide +kernel, by decide +kernel⟩
theorem ok_most {f C f3 : Addr} {fd fd3 : FuncData} (F : Fun K "most" "Day.most" sMost f fd) (T : Txt K mg C)
    (F3 : FnOk P w K mg base CX0 2 f3 fd3 ["self"] (spList C 501 Kqu6.present)) (b3 : Binds K fd3 ["self"] []) (m3 : Meth K C "there_by_minute" f3) :
    FnOk P w K mg base CX0 3 f fd ["self"] (spCall0 C .most) := by
  refine F.ok scMost (fun vs H Q E h => ?_) (fun cdv A outer s H vs Q E hr h => ?_)
  · obtain ⟨p, ca, go, d, rfl, _⟩ := h
    rfl
  · obtain ⟨p, ca, go, d, rfl, hD, g, k⟩ := h
    refine ⟨_, pss_cons (ps_set (i := 1) scMost.nd rfl (Or.inl rfl) (pe_meth0 (pv 0) T.cl m3 F3 hr b3 .nil pass0))
      (pss_cons (ps_set (i := 2) scMost.nd rfl (Or.inl rfl) (pe_callB (cr_max rfl) (by rfl) T.max PyProof.Rows.boot_max (pa_cons (pv 1) pa_nil)))
      (pss_one (ps_ret (pe_lst (pa_cons (pv 2) (pa_cons (pe_bm PySem.F.plainAttrs_list PySem.F.slot_list_index PySem.F.type_list_index mt_index (pv 1) (pa_cons (pv 2) pa_nil)) pa_nil)))))), ?_⟩
    obtain ⟨⟨dx, hp⟩, hne, _, _⟩ := id hD
    have hl := DS.last_le g
    refine ⟨_, rfl, p, dx, _, rfl, hp, df_no (by decide +kernel) (by decide +kernel) (by decide +kernel), p, ca, go, true, d, rfl, hD, g, fun H2 lk s2 hlk => ?_⟩
    have hlk' := hlk
    rw [map4] at hlk'
    refine ⟨_, rfl, lk, _, rfl, SqL.of hlk', (by simp), fun m h1 h2 => ?_⟩
    have em : m = (Kqu6.most d : Nat) := DS.most_eq (d := d) (n := 501) (by omega) h1 h2
    subst em
    obtain ⟨t, ht, q⟩ := DS.most_at d
    obtain ⟨i, hi, hf⟩ := least (p := fun t => Kqu6.present d t = Kqu6.most d) t q
    have hil : i < 501 := by
      by_cases z : i ≤ t
      · omega
      · exact absurd q (hf t (by omega))
    refine ⟨_, rfl, _, rfl, .inl ⟨rfl, _, SqL.of hlk⟩, _, rfl, lk, _, _, i, _, rfl, rfl, SqL.of hlk, rfl, ?_, DS.map_range_get _ hil, ?_, fun j z' hj hz' => ?_, (by show 2 ≤ sizeLine; decide), fun l hl => ?_⟩
    · rw [List.all_eq_true]
      intro x hx
      obtain ⟨j, _, rfl⟩ := List.mem_map.mp hx
      rfl
    · show (((Kqu6.present d i : Nat) : Int) == ((Kqu6.most d : Nat) : Int)) = true
      rw [hi]
      exact beq_self_eq_true _
    · rw [DS.map_range_get _ (show j < 501 by omega)] at hz'
      cases hz'
      show (((Kqu6.present d j : Nat) : Int) == ((Kqu6.most d : Nat) : Int)) = false
      rw [beq_eq_false_iff_ne]
      intro e
      exact hf j hj (by omega)
    · have k : Then C H p ca go (some d, .some_ (Kqu6.most d : Nat) [((List.range (Kqu6.last d + 1)).find? fun t => Kqu6.present d t == Kqu6.most d).getD 0]) Q := k
      rw [DS.most_first hi hf] at k
      exact k.new hD s2 hl
/-! ### busy -/
theorem scBusy : FnScope ["self", "counts", "count"] ["self"] (defScope sBusy) := ⟨rfl, rfl, rfl, by decide +kernel, rfl, by decide +kernel, by decide +kernel⟩
theorem filter_take_succ {α : Type} {p : α → Bool} {l : List α} {i : Nat} {x : α} (h : l[i]? = some x) : (l.take (i + 1)).filter p = (l.take i).filter p ++ if p x = true then [x] else [] := by
  rw [DS.take_succ_get h, List.filter_append]
  congr 1
  by_cases q : p x = true
  · rw [if_pos q, List.filter_cons_of_pos q]
    rfl
  · rw [if_neg q, List.filter_cons_of_neg q]
    rfl
theorem ok_busy {f C f1 f3 : Addr} {fd fd1 fd3 : FuncData} (F : Fun K "busy" "Day.busy" sBusy f fd) (T : Txt K mg C)
    (F1 : FnOk P w K mg base CX0 2 f1 fd1 ["self"] (spLast C)) (b1 : Binds K fd1 ["self"] []) (m1 : Meth K C "last_noted" f1)
    (F3 : FnOk P w K mg base CX0 2 f3 fd3 ["self"] (spList C 501 Kqu6.present)) (b3 : Binds K fd3 ["self"] []) (m3 : Meth K C "there_by_minute" f3) :
    FnOk P w K mg base CX0 3 f fd ["self"] (spCall0 C .busy) := by
  refine F.ok scBusy (fun vs H Q E h => ?_) (fun cdv A outer s H vs Q E hr h => ?_)
  · obtain ⟨p, ca, go, d, rfl, _⟩ := h
    rfl
  · obtain ⟨p, ca, go, d, rfl, hD, g, k⟩ := h
    refine ⟨_, pss_cons (ps_set (i := 1) scBusy.nd rfl (Or.inl rfl) (pe_slice sl_list (pe_meth0 (pv 0) T.cl m3 F3 hr b3 .nil pass0) po_none (po_some (pe_op op_add (pe_meth0 (pv 0) T.cl m1 F1 hr b1 .nil pass0) pe_int))))
      (pss_one (ps_ret (pe_lst (pa_cons (pe_callB call_len_seq (by rfl) T.len PySem.boot_len (pa_cons (pe_lc (own := [("count", 2)]) (g := gName 2) (tt := tTest (tOp (rI0 fun i j => .bl (decide (j < i))) (tVar 2) (tC (.int 0)))) (te := tVar 2) rfl scBusy.nd (pi_list (pv 1)) (blkOk_by rfl)
        (fun s H C cl fp => pg_name (i := 2) scBusy.nd rfl (Or.inl rfl) (Or.inr rfl)) (fun s H C cl fp => pts_one (pt_cmpR op_gt (pv 2) pe_int (nomark _))) (fun s H C cl fp => pv 2)) pa_nil)) pa_nil)))), ?_⟩
    obtain ⟨⟨dx, hp⟩, hne, _, _⟩ := id hD
    have hla := DS.last_le g
    refine ⟨_, rfl, p, dx, _, rfl, hp, df_no (by decide +kernel) (by decide +kernel) (by decide +kernel), p, ca, go, true, d, rfl, hD, g, fun H2 lk s2 hlk => ?_⟩
    have hD2 := hD.same s2
    obtain ⟨⟨dx2, hp2⟩, _, _, _⟩ := id hD2
    refine ⟨_, rfl, p, dx2, _, rfl, hp2, df_no (by decide +kernel) (by decide +kernel) (by decide +kernel), p, ca, go, true, d, rfl, hD2, g, fun H3 s3 => ?_⟩
    refine ⟨_, _, rfl, rfl, _, rfl, lk, _, rfl, SqL.of (s3 _ _ hlk), fun c hc => ?_⟩
    have ec : cutV ((List.range 501).map fun j => V.int (Kqu6.present d j : Nat)) none (some (((Kqu6.last d : Nat) : Int) + 1)) = ((List.range (Kqu6.last d + 1)).map fun j => ((Kqu6.present d j : Nat) : Int)).map V.int := by
      unfold cutV
      have e1 : HT.sIx ((List.range 501).map fun j => V.int (Kqu6.present d j : Nat)).length ((List.range 501).map fun j => V.int (Kqu6.present d j : Nat)).length (some (((Kqu6.last d : Nat) : Int) + 1)) = Kqu6.last d + 1 := by
        rw [show ((Kqu6.last d : Nat) : Int) + 1 = ((Kqu6.last d + 1 : Nat) : Int) by omega, HT.sIx_nat, List.length_map, List.length_range]
        omega
      rw [e1]
      show List.take (Kqu6.last d + 1 - 0) (List.drop 0 _) = _
      rw [List.drop_zero, Nat.sub_zero, DS.take_map_range, map4]
      congr 3
      first | done | omega
    rw [ec]
    generalize hns : ((List.range (Kqu6.last d + 1)).map fun j => ((Kqu6.present d j : Nat) : Int)) = ns
    have hnl : ns.length ≤ 501 := by
      rw [← hns]
      simp
      omega
    have s4 : Same H3 (upd H3 c (.lst (ns.map V.int))) := same_new hc
    refine ⟨_, rfl, c, rfl, ⟨_, SqL.of upd_same⟩, fun D hD' => ?_⟩
    refine lc_list (K := K) (a := c) (xs := ns.map V.int) (fun i H' => Same (upd H3 c (.lst (ns.map V.int))) H' ∧ H' D = some (.lst (((ns.take i).filter fun x => decide (0 < x)).map V.int)))
      ⟨same_new hD', upd_same⟩ (fun i H' _ ⟨s', _⟩ => SqL.of (s' _ _ upd_same)) ?_ ?_
    · rintro i x H' hx ⟨s', hD2⟩
      obtain ⟨z, hz, rfl⟩ : ∃ z, ns[i]? = some z ∧ x = V.int z := by
        rw [List.getElem?_map] at hx
        cases e : ns[i]? with
        | none => rw [e] at hx; cases hx
        | some z => rw [e] at hx; exact ⟨z, rfl, (Option.some.inj hx).symm⟩
      refine ⟨rfl, _, rfl, _, _, rfl, rfl, _, rfl, ?_⟩
      refine ite2 (fun y => ?_) (fun y => ?_)
      · refine ⟨_, rfl, _, hD2, small' ?_, s'.upd hD', ?_⟩
        · rw [List.length_map]
          exact Nat.le_trans (List.length_filter_le ..) (by rw [List.length_take]; omega)
        · rw [upd_same, filter_take_succ hz, if_pos y, List.map_append]
          rfl
      · refine ⟨s', ?_⟩
        rw [hD2, filter_take_succ hz, if_neg y, List.append_nil]
    · rintro H' ⟨s', hD2⟩
      rw [List.length_map, List.take_length] at hD2
      refine ⟨D, _, rfl, .inl (SqL.of hD2), (by show 1 ≤ sizeLine; decide), fun l hl => ?_⟩
      have k : Then C H p ca go (some d, .num (Kqu6.busy d)) Q := k
      have eb : ((ns.filter fun x => decide (0 < x)).map V.int).length = Kqu6.busy d := by
        rw [List.length_map, ← hns]
        exact DS.busy_eq d
      rw [eb]
      exact k.new hD (s2.trans (s3.trans (s4.trans s'))) hl
/-! ### area -/
theorem scArea : FnScope ["self", "since", "until"] ["self", "since", "until"] (defScope sArea) := ⟨rfl, rfl, rfl, by decide +kernel, rfl, by decide +kernel, by decide +kernel⟩
theorem ok_area {f C f3 : Addr} {fd fd3 : FuncData} (F : Fun K "area" "Day.area" sArea f fd) (T : Txt K mg C)
    (F3 : FnOk P w K mg base CX0 2 f3 fd3 ["self"] (spList C 501 Kqu6.present)) (b3 : Binds K fd3 ["self"] []) (m3 : Meth K C "there_by_minute" f3) :
    FnOk P w K mg base CX0 3 f fd ["self", "since", "until"] (spCall2 C .area) := by
  refine F.ok scArea (fun vs H Q E h => ?_) (fun cdv A outer s H vs Q E hr h => ?_)
  · obtain ⟨p, ca, go, d, t, q, rfl, _⟩ := h
    rfl
  · obtain ⟨p, ca, go, d, t, q, rfl, hD, g, k⟩ := h
    refine ⟨_, pss_cons (ps_if (PW.pt (pw_or (pt_cmpR op_lt (pv 2) (pv 1) (nomark _)) (pw_or1 (pt_cmpR op_gt (pv 2) (pe_op op_add (pe_num T.minute rfl) pe_int) (nomark _))))) (pss_one (ps_ret (pe_lst (pa_cons (pe_num T.r22 rfl) pa_nil)))) pss_nil)
      (pss_one (ps_ret (pe_lst (pa_cons (pe_callB (cr_sum rfl) (by rfl) T.sum PyProof.Rows.boot_sum (pa_cons (pe_slice sl_list (pe_meth0 (pv 0) T.cl m3 F3 hr b3 .nil pass0) (po_some (pv 1)) (po_some (pv 2))) pa_nil)) pa_nil)))), ?_⟩
    obtain ⟨⟨dx, hp⟩, hne, _, _⟩ := id hD
    have k : Then C H p ca go (some d, if q < t ∨ Kqu6.MINUTE + 1 < q then .num (-22) else .num (Kqu6.area d t q)) Q := k
    refine ⟨_, rfl, _, rfl, _, _, rfl, rfl, _, rfl, ite2 (fun z => ?_) (fun z => ?_)⟩
    · have z := of_decide_eq_true z
      rw [if_pos (by omega)] at k
      exact ⟨(by show 1 ≤ sizeLine; decide), fun l hl => k.new hD (Same.refl _) hl⟩
    have z : ¬ (q : Int) < (t : Nat) := fun y => z (decide_eq_true y)
    refine ⟨_, rfl, _, _, rfl, rfl, _, _, rfl, rfl, _, rfl, ite2 (fun y => ?_) (fun y => ?_)⟩
    · have y := of_decide_eq_true y
      rw [if_pos (by unfold Kqu6.MINUTE; omega)] at k
      exact ⟨(by show 1 ≤ sizeLine; decide), fun l hl => k.new hD (Same.refl _) hl⟩
    have y : ¬ (500 : Int) + 1 < (q : Nat) := fun x => y (decide_eq_true x)
    rw [if_neg (by unfold Kqu6.MINUTE; omega)] at k
    refine ⟨_, rfl, p, dx, _, rfl, hp, df_no (by decide +kernel) (by decide +kernel) (by decide +kernel), p, ca, go, true, d, rfl, hD, g, fun H2 lk s2 hlk => ?_⟩
    refine ⟨_, rfl, _, rfl, _, rfl, _, rfl, lk, _, rfl, SqL.of hlk, fun c hc => ?_⟩
    have ec : cutV ((List.range 501).map fun j => V.int (Kqu6.present d j : Nat)) (some ((t : Nat) : Int)) (some ((q : Nat) : Int)) = ((List.range (q - t)).map fun j => ((Kqu6.present d (t + j) : Nat) : Int)).map V.int := by
      unfold cutV
      rw [HT.sIx_nat, HT.sIx_nat, List.length_map, List.length_range, DS.drop_map_range, DS.take_map_range, List.map_map]
      have e1 : min t 501 = t := by omega
      have e2 : min (min q 501 - min t 501) (501 - min t 501) = q - t := by omega
      rw [e2, e1]
      rfl
    rw [ec]
    refine ⟨c, _, rfl, SqL.of upd_same, (by show 1 ≤ sizeLine; decide), fun l hl => ?_⟩
    rw [DS.area_eq]
    exact k.new hD (s2.trans (same_new hc)) hl
end
end DP

set_option autoImplicit false
set_option Elab.async false
set_option linter.all false
set_option maxRecDepth 100000
set_option maxHeartbeats 2000000
/-! How long each stayed. -/
namespace DP
open PySem PySem.Spec PyProof.Rows L2
abbrev NatsAt (H : Hp) (a : Addr) (l : List Nat) : Prop := H a = some (.lst ((DS.asInts l).map V.int))
/-- a new list of whole numbers is handed back -/
def NewNats (H : Hp) (l : List Nat) (Q : VK) : Prop := ∀ (H' : Hp) (r : Addr), Same H H' → H r = none → NatsAt H' r l → Q (.ref r) H'
def spFF : Sp := fun vs H Q _ => ∃ (a b : Addr) (I O : List Nat), vs = [.ref a, .ref b] ∧ NatsAt H a I ∧ NatsAt H b O ∧ O.length ≤ 60 ∧ (∀ i x y : Nat, I[i]? = some x → O[i]? = some y → x ≤ y) ∧ NewNats H (Kqu6.firstOut I O) Q
def spLG : Sp := fun vs H Q _ => ∃ (a b : Addr) (I O : List Nat), vs = [.ref a, .ref b] ∧ NatsAt H a I ∧ NatsAt H b O ∧ I.length ≤ 60 ∧ O.length ≤ 60 ∧ DS.LO [] I O ∧ NewNats H (Kqu6.lastOut [] I O) Q
def spCan : Sp := fun vs H Q _ => ∃ (a b c : Addr) (I O p : List Nat), vs = [.ref a, .ref b, .ref c] ∧ NatsAt H a I ∧ NatsAt H b O ∧ NatsAt H c p ∧ p.length ≤ 60 ∧ ∀ H' : Hp, Same H H' → Q (.bl (Kqu6.as_ I O p).isSome) H'
def spSo : Sp := fun vs H Q _ => ∃ (a b c : Addr) (I O p l : List Nat), vs = [.ref a, .ref b, .ref c] ∧ NatsAt H a I ∧ NatsAt H b O ∧ NatsAt H c p ∧ p.length ≤ 60 ∧ Kqu6.as_ I O p = some l ∧ NewNats H l Q
def toldV (l : List Nat) : List V := [.int (Kqu6.sum l : Nat), .int (Kqu6.greatest l : Nat), .int (Kqu6.squares l : Nat)]
def spTold : Sp := fun vs H Q _ => ∃ (a : Addr) (l : List Nat), vs = [.ref a] ∧ NatsAt H a l ∧ l.length ≤ 60 ∧ (∀ x ∈ l, x ≤ 500) ∧ ∀ (H' : Hp) (r : Addr), Same H H' → H r = none → H' r = some (.lst (toldV l)) → Q (.ref r) H'
def spGcd : Sp := fun vs H Q _ => ∃ x y : Nat, vs = [.int (x : Nat), .int (y : Nat)] ∧ Q (.int (Nat.gcd x y : Nat)) H
def spShort : Sp := fun vs H Q _ => ∃ x y : Nat, vs = [.int (x : Nat), .int (y : Nat)] ∧ 0 < y ∧ y ≤ 1000 ∧ ∀ (H' : Hp) (r : Addr), Same H H' → H r = none → NatsAt H' r (Kqu6.frac x y) → Q (.ref r) H'
section
variable {P : Program} {w : World} {K : PySem.W.Frag} {mg : Str → Option Value} {base : Heap}
/-! ### first_goes_first -/
theorem scFF : FnScope ["came", "gone", "entered", "went"] ["came", "gone"] (defScope sFF) := ⟨rfl, rfl, rfl, by decide +kernel, rfl, by decide +kernel, by decide +kernel⟩
theorem ok_FF {f C : Addr} {fd : FuncData} (F : Fun K "first_goes_first" "first_goes_first" sFF f fd) (T : Txt K mg C) : FnOk P w K mg base CX0 1 f fd ["came", "gone"] spFF := by
  refine F.ok scFF (fun vs H Q E h => ?_) (fun cdv A outer s H vs Q E hr h => ?_)
  · obtain ⟨a, b, I, O, rfl, _⟩ := h
    rfl
  · obtain ⟨a, b, I, O, rfl, ha, hb, hl, hle, k⟩ := h
    refine ⟨_, pss_one (ps_ret (pe_lc (own := [("entered", 2), ("went", 3)]) (g := gTup K 2 (gCons (gName 2) (gCons (gName 3) gNil))) (tt := tYes) (te := tOp (rI0 fun i j => .int (i - j)) (tVar 3) (tVar 2)) rfl scFF.nd (pi_zip rfl T.zip (pa_cons (pv 0) (pa_cons (pv 1) pa_nil))) (blkOk_by rfl)
      (fun s H C cl fp => pg_tup rfl (pgs_cons (pg_name (i := 2) scFF.nd rfl (Or.inl rfl) (Or.inr rfl)) (pgs_cons (pg_name (i := 3) scFF.nd rfl (Or.inl rfl) (Or.inr rfl)) pgs_nil))) (fun s H C cl fp => pts_nil) (fun s H C cl fp => pe_op op_sub (pv 3) (pv 2)))), ?_⟩
    refine ⟨_, rfl, _, rfl, a, b, _, _, rfl, SqL.of ha, SqL.of hb, fun D hD' => ?_⟩
    refine lc_zip (K := K) (a := a) (b := b) (xs := (DS.asInts I).map V.int) (ys := (DS.asInts O).map V.int) (fun i H' => Same H H' ∧ H' D = some (.lst ((DS.asInts ((Kqu6.firstOut I O).take i)).map V.int)))
      ⟨same_new hD', upd_same⟩ (fun i H' ⟨s', _⟩ => ⟨SqL.of (s' _ _ ha), SqL.of (s' _ _ hb)⟩) _ rfl ?_ ?_
    · rintro i x y H' T hx hy hT ⟨s', hD2⟩
      obtain ⟨u, hu, rfl⟩ := nat_at hx
      obtain ⟨v, hv, rfl⟩ := nat_at hy
      refine gtwo upd_same ⟨rfl, ?_⟩
      refine ⟨_, rfl, _, rfl, _, _, rfl, rfl, _, (upd_ne (ne_of_none hD2 hT)).trans hD2, small' (by rw [nat_len, List.length_take]; have := DS.firstOut_len_le I O; omega), (s'.upd (s'.free hT)).upd hD', ?_⟩
      rw [upd_same, DS.take_snoc (DS.firstOut_get hu hv), List.map_append]
      have := hle i u v hu hv
      have e : (v : Int) - (u : Int) = ((v - u : Nat) : Int) := by omega
      show some (HO.lst (_ ++ [V.int ((v : Int) - (u : Int))])) = _
      rw [e]
      rfl
    · rintro H' ⟨s', hD2⟩
      rw [List.take_of_length_le (by unfold Kqu6.firstOut; rw [List.length_map, List.length_zip, nat_len, nat_len]; exact Nat.le_refl _)] at hD2
      exact k H' D s' hD' hD2
/-! ### gone_so -/
theorem scSo : FnScope ["came", "gone", "places", "place"] ["came", "gone", "places"] (defScope sSo) := ⟨rfl, rfl, rfl, by decide +kernel, rfl, by decide +kernel, by decide +kernel⟩
theorem ok_So {f C f1 : Addr} {fd fd1 : FuncData} (F : Fun K "gone_so" "gone_so" sSo f fd) (T : Txt K mg C)
    (F1 : FnOk P w K mg base CX0 1 f1 fd1 ["came", "gone"] spFF) (b1 : Binds K fd1 ["came", "gone"] []) (g1 : mg "first_goes_first" = some (.ref f1)) (k1 : PySem.W.keepIn K (.ref f1) = true) :
    FnOk P w K mg base CX0 2 f fd ["came", "gone", "places"] spSo := by
  refine F.ok scSo (fun vs H Q E h => ?_) (fun cdv A outer s H vs Q E hr h => ?_)
  · obtain ⟨a, b, c, I, O, p, l, rfl, _⟩ := h
    rfl
  · obtain ⟨a, b, c, I, O, p, l, rfl, ha, hb, hc, hp60, has, k⟩ := h
    obtain ⟨hl, hin, hle, el⟩ := DS.as_so has
    refine ⟨_, pss_one (ps_ret (pe_call F1 hr rfl g1 k1 b1 .nil pass0 (pa_cons (pe_lc (own := [("place", 3)]) (g := gName 3) (tt := tYes) (te := tOp (rIxL K) (tVar 0) (tVar 3)) rfl scSo.nd (pi_list (pv 2)) (blkOk_by rfl)
      (fun s H C cl fp => pg_name (i := 3) scSo.nd rfl (Or.inl rfl) (Or.inr rfl)) (fun s H C cl fp => pts_nil) (fun s H C cl fp => pe_ix ix_list (pv 0) (pv 3) (fun _ _ => rfl))) (pa_cons (pv 1) pa_nil)))), ?_⟩
    refine ⟨_, rfl, c, rfl, ⟨_, SqL.of hc⟩, fun D hD' => ?_⟩
    refine lc_list (K := K) (a := c) (xs := (DS.asInts p).map V.int) (fun i H' => Same H H' ∧ H' D = some (.lst ((DS.asInts ((p.map fun x => I.getD x 0).take i)).map V.int)))
      ⟨same_new hD', upd_same⟩ (fun i H' _ ⟨s', _⟩ => SqL.of (s' _ _ hc)) ?_ ?_
    · rintro i x H' hx ⟨s', hD2⟩
      obtain ⟨u, hu, rfl⟩ := nat_at hx
      have hui := hin u (List.mem_of_getElem? hu)
      have eI : I[u]? = some (I.getD u 0) := by rw [List.getD_eq_getElem?_getD, List.getElem?_eq_getElem hui]; rfl
      refine ⟨rfl, _, rfl, _, rfl, a, _, _, _, rfl, rfl, SqL.of (s' _ _ ha), atI_nat (nat_get eI), _, hD2, small' (by rw [nat_len, List.length_take, List.length_map]; omega), s'.upd hD', ?_⟩
      rw [upd_same, DS.take_snoc (l := p.map fun x => I.getD x 0) (x := I.getD u 0) (by rw [List.getElem?_map, hu]; rfl), List.map_append]
      rfl
    · rintro H' ⟨s', hD2⟩
      rw [List.take_of_length_le (by rw [List.length_map, nat_len]; exact Nat.le_refl _)] at hD2
      refine ⟨_, rfl, D, b, _, O, rfl, hD2, s' _ _ hb, by omega, hle, ?_⟩
      rw [← el]
      exact fun H2 r s2 hr2 h2 => k H2 r (s'.trans s2) (s'.free hr2) h2
/-! ### told_of -/
theorem scTold : FnScope ["stays", "stay"] ["stays"] (defScope sTold) := ⟨rfl, rfl, rfl, by decide +kernel, rfl, by decide +kernel, by decide +kernel⟩
theorem ok_Told {f C : Addr} {fd : FuncData} (F : Fun K "told_of" "told_of" sTold f fd) (T : Txt K mg C) : FnOk P w K mg base CX0 1 f fd ["stays"] spTold := by
  refine F.ok scTold (fun vs H Q E h => ?_) (fun cdv A outer s H vs Q E hr h => ?_)
  · obtain ⟨a, l, rfl, _⟩ := h
    rfl
  · obtain ⟨a, l, rfl, ha, hl, hb, k⟩ := h
    refine ⟨_, pss_one (ps_ret (pe_lst (pa_cons (pe_callB (cr_sum rfl) (by rfl) T.sum PyProof.Rows.boot_sum (pa_cons (pv 0) pa_nil)) (pa_cons (pe_maxD rfl rfl T.max (pa_cons (pv 0) pa_nil) (pk_cons pe_int pk_nil))
      (pa_cons (pe_callB (cr_sum rfl) (by rfl) T.sum PyProof.Rows.boot_sum (pa_cons (pe_lc (own := [("stay", 1)]) (g := gName 1) (tt := tYes) (te := tOp (rI CMul fun i j => .int (i * j)) (tVar 1) (tVar 1)) rfl scTold.nd (pi_list (pv 0)) (blkOk_by rfl)
      (fun s H C cl fp => pg_name (i := 1) scTold.nd rfl (Or.inl rfl) (Or.inr rfl)) (fun s H C cl fp => pts_nil) (fun s H C cl fp => pe_op op_mul (pv 1) (pv 1))) pa_nil)) pa_nil))))), ?_⟩
    refine ⟨_, rfl, a, _, rfl, SqL.of ha, _, rfl, a, _, 0, rfl, rfl, SqL.of ha, fun m hm => ?_⟩
    have em : m = (Kqu6.greatest l : Nat) := by
      rcases hm with ⟨h1, rfl⟩ | ⟨h1, h2⟩
      · have : l = [] := List.map_eq_nil_iff.mp h1
        rw [this]
        rfl
      · exact DS.told_greatest h1 h2
    subst em
    refine ⟨_, rfl, a, rfl, ⟨_, SqL.of ha⟩, fun D hD' => ?_⟩
    refine lc_list (K := K) (a := a) (xs := (DS.asInts l).map V.int) (fun i H' => Same H H' ∧ H' D = some (.lst ((((DS.asInts l).take i).map fun x => x * x).map V.int)))
      ⟨same_new hD', upd_same⟩ (fun i H' _ ⟨s', _⟩ => SqL.of (s' _ _ ha)) ?_ ?_
    · rintro i x H' hx ⟨s', hD2⟩
      obtain ⟨u, hu, rfl⟩ := nat_at hx
      have hub := hb u (List.mem_of_getElem? hu)
      refine ⟨rfl, _, rfl, _, rfl, _, _, rfl, rfl, .inl ⟨?_, ?_⟩, _, hD2, small' (by rw [List.length_map, List.length_map, List.length_take, DS.ints_length]; omega), s'.upd hD', ?_⟩
      · exact Int.lt_of_lt_of_le (show (-(2 ^ 64) : Int) < 0 by decide) (Int.natCast_nonneg u)
      · exact Int.lt_of_le_of_lt (show (u : Int) ≤ 500 by omega) (by decide)
      · rw [upd_same, DS.take_succ_get (DS.asInts_get hu), List.map_append, List.map_append]
        rfl
    · rintro H' ⟨s', hD2⟩
      rw [List.take_of_length_le (by rw [List.length_map]; exact Nat.le_refl _)] at hD2
      refine ⟨D, _, rfl, SqL.of hD2, (by show 3 ≤ sizeLine; decide), fun r hr' => ?_⟩
      rw [← DS.told_sum, ← DS.told_squares]
      exact k _ r (s'.trans (same_new hr')) (s'.free hr') upd_same
/-! ### common_divisor, shortened -/
theorem scGcd : FnScope ["one", "other", "rest"] ["one", "other"] (defScope sGcd) := ⟨rfl, rfl, rfl, by decide +kernel, rfl, by decide +kernel, by decide +kernel⟩
theorem ok_Gcd {f C : Addr} {fd : FuncData} (F : Fun K "common_divisor" "common_divisor" sGcd f fd) (T : Txt K mg C) : FnOk P w K mg base CX0 1 f fd ["one", "other"] spGcd := by
  refine F.ok scGcd (fun vs H Q E h => ?_) (fun cdv A outer s H vs Q E hr h => ?_)
  · obtain ⟨x, y, rfl, _⟩ := h
    rfl
  · obtain ⟨x, y, rfl, k⟩ := h
    refine ⟨_, pss_cons (ps_while PassesOwn.never (pt_cmpR op_gt (pv 1) pe_int (nomark _))
        (pss_cons (ps_set (i := 2) scGcd.nd rfl (Or.inl rfl) (pe_op op_mod (pv 0) (pv 1)))
        (pss_cons (ps_set (i := 0) scGcd.nd rfl (Or.inl rfl) (pv 1))
        (pss_one (ps_set (i := 1) scGcd.nd rfl (Or.inl rfl) (pv 2))))))
      (pss_one (ps_ret (pv 0))), ?_⟩
    refine ⟨fun m σ H' => ∃ (u v : Nat) (z : Option V), m = v ∧ σ = [some (.int (u : Nat)), some (.int (v : Nat)), z] ∧ H' = H ∧ Nat.gcd u v = Nat.gcd x y, ⟨y, x, y, none, rfl, rfl, rfl, rfl⟩, ?_⟩
    rintro v σ H' ⟨u, v0, z, rfl, rfl, rfl, hg⟩
    refine ⟨_, rfl, _, _, rfl, rfl, _, rfl, ite2 (fun q => ?_) (fun q => ?_)⟩
    · have q := of_decide_eq_true q
      have hv : 0 < v := by omega
      refine ⟨fun σ' H2 => ∃ z, σ' = [some (.int (v : Nat)), some (.int (u % v : Nat)), z] ∧ H2 = H', fun σ' H2 ⟨z, h1, h2⟩ => ⟨u % v, Nat.mod_lt _ hv, v, u % v, z, rfl, h1, h2, by rw [DS.gcd_turn]; exact hg⟩, ?_⟩
      exact ⟨_, rfl, _, rfl, _, _, rfl, rfl, (by show (0 : Int) < (v : Nat); omega), _, rfl, _, rfl, _, rfl, rfl⟩
    · have q : ¬ (0 : Int) < (v : Nat) := fun e => q (decide_eq_true e)
      have hv : v = 0 := by omega
      subst hv
      rw [Nat.gcd_zero_right] at hg
      rw [← hg] at k
      exact ⟨_, rfl, k⟩
theorem scShort : FnScope ["upper", "lower", "divisor"] ["upper", "lower"] (defScope sShort) := ⟨rfl, rfl, rfl, by decide +kernel, rfl, by decide +kernel, by decide +kernel⟩
theorem ok_Short {f C f1 : Addr} {fd fd1 : FuncData} (F : Fun K "shortened" "shortened" sShort f fd) (T : Txt K mg C)
    (F1 : FnOk P w K mg base CX0 1 f1 fd1 ["one", "other"] spGcd) (b1 : Binds K fd1 ["one", "other"] []) (g1 : mg "common_divisor" = some (.ref f1)) (k1 : PySem.W.keepIn K (.ref f1) = true) : FnOk P w K mg base CX0 2 f fd ["upper", "lower"] spShort := by
  refine F.ok scShort (fun vs H Q E h => ?_) (fun cdv A outer s H vs Q E hr h => ?_)
  · obtain ⟨x, y, rfl, _⟩ := h
    rfl
  · obtain ⟨x, y, rfl, hy, hy2, k⟩ := h
    refine ⟨_, pss_cons (ps_set (i := 2) scShort.nd rfl (Or.inl rfl) (pe_call F1 hr rfl g1 k1 b1 .nil pass0 (pa_cons (pv 0) (pa_cons (pv 1) pa_nil))))
      (pss_one (ps_ret (pe_lst (pa_cons (pe_op op_fdiv (pv 0) (pv 2)) (pa_cons (pe_op op_fdiv (pv 1) (pv 2)) pa_nil))))), ?_⟩
    have gp : 0 < Nat.gcd x y := Nat.gcd_pos_of_pos_right x hy
    have gl : Nat.gcd x y ≤ y := Nat.le_of_dvd hy (Nat.gcd_dvd_right x y)
    have cd : ∀ i : Int, CDiv i ((Nat.gcd x y : Nat) : Int) := fun i => ⟨by omega, by omega⟩
    refine ⟨_, rfl, _, rfl, x, y, rfl, ?_⟩
    refine ⟨_, rfl, _, rfl, _, _, rfl, rfl, cd _, _, rfl, _, rfl, _, _, rfl, rfl, cd _, (by show 2 ≤ sizeLine; decide), fun r hr' => ?_⟩
    exact k _ r (same_new hr') hr' upd_same
end
end DP

set_option autoImplicit false
set_option Elab.async false
set_option linter.all false
set_option maxRecDepth 100000
set_option maxHeartbeats 2000000
/-! The last goes first; whether they can go so. -/
namespace DP
open PySem PySem.Spec PyProof.Rows L2
theorem rev_cons (x : Nat) (l : List Nat) : (DS.asInts l.reverse).map V.int ++ [V.int (x : Nat)] = (DS.asInts (x :: l).reverse).map V.int := by
  rw [List.reverse_cons, DS.asInts_append, List.map_append]
  rfl
theorem rev_last (x : Nat) (l : List Nat) : ((DS.asInts (x :: l).reverse).map V.int)[((DS.asInts (x :: l).reverse).map V.int).length - 1]? = some (V.int (x : Nat)) := by
  rw [← rev_cons, List.length_append]
  show (_ ++ [V.int (x : Nat)])[_ + 1 - 1]? = _
  rw [Nat.add_sub_cancel, List.getElem?_append_right (Nat.le_refl _), Nat.sub_self]
  rfl
theorem rev_drop (x : Nat) (l : List Nat) : ((DS.asInts (x :: l).reverse).map V.int).dropLast = (DS.asInts l.reverse).map V.int := by
  rw [← rev_cons, List.dropLast_concat]
theorem drop_cons {l : List Nat} {i x : Nat} (h : l[i]? = some x) : l.drop i = x :: l.drop (i + 1) := by
  obtain ⟨hi, e⟩ := List.getElem?_eq_some_iff.mp h
  rw [List.drop_eq_getElem_cons hi, e]
theorem nat_snoc (l : List Nat) (x : Nat) : (DS.asInts (l ++ [x])).map V.int = (DS.asInts l).map V.int ++ [V.int (x : Nat)] := by
  rw [DS.asInts_append, List.map_append]
  rfl
section
variable {P : Program} {w : World} {K : PySem.W.Frag} {mg : Str → Option Value} {base : Heap}
theorem scLG : FnScope ["came", "gone", "stays", "waiting", "entered", "went"] ["came", "gone"] (defScope sLG) := ⟨rfl, rfl, rfl, by decide +kernel, rfl, by decide +kernel, by decide +kernel⟩
/-- between two turns: who is here, how many have come, what is told -/
structure Here (H H' : Hp) (st wt : Addr) (I O : List Nat) (all : List Nat) (i e : Nat) (here done : List Nat) : Prop where
  same : Same H H'
  at_st : NatsAt H' st done
  at_wt : NatsAt H' wt here.reverse
  lo : DS.LO here (I.drop e) (O.drop i)
  eqs : all = done ++ Kqu6.lastOut here (I.drop e) (O.drop i)
  e_le : e ≤ I.length
  h : here.length ≤ e
  d : done.length = i
theorem ok_LG {f C : Addr} {fd : FuncData} (F : Fun K "last_goes_first" "last_goes_first" sLG f fd) (T : Txt K mg C) : FnOk P w K mg base CX0 1 f fd ["came", "gone"] spLG := by
  refine F.ok scLG (fun vs H Q E h => ?_) (fun cdv A outer s H vs Q E hr h => ?_)
  · obtain ⟨a, b, I, O, rfl, _⟩ := h
    rfl
  · obtain ⟨a, b, I, O, rfl, ha, hb, hI, hO, hlo, k⟩ := h
    refine ⟨_, pss_cons (ps_set (i := 2) scLG.nd rfl (Or.inl rfl) (pe_lst pa_nil))
      (pss_cons (ps_set (i := 3) scLG.nd rfl (Or.inl rfl) (pe_lst pa_nil))
      (pss_cons (ps_set (i := 4) scLG.nd rfl (Or.inl rfl) pe_int)
      (pss_cons (ps_for PassesOwn.never rfl (pi_list (pv 1)) (pg_name (i := 5) scLG.nd rfl (Or.inl rfl))
        (pss_cons (ps_while PassesOwn.never (PW.pt (pw_and (pt_cmpR op_lt (pv 4) (pe_callB call_len_seq (by rfl) T.len PySem.boot_len (pa_cons (pv 0) pa_nil)) (nomark _)) (pw_and1 (pt_cmpR op_le (pe_ix ix_list (pv 0) (pv 4) (fun _ _ => rfl)) (pv 5) (nomark _)))))
          (pss_cons (ps_expr (pe_bm PySem.F.plainAttrs_list PySem.F.slot_list_append PySem.F.type_list_append mt_append (pv 3) (pa_cons (pe_ix ix_list (pv 0) (pv 4) (fun _ _ => rfl)) pa_nil)))
          (pss_one (ps_aug (i := 4) scLG.nd rfl (Or.inl rfl) pe_int ip_add))))
        (pss_one (ps_expr (pe_bm PySem.F.plainAttrs_list PySem.F.slot_list_append PySem.F.type_list_append mt_append (pv 2) (pa_cons (pe_op op_sub (pv 5) (pe_bm0 PySem.F.plainAttrs_list PySem.F.slot_list_pop PySem.F.type_list_pop mt_pop (pv 3))) pa_nil))))))
      (pss_one (ps_ret (pv 2)))))), ?_⟩
    refine ⟨Nat.zero_le _, fun st hst => ⟨Nat.zero_le _, fun wt hwt => ?_⟩⟩
    have s1 : Same H (upd H st (.lst [])) := same_new hst
    have hwt0 : H wt = none := s1.free hwt
    have nws : wt ≠ st := (upd_none hwt).2
    have s2 : Same H (upd (upd H st (.lst [])) wt (.lst [])) := s1.upd hwt0
    refine ⟨_, rfl, b, rfl, ⟨_, SqL.of (s2 _ _ hb)⟩, for_list (K := K) (a := b) (xs := (DS.asInts O).map V.int)
      (fun i σ H' => ∃ (e : Nat) (here done : List Nat) (z : Option V), σ = [some (.ref a), some (.ref b), some (.ref st), some (.ref wt), some (.int (e : Nat)), z] ∧ Here H H' st wt I O (Kqu6.lastOut [] I O) i e here done)
      ⟨0, [], [], none, rfl, s2, (upd_ne nws.symm).trans upd_same, upd_same, hlo, rfl, Nat.zero_le _, Nat.le_refl _, rfl⟩ (fun i σ H' _ ⟨_, _, _, _, _, h⟩ => SqL.of (h.same _ _ hb)) ?_ ?_⟩
    · rintro i x σ H' hx ⟨e, here, done, z, rfl, hH⟩
      obtain ⟨o, ho, rfl⟩ := nat_at hx
      have hio : i < O.length := (List.getElem?_eq_some_iff.mp ho).1
      -- while: all who have come by it are here
      refine ⟨fun m σ' H2 => ∃ (e : Nat) (here : List Nat), m = I.length - e ∧ σ' = [some (.ref a), some (.ref b), some (.ref st), some (.ref wt), some (.int (e : Nat)), some (.int (o : Nat))] ∧ Here H H2 st wt I O (Kqu6.lastOut [] I O) i e here done, ⟨_, e, here, rfl, rfl, hH⟩, ?_⟩
      rintro m σ' H2 ⟨e2, here2, rfl, rfl, hH2⟩
      have pop : (∀ y, (I.drop e2).head? = some y → o < y) → tBM K "list" rAppend (tVar 2) (tCons (tOp (rI0 fun i j => .int (i - j)) (tVar 5) (tBM0 K "list" rPop (tVar 3))) tNil) [some (.ref a), some (.ref b), some (.ref st), some (.ref wt), some (.int (e2 : Nat)), some (.int (o : Nat))] H2
          (fun _ H3 => ∃ (e : Nat) (here done : List Nat) (z : Option V), [some (V.ref a), some (.ref b), some (.ref st), some (.ref wt), some (.int (e2 : Nat)), some (.int (o : Nat))] = [some (V.ref a), some (.ref b), some (.ref st), some (.ref wt), some (.int (e : Nat)), z] ∧ Here H H3 st wt I O (Kqu6.lastOut [] I O) (i + 1) e here done) := by
        intro hn
        have lo := hH2.lo
        rw [drop_cons ho] at lo
        obtain ⟨x, hs, rfl, hxo, hl, lo2⟩ := lo.pop hn
        refine ⟨_, rfl, .inl ⟨rfl, _, SqL.of hH2.at_st⟩, _, rfl, _, rfl, .inl ⟨rfl, _, SqL.of hH2.at_wt⟩, wt, _, _, rfl, rfl, hH2.at_wt, rev_last x hs, _, _, rfl, rfl, st, _, _, rfl, rfl, (upd_ne nws.symm).trans hH2.at_st, small' (by rw [nat_len, hH2.d]; omega), ?_⟩
        refine ⟨e2, hs, done ++ [o - x], _, rfl, (hH2.same.upd hwt0).upd hst, ?_, ?_, lo2, ?_, hH2.e_le, ?_, ?_⟩
        · show upd _ st _ st = _
          rw [upd_same, nat_snoc]
          have e : (o : Int) - (x : Int) = ((o - x : Nat) : Int) := by omega
          show some (HO.lst (_ ++ [V.int ((o : Int) - (x : Int))])) = _
          rw [e]
        · show upd _ st _ wt = _
          rw [upd_ne nws, upd_same, rev_drop]
        · rw [hH2.eqs, drop_cons ho, hl, List.append_assoc]
          rfl
        · have := hH2.h
          rw [List.length_cons] at this
          omega
        · rw [List.length_append, hH2.d]
          rfl
      refine ⟨_, rfl, _, rfl, a, _, rfl, .inl (SqL.of (hH2.same _ _ ha)), _, _, rfl, rfl, _, rfl, ite2 (fun q => ?_) (fun q => ?_)⟩
      · have q := of_decide_eq_true q
        rw [nat_len] at q
        have hei : e2 < I.length := by omega
        have ey : I[e2]? = some I[e2] := List.getElem?_eq_getElem hei
        have ed := drop_cons ey
        refine ⟨_, rfl, _, rfl, a, _, _, _, rfl, rfl, SqL.of (hH2.same _ _ ha), atI_nat (nat_get ey), _, rfl, _, _, rfl, rfl, _, rfl, ite2 (fun y => ?_) (fun y => ?_)⟩
        · have y := of_decide_eq_true y
          have hyo : I[e2] ≤ o := by omega
          refine ⟨fun σ' H3 => σ' = [some (.ref a), some (.ref b), some (.ref st), some (.ref wt), some (.int (e2 + 1 : Nat)), some (.int (o : Nat))] ∧ Here H H3 st wt I O (Kqu6.lastOut [] I O) i (e2 + 1) (I[e2] :: here2) done, fun σ' H3 ⟨h1, h2⟩ => ⟨I.length - (e2 + 1), by omega, e2 + 1, I[e2] :: here2, rfl, h1, h2⟩, ?_⟩
          refine ⟨_, rfl, .inl ⟨rfl, _, SqL.of hH2.at_wt⟩, _, rfl, _, rfl, a, _, _, _, rfl, rfl, SqL.of (hH2.same _ _ ha), atI_nat (nat_get ey), wt, _, _, rfl, rfl, hH2.at_wt, small' (by rw [nat_len, List.length_reverse]; have := hH2.h; omega), ?_⟩
          have lo := hH2.lo
          rw [drop_cons ho, ed] at lo
          refine ⟨_, rfl, _, _, rfl, rfl, rfl, hH2.same.upd hwt0, (upd_ne nws.symm).trans hH2.at_st, ?_, ?_, ?_, by omega, ?_, hH2.d⟩
          · show upd _ wt _ wt = _
            rw [upd_same, rev_cons]
          · rw [drop_cons ho]
            exact lo.push hyo
          · rw [hH2.eqs, drop_cons ho, ed, DS.lastOut_push hyo]
          · have := hH2.h
            rw [List.length_cons]
            omega
        · have y : ¬ ((I[e2] : Nat) : Int) ≤ (o : Nat) := fun z => y (decide_eq_true z)
          refine pop fun y' hy' => ?_
          rw [ed] at hy'
          have : I[e2] = y' := Option.some.inj hy'
          omega
      · have q : ¬ (e2 : Int) < (((DS.asInts I).map V.int).length : Nat) := fun z => q (decide_eq_true z)
        rw [nat_len] at q
        refine iteF ?_
        refine pop fun y' hy' => ?_
        rw [List.drop_eq_nil_of_le (by omega)] at hy'
        cases hy'
    · rintro σ H' ⟨e, here, done, z, rfl, hH⟩
      have hall := hH.eqs
      rw [nat_len, List.drop_eq_nil_of_le (Nat.le_refl _), DS.lastOut_nil, List.append_nil] at hall
      refine ⟨_, rfl, k H' st hH.same hst ?_⟩
      rw [hall]
      exact hH.at_st
/-! ### can_go_so -/
theorem scCan : FnScope ["came", "gone", "places", "place", "went"] ["came", "gone", "places"] (defScope sCan) := ⟨rfl, rfl, rfl, by decide +kernel, rfl, by decide +kernel, by decide +kernel⟩
theorem nodup_ints {p : List Nat} : (DS.asInts p).Nodup ↔ p.Nodup := by
  unfold DS.asInts
  rw [List.nodup_iff_pairwise_ne, List.nodup_iff_pairwise_ne, List.pairwise_map]
  constructor <;> intro h <;> refine h.imp ?_ <;> intro a b q e <;> exact q (by omega)
theorem ok_Can {f C : Addr} {fd : FuncData} (F : Fun K "can_go_so" "can_go_so" sCan f fd) (T : Txt K mg C) : FnOk P w K mg base CX0 1 f fd ["came", "gone", "places"] spCan := by
  refine F.ok scCan (fun vs H Q E h => ?_) (fun cdv A outer s H vs Q E hr h => ?_)
  · obtain ⟨a, b, c, I, O, p, rfl, _⟩ := h
    rfl
  · obtain ⟨a, b, c, I, O, p, rfl, ha, hb, hc, hp, k⟩ := h
    refine ⟨_, pss_cons (ps_if (PW.pt (pw_or (pt_cmpR op_ne (pe_callB call_len_seq (by rfl) T.len PySem.boot_len (pa_cons (pv 2) pa_nil)) (pe_callB call_len_seq (by rfl) T.len PySem.boot_len (pa_cons (pv 1) pa_nil)) (nomark _))
        (pw_or1 (pt_cmpR op_ne (pe_callB call_lenS (by rfl) T.len PySem.boot_len (pa_cons (pe_callTy (cr_set rfl) (by rfl) T.set PyProof.Rows.boot_set (pa_cons (pv 2) pa_nil)) pa_nil)) (pe_callB call_len_seq (by rfl) T.len PySem.boot_len (pa_cons (pv 2) pa_nil)) (nomark _)))))
        (pss_one (ps_ret pe_bl)) pss_nil)
      (pss_cons (ps_for PassesOwn.never rfl (pi_zip rfl T.zip (pa_cons (pv 2) (pa_cons (pv 1) pa_nil))) (pg_tup rfl (pgs_cons (pg_name (i := 3) scCan.nd rfl (Or.inl rfl)) (pgs_cons (pg_name (i := 4) scCan.nd rfl (Or.inl rfl)) pgs_nil)))
        (pss_one (ps_if (PW.pt (pw_or (pt_cmpR op_ge (pv 3) (pe_callB call_len_seq (by rfl) T.len PySem.boot_len (pa_cons (pv 0) pa_nil)) (nomark _)) (pw_or1 (pt_cmpR op_gt (pe_ix ix_list (pv 0) (pv 3) (fun _ _ => rfl)) (pv 4) (nomark _)))))
          (pss_one (ps_ret pe_bl)) pss_nil)))
      (pss_one (ps_ret pe_bl))), ?_⟩
    have no : Kqu6.as_ I O p = none → ∀ H', Same H H' → Q (.bl false) H' := fun e H' s' => by
      have := k H' s'
      rw [e] at this
      exact this
    refine ⟨_, rfl, c, _, rfl, .inl (SqL.of hc), _, rfl, b, _, rfl, .inl (SqL.of hb), rfl, _, rfl, ite2 (fun q => ?_) (fun q => ?_)⟩
    · refine no (DS.as_none_len fun e => ?_) H (Same.refl H)
      have : (!decide (V.int ((((DS.asInts p).map V.int).length : Nat) : Int) = V.int ((((DS.asInts O).map V.int).length : Nat) : Int))) = true := q
      rw [nat_len, nat_len, e] at this
      simp at this
    have hlen : p.length = O.length := by
      by_cases z : p.length = O.length
      · exact z
      · exfalso
        apply q
        show (!decide (V.int ((((DS.asInts p).map V.int).length : Nat) : Int) = V.int ((((DS.asInts O).map V.int).length : Nat) : Int))) = true
        rw [nat_len, nat_len]
        have : ¬ V.int ((p.length : Nat) : Int) = V.int ((O.length : Nat) : Int) := fun e => by
          injection e with e
          omega
        rw [decide_eq_false this]
        rfl
    refine ⟨_, rfl, c, _, rfl, SqL.of hc, (by rw [DS.ints_length]; omega), fun l S n hl hn => ⟨l, S, n, rfl, upd_same, ?_⟩⟩
    rw [nodup_ints, DS.ints_length] at hn
    have s1 : Same H (upd H l (.set S n)) := same_new hl
    refine ⟨_, rfl, c, _, rfl, .inl (SqL.of (s1 _ _ hc)), rfl, _, rfl, ite2 (fun q => ?_) (fun q => ?_)⟩
    · refine no (DS.as_no_nodup fun e => ?_) _ s1
      have : (!decide (V.int ((n : Nat) : Int) = V.int ((((DS.asInts p).map V.int).length : Nat) : Int))) = true := q
      rw [nat_len, hn.mpr e] at this
      simp at this
    have hnd : p.Nodup := by
      apply hn.mp
      by_cases z : n = p.length
      · exact z
      · exfalso
        apply q
        show (!decide (V.int ((n : Nat) : Int) = V.int ((((DS.asInts p).map V.int).length : Nat) : Int))) = true
        rw [nat_len]
        have : ¬ V.int ((n : Nat) : Int) = V.int ((p.length : Nat) : Int) := fun e => by
          injection e with e
          omega
        rw [decide_eq_false this]
        rfl
    refine ⟨_, rfl, _, rfl, c, b, _, _, rfl, SqL.of (s1 _ _ hc), SqL.of (s1 _ _ hb), for_zip (K := K) (a := c) (b := b) (xs := (DS.asInts p).map V.int) (ys := (DS.asInts O).map V.int)
      (fun i σ H' => ∃ u v : Option V, σ = [some (.ref a), some (.ref b), some (.ref c), u, v] ∧ Same H H' ∧ ∀ j x y : Nat, j < i → p[j]? = some x → O[j]? = some y → x < I.length ∧ I.getD x 0 ≤ y)
      ⟨none, none, rfl, s1, fun j _ _ h => absurd h (Nat.not_lt_zero _)⟩ (fun i σ H' ⟨_, _, _, s', _⟩ => ⟨SqL.of (s' _ _ hc), SqL.of (s' _ _ hb)⟩) (by rw [nat_len, nat_len]; exact hlen) ?_ ?_⟩
    · rintro i x y σ H' T' hx hy hT ⟨u, v, rfl, s', hall⟩
      obtain ⟨px, hpx, rfl⟩ := nat_at hx
      obtain ⟨oy, hoy, rfl⟩ := nat_at hy
      have s2 : Same H (upd H' T' (.tup [.int (px : Nat), .int (oy : Nat)])) := s'.upd (s'.free hT)
      refine gtwo upd_same ?_
      refine ⟨_, rfl, _, rfl, a, _, rfl, .inl (SqL.of (s2 _ _ ha)), _, _, rfl, rfl, _, rfl, ite2 (fun q => ?_) (fun q => ?_)⟩
      · have q := of_decide_eq_true q
        rw [nat_len] at q
        exact no (DS.as_no_at hpx hoy fun z => by omega) _ s2
      have q : ¬ ((((DS.asInts I).map V.int).length : Nat) : Int) ≤ (px : Nat) := fun z => q (decide_eq_true z)
      rw [nat_len] at q
      have hpi : px < I.length := by omega
      have eI : I[px]? = some (I.getD px 0) := by rw [List.getD_eq_getElem?_getD, List.getElem?_eq_getElem hpi]; rfl
      refine ⟨_, rfl, _, rfl, a, _, _, _, rfl, rfl, SqL.of (s2 _ _ ha), atI_nat (nat_get eI), _, rfl, _, _, rfl, rfl, _, rfl, ite2 (fun z => ?_) (fun z => ?_)⟩
      · have z := of_decide_eq_true z
        exact no (DS.as_no_at hpx hoy fun y => by omega) _ s2
      have z : ¬ (oy : Int) < ((I.getD px 0 : Nat) : Int) := fun y => z (decide_eq_true y)
      refine ⟨_, _, rfl, s2, fun j x' y' hj hx' hy' => ?_⟩
      by_cases e : j = i
      · subst e
        rw [hpx] at hx'
        rw [hoy] at hy'
        cases hx'
        cases hy'
        exact ⟨hpi, by omega⟩
      · exact hall j x' y' (by omega) hx' hy'
    · rintro σ H' ⟨u, v, rfl, s', hall⟩
      rw [nat_len] at hall
      have yes := DS.as_yes hlen hnd fun i x b hx hb => hall i x b (List.getElem?_eq_some_iff.mp hx).1 hx hb
      have := k H' s'
      rw [yes] at this
      exact this
end
end DP

set_option autoImplicit false
set_option Elab.async false
set_option linter.all false
set_option maxRecDepth 100000
set_option maxHeartbeats 2000000
/-! undo, state, total, mean. -/
namespace DP
open PySem PySem.Spec PyProof.Rows L2
theorem Then.at {C : Addr} {H H1 : Hp} {p ca go l : Addr} {d : Kqu6.Day} {a : Kqu6.Ans} {Q : VK} (t : Then C H p ca go (some d, a) Q) (h : DayAt C H p ca go true d) (s : Same H H1) (hl : H l = none) (e : H1 l = some (.lst (ansV a))) : Q (.ref l) H1 :=
  t H1 l ca go hl e (h.same s) (Frm.of s p ca go)
theorem DayAt.dropOut {C : Addr} {H : Hp} {p ca go : Addr} {b : Bool} {d : Kqu6.Day} {ps : List Addr} (h : DayAt C H p ca go b d) (h1 : H go = some (.lst (ps.map V.ref))) (h2 : Evs H ps d.outs) :
    DayAt C (upd H go (.lst (ps.map V.ref).dropLast)) p ca go b { d with outs := d.outs.dropLast } := by
  obtain ⟨⟨dx, hp⟩, hne, ⟨pi, hca, hin⟩, _⟩ := h
  have k := lst_tups (ys := (ps.map V.ref).dropLast) h1
  refine ⟨⟨dx, ?_⟩, hne, ⟨pi, ?_, hin.mono k⟩, ps.dropLast, ?_, (h2.mono k).dropLast⟩
  · rw [upd_ne (ne_of hp h1 (by intro q; cases q))]
    exact hp
  · rw [upd_ne hne]
    exact hca
  · rw [upd_same, List.map_dropLast]
section
variable {P : Program} {w : World} {K : PySem.W.Frag} {mg : Str → Option Value} {base : Heap}
/-! ### undo -/
theorem scUndo : FnScope ["self"] ["self"] (defScope sUndo) := ⟨rfl, rfl, rfl, by decide +kernel, rfl, by decide +kernel, by decide +kernel⟩
theorem ok_Undo {f C : Addr} {fd : FuncData} (F : Fun K "undo" "Day.undo" sUndo f fd) (T : Txt K mg C) : FnOk P w K mg base CX0 1 f fd ["self"] (spCall0 C .undo) := by
  refine F.ok scUndo (fun vs H Q E h => ?_) (fun cdv A outer s H vs Q E hr h => ?_)
  · obtain ⟨p, ca, go, d, rfl, _⟩ := h
    rfl
  · obtain ⟨p, ca, go, d, rfl, hD, g, k⟩ := h
    obtain ⟨⟨dx, hp⟩, hne, ⟨pi, hca, hin⟩, po, hgo, hou⟩ := id hD
    refine ⟨_, pss_cons (ps_if (pt_cmpR op_eq (pe_callB call_len_seq (by rfl) T.len PySem.boot_len (pa_cons (pe_fld (pv 0) rfl) pa_nil)) pe_int (nomark _)) (pss_one (ps_ret (pe_lst (pa_cons (pe_num T.r6 rfl) pa_nil)))) pss_nil)
      (pss_cons (ps_expr (pe_bm0 PySem.F.plainAttrs_list PySem.F.slot_list_pop PySem.F.type_list_pop mt_pop (pe_fld (pv 0) rfl)))
      (pss_one (ps_ret (pe_lst (pa_cons (pe_callB call_len_seq (by rfl) T.len PySem.boot_len (pa_cons (pe_fld (pv 0) rfl) pa_nil)) pa_nil))))), ?_⟩
    have hol := hou.len
    have k : Then C H p ca go (if d.outs = [] then (some d, .num (-6)) else (some { d with outs := d.outs.dropLast }, .num (d.outs.length - 1 : Nat))) Q := k
    refine ⟨_, rfl, p, C, dx, _, _, rfl, hp, T.cl, T.nG, df_gone, go, _, rfl, .inl (SqL.of hgo), rfl, _, rfl, ite2 (fun z => ?_) (fun z => ?_)⟩
    · have z : V.int (((po.map V.ref).length : Nat) : Int) = V.int 0 := of_decide_eq_true z
      injection z with z
      rw [List.length_map, hol] at z
      have e : d.outs = [] := List.length_eq_zero_iff.mp (by omega)
      rw [if_pos e] at k
      exact ⟨(by show 1 ≤ sizeLine; decide), fun l hl => k.new hD (Same.refl _) hl⟩
    have ne : d.outs ≠ [] := fun e => z (decide_eq_true (by rw [List.length_map, hol, e]; rfl))
    rw [if_neg ne] at k
    have npo : po ≠ [] := fun e => ne (List.length_eq_zero_iff.mp (by rw [← hol, e]; rfl))
    have hlast : (po.map V.ref)[(po.map V.ref).length - 1]? = some (V.ref (po.getLast npo)) := by
      rw [List.length_map, List.getElem?_map, ← List.getLast?_eq_getElem?, List.getLast?_eq_some_getLast npo]
      rfl
    refine ⟨_, rfl, p, C, dx, _, _, rfl, hp, T.cl, T.nG, df_gone, .inl ⟨rfl, _, SqL.of hgo⟩, go, _, _, rfl, rfl, hgo, hlast, ?_⟩
    have hD3 := hD.dropOut hgo hou
    obtain ⟨⟨dx3, hp3⟩, _, _, po3, hgo3, hou3⟩ := id hD3
    refine ⟨_, rfl, p, C, dx3, _, _, rfl, hp3, T.cl, T.nG, df_gone, go, _, rfl, .inl (SqL.of hgo3), (by show 1 ≤ sizeLine; decide), fun l hl => ?_⟩
    have s5 : Same (upd H go (.lst (po.map V.ref).dropLast)) (upd (upd H go (.lst (po.map V.ref).dropLast)) l (.lst [V.int (((po3.map V.ref).length : Nat) : Int)])) := same_new hl
    refine k _ l ca go (upd_none hl).1 ?_ (hD3.same s5) ⟨fun x o e n1 n2 n3 => s5 _ _ ?_, .inl rfl, .inl rfl⟩
    · rw [upd_same]
      have e : (po3.map V.ref).length = d.outs.length - 1 := by
        rw [List.length_map, hou3.len]
        exact List.length_dropLast
      rw [e]
      rfl
    · rw [upd_ne n3]
      exact e
/-! ### state -/
theorem scState : FnScope ["self"] ["self"] (defScope sState) := ⟨rfl, rfl, rfl, by decide +kernel, rfl, by decide +kernel, by decide +kernel⟩
theorem ok_State {f C f1 : Addr} {fd fd1 : FuncData} (F : Fun K "state" "Day.state" sState f fd) (T : Txt K mg C)
    (F1 : FnOk P w K mg base CX0 2 f1 fd1 ["self"] (spLast C)) (b1 : Binds K fd1 ["self"] []) (m1 : Meth K C "last_noted" f1) :
    FnOk P w K mg base CX0 3 f fd ["self"] (spCall0 C .state) := by
  refine F.ok scState (fun vs H Q E h => ?_) (fun cdv A outer s H vs Q E hr h => ?_)
  · obtain ⟨p, ca, go, d, rfl, _⟩ := h
    rfl
  · obtain ⟨p, ca, go, d, rfl, hD, g, k⟩ := h
    obtain ⟨⟨dx, hp⟩, hne, ⟨pi, hca, hin⟩, po, hgo, hou⟩ := id hD
    refine ⟨_, pss_one (ps_ret (pe_lst (pa_cons (pe_callB call_len_seq (by rfl) T.len PySem.boot_len (pa_cons (pe_fld (pv 0) rfl) pa_nil)) (pa_cons (pe_callB call_len_seq (by rfl) T.len PySem.boot_len (pa_cons (pe_fld (pv 0) rfl) pa_nil)) (pa_cons (pe_meth0 (pv 0) T.cl m1 F1 hr b1 .nil pass0) pa_nil))))), ?_⟩
    have k : Then C H p ca go (some d, .some_ d.ins.length [d.outs.length, Kqu6.last d]) Q := k
    refine ⟨_, rfl, p, C, dx, _, _, rfl, hp, T.cl, T.nC, df_came, ca, _, rfl, .inl (SqL.of hca), _, rfl, p, C, dx, _, _, rfl, hp, T.cl, T.nG, df_gone, go, _, rfl, .inl (SqL.of hgo), _, rfl, p, dx, _, rfl, hp, df_no (by decide +kernel) (by decide +kernel) (by decide +kernel), p, ca, go, true, d, rfl, hD, g, fun H1 s1 => ⟨(by show 3 ≤ sizeLine; decide), fun l hl => ?_⟩⟩
    rw [List.length_map, List.length_map, hin.len, hou.len]
    exact k.new hD s1 hl
/-! ### total, mean -/
theorem scTotal : FnScope ["self"] ["self"] (defScope sTotal) := ⟨rfl, rfl, rfl, by decide +kernel, rfl, by decide +kernel, by decide +kernel⟩
theorem all_zero {d : Kqu6.Day} (h : Kqu6.there d = 0) : (DS.asInts (Kqu6.minutes d.outs)).sum - (DS.asInts (Kqu6.minutes d.ins)).sum = Kqu6.stays d.ins d.outs := (DS.stays_whole (DS.there_zero h)).symm
theorem ok_Total {f C f1 f2 : Addr} {fd fd1 fd2 : FuncData} (F : Fun K "total" "Day.total" sTotal f fd) (T : Txt K mg C)
    (F1 : FnOk P w K mg base CX0 1 f1 fd1 ["self"] (spThereNow C)) (b1 : Binds K fd1 ["self"] []) (m1 : Meth K C "there_now" f1)
    (F2 : FnOk P w K mg base CX0 2 f2 fd2 ["self"] (spAll C)) (b2 : Binds K fd2 ["self"] []) (m2 : Meth K C "all_stays" f2) :
    FnOk P w K mg base CX0 3 f fd ["self"] (spCall0 C .total) := by
  refine F.ok scTotal (fun vs H Q E h => ?_) (fun cdv A outer s H vs Q E hr h => ?_)
  · obtain ⟨p, ca, go, d, rfl, _⟩ := h
    rfl
  · obtain ⟨p, ca, go, d, rfl, hD, g, k⟩ := h
    obtain ⟨⟨dx, hp⟩, hne, ⟨pi, hca, hin⟩, po, hgo, hou⟩ := id hD
    have hr1 : Room 1 _ := hr.mono (by decide)
    refine ⟨_, pss_cons (ps_if (pt_cmpR op_gt (pe_meth0 (pv 0) T.cl m1 F1 hr1 b1 .nil pass0) pe_int (nomark _)) (pss_one (ps_ret (pe_lst (pa_cons (pe_num T.r16s rfl) pa_nil)))) pss_nil) (pss_one (ps_ret (pe_lst (pa_cons (pe_meth0 (pv 0) T.cl m2 F2 hr b2 .nil pass0) pa_nil)))), ?_⟩
    have k : Then C H p ca go (some d, if Kqu6.there d ≠ 0 then .num (-16) else .num (Kqu6.stays d.ins d.outs)) Q := k
    refine ⟨_, rfl, p, dx, _, rfl, hp, df_no (by decide +kernel) (by decide +kernel) (by decide +kernel), p, ca, go, true, d, rfl, hD, g, fun H1 s1 => ⟨_, _, rfl, rfl, _, rfl, ite2 (fun z => ?_) (fun z => ?_)⟩⟩
    · have z := of_decide_eq_true z
      rw [if_pos (by omega)] at k
      exact ⟨(by show 1 ≤ sizeLine; decide), fun l hl => k.new hD s1 hl⟩
    have z : ¬ (0 : Int) < (Kqu6.there d : Nat) := fun y => z (decide_eq_true y)
    have z0 : Kqu6.there d = 0 := by omega
    rw [if_neg (by omega)] at k
    have hD1 := hD.same s1
    obtain ⟨⟨dx1, hp1⟩, _, _, _⟩ := id hD1
    refine ⟨_, rfl, p, dx1, _, rfl, hp1, df_no (by decide +kernel) (by decide +kernel) (by decide +kernel), p, ca, go, true, d, rfl, hD1, g, fun H2 s2 => ⟨(by show 1 ≤ sizeLine; decide), fun l hl => ?_⟩⟩
    rw [all_zero z0]
    exact k.new hD (s1.trans s2) hl
theorem scMean : FnScope ["self"] ["self"] (defScope sMean) := ⟨rfl, rfl, rfl, by decide +kernel, rfl, by decide +kernel, by decide +kernel⟩
theorem ok_Mean {f C f1 f2 f3 : Addr} {fd fd1 fd2 fd3 : FuncData} (F : Fun K "mean" "Day.mean" sMean f fd) (T : Txt K mg C)
    (F1 : FnOk P w K mg base CX0 1 f1 fd1 ["self"] (spThereNow C)) (b1 : Binds K fd1 ["self"] []) (m1 : Meth K C "there_now" f1)
    (F2 : FnOk P w K mg base CX0 2 f2 fd2 ["self"] (spAll C)) (b2 : Binds K fd2 ["self"] []) (m2 : Meth K C "all_stays" f2)
    (F3 : FnOk P w K mg base CX0 2 f3 fd3 ["upper", "lower"] spShort) (b3 : Binds K fd3 ["upper", "lower"] []) (g3 : mg "shortened" = some (.ref f3)) (k3 : PySem.W.keepIn K (.ref f3) = true) :
    FnOk P w K mg base CX0 3 f fd ["self"] (spCall0 C .mean) := by
  refine F.ok scMean (fun vs H Q E h => ?_) (fun cdv A outer s H vs Q E hr h => ?_)
  · obtain ⟨p, ca, go, d, rfl, _⟩ := h
    rfl
  · obtain ⟨p, ca, go, d, rfl, hD, g, k⟩ := h
    obtain ⟨⟨dx, hp⟩, hne, ⟨pi, hca, hin⟩, po, hgo, hou⟩ := id hD
    have hr1 : Room 1 _ := hr.mono (by decide)
    refine ⟨_, pss_cons (ps_if (pt_cmpR op_gt (pe_meth0 (pv 0) T.cl m1 F1 hr1 b1 .nil pass0) pe_int (nomark _)) (pss_one (ps_ret (pe_lst (pa_cons (pe_num T.r16s rfl) pa_nil)))) pss_nil)
      (pss_cons (ps_if (pt_cmpR op_eq (pe_callB call_len_seq (by rfl) T.len PySem.boot_len (pa_cons (pe_fld (pv 0) rfl) pa_nil)) pe_int (nomark _)) (pss_one (ps_ret (pe_lst (pa_cons (pe_num T.r6 rfl) pa_nil)))) pss_nil)
      (pss_one (ps_ret (pe_op op_cat (pe_lst (pa_cons pe_int pa_nil)) (pe_call F3 hr rfl g3 k3 b3 .nil pass0 (pa_cons (pe_meth0 (pv 0) T.cl m2 F2 hr b2 .nil pass0) (pa_cons (pe_callB call_len_seq (by rfl) T.len PySem.boot_len (pa_cons (pe_fld (pv 0) rfl) pa_nil)) pa_nil))))))), ?_⟩
    have k : Then C H p ca go (some d, if Kqu6.there d ≠ 0 then .num (-16) else if d.outs = [] then .num (-6) else .some_ 0 (Kqu6.frac (Kqu6.stays d.ins d.outs).toNat d.outs.length)) Q := k
    refine ⟨_, rfl, p, dx, _, rfl, hp, df_no (by decide +kernel) (by decide +kernel) (by decide +kernel), p, ca, go, true, d, rfl, hD, g, fun H1 s1 => ⟨_, _, rfl, rfl, _, rfl, ite2 (fun z => ?_) (fun z => ?_)⟩⟩
    · have z := of_decide_eq_true z
      rw [if_pos (by omega)] at k
      exact ⟨(by show 1 ≤ sizeLine; decide), fun l hl => k.new hD s1 hl⟩
    have z : ¬ (0 : Int) < (Kqu6.there d : Nat) := fun y => z (decide_eq_true y)
    have z0 : Kqu6.there d = 0 := by omega
    rw [if_neg (by omega)] at k
    have hD1 := hD.same s1
    obtain ⟨⟨dx1, hp1⟩, _, _, po1, hgo1, hou1⟩ := id hD1
    have hol := hou1.len
    refine ⟨_, rfl, p, C, dx1, _, _, rfl, hp1, T.cl, T.nG, df_gone, go, _, rfl, .inl (SqL.of hgo1), rfl, _, rfl, ite2 (fun y => ?_) (fun y => ?_)⟩
    · have y : V.int (((po1.map V.ref).length : Nat) : Int) = V.int 0 := of_decide_eq_true y
      injection y with y
      rw [List.length_map, hol] at y
      rw [if_pos (List.length_eq_zero_iff.mp (by omega))] at k
      exact ⟨(by show 1 ≤ sizeLine; decide), fun l hl => k.new hD s1 hl⟩
    have ne : d.outs ≠ [] := fun e => y (decide_eq_true (by rw [List.length_map, hol, e]; rfl))
    rw [if_neg ne] at k
    refine ⟨(by show 1 ≤ sizeLine; decide), fun l1 hl1 => ?_⟩
    have s2 : Same H1 (upd H1 l1 (.lst [V.int 0])) := same_new hl1
    have hD2 := hD1.same s2
    obtain ⟨⟨dx2, hp2⟩, _, _, _⟩ := id hD2
    refine ⟨_, rfl, p, dx2, _, rfl, hp2, df_no (by decide +kernel) (by decide +kernel) (by decide +kernel), p, ca, go, true, d, rfl, hD2, g, fun H3 s3 => ?_⟩
    have hD3 := hD2.same s3
    obtain ⟨⟨dx3, hp3⟩, _, _, po3, hgo3, hou3⟩ := id hD3
    have e1 : (DS.asInts (Kqu6.minutes d.outs)).sum - (DS.asInts (Kqu6.minutes d.ins)).sum = ((Kqu6.stays d.ins d.outs).toNat : Nat) := by rw [all_zero z0, DS.stays_cast g.stays]
    have e2 : (po3.map V.ref).length = d.outs.length := by rw [List.length_map, hou3.len]
    have pos : 0 < d.outs.length := List.length_pos_iff.mpr ne
    rw [e1]
    refine ⟨_, rfl, p, C, dx3, _, _, rfl, hp3, T.cl, T.nG, df_gone, go, _, rfl, .inl (SqL.of hgo3), ?_⟩
    rw [e2]
    refine ⟨_, _, rfl, pos, by have := g.o30; omega, fun H4 r s4 hr4 h4 => ?_⟩
    refine ⟨l1, r, _, _, rfl, rfl, s4 _ _ (s3 _ _ upd_same), h4, small (by rw [nat_len]; show 1 + 2 ≤ 100000; decide), fun l hl => ?_⟩
    exact k.new hD (s1.trans (s2.trans (s3.trans s4))) hl
/-! ### lists of whole numbers, sifted -/
/-- [x for x in xs if ..] of whole numbers, by what is asked -/
theorem lc_nats {K : PySem.W.Frag} {a : Addr} {l : List Nat} (q : Nat → Bool) {g : TG} {tt : TT} {te : TE} {vs : List Nat} {σ : L2.St} {H : Hp} {D : Addr} {Qd : Hp → Prop} (ha : NatsAt H a l) (hD : H D = none) (hl : l.length ≤ 1000)
    (hs : ∀ (x : Nat) (H' : Hp) (R : Bool → V → Hp → Prop), R (q x) (.int (x : Nat)) H' → g (.int (x : Nat)) (wipe σ vs) H' fun σ2 H2 => wipe σ2 vs = wipe σ vs ∧ tt σ2 H2 fun b H3 => if b = true then te σ2 H3 fun y H4 => R true y H4 else R false (.int (x : Nat)) H3)
    (hd : ∀ H', Same H H' → NatsAt H' D (l.filter q) → Qd H') :
    ∃ W : Nat → Nat → Hp → Prop, (∃ m, W 0 m (upd H D (.lst []))) ∧ ∀ i m H, W i m H →
      ((Itl K a).stop i H ∧ Qd H) ∨ ((Itl K a).go i H ∧ ∃ Nx : Hp → Prop, (∀ H', Nx H' → ∃ m', m' < m ∧ W (i + 1) m' H') ∧ ∀ x H', (Itl K a).yld i H x H' → g x (wipe σ vs) H' fun σ2 H2 => wipe σ2 vs = wipe σ vs ∧ tt σ2 H2 fun b H3 =>
        if b = true then te σ2 H3 fun y H4 => ∃ acc, H4 D = some (.lst acc) ∧ acc.length < sizeLine ∧ Nx (upd H4 D (.lst (acc ++ [y]))) else Nx H3) := by
  refine lc_list (K := K) (a := a) (xs := (DS.asInts l).map V.int) (fun i H' => Same H H' ∧ H' D = some (.lst ((DS.asInts ((l.take i).filter q)).map V.int)))
    ⟨same_new hD, upd_same⟩ (fun i H' _ ⟨s', _⟩ => SqL.of (s' _ _ ha)) ?_ ?_
  · rintro i x H' hx ⟨s', hD2⟩
    obtain ⟨u, hu, rfl⟩ := nat_at hx
    have fin := hs u H' (fun b y H3 => if b = true then ∃ acc, H3 D = some (.lst acc) ∧ acc.length < sizeLine ∧ Same H (upd H3 D (.lst (acc ++ [y]))) ∧ upd H3 D (.lst (acc ++ [y])) D = some (.lst ((DS.asInts ((l.take (i + 1)).filter q)).map V.int)) else Same H H3 ∧ H3 D = some (.lst ((DS.asInts ((l.take (i + 1)).filter q)).map V.int))) ?_
    · simpa using fin
    · rw [DS.filter_snoc hu]
      by_cases z : q u = true
      · rw [if_pos z, if_pos z]
        refine ⟨_, hD2, small' (by rw [nat_len]; exact Nat.le_trans (List.length_filter_le ..) (by rw [List.length_take]; omega)), s'.upd hD, ?_⟩
        rw [upd_same, nat_snoc]
      · rw [if_neg z, if_neg z, List.append_nil]
        exact ⟨s', hD2⟩
  · rintro H' ⟨s', hD2⟩
    rw [List.take_of_length_le (by rw [nat_len]; exact Nat.le_refl _)] at hD2
    exact hd H' s' hD2
end
end DP

set_option autoImplicit false
set_option Elab.async false
set_option linter.all false
set_option maxRecDepth 100000
set_option maxHeartbeats 2000000
/-! before, kind, first, latest, longer, as_if. -/
namespace DP
open PySem PySem.Spec PyProof.Rows L2
section
variable {P : Program} {w : World} {K : PySem.W.Frag} {mg : Str → Option Value} {base : Heap}
/-! ### before -/
theorem scBefore : FnScope ["self", "minute", "entered", "came", "went", "gone"] ["self", "minute"] (defScope sBefore) := ⟨rfl, rfl, rfl, by decide +kernel, rfl, by decide +kernel, by decide +kernel⟩
theorem ok_Before {f C f1 f2 : Addr} {fd fd1 fd2 : FuncData} (F : Fun K "before" "Day.before" sBefore f fd) (T : Txt K mg C)
    (F1 : FnOk P w K mg base CX0 1 f1 fd1 ["self"] (spMins C Kqu6.Day.ins)) (b1 : Binds K fd1 ["self"] []) (m1 : Meth K C "came_minutes" f1)
    (F2 : FnOk P w K mg base CX0 1 f2 fd2 ["self"] (spMins C Kqu6.Day.outs)) (b2 : Binds K fd2 ["self"] []) (m2 : Meth K C "gone_minutes" f2) :
    FnOk P w K mg base CX0 2 f fd ["self", "minute"] (spCall1 C .before) := by
  refine F.ok scBefore (fun vs H Q E h => ?_) (fun cdv A outer s H vs Q E hr h => ?_)
  · obtain ⟨p, ca, go, d, t, rfl, _⟩ := h
    rfl
  · obtain ⟨p, ca, go, d, t, rfl, hD, g, k⟩ := h
    obtain ⟨⟨dx, hp⟩, hne, ⟨pi, hca, hin⟩, po, hgo, hou⟩ := id hD
    refine ⟨_, pss_cons (ps_if (pt_cmpR op_gt (pv 1) (pe_num T.minute rfl) (nomark _)) (pss_one (ps_ret (pe_lst (pa_cons (pe_num T.r22 rfl) pa_nil)))) pss_nil)
      (pss_cons (ps_setLc (i := 3) (own := [("entered", 2)]) (g := gName 2) (tt := tTest (tOp (rI0 fun i j => .bl (decide (i ≤ j))) (tVar 2) (tVar 1))) (te := tVar 2) rfl scBefore.nd rfl rfl (sw_true rfl rfl rfl rfl) (pi_list (pe_meth0 (pv 0) T.cl m1 F1 hr b1 .nil pass0)) (blkOk_by rfl)
        (fun s H C cl fp => pg_name (i := 2) scBefore.nd rfl (Or.inl rfl) (Or.inr rfl)) (fun s H C cl fp => pts_one (pt_cmpR op_le (pv 2) (pv 1) (nomark _))) (fun s H C cl fp => pv 2))
      (pss_cons (ps_setLc (i := 5) (own := [("went", 4)]) (g := gName 4) (tt := tTest (tOp (rI0 fun i j => .bl (decide (i ≤ j))) (tVar 4) (tVar 1))) (te := tVar 4) rfl scBefore.nd rfl rfl (sw_true rfl rfl rfl rfl) (pi_list (pe_meth0 (pv 0) T.cl m2 F2 hr b2 .nil pass0)) (blkOk_by rfl)
        (fun s H C cl fp => pg_name (i := 4) scBefore.nd rfl (Or.inl rfl) (Or.inr rfl)) (fun s H C cl fp => pts_one (pt_cmpR op_le (pv 4) (pv 1) (nomark _))) (fun s H C cl fp => pv 4))
      (pss_one (ps_ret (pe_lst (pa_cons (pe_callB call_len_seq (by rfl) T.len PySem.boot_len (pa_cons (pv 3) pa_nil)) (pa_cons (pe_callB call_len_seq (by rfl) T.len PySem.boot_len (pa_cons (pv 5) pa_nil)) pa_nil))))))), ?_⟩
    have k : Then C H p ca go (some d, if Kqu6.MINUTE < t then .num (-22) else .some_ (Kqu6.before d.ins t) [Kqu6.before d.outs t]) Q := k
    refine ⟨_, rfl, _, _, rfl, rfl, _, rfl, ite2 (fun z => ?_) (fun z => ?_)⟩
    · have z := of_decide_eq_true z
      rw [if_pos (by unfold Kqu6.MINUTE; omega)] at k
      exact ⟨(by show 1 ≤ sizeLine; decide), fun l hl => k.new hD (Same.refl _) hl⟩
    have z : ¬ (500 : Int) < (t : Nat) := fun y => z (decide_eq_true y)
    rw [if_neg (by unfold Kqu6.MINUTE; omega)] at k
    refine ⟨_, rfl, p, dx, _, rfl, hp, df_no (by decide +kernel) (by decide +kernel) (by decide +kernel), p, ca, go, true, d, rfl, hD, g, fun H1 l1 s1 n1 h1 => ⟨l1, rfl, ⟨_, SqL.of h1⟩, fun D1 hD1' => ?_⟩⟩
    refine lc_nats (K := K) (l := Kqu6.minutes d.ins) (fun x => decide (x ≤ t)) h1 hD1' (by rw [DS.minutes_length]; have := g.n30; omega) (fun x H' R h => ?_) (fun H2 s2 h2 => ?_)
    · refine ⟨rfl, _, rfl, _, rfl, _, _, rfl, rfl, _, rfl, ite2 (fun y => ?_) (fun y => ?_)⟩
      · have y := of_decide_eq_true y
        rw [decide_eq_true (show x ≤ t by omega)] at h
        exact ⟨_, rfl, h⟩
      · have y : ¬ (x : Int) ≤ (t : Nat) := fun e => y (decide_eq_true e)
        rw [decide_eq_false (show ¬ x ≤ t by omega)] at h
        exact h
    have s12 := s1.trans s2
    have hD2 := hD.same s12
    obtain ⟨⟨dx2, hp2⟩, _, _, _⟩ := id hD2
    refine ⟨_, rfl, p, dx2, _, rfl, hp2, df_no (by decide +kernel) (by decide +kernel) (by decide +kernel), p, ca, go, true, d, rfl, hD2, g, fun H3 l3 s3 n3 h3 => ⟨l3, rfl, ⟨_, SqL.of h3⟩, fun D3 hD3' => ?_⟩⟩
    refine lc_nats (K := K) (l := Kqu6.minutes d.outs) (fun x => decide (x ≤ t)) h3 hD3' (by rw [DS.minutes_length]; have := g.o30; omega) (fun x H' R h => ?_) (fun H4 s4 h4 => ?_)
    · refine ⟨rfl, _, rfl, _, rfl, _, _, rfl, rfl, _, rfl, ite2 (fun y => ?_) (fun y => ?_)⟩
      · have y := of_decide_eq_true y
        rw [decide_eq_true (show x ≤ t by omega)] at h
        exact ⟨_, rfl, h⟩
      · have y : ¬ (x : Int) ≤ (t : Nat) := fun e => y (decide_eq_true e)
        rw [decide_eq_false (show ¬ x ≤ t by omega)] at h
        exact h
    refine ⟨_, rfl, D1, _, rfl, .inl (SqL.of (s4 _ _ (s3 _ _ h2))), _, rfl, D3, _, rfl, .inl (SqL.of h4), (by show 2 ≤ sizeLine; decide), fun l hl => ?_⟩
    rw [nat_len, nat_len, DS.before_filter, DS.before_filter]
    exact k.new hD (s12.trans (s3.trans s4)) hl
/-! ### kind -/
theorem scKind : FnScope ["self", "asked", "minute", "kind", "came", "gone"] ["self", "asked"] (defScope sKind) := ⟨rfl, rfl, rfl, by decide +kernel, rfl, by decide +kernel, by decide +kernel⟩
/-- [minute for minute, kind in .. if kind == asked] -/
theorem lc_kind {K : PySem.W.Frag} {a D : Addr} {ps : List Addr} {es : List Kqu6.Event} {q : Nat} {σ : L2.St} {H : Hp} {Qd : Hp → Prop} {c3 c4 c5 c6 : Option V} {p : Addr} (hσ : σ = [some (.ref p), some (.int (q : Nat)), c3, c4, c5, c6]) (ha : H a = some (.lst (ps.map V.ref))) (he : Evs H ps es) (hD : H D = none) (hl : es.length ≤ 30)
    (hd : ∀ H', Same H H' → NatsAt H' D (Kqu6.minutes (Kqu6.ofKind es q)) → Qd H') :
    ∃ W : Nat → Nat → Hp → Prop, (∃ m, W 0 m (upd H D (.lst []))) ∧ ∀ i m H, W i m H →
      ((Itl K a).stop i H ∧ Qd H) ∨ ((Itl K a).go i H ∧ ∃ Nx : Hp → Prop, (∀ H', Nx H' → ∃ m', m' < m ∧ W (i + 1) m' H') ∧ ∀ x H', (Itl K a).yld i H x H' → gTup K 2 (gCons (gName 2) (gCons (gName 3) gNil)) x (wipe σ [2, 3]) H' fun σ2 H2 => wipe σ2 [2, 3] = wipe σ [2, 3] ∧ tTest (tOp rEq (tVar 3) (tVar 1)) σ2 H2 fun b H3 =>
        if b = true then tVar 2 σ2 H3 fun y H4 => ∃ acc, H4 D = some (.lst acc) ∧ acc.length < sizeLine ∧ Nx (upd H4 D (.lst (acc ++ [y]))) else Nx H3) := by
  subst hσ
  refine lc_list (K := K) (a := a) (xs := ps.map V.ref) (fun i H' => Same H H' ∧ H' D = some (.lst ((DS.asInts (Kqu6.minutes (Kqu6.ofKind (es.take i) q))).map V.int)))
    ⟨same_new hD, upd_same⟩ (fun i H' _ ⟨s', _⟩ => SqL.of (s' _ _ ha)) ?_ ?_
  · rintro i x H' hx ⟨s', hD2⟩
    obtain ⟨t, e, rfl, hei, ht⟩ := he.at hx
    refine gpair (s' _ _ ht) ⟨rfl, _, rfl, _, rfl, rfl, _, rfl, ite2 (fun y => ?_) (fun y => ?_)⟩
    · have y : V.int ((e.kind : Nat) : Int) = V.int ((q : Nat) : Int) := of_decide_eq_true y
      injection y with y
      refine ⟨_, rfl, _, hD2, small' ?_, s'.upd hD, ?_⟩
      · rw [nat_len, DS.minutes_length]
        exact Nat.le_trans (List.length_filter_le ..) (by rw [List.length_take]; omega)
      · rw [upd_same, DS.minutes_ofKind_get hei, if_pos (show e.kind = q by omega), List.map_append]
        rfl
    · have y : ¬ e.kind = q := fun z => y (decide_eq_true (by rw [z]))
      refine ⟨s', ?_⟩
      rw [hD2, DS.minutes_ofKind_get hei, if_neg y, List.append_nil]
  · rintro H' ⟨s', hD2⟩
    rw [List.take_of_length_le (by rw [List.length_map, he.len]; exact Nat.le_refl _)] at hD2
    exact hd H' s' hD2
theorem ok_Kind {f C f1 : Addr} {fd fd1 : FuncData} (F : Fun K "kind" "Day.kind" sKind f fd) (T : Txt K mg C)
    (F1 : FnOk P w K mg base CX0 1 f1 fd1 ["self"] (spList C 4 Kqu6.kindThere)) (b1 : Binds K fd1 ["self"] []) (m1 : Meth K C "there_by_kind" f1) :
    FnOk P w K mg base CX0 2 f fd ["self", "asked"] (spCall1 C .kind) := by
  refine F.ok scKind (fun vs H Q E h => ?_) (fun cdv A outer s H vs Q E hr h => ?_)
  · obtain ⟨p, ca, go, d, q, rfl, _⟩ := h
    rfl
  · obtain ⟨p, ca, go, d, q, rfl, hD, g, k⟩ := h
    obtain ⟨⟨dx, hp⟩, hne, ⟨pi, hca, hin⟩, po, hgo, hou⟩ := id hD
    refine ⟨_, pss_cons (ps_if (pt_cmpR op_ge (pv 1) (pe_num T.kinds rfl) (nomark _)) (pss_one (ps_ret (pe_lst (pa_cons (pe_num T.r22 rfl) pa_nil)))) pss_nil)
      (pss_cons (ps_if (pt_cmpR op_gt (pe_ix ix_list (pe_meth0 (pv 0) T.cl m1 F1 hr b1 .nil pass0) (pv 1) (fun _ _ => rfl)) pe_int (nomark _)) (pss_one (ps_ret (pe_lst (pa_cons (pe_num T.r16s rfl) pa_nil)))) pss_nil)
      (pss_cons (ps_setLc (i := 4) (own := [("minute", 2), ("kind", 3)]) (g := gTup K 2 (gCons (gName 2) (gCons (gName 3) gNil))) (tt := tTest (tOp rEq (tVar 3) (tVar 1))) (te := tVar 2) rfl scKind.nd rfl rfl (sw_true rfl rfl rfl rfl) (pi_list (pe_fld (pv 0) rfl)) (blkOk_by rfl)
        (fun s H C cl fp => pg_tup rfl (pgs_cons (pg_name (i := 2) scKind.nd rfl (Or.inl rfl) (Or.inr rfl)) (pgs_cons (pg_name (i := 3) scKind.nd rfl (Or.inl rfl) (Or.inr rfl)) pgs_nil))) (fun s H C cl fp => pts_one (pt_cmpR op_eq (pv 3) (pv 1) (nomark _))) (fun s H C cl fp => pv 2))
      (pss_cons (ps_setLc (i := 5) (own := [("minute", 2), ("kind", 3)]) (g := gTup K 2 (gCons (gName 2) (gCons (gName 3) gNil))) (tt := tTest (tOp rEq (tVar 3) (tVar 1))) (te := tVar 2) rfl scKind.nd rfl rfl (sw_true rfl rfl rfl rfl) (pi_list (pe_fld (pv 0) rfl)) (blkOk_by rfl)
        (fun s H C cl fp => pg_tup rfl (pgs_cons (pg_name (i := 2) scKind.nd rfl (Or.inl rfl) (Or.inr rfl)) (pgs_cons (pg_name (i := 3) scKind.nd rfl (Or.inl rfl) (Or.inr rfl)) pgs_nil))) (fun s H C cl fp => pts_one (pt_cmpR op_eq (pv 3) (pv 1) (nomark _))) (fun s H C cl fp => pv 2))
      (pss_one (ps_ret (pe_lst (pa_cons (pe_callB call_len_seq (by rfl) T.len PySem.boot_len (pa_cons (pv 4) pa_nil)) (pa_cons (pe_op op_sub (pe_callB (cr_sum rfl) (by rfl) T.sum PyProof.Rows.boot_sum (pa_cons (pv 5) pa_nil)) (pe_callB (cr_sum rfl) (by rfl) T.sum PyProof.Rows.boot_sum (pa_cons (pv 4) pa_nil))) pa_nil)))))))), ?_⟩
    have k : Then C H p ca go (some d, if 3 < q then .num (-22) else if Kqu6.kindThere d q ≠ 0 then .num (-16) else .some_ (Kqu6.ofKind d.ins q).length [(Kqu6.stays (Kqu6.ofKind d.ins q) (Kqu6.ofKind d.outs q)).toNat]) Q := k
    refine ⟨_, rfl, _, _, rfl, rfl, _, rfl, ite2 (fun z => ?_) (fun z => ?_)⟩
    · have z := of_decide_eq_true z
      rw [if_pos (by omega)] at k
      exact ⟨(by show 1 ≤ sizeLine; decide), fun l hl => k.new hD (Same.refl _) hl⟩
    have z : ¬ (4 : Int) ≤ (q : Nat) := fun y => z (decide_eq_true y)
    rw [if_neg (by omega)] at k
    refine ⟨_, rfl, p, dx, _, rfl, hp, df_no (by decide +kernel) (by decide +kernel) (by decide +kernel), p, ca, go, true, d, rfl, hD, g, fun H1 lk s1 hlk => ?_⟩
    refine ⟨_, rfl, lk, _, _, _, rfl, rfl, SqL.of hlk, atI_nat (DS.map_range_get _ (by omega)), _, _, rfl, rfl, _, rfl, ite2 (fun y => ?_) (fun y => ?_)⟩
    · have y := of_decide_eq_true y
      rw [if_pos (by omega)] at k
      exact ⟨(by show 1 ≤ sizeLine; decide), fun l hl => k.new hD s1 hl⟩
    have y : ¬ (0 : Int) < (Kqu6.kindThere d q : Nat) := fun e => y (decide_eq_true e)
    have y0 : Kqu6.kindThere d q = 0 := by omega
    rw [if_neg (by omega)] at k
    have hD1 := hD.same s1
    obtain ⟨⟨dx1, hp1⟩, _, ⟨pi1, hca1, hin1⟩, _, _, _⟩ := id hD1
    refine ⟨_, rfl, p, C, dx1, _, _, rfl, hp1, T.cl, T.nC, df_came, ca, rfl, ⟨_, SqL.of hca1⟩, fun D1 hD1' => ?_⟩
    refine lc_kind (K := K) (q := q) rfl hca1 hin1 hD1' g.n30 (fun H2 s2 h2 => ?_)
    have hD2 := hD1.same s2
    obtain ⟨⟨dx2, hp2⟩, _, _, po2, hgo2, hou2⟩ := id hD2
    refine ⟨_, rfl, p, C, dx2, _, _, rfl, hp2, T.cl, T.nG, df_gone, go, rfl, ⟨_, SqL.of hgo2⟩, fun D2 hD2' => ?_⟩
    refine lc_kind (K := K) (q := q) rfl hgo2 hou2 hD2' g.o30 (fun H3 s3 h3 => ?_)
    have h23 := s3 _ _ h2
    refine ⟨_, rfl, D1, _, rfl, .inl (SqL.of h23), _, rfl, D2, _, rfl, SqL.of h3, _, rfl, D1, _, rfl, SqL.of h23, _, _, rfl, rfl, (by show 2 ≤ sizeLine; decide), fun l hl => ?_⟩
    have e1 : (DS.asInts (Kqu6.minutes (Kqu6.ofKind d.outs q))).sum - (DS.asInts (Kqu6.minutes (Kqu6.ofKind d.ins q))).sum = ((Kqu6.stays (Kqu6.ofKind d.ins q) (Kqu6.ofKind d.outs q)).toNat : Nat) := by
      rw [DS.stays_cast (g.staysK q), DS.stays_whole (DS.kind_zero y0)]
    rw [nat_len, DS.minutes_length]
    show Q (.ref l) (upd H3 l (.lst [_, V.int (_ - _)]))
    rw [e1]
    exact k.new hD (s1.trans (s2.trans s3)) hl
/-! ### first, latest, longer, as_if -/
theorem scFirst : FnScope ["self"] ["self"] (defScope sFirst) := ⟨rfl, rfl, rfl, by decide +kernel, rfl, by decide +kernel, by decide +kernel⟩
theorem ok_First {f C f1 f2 f3 f4 : Addr} {fd fd1 fd2 fd3 fd4 : FuncData} (F : Fun K "first" "Day.first" sFirst f fd) (T : Txt K mg C)
    (F1 : FnOk P w K mg base CX0 1 f1 fd1 ["self"] (spMins C Kqu6.Day.ins)) (b1 : Binds K fd1 ["self"] []) (m1 : Meth K C "came_minutes" f1)
    (F2 : FnOk P w K mg base CX0 1 f2 fd2 ["self"] (spMins C Kqu6.Day.outs)) (b2 : Binds K fd2 ["self"] []) (m2 : Meth K C "gone_minutes" f2)
    (F3 : FnOk P w K mg base CX0 1 f3 fd3 ["came", "gone"] spFF) (b3 : Binds K fd3 ["came", "gone"] []) (g3 : mg "first_goes_first" = some (.ref f3)) (k3 : PySem.W.keepIn K (.ref f3) = true)
    (F4 : FnOk P w K mg base CX0 1 f4 fd4 ["stays"] spTold) (b4 : Binds K fd4 ["stays"] []) (g4 : mg "told_of" = some (.ref f4)) (k4 : PySem.W.keepIn K (.ref f4) = true) :
    FnOk P w K mg base CX0 2 f fd ["self"] (spCall0 C .first) := by
  refine F.ok scFirst (fun vs H Q E h => ?_) (fun cdv A outer s H vs Q E hr h => ?_)
  · obtain ⟨p, ca, go, d, rfl, _⟩ := h
    rfl
  · obtain ⟨p, ca, go, d, rfl, hD, g, k⟩ := h
    obtain ⟨⟨dx, hp⟩, hne, ⟨pi, hca, hin⟩, po, hgo, hou⟩ := id hD
    refine ⟨_, pss_one (ps_ret (pe_call F4 hr rfl g4 k4 b4 .nil pass0 (pa_cons (pe_call F3 hr rfl g3 k3 b3 .nil pass0 (pa_cons (pe_meth0 (pv 0) T.cl m1 F1 hr b1 .nil pass0) (pa_cons (pe_meth0 (pv 0) T.cl m2 F2 hr b2 .nil pass0) pa_nil))) pa_nil))), ?_⟩
    have k : Then C H p ca go (some d, Kqu6.told (Kqu6.pairs d)) Q := k
    refine ⟨_, rfl, p, dx, _, rfl, hp, df_no (by decide +kernel) (by decide +kernel) (by decide +kernel), p, ca, go, true, d, rfl, hD, g, fun H1 l1 s1 n1 h1 => ?_⟩
    have hD1 := hD.same s1
    obtain ⟨⟨dx1, hp1⟩, _, _, _⟩ := id hD1
    refine ⟨_, rfl, p, dx1, _, rfl, hp1, df_no (by decide +kernel) (by decide +kernel) (by decide +kernel), p, ca, go, true, d, rfl, hD1, g, fun H2 l2 s2 n2 h2 => ?_⟩
    have s12 := s1.trans s2
    have li : (Kqu6.minutes d.ins).length ≤ 60 := by rw [DS.minutes_length]; have := g.n30; omega
    have lo : (Kqu6.minutes d.outs).length ≤ 60 := by rw [DS.minutes_length]; have := g.o30; omega
    refine ⟨l1, l2, _, _, rfl, s2 _ _ h1, h2, lo, fun i x y hx hy => DS.fifo_le g hx hy, fun H3 r s3 hr3 h3 => ?_⟩
    refine ⟨r, _, rfl, h3, by have := DS.firstOut_len_le (Kqu6.minutes d.ins) (Kqu6.minutes d.outs); omega, DS.pairs_le g, fun H4 q s4 hq h4 => ?_⟩
    exact k.at hD (s12.trans (s3.trans s4)) (s12.free (s3.free hq)) h4
theorem scLatest : FnScope ["self"] ["self"] (defScope sLatest) := ⟨rfl, rfl, rfl, by decide +kernel, rfl, by decide +kernel, by decide +kernel⟩
theorem ok_Latest {f C f1 f2 f3 f4 : Addr} {fd fd1 fd2 fd3 fd4 : FuncData} (F : Fun K "latest" "Day.latest" sLatest f fd) (T : Txt K mg C)
    (F1 : FnOk P w K mg base CX0 1 f1 fd1 ["self"] (spMins C Kqu6.Day.ins)) (b1 : Binds K fd1 ["self"] []) (m1 : Meth K C "came_minutes" f1)
    (F2 : FnOk P w K mg base CX0 1 f2 fd2 ["self"] (spMins C Kqu6.Day.outs)) (b2 : Binds K fd2 ["self"] []) (m2 : Meth K C "gone_minutes" f2)
    (F3 : FnOk P w K mg base CX0 1 f3 fd3 ["came", "gone"] spLG) (b3 : Binds K fd3 ["came", "gone"] []) (g3 : mg "last_goes_first" = some (.ref f3)) (k3 : PySem.W.keepIn K (.ref f3) = true)
    (F4 : FnOk P w K mg base CX0 1 f4 fd4 ["stays"] spTold) (b4 : Binds K fd4 ["stays"] []) (g4 : mg "told_of" = some (.ref f4)) (k4 : PySem.W.keepIn K (.ref f4) = true) :
    FnOk P w K mg base CX0 2 f fd ["self"] (spCall0 C .latest) := by
  refine F.ok scLatest (fun vs H Q E h => ?_) (fun cdv A outer s H vs Q E hr h => ?_)
  · obtain ⟨p, ca, go, d, rfl, _⟩ := h
    rfl
  · obtain ⟨p, ca, go, d, rfl, hD, g, k⟩ := h
    obtain ⟨⟨dx, hp⟩, hne, ⟨pi, hca, hin⟩, po, hgo, hou⟩ := id hD
    refine ⟨_, pss_one (ps_ret (pe_call F4 hr rfl g4 k4 b4 .nil pass0 (pa_cons (pe_call F3 hr rfl g3 k3 b3 .nil pass0 (pa_cons (pe_meth0 (pv 0) T.cl m1 F1 hr b1 .nil pass0) (pa_cons (pe_meth0 (pv 0) T.cl m2 F2 hr b2 .nil pass0) pa_nil))) pa_nil))), ?_⟩
    have k : Then C H p ca go (some d, Kqu6.told (Kqu6.lastOut [] (Kqu6.minutes d.ins) (Kqu6.minutes d.outs))) Q := k
    refine ⟨_, rfl, p, dx, _, rfl, hp, df_no (by decide +kernel) (by decide +kernel) (by decide +kernel), p, ca, go, true, d, rfl, hD, g, fun H1 l1 s1 n1 h1 => ?_⟩
    have hD1 := hD.same s1
    obtain ⟨⟨dx1, hp1⟩, _, _, _⟩ := id hD1
    refine ⟨_, rfl, p, dx1, _, rfl, hp1, df_no (by decide +kernel) (by decide +kernel) (by decide +kernel), p, ca, go, true, d, rfl, hD1, g, fun H2 l2 s2 n2 h2 => ?_⟩
    have s12 := s1.trans s2
    have li : (Kqu6.minutes d.ins).length ≤ 60 := by rw [DS.minutes_length]; have := g.n30; omega
    have lo : (Kqu6.minutes d.outs).length ≤ 60 := by rw [DS.minutes_length]; have := g.o30; omega
    have hle := DS.lastOut_le (m := 500) _ [] (Kqu6.minutes d.ins) (Kqu6.minutes d.outs) (Nat.le_refl _) (DS.minutes_mem_le g.outs_ok)
    refine ⟨l1, l2, _, _, rfl, s2 _ _ h1, h2, li, lo, DS.LO.init g, fun H3 r s3 hr3 h3 => ?_⟩
    refine ⟨r, _, rfl, h3, by have := hle.1; omega, hle.2, fun H4 q s4 hq h4 => ?_⟩
    exact k.at hD (s12.trans (s3.trans s4)) (s12.free (s3.free hq)) h4
theorem scLonger : FnScope ["self", "minutes", "stays", "stay"] ["self", "minutes"] (defScope sLonger) := ⟨rfl, rfl, rfl, by decide +kernel, rfl, by decide +kernel, by decide +kernel⟩
theorem ok_Longer {f C f1 f2 f3 : Addr} {fd fd1 fd2 fd3 : FuncData} (F : Fun K "longer" "Day.longer" sLonger f fd) (T : Txt K mg C)
    (F1 : FnOk P w K mg base CX0 1 f1 fd1 ["self"] (spMins C Kqu6.Day.ins)) (b1 : Binds K fd1 ["self"] []) (m1 : Meth K C "came_minutes" f1)
    (F2 : FnOk P w K mg base CX0 1 f2 fd2 ["self"] (spMins C Kqu6.Day.outs)) (b2 : Binds K fd2 ["self"] []) (m2 : Meth K C "gone_minutes" f2)
    (F3 : FnOk P w K mg base CX0 1 f3 fd3 ["came", "gone"] spFF) (b3 : Binds K fd3 ["came", "gone"] []) (g3 : mg "first_goes_first" = some (.ref f3)) (k3 : PySem.W.keepIn K (.ref f3) = true) :
    FnOk P w K mg base CX0 2 f fd ["self", "minutes"] (spCall1 C .longer) := by
  refine F.ok scLonger (fun vs H Q E h => ?_) (fun cdv A outer s H vs Q E hr h => ?_)
  · obtain ⟨p, ca, go, d, n, rfl, _⟩ := h
    rfl
  · obtain ⟨p, ca, go, d, n, rfl, hD, g, k⟩ := h
    obtain ⟨⟨dx, hp⟩, hne, ⟨pi, hca, hin⟩, po, hgo, hou⟩ := id hD
    refine ⟨_, pss_cons (ps_set (i := 2) scLonger.nd rfl (Or.inl rfl) (pe_call F3 hr rfl g3 k3 b3 .nil pass0 (pa_cons (pe_meth0 (pv 0) T.cl m1 F1 hr b1 .nil pass0) (pa_cons (pe_meth0 (pv 0) T.cl m2 F2 hr b2 .nil pass0) pa_nil))))
      (pss_one (ps_ret (pe_lst (pa_cons (pe_callB call_len_seq (by rfl) T.len PySem.boot_len (pa_cons (pe_lc (own := [("stay", 3)]) (g := gName 3) (tt := tTest (tOp (rI0 fun i j => .bl (decide (j < i))) (tVar 3) (tVar 1))) (te := tVar 3) rfl scLonger.nd (pi_list (pv 2)) (blkOk_by rfl)
        (fun s H C cl fp => pg_name (i := 3) scLonger.nd rfl (Or.inl rfl) (Or.inr rfl)) (fun s H C cl fp => pts_one (pt_cmpR op_gt (pv 3) (pv 1) (nomark _))) (fun s H C cl fp => pv 3)) pa_nil)) pa_nil)))), ?_⟩
    have k : Then C H p ca go (some d, .num ((Kqu6.pairs d).filter fun x => decide (n < x)).length) Q := k
    refine ⟨_, rfl, p, dx, _, rfl, hp, df_no (by decide +kernel) (by decide +kernel) (by decide +kernel), p, ca, go, true, d, rfl, hD, g, fun H1 l1 s1 n1 h1 => ?_⟩
    have hD1 := hD.same s1
    obtain ⟨⟨dx1, hp1⟩, _, _, _⟩ := id hD1
    refine ⟨_, rfl, p, dx1, _, rfl, hp1, df_no (by decide +kernel) (by decide +kernel) (by decide +kernel), p, ca, go, true, d, rfl, hD1, g, fun H2 l2 s2 n2 h2 => ?_⟩
    have s12 := s1.trans s2
    have li : (Kqu6.minutes d.ins).length ≤ 60 := by rw [DS.minutes_length]; have := g.n30; omega
    have lo : (Kqu6.minutes d.outs).length ≤ 60 := by rw [DS.minutes_length]; have := g.o30; omega
    refine ⟨l1, l2, _, _, rfl, s2 _ _ h1, h2, lo, fun i x y hx hy => DS.fifo_le g hx hy, fun H3 r s3 hr3 h3 => ?_⟩
    refine ⟨_, rfl, r, rfl, ⟨_, SqL.of h3⟩, fun D hD' => ?_⟩
    refine lc_nats (K := K) (l := Kqu6.pairs d) (fun x => decide (n < x)) h3 hD' (by rw [DS.pairs_length g]; have := g.o30; omega) (fun x H' R h => ?_) (fun H4 s4 h4 => ?_)
    · refine ⟨rfl, _, rfl, _, rfl, _, _, rfl, rfl, _, rfl, ite2 (fun y => ?_) (fun y => ?_)⟩
      · have y := of_decide_eq_true y
        rw [decide_eq_true (show n < x by omega)] at h
        exact ⟨_, rfl, h⟩
      · have y : ¬ (n : Int) < (x : Nat) := fun e => y (decide_eq_true e)
        rw [decide_eq_false (show ¬ n < x by omega)] at h
        exact h
    refine ⟨D, _, rfl, .inl (SqL.of h4), (by show 1 ≤ sizeLine; decide), fun l hl => ?_⟩
    rw [nat_len]
    exact k.new hD (s12.trans (s3.trans s4)) hl
def spAs (C : Addr) : Sp := fun vs H Q _ => ∃ (p ca go : Addr) (d : Kqu6.Day) (pl : Addr) (ps : List Nat), vs = [.ref p, .ref pl] ∧ DayAt C H p ca go true d ∧ DS.Good d ∧ NatsAt H pl ps ∧ ps.length ≤ 60 ∧ Then C H p ca go (Kqu6.step (some d) (.as_ ps)) Q
theorem scAsIf : FnScope ["self", "places", "came", "gone"] ["self", "places"] (defScope sAsIf) := ⟨rfl, rfl, rfl, by decide +kernel, rfl, by decide +kernel, by decide +kernel⟩
theorem ok_AsIf {f C f1 f2 f3 f4 f5 : Addr} {fd fd1 fd2 fd3 fd4 fd5 : FuncData} (F : Fun K "as_if" "Day.as_if" sAsIf f fd) (T : Txt K mg C)
    (F1 : FnOk P w K mg base CX0 1 f1 fd1 ["self"] (spMins C Kqu6.Day.ins)) (b1 : Binds K fd1 ["self"] []) (m1 : Meth K C "came_minutes" f1)
    (F2 : FnOk P w K mg base CX0 1 f2 fd2 ["self"] (spMins C Kqu6.Day.outs)) (b2 : Binds K fd2 ["self"] []) (m2 : Meth K C "gone_minutes" f2)
    (F3 : FnOk P w K mg base CX0 1 f3 fd3 ["came", "gone", "places"] spCan) (b3 : Binds K fd3 ["came", "gone", "places"] []) (g3 : mg "can_go_so" = some (.ref f3)) (k3 : PySem.W.keepIn K (.ref f3) = true)
    (F4 : FnOk P w K mg base CX0 2 f4 fd4 ["came", "gone", "places"] spSo) (b4 : Binds K fd4 ["came", "gone", "places"] []) (g4 : mg "gone_so" = some (.ref f4)) (k4 : PySem.W.keepIn K (.ref f4) = true)
    (F5 : FnOk P w K mg base CX0 1 f5 fd5 ["stays"] spTold) (b5 : Binds K fd5 ["stays"] []) (g5 : mg "told_of" = some (.ref f5)) (k5 : PySem.W.keepIn K (.ref f5) = true) :
    FnOk P w K mg base CX0 3 f fd ["self", "places"] (spAs C) := by
  refine F.ok scAsIf (fun vs H Q E h => ?_) (fun cdv A outer s H vs Q E hr h => ?_)
  · obtain ⟨p, ca, go, d, pl, ps, rfl, _⟩ := h
    rfl
  · obtain ⟨p, ca, go, d, pl, ps, rfl, hD, g, hpl, h60, k⟩ := h
    obtain ⟨⟨dx, hp⟩, hne, ⟨pi, hca, hin⟩, po, hgo, hou⟩ := id hD
    have hr1 : Room 1 _ := hr.mono (by decide)
    refine ⟨_, pss_cons (ps_set (i := 2) scAsIf.nd rfl (Or.inl rfl) (pe_meth0 (pv 0) T.cl m1 F1 hr1 b1 .nil pass0))
      (pss_cons (ps_set (i := 3) scAsIf.nd rfl (Or.inl rfl) (pe_meth0 (pv 0) T.cl m2 F2 hr1 b2 .nil pass0))
      (pss_cons (ps_if (pt_not (pt_val (pe_call F3 hr1 rfl g3 k3 b3 .nil pass0 (pa_cons (pv 2) (pa_cons (pv 3) (pa_cons (pv 1) pa_nil)))))) (pss_one (ps_ret (pe_lst (pa_cons (pe_num T.r22 rfl) pa_nil)))) pss_nil)
      (pss_one (ps_ret (pe_call F5 hr1 rfl g5 k5 b5 .nil pass0 (pa_cons (pe_call F4 hr rfl g4 k4 b4 .nil pass0 (pa_cons (pv 2) (pa_cons (pv 3) (pa_cons (pv 1) pa_nil)))) pa_nil)))))), ?_⟩
    rw [DS.step_as] at k
    refine ⟨_, rfl, p, dx, _, rfl, hp, df_no (by decide +kernel) (by decide +kernel) (by decide +kernel), p, ca, go, true, d, rfl, hD, g, fun H1 l1 s1 n1 h1 => ?_⟩
    have hD1 := hD.same s1
    obtain ⟨⟨dx1, hp1⟩, _, _, _⟩ := id hD1
    refine ⟨_, rfl, p, dx1, _, rfl, hp1, df_no (by decide +kernel) (by decide +kernel) (by decide +kernel), p, ca, go, true, d, rfl, hD1, g, fun H2 l2 s2 n2 h2 => ?_⟩
    have s12 := s1.trans s2
    have li : (Kqu6.minutes d.ins).length ≤ 60 := by rw [DS.minutes_length]; have := g.n30; omega
    have lo : (Kqu6.minutes d.outs).length ≤ 60 := by rw [DS.minutes_length]; have := g.o30; omega
    refine ⟨_, rfl, _, rfl, _, rfl, l1, l2, pl, _, _, ps, rfl, s2 _ _ h1, h2, s12 _ _ hpl, h60, fun H3 s3 => ?_⟩
    have s13 := s12.trans s3
    cases has : Kqu6.as_ (Kqu6.minutes d.ins) (Kqu6.minutes d.outs) ps with
    | none =>
      rw [has] at k
      exact ⟨_, rfl, iteT ⟨(by show 1 ≤ sizeLine; decide), fun l hl => k.new hD s13 hl⟩⟩
    | some l =>
      rw [has] at k
      refine ⟨_, rfl, iteF ?_⟩
      obtain ⟨hlen, _, hle, el⟩ := DS.as_so has
      refine ⟨_, rfl, _, rfl, _, rfl, l1, l2, pl, _, _, ps, l, rfl, s3 _ _ (s2 _ _ h1), s3 _ _ h2, s13 _ _ hpl, h60, has, fun H4 r s4 hr4 h4 => ?_⟩
      refine ⟨r, _, rfl, h4, ?_, ?_, fun H5 q s5 hq h5 => ?_⟩
      · rw [el]
        exact Nat.le_trans (DS.firstOut_len_le _ _) lo
      · rw [el]
        exact DS.firstOut_le (DS.minutes_mem_le g.outs_ok)
      · exact k.at hD (s13.trans (s4.trans s5)) (s13.free (s4.free hq)) h5
end
end DP

set_option autoImplicit false
set_option Elab.async false
set_option linter.all false
set_option maxRecDepth 100000
set_option maxHeartbeats 2000000
/-! The door: which call it is. -/
namespace DP
open PySem PySem.Spec PyProof.Rows L2
structure TxtD (mg : Str → Option Value) : Prop where
  c0 : Num mg "START" 0
  c1 : Num mg "IN_AT" 1
  c2 : Num mg "OUT" 2
  c3 : Num mg "CLOSE" 3
  c4 : Num mg "PRESENT" 4
  c5 : Num mg "THERE" 5
  c6 : Num mg "KINDS_THERE" 6
  c7 : Num mg "MOST" 7
  c8 : Num mg "BUSY" 8
  c9 : Num mg "AREA" 9
  c10 : Num mg "TOTAL" 10
  c11 : Num mg "MEAN" 11
  c12 : Num mg "FIRST" 12
  c13 : Num mg "LATEST" 13
  c14 : Num mg "AS_IF" 14
  c15 : Num mg "KIND" 15
  c16 : Num mg "BEFORE" 16
  c18 : Num mg "UNDO" 18
  c19 : Num mg "STATE" 19
/-- a call and what it is given, by number -/
def spDoor (K : PySem.W.Frag) (C : Addr) (ok : Kqu6.Call → Prop) (started : Prop) : Sp := fun vs H Q _ => ∃ (p ca go gl : Addr) (s : Option Kqu6.Day) (x : Kqu6.Call) (c : Int) (args : List Int), vs = [.ref p, .int c, .ref gl] ∧ DS.flat x = c :: args ∧ ok x ∧
  SqL K H gl (args.map V.int) ∧ (started → begun s = true) ∧ DayAt C H p ca go (begun s) (dayOf s) ∧ DS.GoodS s ∧ Then C H p ca go (Kqu6.step s x) Q
def okNote : Kqu6.Call → Prop
  | .in_ _ _ => True
  | .out _ _ => True
  | .close _ => True
  | .undo => True
  | _ => False
def okC : Kqu6.Call → Prop
  | .present _ => True
  | .there => True
  | .kinds => True
  | .most => True
  | .busy => True
  | .area _ _ => True
  | .before _ => True
  | .state => True
  | _ => False
def okS : Kqu6.Call → Prop
  | .total => True
  | .mean => True
  | .first => True
  | .latest => True
  | .as_ p => p.length ≤ 60
  | .kind _ => True
  | .longer _ => True
  | _ => False
def okAll (x : Kqu6.Call) : Prop := x = .start ∨ okNote x ∨ okC x ∨ okS x
theorem okAll_of {x : Kqu6.Call} (h : DS.Bd x) : okAll x := by
  cases x
  case start => exact .inl rfl
  case as_ p => exact .inr (.inr (.inr h.1))
  all_goals first | exact .inr (.inl trivial) | exact .inr (.inr (.inl trivial)) | exact .inr (.inr (.inr trivial))
/-- the methods, as they stand -/
structure Mth (P : Program) (w : World) (K : PySem.W.Frag) (mg : Str → Option Value) (base : Heap) (C : Addr) (m : Str) (ps : List Str) (sp : Sp) : Prop where
  ex : ∃ (f : Addr) (fd : FuncData), FnOk P w K mg base CX0 5 f fd ps sp ∧ Binds K fd ps [] ∧ Meth K C m f
/-- a def of the file -/
structure Dfn (P : Program) (w : World) (K : PySem.W.Frag) (mg : Str → Option Value) (base : Heap) (x : Str) (n : Nat) (ps : List Str) (sp : Sp) : Prop where
  ex : ∃ (f : Addr) (fd : FuncData), FnOk P w K mg base CX0 n f fd ps sp ∧ Binds K fd ps [] ∧ mg x = some (.ref f) ∧ PySem.W.keepIn K (.ref f) = true
theorem cut_one (x : V) (xs : List V) : cutV (x :: xs) (some 1) none = xs := by
  unfold cutV
  rw [HT.sIx_none, show (1 : Int) = ((1 : Nat) : Int) from rfl, HT.sIx_nat, List.length_cons, show min 1 (xs.length + 1) = 1 by omega]
  show List.take (xs.length + 1 - 1) xs = xs
  rw [Nat.add_sub_cancel, List.take_length]
section
variable {P : Program} {w : World} {K : PySem.W.Frag} {mg : Str → Option Value} {base : Heap}
theorem scNote : FnScope ["day", "call", "given"] ["day", "call", "given"] (defScope sNote) := ⟨rfl, rfl, rfl, by decide +kernel, rfl, by decide +kernel, by decide +kernel⟩
theorem ok_Note {f C : Addr} {fd : FuncData} (F : Fun K "note" "note" sNote f fd) (T : Txt K mg C) (D : TxtD mg)
    (M1 : Mth P w K mg base C "come" ["self", "minute", "kind"] (spCall2 C .in_))
    (M2 : Mth P w K mg base C "leave" ["self", "minute", "kind"] (spCall2 C .out))
    (M3 : Mth P w K mg base C "close" ["self", "minute"] (spCall1 C .close))
    (M4 : Mth P w K mg base C "undo" ["self"] (spCall0 C .undo))
    : FnOk P w K mg base CX0 6 f fd ["day", "call", "given"] (spDoor K C okNote True) := by
  obtain ⟨f1, fd1, F1, b1, m1⟩ := M1.ex
  obtain ⟨f2, fd2, F2, b2, m2⟩ := M2.ex
  obtain ⟨f3, fd3, F3, b3, m3⟩ := M3.ex
  obtain ⟨f4, fd4, F4, b4, m4⟩ := M4.ex
  refine F.ok scNote (fun vs H Q E h => ?_) (fun cdv A outer s H vs Q E hr h => ?_)
  · obtain ⟨p, ca, go, gl, s, x, c, args, rfl, _⟩ := h
    rfl
  · obtain ⟨p, ca, go, gl, s, x, c, args, rfl, hx, ok, hgl, hb, hD, g, k⟩ := h
    refine ⟨_, pss_cons (ps_if (pt_cmpR op_eq (pv 1) (pe_num D.c1 rfl) (nomark _)) (pss_one (ps_ret (pe_meth (pv 0) T.cl m1 F1 hr b1 .nil pass0 (pa_cons (pe_ix ix_list (pv 2) pe_int (fun _ _ => rfl)) (pa_cons (pe_ix ix_list (pv 2) pe_int (fun _ _ => rfl)) pa_nil))))) pss_nil)
      (pss_cons (ps_if (pt_cmpR op_eq (pv 1) (pe_num D.c2 rfl) (nomark _)) (pss_one (ps_ret (pe_meth (pv 0) T.cl m2 F2 hr b2 .nil pass0 (pa_cons (pe_ix ix_list (pv 2) pe_int (fun _ _ => rfl)) (pa_cons (pe_ix ix_list (pv 2) pe_int (fun _ _ => rfl)) pa_nil))))) pss_nil)
      (pss_cons (ps_if (pt_cmpR op_eq (pv 1) (pe_num D.c3 rfl) (nomark _)) (pss_one (ps_ret (pe_meth (pv 0) T.cl m3 F3 hr b3 .nil pass0 (pa_cons (pe_ix ix_list (pv 2) pe_int (fun _ _ => rfl)) pa_nil)))) pss_nil)
      (pss_one (ps_ret (pe_meth0 (pv 0) T.cl m4 F4 hr b4 .nil pass0))))), ?_⟩
    cases s with
    | none => exact absurd (hb trivial) (by show ¬ false = true; decide)
    | some d =>
      have hD : DayAt C H p ca go true d := hD
      have g : DS.Good d := g
      obtain ⟨⟨dx, hp⟩, hne, _, _⟩ := id hD
      cases x <;> try exact False.elim ok
      case in_ t q =>
        obtain ⟨rfl, rfl⟩ := List.cons.inj hx
        refine ⟨_, rfl, rfl, _, rfl, iteT ?_⟩
        exact ⟨_, rfl, p, dx, _, rfl, hp, df_no (by decide +kernel) (by decide +kernel) (by decide +kernel), _, rfl, gl, _, 0, _, rfl, rfl, hgl, rfl, _, rfl, gl, _, 1, _, rfl, rfl, hgl, rfl, p, ca, go, d, t, q, rfl, hD, g, k⟩
      case out t q =>
        obtain ⟨rfl, rfl⟩ := List.cons.inj hx
        refine ⟨_, rfl, rfl, _, rfl, iteF ?_⟩
        refine ⟨_, rfl, rfl, _, rfl, iteT ?_⟩
        exact ⟨_, rfl, p, dx, _, rfl, hp, df_no (by decide +kernel) (by decide +kernel) (by decide +kernel), _, rfl, gl, _, 0, _, rfl, rfl, hgl, rfl, _, rfl, gl, _, 1, _, rfl, rfl, hgl, rfl, p, ca, go, d, t, q, rfl, hD, g, k⟩
      case close t =>
        obtain ⟨rfl, rfl⟩ := List.cons.inj hx
        refine ⟨_, rfl, rfl, _, rfl, iteF ?_⟩
        refine ⟨_, rfl, rfl, _, rfl, iteF ?_⟩
        refine ⟨_, rfl, rfl, _, rfl, iteT ?_⟩
        exact ⟨_, rfl, p, dx, _, rfl, hp, df_no (by decide +kernel) (by decide +kernel) (by decide +kernel), _, rfl, gl, _, 0, _, rfl, rfl, hgl, rfl, p, ca, go, d, t, rfl, hD, g, k⟩
      case undo  =>
        obtain ⟨rfl, rfl⟩ := List.cons.inj hx
        refine ⟨_, rfl, rfl, _, rfl, iteF ?_⟩
        refine ⟨_, rfl, rfl, _, rfl, iteF ?_⟩
        refine ⟨_, rfl, rfl, _, rfl, iteF ?_⟩
        exact ⟨_, rfl, p, dx, _, rfl, hp, df_no (by decide +kernel) (by decide +kernel) (by decide +kernel), p, ca, go, d, rfl, hD, g, k⟩
theorem scTellC : FnScope ["day", "call", "given"] ["day", "call", "given"] (defScope sTellC) := ⟨rfl, rfl, rfl, by decide +kernel, rfl, by decide +kernel, by decide +kernel⟩
theorem ok_TellC {f C : Addr} {fd : FuncData} (F : Fun K "tell_counts" "tell_counts" sTellC f fd) (T : Txt K mg C) (D : TxtD mg)
    (M1 : Mth P w K mg base C "present" ["self", "minute"] (spCall1 C .present))
    (M2 : Mth P w K mg base C "there" ["self"] (spCall0 C .there))
    (M3 : Mth P w K mg base C "kinds" ["self"] (spCall0 C .kinds))
    (M4 : Mth P w K mg base C "most" ["self"] (spCall0 C .most))
    (M5 : Mth P w K mg base C "busy" ["self"] (spCall0 C .busy))
    (M6 : Mth P w K mg base C "area" ["self", "since", "until"] (spCall2 C .area))
    (M7 : Mth P w K mg base C "before" ["self", "minute"] (spCall1 C .before))
    (M8 : Mth P w K mg base C "state" ["self"] (spCall0 C .state))
    : FnOk P w K mg base CX0 6 f fd ["day", "call", "given"] (spDoor K C okC True) := by
  obtain ⟨f1, fd1, F1, b1, m1⟩ := M1.ex
  obtain ⟨f2, fd2, F2, b2, m2⟩ := M2.ex
  obtain ⟨f3, fd3, F3, b3, m3⟩ := M3.ex
  obtain ⟨f4, fd4, F4, b4, m4⟩ := M4.ex
  obtain ⟨f5, fd5, F5, b5, m5⟩ := M5.ex
  obtain ⟨f6, fd6, F6, b6, m6⟩ := M6.ex
  obtain ⟨f7, fd7, F7, b7, m7⟩ := M7.ex
  obtain ⟨f8, fd8, F8, b8, m8⟩ := M8.ex
  refine F.ok scTellC (fun vs H Q E h => ?_) (fun cdv A outer s H vs Q E hr h => ?_)
  · obtain ⟨p, ca, go, gl, s, x, c, args, rfl, _⟩ := h
    rfl
  · obtain ⟨p, ca, go, gl, s, x, c, args, rfl, hx, ok, hgl, hb, hD, g, k⟩ := h
    refine ⟨_, pss_cons (ps_if (pt_cmpR op_eq (pv 1) (pe_num D.c4 rfl) (nomark _)) (pss_one (ps_ret (pe_meth (pv 0) T.cl m1 F1 hr b1 .nil pass0 (pa_cons (pe_ix ix_list (pv 2) pe_int (fun _ _ => rfl)) pa_nil)))) pss_nil)
      (pss_cons (ps_if (pt_cmpR op_eq (pv 1) (pe_num D.c5 rfl) (nomark _)) (pss_one (ps_ret (pe_meth0 (pv 0) T.cl m2 F2 hr b2 .nil pass0))) pss_nil)
      (pss_cons (ps_if (pt_cmpR op_eq (pv 1) (pe_num D.c6 rfl) (nomark _)) (pss_one (ps_ret (pe_meth0 (pv 0) T.cl m3 F3 hr b3 .nil pass0))) pss_nil)
      (pss_cons (ps_if (pt_cmpR op_eq (pv 1) (pe_num D.c7 rfl) (nomark _)) (pss_one (ps_ret (pe_meth0 (pv 0) T.cl m4 F4 hr b4 .nil pass0))) pss_nil)
      (pss_cons (ps_if (pt_cmpR op_eq (pv 1) (pe_num D.c8 rfl) (nomark _)) (pss_one (ps_ret (pe_meth0 (pv 0) T.cl m5 F5 hr b5 .nil pass0))) pss_nil)
      (pss_cons (ps_if (pt_cmpR op_eq (pv 1) (pe_num D.c9 rfl) (nomark _)) (pss_one (ps_ret (pe_meth (pv 0) T.cl m6 F6 hr b6 .nil pass0 (pa_cons (pe_ix ix_list (pv 2) pe_int (fun _ _ => rfl)) (pa_cons (pe_ix ix_list (pv 2) pe_int (fun _ _ => rfl)) pa_nil))))) pss_nil)
      (pss_cons (ps_if (pt_cmpR op_eq (pv 1) (pe_num D.c16 rfl) (nomark _)) (pss_one (ps_ret (pe_meth (pv 0) T.cl m7 F7 hr b7 .nil pass0 (pa_cons (pe_ix ix_list (pv 2) pe_int (fun _ _ => rfl)) pa_nil)))) pss_nil)
      (pss_one (ps_ret (pe_meth0 (pv 0) T.cl m8 F8 hr b8 .nil pass0))))))))), ?_⟩
    cases s with
    | none => exact absurd (hb trivial) (by show ¬ false = true; decide)
    | some d =>
      have hD : DayAt C H p ca go true d := hD
      have g : DS.Good d := g
      obtain ⟨⟨dx, hp⟩, hne, _, _⟩ := id hD
      cases x <;> try exact False.elim ok
      case present t =>
        obtain ⟨rfl, rfl⟩ := List.cons.inj hx
        refine ⟨_, rfl, rfl, _, rfl, iteT ?_⟩
        exact ⟨_, rfl, p, dx, _, rfl, hp, df_no (by decide +kernel) (by decide +kernel) (by decide +kernel), _, rfl, gl, _, 0, _, rfl, rfl, hgl, rfl, p, ca, go, d, t, rfl, hD, g, k⟩
      case there  =>
        obtain ⟨rfl, rfl⟩ := List.cons.inj hx
        refine ⟨_, rfl, rfl, _, rfl, iteF ?_⟩
        refine ⟨_, rfl, rfl, _, rfl, iteT ?_⟩
        exact ⟨_, rfl, p, dx, _, rfl, hp, df_no (by decide +kernel) (by decide +kernel) (by decide +kernel), p, ca, go, d, rfl, hD, g, k⟩
      case kinds  =>
        obtain ⟨rfl, rfl⟩ := List.cons.inj hx
        refine ⟨_, rfl, rfl, _, rfl, iteF ?_⟩
        refine ⟨_, rfl, rfl, _, rfl, iteF ?_⟩
        refine ⟨_, rfl, rfl, _, rfl, iteT ?_⟩
        exact ⟨_, rfl, p, dx, _, rfl, hp, df_no (by decide +kernel) (by decide +kernel) (by decide +kernel), p, ca, go, d, rfl, hD, g, k⟩
      case most  =>
        obtain ⟨rfl, rfl⟩ := List.cons.inj hx
        refine ⟨_, rfl, rfl, _, rfl, iteF ?_⟩
        refine ⟨_, rfl, rfl, _, rfl, iteF ?_⟩
        refine ⟨_, rfl, rfl, _, rfl, iteF ?_⟩
        refine ⟨_, rfl, rfl, _, rfl, iteT ?_⟩
        exact ⟨_, rfl, p, dx, _, rfl, hp, df_no (by decide +kernel) (by decide +kernel) (by decide +kernel), p, ca, go, d, rfl, hD, g, k⟩
      case busy  =>
        obtain ⟨rfl, rfl⟩ := List.cons.inj hx
        refine ⟨_, rfl, rfl, _, rfl, iteF ?_⟩
        refine ⟨_, rfl, rfl, _, rfl, iteF ?_⟩
        refine ⟨_, rfl, rfl, _, rfl, iteF ?_⟩
        refine ⟨_, rfl, rfl, _, rfl, iteF ?_⟩
        refine ⟨_, rfl, rfl, _, rfl, iteT ?_⟩
        exact ⟨_, rfl, p, dx, _, rfl, hp, df_no (by decide +kernel) (by decide +kernel) (by decide +kernel), p, ca, go, d, rfl, hD, g, k⟩
      case area t q =>
        obtain ⟨rfl, rfl⟩ := List.cons.inj hx
        refine ⟨_, rfl, rfl, _, rfl, iteF ?_⟩
        refine ⟨_, rfl, rfl, _, rfl, iteF ?_⟩
        refine ⟨_, rfl, rfl, _, rfl, iteF ?_⟩
        refine ⟨_, rfl, rfl, _, rfl, iteF ?_⟩
        refine ⟨_, rfl, rfl, _, rfl, iteF ?_⟩
        refine ⟨_, rfl, rfl, _, rfl, iteT ?_⟩
        exact ⟨_, rfl, p, dx, _, rfl, hp, df_no (by decide +kernel) (by decide +kernel) (by decide +kernel), _, rfl, gl, _, 0, _, rfl, rfl, hgl, rfl, _, rfl, gl, _, 1, _, rfl, rfl, hgl, rfl, p, ca, go, d, t, q, rfl, hD, g, k⟩
      case before t =>
        obtain ⟨rfl, rfl⟩ := List.cons.inj hx
        refine ⟨_, rfl, rfl, _, rfl, iteF ?_⟩
        refine ⟨_, rfl, rfl, _, rfl, iteF ?_⟩
        refine ⟨_, rfl, rfl, _, rfl, iteF ?_⟩
        refine ⟨_, rfl, rfl, _, rfl, iteF ?_⟩
        refine ⟨_, rfl, rfl, _, rfl, iteF ?_⟩
        refine ⟨_, rfl, rfl, _, rfl, iteF ?_⟩
        refine ⟨_, rfl, rfl, _, rfl, iteT ?_⟩
        exact ⟨_, rfl, p, dx, _, rfl, hp, df_no (by decide +kernel) (by decide +kernel) (by decide +kernel), _, rfl, gl, _, 0, _, rfl, rfl, hgl, rfl, p, ca, go, d, t, rfl, hD, g, k⟩
      case state  =>
        obtain ⟨rfl, rfl⟩ := List.cons.inj hx
        refine ⟨_, rfl, rfl, _, rfl, iteF ?_⟩
        refine ⟨_, rfl, rfl, _, rfl, iteF ?_⟩
        refine ⟨_, rfl, rfl, _, rfl, iteF ?_⟩
        refine ⟨_, rfl, rfl, _, rfl, iteF ?_⟩
        refine ⟨_, rfl, rfl, _, rfl, iteF ?_⟩
        refine ⟨_, rfl, rfl, _, rfl, iteF ?_⟩
        refine ⟨_, rfl, rfl, _, rfl, iteF ?_⟩
        exact ⟨_, rfl, p, dx, _, rfl, hp, df_no (by decide +kernel) (by decide +kernel) (by decide +kernel), p, ca, go, d, rfl, hD, g, k⟩
theorem scTellS : FnScope ["day", "call", "given"] ["day", "call", "given"] (defScope sTellS) := ⟨rfl, rfl, rfl, by decide +kernel, rfl, by decide +kernel, by decide +kernel⟩
theorem ok_TellS {f C : Addr} {fd : FuncData} (F : Fun K "tell_stays" "tell_stays" sTellS f fd) (T : Txt K mg C) (D : TxtD mg)
    (M1 : Mth P w K mg base C "total" ["self"] (spCall0 C .total))
    (M2 : Mth P w K mg base C "mean" ["self"] (spCall0 C .mean))
    (M3 : Mth P w K mg base C "first" ["self"] (spCall0 C .first))
    (M4 : Mth P w K mg base C "latest" ["self"] (spCall0 C .latest))
    (M5 : Mth P w K mg base C "as_if" ["self", "places"] (spAs C))
    (M6 : Mth P w K mg base C "kind" ["self", "asked"] (spCall1 C .kind))
    (M7 : Mth P w K mg base C "longer" ["self", "minutes"] (spCall1 C .longer))
    : FnOk P w K mg base CX0 6 f fd ["day", "call", "given"] (spDoor K C okS True) := by
  obtain ⟨f1, fd1, F1, b1, m1⟩ := M1.ex
  obtain ⟨f2, fd2, F2, b2, m2⟩ := M2.ex
  obtain ⟨f3, fd3, F3, b3, m3⟩ := M3.ex
  obtain ⟨f4, fd4, F4, b4, m4⟩ := M4.ex
  obtain ⟨f5, fd5, F5, b5, m5⟩ := M5.ex
  obtain ⟨f6, fd6, F6, b6, m6⟩ := M6.ex
  obtain ⟨f7, fd7, F7, b7, m7⟩ := M7.ex
  refine F.ok scTellS (fun vs H Q E h => ?_) (fun cdv A outer s H vs Q E hr h => ?_)
  · obtain ⟨p, ca, go, gl, s, x, c, args, rfl, _⟩ := h
    rfl
  · obtain ⟨p, ca, go, gl, s, x, c, args, rfl, hx, ok, hgl, hb, hD, g, k⟩ := h
    refine ⟨_, pss_cons (ps_if (pt_cmpR op_eq (pv 1) (pe_num D.c10 rfl) (nomark _)) (pss_one (ps_ret (pe_meth0 (pv 0) T.cl m1 F1 hr b1 .nil pass0))) pss_nil)
      (pss_cons (ps_if (pt_cmpR op_eq (pv 1) (pe_num D.c11 rfl) (nomark _)) (pss_one (ps_ret (pe_meth0 (pv 0) T.cl m2 F2 hr b2 .nil pass0))) pss_nil)
      (pss_cons (ps_if (pt_cmpR op_eq (pv 1) (pe_num D.c12 rfl) (nomark _)) (pss_one (ps_ret (pe_meth0 (pv 0) T.cl m3 F3 hr b3 .nil pass0))) pss_nil)
      (pss_cons (ps_if (pt_cmpR op_eq (pv 1) (pe_num D.c13 rfl) (nomark _)) (pss_one (ps_ret (pe_meth0 (pv 0) T.cl m4 F4 hr b4 .nil pass0))) pss_nil)
      (pss_cons (ps_if (pt_cmpR op_eq (pv 1) (pe_num D.c14 rfl) (nomark _)) (pss_one (ps_ret (pe_meth (pv 0) T.cl m5 F5 hr b5 .nil pass0 (pa_cons (pe_slice sl_list (pv 2) (po_some pe_int) po_none) pa_nil)))) pss_nil)
      (pss_cons (ps_if (pt_cmpR op_eq (pv 1) (pe_num D.c15 rfl) (nomark _)) (pss_one (ps_ret (pe_meth (pv 0) T.cl m6 F6 hr b6 .nil pass0 (pa_cons (pe_ix ix_list (pv 2) pe_int (fun _ _ => rfl)) pa_nil)))) pss_nil)
      (pss_one (ps_ret (pe_meth (pv 0) T.cl m7 F7 hr b7 .nil pass0 (pa_cons (pe_ix ix_list (pv 2) pe_int (fun _ _ => rfl)) pa_nil))))))))), ?_⟩
    cases s with
    | none => exact absurd (hb trivial) (by show ¬ false = true; decide)
    | some d =>
      have hD : DayAt C H p ca go true d := hD
      have g : DS.Good d := g
      obtain ⟨⟨dx, hp⟩, hne, _, _⟩ := id hD
      cases x <;> try exact False.elim ok
      case total  =>
        obtain ⟨rfl, rfl⟩ := List.cons.inj hx
        refine ⟨_, rfl, rfl, _, rfl, iteT ?_⟩
        exact ⟨_, rfl, p, dx, _, rfl, hp, df_no (by decide +kernel) (by decide +kernel) (by decide +kernel), p, ca, go, d, rfl, hD, g, k⟩
      case mean  =>
        obtain ⟨rfl, rfl⟩ := List.cons.inj hx
        refine ⟨_, rfl, rfl, _, rfl, iteF ?_⟩
        refine ⟨_, rfl, rfl, _, rfl, iteT ?_⟩
        exact ⟨_, rfl, p, dx, _, rfl, hp, df_no (by decide +kernel) (by decide +kernel) (by decide +kernel), p, ca, go, d, rfl, hD, g, k⟩
      case first  =>
        obtain ⟨rfl, rfl⟩ := List.cons.inj hx
        refine ⟨_, rfl, rfl, _, rfl, iteF ?_⟩
        refine ⟨_, rfl, rfl, _, rfl, iteF ?_⟩
        refine ⟨_, rfl, rfl, _, rfl, iteT ?_⟩
        exact ⟨_, rfl, p, dx, _, rfl, hp, df_no (by decide +kernel) (by decide +kernel) (by decide +kernel), p, ca, go, d, rfl, hD, g, k⟩
      case latest  =>
        obtain ⟨rfl, rfl⟩ := List.cons.inj hx
        refine ⟨_, rfl, rfl, _, rfl, iteF ?_⟩
        refine ⟨_, rfl, rfl, _, rfl, iteF ?_⟩
        refine ⟨_, rfl, rfl, _, rfl, iteF ?_⟩
        refine ⟨_, rfl, rfl, _, rfl, iteT ?_⟩
        exact ⟨_, rfl, p, dx, _, rfl, hp, df_no (by decide +kernel) (by decide +kernel) (by decide +kernel), p, ca, go, d, rfl, hD, g, k⟩
      case as_ ps =>
        obtain ⟨rfl, rfl⟩ := List.cons.inj hx
        refine ⟨_, rfl, rfl, _, rfl, iteF ?_⟩
        refine ⟨_, rfl, rfl, _, rfl, iteF ?_⟩
        refine ⟨_, rfl, rfl, _, rfl, iteF ?_⟩
        refine ⟨_, rfl, rfl, _, rfl, iteF ?_⟩
        refine ⟨_, rfl, rfl, _, rfl, iteT ?_⟩
        refine ⟨_, rfl, p, dx, _, rfl, hp, df_no (by decide +kernel) (by decide +kernel) (by decide +kernel), _, rfl, _, rfl, gl, _, rfl, hgl, fun c hc => ?_⟩
        have e : cutV ((((ps.length : Nat) : Int) :: DS.asInts ps).map V.int) (some 1) none = (DS.asInts ps).map V.int := cut_one _ _
        rw [e]
        have s1 : Same H (upd H c (.lst ((DS.asInts ps).map V.int))) := same_new hc
        exact ⟨p, ca, go, d, c, ps, rfl, hD.same s1, g, upd_same, ok, fun H' l ca' go' hl hl' hD' fr => k H' l ca' go' (s1.free hl) hl' hD' ⟨fun x o e n1 n2 n3 => fr.keep x o (s1 _ _ e) n1 n2 n3, fr.ca.imp id s1.free, fr.go.imp id s1.free⟩⟩
      case kind t =>
        obtain ⟨rfl, rfl⟩ := List.cons.inj hx
        refine ⟨_, rfl, rfl, _, rfl, iteF ?_⟩
        refine ⟨_, rfl, rfl, _, rfl, iteF ?_⟩
        refine ⟨_, rfl, rfl, _, rfl, iteF ?_⟩
        refine ⟨_, rfl, rfl, _, rfl, iteF ?_⟩
        refine ⟨_, rfl, rfl, _, rfl, iteF ?_⟩
        refine ⟨_, rfl, rfl, _, rfl, iteT ?_⟩
        exact ⟨_, rfl, p, dx, _, rfl, hp, df_no (by decide +kernel) (by decide +kernel) (by decide +kernel), _, rfl, gl, _, 0, _, rfl, rfl, hgl, rfl, p, ca, go, d, t, rfl, hD, g, k⟩
      case longer t =>
        obtain ⟨rfl, rfl⟩ := List.cons.inj hx
        refine ⟨_, rfl, rfl, _, rfl, iteF ?_⟩
        refine ⟨_, rfl, rfl, _, rfl, iteF ?_⟩
        refine ⟨_, rfl, rfl, _, rfl, iteF ?_⟩
        refine ⟨_, rfl, rfl, _, rfl, iteF ?_⟩
        refine ⟨_, rfl, rfl, _, rfl, iteF ?_⟩
        refine ⟨_, rfl, rfl, _, rfl, iteF ?_⟩
        exact ⟨_, rfl, p, dx, _, rfl, hp, df_no (by decide +kernel) (by decide +kernel) (by decide +kernel), _, rfl, gl, _, 0, _, rfl, rfl, hgl, rfl, p, ca, go, d, t, rfl, hD, g, k⟩
end
end DP

set_option autoImplicit false
set_option Elab.async false
set_option linter.all false
set_option maxRecDepth 100000
set_option maxHeartbeats 2000000
/-! end_of_call, answer_to. -/
namespace DP
open PySem PySem.Spec PyProof.Rows L2
/-- the sizes of the calls, the file's own tuple -/
def sizes : List Int := [0, 2, 2, 1, 1, 0, 0, 0, 0, 2, 0, 0, 0, 0, 1, 1, 1, 1, 0, 0]
structure Siz (K : PySem.W.Frag) (mg : Str → Option Value) : Prop where
  ex : ∃ a, mg "SIZES" = some (.ref a) ∧ ∀ H, SqT K H a (sizes.map V.int)
theorem flat_cons (x : Kqu6.Call) : ∃ c args, DS.flat x = c :: args := by
  cases x <;> exact ⟨_, _, rfl⟩
theorem size_of {x : Kqu6.Call} {c : Int} {args : List Int} (h : DS.flat x = c :: args) : (∃ ps : List Nat, c = 14 ∧ args = ((ps.length : Nat) : Int) :: DS.asInts ps) ∨ (c ≠ 14 ∧ atI (sizes.map V.int) c = some (V.int (args.length : Nat))) := by
  cases x
  case as_ ps =>
    obtain ⟨rfl, rfl⟩ := List.cons.inj h
    exact .inl ⟨ps, rfl, rfl⟩
  all_goals (obtain ⟨rfl, rfl⟩ := List.cons.inj h; exact .inr ⟨by decide, rfl⟩)
theorem drop_at {l : List Int} {n : Nat} {c : Int} {r : List Int} (h : l.drop n = c :: r) : l[n]? = some c ∧ l.drop (n + 1) = r := by
  constructor
  · have e : (l.drop n)[0]? = some c := by rw [h]; rfl
    rwa [List.getElem?_drop] at e
  · rw [← List.drop_drop, h]
    rfl
theorem step_none {x : Kqu6.Call} (h : x ≠ .start) : Kqu6.step none x = (none, .num (-11)) := by
  cases x <;> first | exact absurd rfl h | rfl
theorem flat_num {x : Kqu6.Call} {c : Int} {args : List Int} (h : DS.flat x = c :: args) : (x = .start ↔ c = 0) ∧ (okNote x ↔ 1 ≤ c ∧ c ≤ 3 ∨ c = 18) ∧ (okC x ↔ 4 ≤ c ∧ c ≤ 9 ∨ c = 16 ∨ c = 19) ∧ (okS x → 10 ≤ c ∧ c ≤ 15 ∨ c = 17) := by
  cases x <;> (obtain ⟨rfl, _⟩ := List.cons.inj h) <;> simp [okNote, okC, okS]
/-- where the call that stands at a place ends -/
def spEnd (K : PySem.W.Frag) : Sp := fun vs H Q _ => ∃ (a : Addr) (L : List Int) (pl : Nat) (x : Kqu6.Call) (c : Int) (args rest : List Int), vs = [.ref a, .int (pl : Nat)] ∧ SqL K H a (L.map V.int) ∧ DS.flat x = c :: args ∧ L.drop pl = c :: (args ++ rest) ∧ Q (.int (pl + 1 + args.length : Nat)) H
section
variable {P : Program} {w : World} {K : PySem.W.Frag} {mg : Str → Option Value} {base : Heap}
theorem scEnd : FnScope ["calls", "place", "end"] ["calls", "place"] (defScope sEndOf) := ⟨rfl, rfl, rfl, by decide +kernel, rfl, by decide +kernel, by decide +kernel⟩
theorem int_at {l : List Int} {i : Nat} {c : Int} (h : l[i]? = some c) : (l.map V.int)[i]? = some (V.int c) := by
  rw [List.getElem?_map, h]
  rfl
theorem ok_End {f C : Addr} {fd : FuncData} (F : Fun K "end_of_call" "end_of_call" sEndOf f fd) (T : Txt K mg C) (D : TxtD mg) (Z : Siz K mg) : FnOk P w K mg base CX0 1 f fd ["calls", "place"] (spEnd K) := by
  obtain ⟨za, zm, zs⟩ := Z.ex
  refine F.ok scEnd (fun vs H Q E h => ?_) (fun cdv A outer s H vs Q E hr h => ?_)
  · obtain ⟨a, L, pl, x, c, args, rest, rfl, _⟩ := h
    rfl
  · obtain ⟨a, L, pl, x, c, args, rest, rfl, hS, hx, hd, k⟩ := h
    refine ⟨_, pss_cons (ps_set (i := 2) scEnd.nd rfl (Or.inl rfl) (pe_op op_add (pe_op op_add (pv 1) pe_int) (pe_ix ix_tup (pe_glob (v := .ref za) rfl zm rfl) (pe_ix ix_list (pv 0) (pv 1) (fun _ _ => rfl)) (fun _ _ => rfl))))
      (pss_cons (ps_if (pt_cmpR op_eq (pe_ix ix_list (pv 0) (pv 1) (fun _ _ => rfl)) (pe_num D.c14 rfl) (nomark _)) (pss_one (ps_ret (pe_op op_add (pv 2) (pe_ix ix_list (pv 0) (pe_op op_add (pv 1) pe_int) (fun _ _ => rfl))))) pss_nil)
      (pss_one (ps_ret (pv 2)))), ?_⟩
    obtain ⟨hat, hdr⟩ := drop_at hd
    rcases size_of hx with ⟨ps, rfl, rfl⟩ | ⟨hc, hsz⟩
    · have hsz : atI (sizes.map V.int) 14 = some (V.int 1) := rfl
      obtain ⟨hat2, _⟩ := drop_at (show L.drop (pl + 1) = ((ps.length : Nat) : Int) :: (DS.asInts ps ++ rest) from hdr)
      refine ⟨_, rfl, _, _, rfl, rfl, _, rfl, _, rfl, a, _, _, _, rfl, rfl, hS, atI_nat (int_at hat), za, _, _, _, rfl, rfl, zs _, hsz, _, _, rfl, rfl, ?_⟩
      refine ⟨_, rfl, _, rfl, a, _, _, _, rfl, rfl, hS, atI_nat (int_at hat), rfl, _, rfl, iteT ?_⟩
      refine ⟨_, rfl, _, rfl, _, rfl, _, _, rfl, rfl, a, _, _, _, rfl, rfl, hS, (by rw [show (pl : Int) + 1 = ((pl + 1 : Nat) : Int) by omega]; exact atI_nat (int_at hat2)), _, _, rfl, rfl, ?_⟩
      have e : (pl : Int) + 1 + 1 + ((ps.length : Nat) : Int) = ((pl + 1 + (((ps.length : Nat) : Int) :: DS.asInts ps).length : Nat) : Int) := by
        rw [List.length_cons, DS.ints_length]
        omega
      rw [← e] at k
      exact k
    · refine ⟨_, rfl, _, _, rfl, rfl, _, rfl, _, rfl, a, _, _, _, rfl, rfl, hS, atI_nat (int_at hat), za, _, _, _, rfl, rfl, zs _, hsz, _, _, rfl, rfl, ?_⟩
      refine ⟨_, rfl, _, rfl, a, _, _, _, rfl, rfl, hS, atI_nat (int_at hat), rfl, _, rfl, ite2 (fun z => ?_) (fun z => ?_)⟩
      · have z : V.int c = V.int 14 := of_decide_eq_true z
        injection z with z
        exact absurd z hc
      · have e : (pl : Int) + 1 + ((args.length : Nat) : Int) = ((pl + 1 + args.length : Nat) : Int) := by omega
        rw [← e] at k
        exact ⟨_, rfl, k⟩
/-! ### answer_to -/
theorem scAT : FnScope ["day", "call", "given"] ["day", "call", "given"] (defScope sAnswerTo) := ⟨rfl, rfl, rfl, by decide +kernel, rfl, by decide +kernel, by decide +kernel⟩
theorem ok_answerTo {f C : Addr} {fd : FuncData} (F : Fun K "answer_to" "answer_to" sAnswerTo f fd) (T : Txt K mg C) (D : TxtD mg) (M1 : Mth P w K mg base C "start" ["self"] (spStart C))
    (D2 : Dfn P w K mg base "note" 6 ["day", "call", "given"] (spDoor K C okNote True)) (D3 : Dfn P w K mg base "tell_counts" 6 ["day", "call", "given"] (spDoor K C okC True)) (D4 : Dfn P w K mg base "tell_stays" 6 ["day", "call", "given"] (spDoor K C okS True)) :
    FnOk P w K mg base CX0 7 f fd ["day", "call", "given"] (spDoor K C okAll False) := by
  obtain ⟨f1, fd1, F1, b1, m1⟩ := M1.ex
  obtain ⟨f2, fd2, F2, b2, g2, k2⟩ := D2.ex
  obtain ⟨f3, fd3, F3, b3, g3, k3⟩ := D3.ex
  obtain ⟨f4, fd4, F4, b4, g4, k4⟩ := D4.ex
  refine F.ok scAT (fun vs H Q E h => ?_) (fun cdv A outer s H vs Q E hr h => ?_)
  · obtain ⟨p, ca, go, gl, s, x, c, args, rfl, _⟩ := h
    rfl
  · obtain ⟨p, ca, go, gl, s, x, c, args, rfl, hx, ok, hgl, hb, hD, g, k⟩ := h
    have hr5 : Room 5 _ := hr.mono (by decide)
    refine ⟨_, pss_cons (ps_if (pt_cmpR op_eq (pv 1) (pe_num D.c0 rfl) (nomark _)) (pss_one (ps_ret (pe_meth0 (pv 0) T.cl m1 F1 hr5 b1 .nil pass0))) pss_nil)
      (pss_cons (ps_if (pt_not (pt_val (pe_fld (pv 0) rfl))) (pss_one (ps_ret (pe_lst (pa_cons (pe_num T.r11 rfl) pa_nil)))) pss_nil)
      (pss_cons (ps_if (PW.pt (pw_or (pt_cmpR op_le (pv 1) (pe_num D.c3 rfl) (nomark _)) (pw_or1 (pt_cmpR op_eq (pv 1) (pe_num D.c18 rfl) (nomark _))))) (pss_one (ps_ret (pe_call F2 hr rfl g2 k2 b2 .nil pass0 (pa_cons (pv 0) (pa_cons (pv 1) (pa_cons (pv 2) pa_nil)))))) pss_nil)
      (pss_cons (ps_if (PW.pt (pw_or (pt_cmpR op_le (pv 1) (pe_num D.c9 rfl) (nomark _)) (pw_or (pt_cmpR op_eq (pv 1) (pe_num D.c16 rfl) (nomark _)) (pw_or1 (pt_cmpR op_eq (pv 1) (pe_num D.c19 rfl) (nomark _)))))) (pss_one (ps_ret (pe_call F3 hr rfl g3 k3 b3 .nil pass0 (pa_cons (pv 0) (pa_cons (pv 1) (pa_cons (pv 2) pa_nil)))))) pss_nil)
      (pss_one (ps_ret (pe_call F4 hr rfl g4 k4 b4 .nil pass0 (pa_cons (pv 0) (pa_cons (pv 1) (pa_cons (pv 2) pa_nil))))))))), ?_⟩
    obtain ⟨⟨dx, hp⟩, hne, _, _⟩ := id hD
    obtain ⟨n0, n1, n2, n3⟩ := flat_num hx
    refine ⟨_, rfl, rfl, _, rfl, ite2 (fun z => ?_) (fun z => ?_)⟩
    · have z : V.int c = V.int 0 := of_decide_eq_true z
      have zc : c = 0 := by injection z
      have ex := n0.mpr zc
      subst ex
      have e : Kqu6.step s .start = (some ⟨[], []⟩, .num 0) := by cases s <;> rfl
      rw [e] at k
      exact ⟨_, rfl, p, dx, _, rfl, hp, df_no (by decide +kernel) (by decide +kernel) (by decide +kernel), p, ca, go, _, _, rfl, hD, k⟩
    have nst : x ≠ .start := fun e => z (decide_eq_true (congrArg V.int (n0.mp e)))
    cases s with
    | none =>
      rw [step_none nst] at k
      refine ⟨_, rfl, p, C, dx, _, _, rfl, hp, T.cl, T.nS, df_started, _, rfl, iteT ⟨(by show 1 ≤ sizeLine; decide), fun l hl => ?_⟩⟩
      exact k _ l ca go hl upd_same (hD.same (same_new hl)) (Frm.of (same_new hl) p ca go)
    | some d =>
      refine ⟨_, rfl, p, C, dx, _, _, rfl, hp, T.cl, T.nS, df_started, _, rfl, iteF ?_⟩
      have toNote : (1 ≤ c ∧ c ≤ 3 ∨ c = 18) → okNote x := n1.mpr
      have toC : (4 ≤ c ∧ c ≤ 9 ∨ c = 16 ∨ c = 19) → okC x := n2.mpr
      have c0 : 1 ≤ c := by
        rcases ok with o | o | o | o
        · exact absurd o nst
        · have := n1.mp o; omega
        · have := n2.mp o; omega
        · have := n3 o; omega
      refine ⟨_, rfl, _, _, rfl, rfl, _, rfl, ite2 (fun y => ?_) (fun y => ?_)⟩
      · have y := of_decide_eq_true y
        exact ⟨_, rfl, _, rfl, _, rfl, p, ca, go, gl, some d, x, c, args, rfl, hx, n1.mpr (by omega), hgl, fun _ => rfl, hD, g, k⟩
      have y3 : ¬ c ≤ 3 := fun q => y (decide_eq_true q)
      refine ⟨_, rfl, rfl, _, rfl, ite2 (fun y => ?_) (fun y => ?_)⟩
      · have y : V.int c = V.int 18 := of_decide_eq_true y
        injection y with y
        exact ⟨_, rfl, _, rfl, _, rfl, p, ca, go, gl, some d, x, c, args, rfl, hx, n1.mpr (by omega), hgl, fun _ => rfl, hD, g, k⟩
      have y18 : ¬ c = 18 := fun q => y (decide_eq_true (congrArg V.int q))
      refine ⟨_, rfl, _, _, rfl, rfl, _, rfl, ite2 (fun y => ?_) (fun y => ?_)⟩
      · have y := of_decide_eq_true y
        exact ⟨_, rfl, _, rfl, _, rfl, p, ca, go, gl, some d, x, c, args, rfl, hx, n2.mpr (by omega), hgl, fun _ => rfl, hD, g, k⟩
      have y9 : ¬ c ≤ 9 := fun q => y (decide_eq_true q)
      refine ⟨_, rfl, rfl, _, rfl, ite2 (fun y => ?_) (fun y => ?_)⟩
      · have y : V.int c = V.int 16 := of_decide_eq_true y
        injection y with y
        exact ⟨_, rfl, _, rfl, _, rfl, p, ca, go, gl, some d, x, c, args, rfl, hx, n2.mpr (by omega), hgl, fun _ => rfl, hD, g, k⟩
      have y16 : ¬ c = 16 := fun q => y (decide_eq_true (congrArg V.int q))
      refine ⟨_, rfl, rfl, _, rfl, ite2 (fun y => ?_) (fun y => ?_)⟩
      · have y : V.int c = V.int 19 := of_decide_eq_true y
        injection y with y
        exact ⟨_, rfl, _, rfl, _, rfl, p, ca, go, gl, some d, x, c, args, rfl, hx, n2.mpr (by omega), hgl, fun _ => rfl, hD, g, k⟩
      have y19 : ¬ c = 19 := fun q => y (decide_eq_true (congrArg V.int q))
      have os : okS x := by
        rcases ok with o | o | o | o
        · exact absurd o nst
        · have := n1.mp o; omega
        · have := n2.mp o; omega
        · exact o
      exact ⟨_, rfl, _, rfl, _, rfl, p, ca, go, gl, some d, x, c, args, rfl, hx, os, hgl, fun _ => rfl, hD, g, k⟩
end
end DP

set_option autoImplicit false
set_option Elab.async false
set_option linter.all false
set_option maxRecDepth 100000
set_option maxHeartbeats 2000000
/-! answers: the walk over the list of calls. -/
namespace DP
open PySem PySem.Spec PyProof.Rows L2
/-- answers' promise, of lists whose calls are all among ok -/
def spAnswers (K : PySem.W.Frag) (ok : Kqu6.Call → Prop) : Sp := fun vs H Q _ => ∃ (a : Addr) (xs : List Kqu6.Call), vs = [.ref a] ∧ SqL K H a ((xs.flatMap DS.flat).map V.int) ∧ (∀ x ∈ xs, ok x) ∧ (∀ x ∈ xs, DS.Bd x) ∧ xs.length ≤ 200 ∧ (xs.flatMap DS.flat).length ≤ 12400 ∧
  ∀ (H' : Hp) (l : Addr), H' l = some (.lst ((DS.tells none xs).map V.int)) → Q (.ref l) H'
theorem DayAt.away {C : Addr} {H : Hp} {p ca go c : Addr} {b : Bool} {d : Kqu6.Day} {xs ys : List V} (h : DayAt C H p ca go b d) (hc : H c = some (.lst xs)) (n1 : c ≠ ca) (n2 : c ≠ go) : DayAt C (upd H c (.lst ys)) p ca go b d := by
  obtain ⟨⟨dx, h1⟩, h2, ⟨ps, h3, h4⟩, qs, h5, h6⟩ := h
  have k := lst_tups (ys := ys) hc
  exact ⟨⟨dx, (upd_ne (ne_of h1 hc (by intro q; cases q))).trans h1⟩, h2, ⟨ps, (upd_ne n1.symm).trans h3, h4.mono k⟩, qs, (upd_ne n2.symm).trans h5, h6.mono k⟩
section
variable {P : Program} {w : World} {K : PySem.W.Frag} {mg : Str → Option Value} {base : Heap}
theorem scAns : FnScope ["calls", "day", "told", "place", "behind", "answer"] ["calls"] (defScope sAnswers) := ⟨rfl, rfl, rfl, by decide +kernel, rfl, by decide +kernel, by decide +kernel⟩
theorem ok_answers {f C f1 : Addr} {fd fd1 : FuncData} (F : Fun K "answers" "answers" sAnswers f fd) (T : Txt K mg C) (M : Mk K C f1) (F1 : FnOk P w K mg base CX0 1 f1 fd1 ["self"] (spInit C)) (b1 : Binds K fd1 ["self"] [])
    (D2 : Dfn P w K mg base "answer_to" 7 ["day", "call", "given"] (spDoor K C okAll False)) (D3 : Dfn P w K mg base "end_of_call" 1 ["calls", "place"] (spEnd K)) : FnOk P w K mg base CX0 8 f fd ["calls"] (spAnswers K okAll) := by
  obtain ⟨f2, fd2, F2, b2, g2, k2⟩ := D2.ex
  obtain ⟨f3, fd3, F3, b3, g3, k3⟩ := D3.ex
  refine F.ok scAns (fun vs H Q E h => ?_) (fun cdv A outer s H vs Q E hr h => ?_)
  · obtain ⟨a, xs, rfl, _⟩ := h
    rfl
  · obtain ⟨a, xs, rfl, hS, hok, hbd, hlen, hfl, k⟩ := h
    have hr2 : Room 2 _ := hr.mono (by decide)
    have hr1 : Room 1 _ := hr.mono (by decide)
    refine ⟨_, pss_cons (ps_set (i := 1) scAns.nd rfl (Or.inl rfl) (pe_make0 M F1 hr2 rfl T.mgC b1 .nil pass0))
      (pss_cons (ps_set (i := 2) scAns.nd rfl (Or.inl rfl) (pe_lst pa_nil))
      (pss_cons (ps_set (i := 3) scAns.nd rfl (Or.inl rfl) pe_int)
      (pss_cons (ps_while PassesOwn.never (pt_cmpR op_lt (pv 3) (pe_callB call_len_seq (by rfl) T.len PySem.boot_len (pa_cons (pv 0) pa_nil)) (nomark _))
        (pss_cons (ps_set (i := 4) scAns.nd rfl (Or.inl rfl) (pe_call F3 hr1 rfl g3 k3 b3 .nil pass0 (pa_cons (pv 0) (pa_cons (pv 3) pa_nil))))
        (pss_cons (ps_set (i := 5) scAns.nd rfl (Or.inl rfl) (pe_call F2 hr rfl g2 k2 b2 .nil pass0 (pa_cons (pv 1) (pa_cons (pe_ix ix_list (pv 0) (pv 3) (fun _ _ => rfl)) (pa_cons (pe_slice sl_list (pv 0) (po_some (pe_op op_add (pv 3) pe_int)) (po_some (pv 4))) pa_nil)))))
        (pss_cons (ps_expr (pe_bm PySem.F.plainAttrs_list PySem.F.slot_list_append PySem.F.type_list_append mt_append (pv 2) (pa_cons (pe_callB call_len_seq (by rfl) T.len PySem.boot_len (pa_cons (pv 5) pa_nil)) pa_nil)))
        (pss_cons (ps_expr (pe_bm PySem.F.plainAttrs_list PySem.F.slot_list_extend PySem.F.type_list_extend mt_extend (pv 2) (pa_cons (pv 5) pa_nil)))
        (pss_one (ps_set (i := 3) scAns.nd rfl (Or.inl rfl) (pv 4))))))))
      (pss_one (ps_ret (pv 2)))))), ?_⟩
    intro p dx np nd ne
    refine ⟨p, dx, rfl, upd_same, fun H1 ca go hD1 kp hca0 hgo0 => ⟨rfl, ?_⟩⟩
    have s1 : Same H H1 := Same.made np nd kp
    have hHca : H ca = none := by
      have z := hca0
      rw [upd_ne (fun q => by rw [q, upd_same] at z; cases z)] at z
      rw [upd_ne (fun q => by rw [q, upd_same] at z; cases z)] at z
      exact z
    have hHgo : H go = none := by
      have z := hgo0
      rw [upd_ne (fun q => by rw [q, upd_same] at z; cases z)] at z
      rw [upd_ne (fun q => by rw [q, upd_same] at z; cases z)] at z
      exact z
    refine ⟨Nat.zero_le _, fun tl htl => ?_⟩
    have s2 : Same H1 (upd H1 tl (.lst [])) := same_new htl
    have hHtl : H tl = none := s1.free htl
    obtain ⟨⟨dx1, hp1⟩, _, ⟨pi1, hca1, _⟩, po1, hgo1, _⟩ := id hD1
    -- the walk
    refine ⟨fun m σ H' => ∃ (rest : List Kqu6.Call) (st : Option Kqu6.Day) (tl' : List Int) (ca go : Addr) (pl : Nat) (c4 c5 : Option V), m = rest.length ∧ σ = [some (.ref a), some (.ref p), some (.ref tl), some (.int (pl : Nat)), c4, c5] ∧
      (xs.flatMap DS.flat).drop pl = rest.flatMap DS.flat ∧ pl ≤ (xs.flatMap DS.flat).length ∧ (∀ x ∈ rest, okAll x) ∧ rest.length ≤ 200 ∧ tl'.length + 6 * rest.length ≤ 1200 ∧ DS.tells none xs = tl' ++ DS.tells st rest ∧
      H' tl = some (.lst (tl'.map V.int)) ∧ DayAt C H' p ca go (begun st) (dayOf st) ∧ DS.GoodS st ∧ tl ≠ p ∧ tl ≠ ca ∧ tl ≠ go ∧ Same H H' ∧ H ca = none ∧ H go = none, ⟨xs.length, xs, none, [], ca, go, 0, none, none, rfl, rfl, rfl, Nat.zero_le _, hok, hlen, ?_, rfl, upd_same, hD1.same s2, trivial, ?_, ?_, ?_, s1.trans s2, hHca, hHgo⟩, ?_⟩
    · show 0 + 6 * xs.length ≤ 1200
      omega
    · exact fun q => by rw [q, hp1] at htl; cases htl
    · exact fun q => by rw [q, hca1] at htl; cases htl
    · exact fun q => by rw [q, hgo1] at htl; cases htl
    rintro m σ H2 ⟨rest, st, tl', ca2, go2, pl, c4, c5, rfl, rfl, hdrop, hpl, hok2, hl2, hb2, htells, htl2, hD2, g2', n1, n2, n3, s3, hca3, hgo3⟩
    have hS2 := s3.seq hS
    refine ⟨_, rfl, _, rfl, a, _, rfl, .inl hS2, _, _, rfl, rfl, _, rfl, ite2 (fun z => ?_) (fun z => ?_)⟩
    · have z := of_decide_eq_true z
      rw [List.length_map] at z
      cases rest with
      | nil =>
        exfalso
        have : ((xs.flatMap DS.flat).drop pl).length = 0 := by rw [hdrop]; rfl
        rw [List.length_drop] at this
        omega
      | cons x rest =>
        obtain ⟨c, args, hx⟩ := flat_cons x
        have hd' : (xs.flatMap DS.flat).drop pl = c :: (args ++ rest.flatMap DS.flat) := by
          rw [hdrop, List.flatMap_cons, hx]
          rfl
        obtain ⟨hat, hdr⟩ := drop_at hd'
        have okx := hok2 x (List.mem_cons_self ..)
        have hlenr : pl + 1 + args.length + (rest.flatMap DS.flat).length = (xs.flatMap DS.flat).length := by
          have e : ((xs.flatMap DS.flat).drop pl).length = (c :: (args ++ rest.flatMap DS.flat)).length := by rw [hd']
          rw [List.length_drop, List.length_cons, List.length_append] at e
          omega
        refine ⟨fun σ' H' => ∃ (st : Option Kqu6.Day) (tl' : List Int) (ca go : Addr) (pl : Nat) (c4 c5 : Option V), σ' = [some (.ref a), some (.ref p), some (.ref tl), some (.int (pl : Nat)), c4, c5] ∧
          (xs.flatMap DS.flat).drop pl = rest.flatMap DS.flat ∧ pl ≤ (xs.flatMap DS.flat).length ∧ tl'.length + 6 * rest.length ≤ 1200 ∧ DS.tells none xs = tl' ++ DS.tells st rest ∧
          H' tl = some (.lst (tl'.map V.int)) ∧ DayAt C H' p ca go (begun st) (dayOf st) ∧ DS.GoodS st ∧ tl ≠ p ∧ tl ≠ ca ∧ tl ≠ go ∧ Same H H' ∧ H ca = none ∧ H go = none,
          fun σ' H' ⟨st, tl', ca, go, pl, c4, c5, h1, h2, h3, h4, h5, h6⟩ => ⟨rest.length, Nat.lt_succ_self _, rest, st, tl', ca, go, pl, c4, c5, rfl, h1, h2, h3, fun y hy => hok2 y (List.mem_cons_of_mem _ hy), by have : (x :: rest).length = rest.length + 1 := rfl; omega, h4, h5, h6⟩, ?_⟩
        refine ⟨_, rfl, _, rfl, a, _, pl, x, c, args, rest.flatMap DS.flat, rfl, hS2, hx, hd', ?_⟩
        refine ⟨_, rfl, _, rfl, _, rfl, a, _, _, _, rfl, rfl, hS2, atI_nat (j := pl) (v := V.int c) (int_at hat), ?_⟩
        refine ⟨_, rfl, _, rfl, _, _, rfl, rfl, _, rfl, _, rfl, _, rfl, a, _, rfl, hS2, fun gl hgl => ?_⟩
        have ecut : cutV ((xs.flatMap DS.flat).map V.int) (some ((pl : Int) + 1)) (some ((pl + 1 + args.length : Nat) : Int)) = args.map V.int := by
          unfold cutV
          rw [show (pl : Int) + 1 = ((pl + 1 : Nat) : Int) by omega, HT.sIx_nat, HT.sIx_nat, List.length_map]
          have e1 : min (pl + 1) (xs.flatMap DS.flat).length = pl + 1 := by omega
          have e2 : min (pl + 1 + args.length) (xs.flatMap DS.flat).length = pl + 1 + args.length := by omega
          rw [e1, e2, ← List.map_drop, hdr, ← List.map_take, show pl + 1 + args.length - (pl + 1) = args.length by omega]
          congr 1
          exact List.take_left' rfl
        rw [ecut]
        have s4 : Same H2 (upd H2 gl (.lst (args.map V.int))) := same_new hgl
        refine ⟨p, ca2, go2, gl, st, x, c, args, rfl, hx, okx, SqL.of upd_same, False.elim, hD2.same s4, g2', fun H5 an ca5 go5 hnew han hD5 fr => ?_⟩
        have tl5 : H5 tl = some (.lst (tl'.map V.int)) := fr.keep _ _ (s4 _ _ htl2) n1 n2 n3
        have s5 : Same H H5 := fun y o e => fr.keep y o (s4 _ _ (s3 _ _ e)) (ne_of_none e np) (ne_of_none e hca3) (ne_of_none e hgo3)
        have hHs : ∀ q, H2 q = none → H q = none := fun q => s3.free
        have hca5 : H ca5 = none := by
          rcases fr.ca with q | q
          · rw [q]; exact hca3
          · exact s3.free (s4.free q)
        have hgo5 : H go5 = none := by
          rcases fr.go with q | q
          · rw [q]; exact hgo3
          · exact s3.free (s4.free q)
        have n25 : tl ≠ ca5 := by
          rcases fr.ca with q | q
          · rw [q]; exact n2
          · exact ne_of_none (s4 _ _ htl2) q
        have n35 : tl ≠ go5 := by
          rcases fr.go with q | q
          · rw [q]; exact n3
          · exact ne_of_none (s4 _ _ htl2) q
        have hal := DS.tell_len st x
        have hrl : (x :: rest).length = rest.length + 1 := rfl
        refine ⟨_, rfl, .inl ⟨rfl, _, SqL.of tl5⟩, _, rfl, an, _, rfl, .inl (SqL.of han), tl, _, _, rfl, rfl, tl5, small' (by rw [List.length_map]; omega), ?_⟩
        have nan : an ≠ tl := (ne_of_none (s4 _ _ htl2) hnew).symm
        refine ⟨_, rfl, .inl ⟨rfl, _, SqL.of upd_same⟩, _, rfl, tl, an, _, _, rfl, rfl, upd_same, (upd_ne nan).trans han, small ?_, ?_⟩
        · rw [List.length_append, List.length_map]
          unfold ansV
          rw [List.length_map]
          show tl'.length + 1 + _ ≤ _
          omega
        refine ⟨_, rfl, (Kqu6.step st x).1, tl' ++ (((Kqu6Neutral.tell (Kqu6.step st x).2).length : Int) :: Kqu6Neutral.tell (Kqu6.step st x).2), ca5, go5, pl + 1 + args.length, _, _, rfl, ?_, by omega, ?_, ?_, ?_, ?_, ?_, n1, n25, n35, ?_, hca5, hgo5⟩
        · rw [Nat.add_assoc, ← List.drop_drop, ← List.drop_drop, hd']
          show List.drop args.length (args ++ _) = _
          exact List.drop_left' rfl
        · rw [List.length_append, List.length_cons]
          omega
        · rw [htells, List.append_assoc]
          rfl
        · rw [upd_same, List.map_append]
          unfold ansV
          rw [List.length_map, List.append_assoc]
          rfl
        · exact (hD5.away tl5 n25 n35).away upd_same n25 n35
        · exact DS.good_step st x g2'
        · exact (s5.upd hHtl).upd hHtl
    · have z : ¬ (pl : Int) < ((xs.flatMap DS.flat).map V.int).length := fun q => z (decide_eq_true q)
      rw [List.length_map] at z
      have hr0 : rest = [] := by
        cases rest with
        | nil => rfl
        | cons x r =>
          exfalso
          obtain ⟨c, args, hx⟩ := flat_cons x
          have : ((xs.flatMap DS.flat).drop pl).length = (DS.flat x ++ r.flatMap DS.flat).length := by rw [hdrop]; rfl
          rw [List.length_drop, hx, List.length_append, List.length_cons] at this
          omega
      subst hr0
      refine ⟨_, rfl, k H2 tl ?_⟩
      rw [htl2, htells]
      show _ = some (HO.lst ((tl' ++ []).map V.int))
      rw [List.append_nil]
end
end DP

set_option autoImplicit false
set_option Elab.async false
set_option linter.all false
set_option maxRecDepth 100000
set_option maxHeartbeats 2000000
namespace DP
open PySem PySem.Spec PyProof.Rows L2
theorem all_mk {P : Program} {w : World} {K : PySem.W.Frag} {h : Heap} {mg : Str → Option Value} {fa C f1 f2 f3 f4 f5 f6 f7 f8 f9 f10 f11 f12 f13 f14 f15 f16 f17 f18 f19 f20 f21 f22 f23 f24 f25 f26 f27 f28 f29 f30 f31 f32 f33 f34 f35 f36 f37 f38 f39 f40 f41 f42 f43 fS : Addr} (X : K.In h) (G : h.Ns mainGlobals mg) (hfa : mg "answers" = some (.ref fa))
    {od1 an1 od2 an2 od3 an3 od4 an4 od5 an5 od6 an6 od7 an7 od8 an8 od9 an9 od10 an10 od11 an11 od12 an12 od13 an13 od14 an14 od15 an15 od16 an16 od17 an17 od18 an18 od19 an19 od20 an20 od21 an21 od22 an22 od23 an23 od24 an24 od25 an25 od26 an26 od27 an27 od28 an28 od29 an29 od30 an30 od31 an31 od32 an32 od33 an33 od34 an34 od35 an35 od36 an36 od37 an37 od38 an38 od39 an39 od40 an40 od41 an41 od42 an42 od43 an43 odS : Option Addr} {sl1 sl2 sl3 sl4 sl5 sl6 sl7 sl8 sl9 sl10 sl11 sl12 sl13 sl14 sl15 sl16 sl17 sl18 sl19 sl20 sl21 sl22 sl23 sl24 sl25 sl26 sl27 sl28 sl29 sl30 sl31 sl32 sl33 sl34 sl35 sl36 sl37 sl38 sl39 sl40 sl41 sl42 sl43 slS : Array (Option Value)} {oc1 kV1 dc1 pm1 cd1 ct1 oc2 kV2 dc2 pm2 cd2 ct2 oc3 kV3 dc3 pm3 cd3 ct3 oc4 kV4 dc4 pm4 cd4 ct4 oc5 kV5 dc5 pm5 cd5 ct5 oc6 kV6 dc6 pm6 cd6 ct6 oc7 kV7 dc7 pm7 cd7 ct7 oc8 kV8 dc8 pm8 cd8 ct8 oc9 kV9 dc9 pm9 cd9 ct9 oc10 kV10 dc10 pm10 cd10 ct10 oc11 kV11 dc11 pm11 cd11 ct11 oc12 kV12 dc12 pm12 cd12 ct12 oc13 kV13 dc13 pm13 cd13 ct13 oc14 kV14 dc14 pm14 cd14 ct14 oc15 kV15 dc15 pm15 cd15 ct15 oc16 kV16 dc16 pm16 cd16 ct16 oc17 kV17 dc17 pm17 cd17 ct17 oc18 kV18 dc18 pm18 cd18 ct18 oc19 kV19 dc19 pm19 cd19 ct19 oc20 kV20 dc20 pm20 cd20 ct20 oc21 kV21 dc21 pm21 cd21 ct21 oc22 kV22 dc22 pm22 cd22 ct22 oc23 kV23 dc23 pm23 cd23 ct23 oc24 kV24 dc24 pm24 cd24 ct24 oc25 kV25 dc25 pm25 cd25 ct25 oc26 kV26 dc26 pm26 cd26 ct26 oc27 kV27 dc27 pm27 cd27 ct27 oc28 kV28 dc28 pm28 cd28 ct28 oc29 kV29 dc29 pm29 cd29 ct29 oc30 kV30 dc30 pm30 cd30 ct30 oc31 kV31 dc31 pm31 cd31 ct31 oc32 kV32 dc32 pm32 cd32 ct32 oc33 kV33 dc33 pm33 cd33 ct33 oc34 kV34 dc34 pm34 cd34 ct34 oc35 kV35 dc35 pm35 cd35 ct35 oc36 kV36 dc36 pm36 cd36 ct36 oc37 kV37 dc37 pm37 cd37 ct37 oc38 kV38 dc38 pm38 cd38 ct38 oc39 kV39 dc39 pm39 cd39 ct39 oc40 kV40 dc40 pm40 cd40 ct40 oc41 kV41 dc41 pm41 cd41 ct41 oc42 kV42 dc42 pm42 cd42 ct42 oc43 kV43 dc43 pm43 cd43 ct43 : Value} {t0 t1 t2 t3 t4 t5 t6 t7 t8 t9 t10 t11 t12 t13 t14 t15 t16 t17 t18 t19 t20 t21 t22 t23 t24 t25 t26 t27 w0 w1 w2 w3 w4 w5 w6 w7 w8 w9 w10 w11 w12 w13 w14 w15 w16 w17 w18 w19 : Tok} {nSz : Nat}
    (aC : PySem.W.nsIn K mainGlobals "Day" = some (some (.ref C)))
    (a1 : PySem.W.findIn K (.ref C) "__init__" = some (some (.ref f1)))
    (i1 : PySem.W.isFn K (.ref f1) = true)
    (l1 : K.lookup f1 = some ⟨oc1, od1, .func (PySem.W.fnOf "__init__" "Day.__init__" (defArgs sInit) (defBody sInit) (defScope sInit) .none kV1 dc1 pm1 an1 cd1 ct1), sl1⟩)
    (c1 : PySem.W.codeIn K cd1 "Day.__init__" = true)
    (k1 : PySem.W.keepIn K (.ref f1) = true)
    (a2 : PySem.W.findIn K (.ref C) "last_noted" = some (some (.ref f2)))
    (i2 : PySem.W.isFn K (.ref f2) = true)
    (l2 : K.lookup f2 = some ⟨oc2, od2, .func (PySem.W.fnOf "last_noted" "Day.last_noted" (defArgs sLast) (defBody sLast) (defScope sLast) .none kV2 dc2 pm2 an2 cd2 ct2), sl2⟩)
    (c2 : PySem.W.codeIn K cd2 "Day.last_noted" = true)
    (k2 : PySem.W.keepIn K (.ref f2) = true)
    (a3 : PySem.W.findIn K (.ref C) "came_minutes" = some (some (.ref f3)))
    (i3 : PySem.W.isFn K (.ref f3) = true)
    (l3 : K.lookup f3 = some ⟨oc3, od3, .func (PySem.W.fnOf "came_minutes" "Day.came_minutes" (defArgs sCameM) (defBody sCameM) (defScope sCameM) .none kV3 dc3 pm3 an3 cd3 ct3), sl3⟩)
    (c3 : PySem.W.codeIn K cd3 "Day.came_minutes" = true)
    (k3 : PySem.W.keepIn K (.ref f3) = true)
    (a4 : PySem.W.findIn K (.ref C) "gone_minutes" = some (some (.ref f4)))
    (i4 : PySem.W.isFn K (.ref f4) = true)
    (l4 : K.lookup f4 = some ⟨oc4, od4, .func (PySem.W.fnOf "gone_minutes" "Day.gone_minutes" (defArgs sGoneM) (defBody sGoneM) (defScope sGoneM) .none kV4 dc4 pm4 an4 cd4 ct4), sl4⟩)
    (c4 : PySem.W.codeIn K cd4 "Day.gone_minutes" = true)
    (k4 : PySem.W.keepIn K (.ref f4) = true)
    (a5 : PySem.W.findIn K (.ref C) "is_wrong_minute" = some (some (.ref f5)))
    (i5 : PySem.W.isFn K (.ref f5) = true)
    (l5 : K.lookup f5 = some ⟨oc5, od5, .func (PySem.W.fnOf "is_wrong_minute" "Day.is_wrong_minute" (defArgs sWrongM) (defBody sWrongM) (defScope sWrongM) .none kV5 dc5 pm5 an5 cd5 ct5), sl5⟩)
    (c5 : PySem.W.codeIn K cd5 "Day.is_wrong_minute" = true)
    (k5 : PySem.W.keepIn K (.ref f5) = true)
    (a6 : PySem.W.findIn K (.ref C) "is_wrong_note" = some (some (.ref f6)))
    (i6 : PySem.W.isFn K (.ref f6) = true)
    (l6 : K.lookup f6 = some ⟨oc6, od6, .func (PySem.W.fnOf "is_wrong_note" "Day.is_wrong_note" (defArgs sWrongN) (defBody sWrongN) (defScope sWrongN) .none kV6 dc6 pm6 an6 cd6 ct6), sl6⟩)
    (c6 : PySem.W.codeIn K cd6 "Day.is_wrong_note" = true)
    (k6 : PySem.W.keepIn K (.ref f6) = true)
    (a7 : PySem.W.findIn K (.ref C) "there_now" = some (some (.ref f7)))
    (i7 : PySem.W.isFn K (.ref f7) = true)
    (l7 : K.lookup f7 = some ⟨oc7, od7, .func (PySem.W.fnOf "there_now" "Day.there_now" (defArgs sThereNow) (defBody sThereNow) (defScope sThereNow) .none kV7 dc7 pm7 an7 cd7 ct7), sl7⟩)
    (c7 : PySem.W.codeIn K cd7 "Day.there_now" = true)
    (k7 : PySem.W.keepIn K (.ref f7) = true)
    (a8 : PySem.W.findIn K (.ref C) "all_stays" = some (some (.ref f8)))
    (i8 : PySem.W.isFn K (.ref f8) = true)
    (l8 : K.lookup f8 = some ⟨oc8, od8, .func (PySem.W.fnOf "all_stays" "Day.all_stays" (defArgs sAll) (defBody sAll) (defScope sAll) .none kV8 dc8 pm8 an8 cd8 ct8), sl8⟩)
    (c8 : PySem.W.codeIn K cd8 "Day.all_stays" = true)
    (k8 : PySem.W.keepIn K (.ref f8) = true)
    (a9 : PySem.W.findIn K (.ref C) "there_by_kind" = some (some (.ref f9)))
    (i9 : PySem.W.isFn K (.ref f9) = true)
    (l9 : K.lookup f9 = some ⟨oc9, od9, .func (PySem.W.fnOf "there_by_kind" "Day.there_by_kind" (defArgs sByKind) (defBody sByKind) (defScope sByKind) .none kV9 dc9 pm9 an9 cd9 ct9), sl9⟩)
    (c9 : PySem.W.codeIn K cd9 "Day.there_by_kind" = true)
    (k9 : PySem.W.keepIn K (.ref f9) = true)
    (a10 : PySem.W.findIn K (.ref C) "there_by_minute" = some (some (.ref f10)))
    (i10 : PySem.W.isFn K (.ref f10) = true)
    (l10 : K.lookup f10 = some ⟨oc10, od10, .func (PySem.W.fnOf "there_by_minute" "Day.there_by_minute" (defArgs sByMin) (defBody sByMin) (defScope sByMin) .none kV10 dc10 pm10 an10 cd10 ct10), sl10⟩)
    (c10 : PySem.W.codeIn K cd10 "Day.there_by_minute" = true)
    (k10 : PySem.W.keepIn K (.ref f10) = true)
    (a11 : PySem.W.findIn K (.ref C) "start" = some (some (.ref f11)))
    (i11 : PySem.W.isFn K (.ref f11) = true)
    (l11 : K.lookup f11 = some ⟨oc11, od11, .func (PySem.W.fnOf "start" "Day.start" (defArgs sStart) (defBody sStart) (defScope sStart) .none kV11 dc11 pm11 an11 cd11 ct11), sl11⟩)
    (c11 : PySem.W.codeIn K cd11 "Day.start" = true)
    (k11 : PySem.W.keepIn K (.ref f11) = true)
    (a12 : PySem.W.findIn K (.ref C) "come" = some (some (.ref f12)))
    (i12 : PySem.W.isFn K (.ref f12) = true)
    (l12 : K.lookup f12 = some ⟨oc12, od12, .func (PySem.W.fnOf "come" "Day.come" (defArgs sCome) (defBody sCome) (defScope sCome) .none kV12 dc12 pm12 an12 cd12 ct12), sl12⟩)
    (c12 : PySem.W.codeIn K cd12 "Day.come" = true)
    (k12 : PySem.W.keepIn K (.ref f12) = true)
    (a13 : PySem.W.findIn K (.ref C) "leave" = some (some (.ref f13)))
    (i13 : PySem.W.isFn K (.ref f13) = true)
    (l13 : K.lookup f13 = some ⟨oc13, od13, .func (PySem.W.fnOf "leave" "Day.leave" (defArgs sLeave) (defBody sLeave) (defScope sLeave) .none kV13 dc13 pm13 an13 cd13 ct13), sl13⟩)
    (c13 : PySem.W.codeIn K cd13 "Day.leave" = true)
    (k13 : PySem.W.keepIn K (.ref f13) = true)
    (a14 : PySem.W.findIn K (.ref C) "close" = some (some (.ref f14)))
    (i14 : PySem.W.isFn K (.ref f14) = true)
    (l14 : K.lookup f14 = some ⟨oc14, od14, .func (PySem.W.fnOf "close" "Day.close" (defArgs sClose) (defBody sClose) (defScope sClose) .none kV14 dc14 pm14 an14 cd14 ct14), sl14⟩)
    (c14 : PySem.W.codeIn K cd14 "Day.close" = true)
    (k14 : PySem.W.keepIn K (.ref f14) = true)
    (a15 : PySem.W.findIn K (.ref C) "undo" = some (some (.ref f15)))
    (i15 : PySem.W.isFn K (.ref f15) = true)
    (l15 : K.lookup f15 = some ⟨oc15, od15, .func (PySem.W.fnOf "undo" "Day.undo" (defArgs sUndo) (defBody sUndo) (defScope sUndo) .none kV15 dc15 pm15 an15 cd15 ct15), sl15⟩)
    (c15 : PySem.W.codeIn K cd15 "Day.undo" = true)
    (k15 : PySem.W.keepIn K (.ref f15) = true)
    (a16 : PySem.W.findIn K (.ref C) "present" = some (some (.ref f16)))
    (i16 : PySem.W.isFn K (.ref f16) = true)
    (l16 : K.lookup f16 = some ⟨oc16, od16, .func (PySem.W.fnOf "present" "Day.present" (defArgs sPresent) (defBody sPresent) (defScope sPresent) .none kV16 dc16 pm16 an16 cd16 ct16), sl16⟩)
    (c16 : PySem.W.codeIn K cd16 "Day.present" = true)
    (k16 : PySem.W.keepIn K (.ref f16) = true)
    (a17 : PySem.W.findIn K (.ref C) "there" = some (some (.ref f17)))
    (i17 : PySem.W.isFn K (.ref f17) = true)
    (l17 : K.lookup f17 = some ⟨oc17, od17, .func (PySem.W.fnOf "there" "Day.there" (defArgs sThere) (defBody sThere) (defScope sThere) .none kV17 dc17 pm17 an17 cd17 ct17), sl17⟩)
    (c17 : PySem.W.codeIn K cd17 "Day.there" = true)
    (k17 : PySem.W.keepIn K (.ref f17) = true)
    (a18 : PySem.W.findIn K (.ref C) "kinds" = some (some (.ref f18)))
    (i18 : PySem.W.isFn K (.ref f18) = true)
    (l18 : K.lookup f18 = some ⟨oc18, od18, .func (PySem.W.fnOf "kinds" "Day.kinds" (defArgs sKinds) (defBody sKinds) (defScope sKinds) .none kV18 dc18 pm18 an18 cd18 ct18), sl18⟩)
    (c18 : PySem.W.codeIn K cd18 "Day.kinds" = true)
    (k18 : PySem.W.keepIn K (.ref f18) = true)
    (a19 : PySem.W.findIn K (.ref C) "most" = some (some (.ref f19)))
    (i19 : PySem.W.isFn K (.ref f19) = true)
    (l19 : K.lookup f19 = some ⟨oc19, od19, .func (PySem.W.fnOf "most" "Day.most" (defArgs sMost) (defBody sMost) (defScope sMost) .none kV19 dc19 pm19 an19 cd19 ct19), sl19⟩)
    (c19 : PySem.W.codeIn K cd19 "Day.most" = true)
    (k19 : PySem.W.keepIn K (.ref f19) = true)
    (a20 : PySem.W.findIn K (.ref C) "busy" = some (some (.ref f20)))
    (i20 : PySem.W.isFn K (.ref f20) = true)
    (l20 : K.lookup f20 = some ⟨oc20, od20, .func (PySem.W.fnOf "busy" "Day.busy" (defArgs sBusy) (defBody sBusy) (defScope sBusy) .none kV20 dc20 pm20 an20 cd20 ct20), sl20⟩)
    (c20 : PySem.W.codeIn K cd20 "Day.busy" = true)
    (k20 : PySem.W.keepIn K (.ref f20) = true)
    (a21 : PySem.W.findIn K (.ref C) "area" = some (some (.ref f21)))
    (i21 : PySem.W.isFn K (.ref f21) = true)
    (l21 : K.lookup f21 = some ⟨oc21, od21, .func (PySem.W.fnOf "area" "Day.area" (defArgs sArea) (defBody sArea) (defScope sArea) .none kV21 dc21 pm21 an21 cd21 ct21), sl21⟩)
    (c21 : PySem.W.codeIn K cd21 "Day.area" = true)
    (k21 : PySem.W.keepIn K (.ref f21) = true)
    (a22 : PySem.W.findIn K (.ref C) "before" = some (some (.ref f22)))
    (i22 : PySem.W.isFn K (.ref f22) = true)
    (l22 : K.lookup f22 = some ⟨oc22, od22, .func (PySem.W.fnOf "before" "Day.before" (defArgs sBefore) (defBody sBefore) (defScope sBefore) .none kV22 dc22 pm22 an22 cd22 ct22), sl22⟩)
    (c22 : PySem.W.codeIn K cd22 "Day.before" = true)
    (k22 : PySem.W.keepIn K (.ref f22) = true)
    (a23 : PySem.W.findIn K (.ref C) "total" = some (some (.ref f23)))
    (i23 : PySem.W.isFn K (.ref f23) = true)
    (l23 : K.lookup f23 = some ⟨oc23, od23, .func (PySem.W.fnOf "total" "Day.total" (defArgs sTotal) (defBody sTotal) (defScope sTotal) .none kV23 dc23 pm23 an23 cd23 ct23), sl23⟩)
    (c23 : PySem.W.codeIn K cd23 "Day.total" = true)
    (k23 : PySem.W.keepIn K (.ref f23) = true)
    (a24 : PySem.W.findIn K (.ref C) "mean" = some (some (.ref f24)))
    (i24 : PySem.W.isFn K (.ref f24) = true)
    (l24 : K.lookup f24 = some ⟨oc24, od24, .func (PySem.W.fnOf "mean" "Day.mean" (defArgs sMean) (defBody sMean) (defScope sMean) .none kV24 dc24 pm24 an24 cd24 ct24), sl24⟩)
    (c24 : PySem.W.codeIn K cd24 "Day.mean" = true)
    (k24 : PySem.W.keepIn K (.ref f24) = true)
    (a25 : PySem.W.findIn K (.ref C) "kind" = some (some (.ref f25)))
    (i25 : PySem.W.isFn K (.ref f25) = true)
    (l25 : K.lookup f25 = some ⟨oc25, od25, .func (PySem.W.fnOf "kind" "Day.kind" (defArgs sKind) (defBody sKind) (defScope sKind) .none kV25 dc25 pm25 an25 cd25 ct25), sl25⟩)
    (c25 : PySem.W.codeIn K cd25 "Day.kind" = true)
    (k25 : PySem.W.keepIn K (.ref f25) = true)
    (a26 : PySem.W.findIn K (.ref C) "first" = some (some (.ref f26)))
    (i26 : PySem.W.isFn K (.ref f26) = true)
    (l26 : K.lookup f26 = some ⟨oc26, od26, .func (PySem.W.fnOf "first" "Day.first" (defArgs sFirst) (defBody sFirst) (defScope sFirst) .none kV26 dc26 pm26 an26 cd26 ct26), sl26⟩)
    (c26 : PySem.W.codeIn K cd26 "Day.first" = true)
    (k26 : PySem.W.keepIn K (.ref f26) = true)
    (a27 : PySem.W.findIn K (.ref C) "latest" = some (some (.ref f27)))
    (i27 : PySem.W.isFn K (.ref f27) = true)
    (l27 : K.lookup f27 = some ⟨oc27, od27, .func (PySem.W.fnOf "latest" "Day.latest" (defArgs sLatest) (defBody sLatest) (defScope sLatest) .none kV27 dc27 pm27 an27 cd27 ct27), sl27⟩)
    (c27 : PySem.W.codeIn K cd27 "Day.latest" = true)
    (k27 : PySem.W.keepIn K (.ref f27) = true)
    (a28 : PySem.W.findIn K (.ref C) "as_if" = some (some (.ref f28)))
    (i28 : PySem.W.isFn K (.ref f28) = true)
    (l28 : K.lookup f28 = some ⟨oc28, od28, .func (PySem.W.fnOf "as_if" "Day.as_if" (defArgs sAsIf) (defBody sAsIf) (defScope sAsIf) .none kV28 dc28 pm28 an28 cd28 ct28), sl28⟩)
    (c28 : PySem.W.codeIn K cd28 "Day.as_if" = true)
    (k28 : PySem.W.keepIn K (.ref f28) = true)
    (a29 : PySem.W.findIn K (.ref C) "longer" = some (some (.ref f29)))
    (i29 : PySem.W.isFn K (.ref f29) = true)
    (l29 : K.lookup f29 = some ⟨oc29, od29, .func (PySem.W.fnOf "longer" "Day.longer" (defArgs sLonger) (defBody sLonger) (defScope sLonger) .none kV29 dc29 pm29 an29 cd29 ct29), sl29⟩)
    (c29 : PySem.W.codeIn K cd29 "Day.longer" = true)
    (k29 : PySem.W.keepIn K (.ref f29) = true)
    (a30 : PySem.W.findIn K (.ref C) "state" = some (some (.ref f30)))
    (i30 : PySem.W.isFn K (.ref f30) = true)
    (l30 : K.lookup f30 = some ⟨oc30, od30, .func (PySem.W.fnOf "state" "Day.state" (defArgs sState) (defBody sState) (defScope sState) .none kV30 dc30 pm30 an30 cd30 ct30), sl30⟩)
    (c30 : PySem.W.codeIn K cd30 "Day.state" = true)
    (k30 : PySem.W.keepIn K (.ref f30) = true)
    (a31 : PySem.W.nsIn K mainGlobals "first_goes_first" = some (some (.ref f31)))
    (l31 : K.lookup f31 = some ⟨oc31, od31, .func (PySem.W.fnOf "first_goes_first" "first_goes_first" (defArgs sFF) (defBody sFF) (defScope sFF) .none kV31 dc31 pm31 an31 cd31 ct31), sl31⟩)
    (c31 : PySem.W.codeIn K cd31 "first_goes_first" = true)
    (k31 : PySem.W.keepIn K (.ref f31) = true)
    (a32 : PySem.W.nsIn K mainGlobals "last_goes_first" = some (some (.ref f32)))
    (l32 : K.lookup f32 = some ⟨oc32, od32, .func (PySem.W.fnOf "last_goes_first" "last_goes_first" (defArgs sLG) (defBody sLG) (defScope sLG) .none kV32 dc32 pm32 an32 cd32 ct32), sl32⟩)
    (c32 : PySem.W.codeIn K cd32 "last_goes_first" = true)
    (k32 : PySem.W.keepIn K (.ref f32) = true)
    (a33 : PySem.W.nsIn K mainGlobals "can_go_so" = some (some (.ref f33)))
    (l33 : K.lookup f33 = some ⟨oc33, od33, .func (PySem.W.fnOf "can_go_so" "can_go_so" (defArgs sCan) (defBody sCan) (defScope sCan) .none kV33 dc33 pm33 an33 cd33 ct33), sl33⟩)
    (c33 : PySem.W.codeIn K cd33 "can_go_so" = true)
    (k33 : PySem.W.keepIn K (.ref f33) = true)
    (a34 : PySem.W.nsIn K mainGlobals "gone_so" = some (some (.ref f34)))
    (l34 : K.lookup f34 = some ⟨oc34, od34, .func (PySem.W.fnOf "gone_so" "gone_so" (defArgs sSo) (defBody sSo) (defScope sSo) .none kV34 dc34 pm34 an34 cd34 ct34), sl34⟩)
    (c34 : PySem.W.codeIn K cd34 "gone_so" = true)
    (k34 : PySem.W.keepIn K (.ref f34) = true)
    (a35 : PySem.W.nsIn K mainGlobals "told_of" = some (some (.ref f35)))
    (l35 : K.lookup f35 = some ⟨oc35, od35, .func (PySem.W.fnOf "told_of" "told_of" (defArgs sTold) (defBody sTold) (defScope sTold) .none kV35 dc35 pm35 an35 cd35 ct35), sl35⟩)
    (c35 : PySem.W.codeIn K cd35 "told_of" = true)
    (k35 : PySem.W.keepIn K (.ref f35) = true)
    (a36 : PySem.W.nsIn K mainGlobals "common_divisor" = some (some (.ref f36)))
    (l36 : K.lookup f36 = some ⟨oc36, od36, .func (PySem.W.fnOf "common_divisor" "common_divisor" (defArgs sGcd) (defBody sGcd) (defScope sGcd) .none kV36 dc36 pm36 an36 cd36 ct36), sl36⟩)
    (c36 : PySem.W.codeIn K cd36 "common_divisor" = true)
    (k36 : PySem.W.keepIn K (.ref f36) = true)
    (a37 : PySem.W.nsIn K mainGlobals "shortened" = some (some (.ref f37)))
    (l37 : K.lookup f37 = some ⟨oc37, od37, .func (PySem.W.fnOf "shortened" "shortened" (defArgs sShort) (defBody sShort) (defScope sShort) .none kV37 dc37 pm37 an37 cd37 ct37), sl37⟩)
    (c37 : PySem.W.codeIn K cd37 "shortened" = true)
    (k37 : PySem.W.keepIn K (.ref f37) = true)
    (a38 : PySem.W.nsIn K mainGlobals "answers" = some (some (.ref f38)))
    (l38 : K.lookup f38 = some ⟨oc38, od38, .func (PySem.W.fnOf "answers" "answers" (defArgs sAnswers) (defBody sAnswers) (defScope sAnswers) .none kV38 dc38 pm38 an38 cd38 ct38), sl38⟩)
    (c38 : PySem.W.codeIn K cd38 "answers" = true)
    (k38 : PySem.W.keepIn K (.ref f38) = true)
    (a39 : PySem.W.nsIn K mainGlobals "end_of_call" = some (some (.ref f39)))
    (l39 : K.lookup f39 = some ⟨oc39, od39, .func (PySem.W.fnOf "end_of_call" "end_of_call" (defArgs sEndOf) (defBody sEndOf) (defScope sEndOf) .none kV39 dc39 pm39 an39 cd39 ct39), sl39⟩)
    (c39 : PySem.W.codeIn K cd39 "end_of_call" = true)
    (k39 : PySem.W.keepIn K (.ref f39) = true)
    (a40 : PySem.W.nsIn K mainGlobals "answer_to" = some (some (.ref f40)))
    (l40 : K.lookup f40 = some ⟨oc40, od40, .func (PySem.W.fnOf "answer_to" "answer_to" (defArgs sAnswerTo) (defBody sAnswerTo) (defScope sAnswerTo) .none kV40 dc40 pm40 an40 cd40 ct40), sl40⟩)
    (c40 : PySem.W.codeIn K cd40 "answer_to" = true)
    (k40 : PySem.W.keepIn K (.ref f40) = true)
    (a41 : PySem.W.nsIn K mainGlobals "note" = some (some (.ref f41)))
    (l41 : K.lookup f41 = some ⟨oc41, od41, .func (PySem.W.fnOf "note" "note" (defArgs sNote) (defBody sNote) (defScope sNote) .none kV41 dc41 pm41 an41 cd41 ct41), sl41⟩)
    (c41 : PySem.W.codeIn K cd41 "note" = true)
    (k41 : PySem.W.keepIn K (.ref f41) = true)
    (a42 : PySem.W.nsIn K mainGlobals "tell_counts" = some (some (.ref f42)))
    (l42 : K.lookup f42 = some ⟨oc42, od42, .func (PySem.W.fnOf "tell_counts" "tell_counts" (defArgs sTellC) (defBody sTellC) (defScope sTellC) .none kV42 dc42 pm42 an42 cd42 ct42), sl42⟩)
    (c42 : PySem.W.codeIn K cd42 "tell_counts" = true)
    (k42 : PySem.W.keepIn K (.ref f42) = true)
    (a43 : PySem.W.nsIn K mainGlobals "tell_stays" = some (some (.ref f43)))
    (l43 : K.lookup f43 = some ⟨oc43, od43, .func (PySem.W.fnOf "tell_stays" "tell_stays" (defArgs sTellS) (defBody sTellS) (defScope sTellS) .none kV43 dc43 pm43 an43 cd43 ct43), sl43⟩)
    (c43 : PySem.W.codeIn K cd43 "tell_stays" = true)
    (k43 : PySem.W.keepIn K (.ref f43) = true)
    (pg : PySem.W.plainGet K C Str.empty = true)
    (hd : PySem.W.hasDictIn K C = true)
    (po : PySem.W.plainOver K C = true)
    (sa : PySem.W.findIn K (.ref C) "__setattr__" = some (some (.builtin "object.__setattr__")))
    (mk : PySem.W.makesIn K C = true)
    (kc : PySem.W.keepIn K (.ref C) = true)
    (nS : PySem.W.findIn K (.ref C) "started" = some none)
    (nC : PySem.W.findIn K (.ref C) "came" = some none)
    (nG : PySem.W.findIn K (.ref C) "gone" = some none)
    (z_len : PySem.W.nsIn K mainGlobals "len" = some none)
    (z_max : PySem.W.nsIn K mainGlobals "max" = some none)
    (z_sum : PySem.W.nsIn K mainGlobals "sum" = some none)
    (z_range : PySem.W.nsIn K mainGlobals "range" = some none)
    (z_zip : PySem.W.nsIn K mainGlobals "zip" = some none)
    (z_set : PySem.W.nsIn K mainGlobals "set" = some none)
    (u0 : PySem.W.nsIn K mainGlobals "LAST_MINUTE" = some (some (.int (500) t0)))
    (u1 : PySem.W.nsIn K mainGlobals "KINDS" = some (some (.int (4) t1)))
    (u2 : PySem.W.nsIn K mainGlobals "MOST_WHO_COME" = some (some (.int (30) t2)))
    (u3 : PySem.W.nsIn K mainGlobals "NOT_STARTED" = some (some (.int (-11) t3)))
    (u4 : PySem.W.nsIn K mainGlobals "WRONG_NUMBER" = some (some (.int (-22) t4)))
    (u5 : PySem.W.nsIn K mainGlobals "ALL_HAVE_COME" = some (some (.int (-28) t5)))
    (u6 : PySem.W.nsIn K mainGlobals "NONE_OF_THE_KIND" = some (some (.int (-16) t6)))
    (u7 : PySem.W.nsIn K mainGlobals "SOMEBODY_IS_THERE" = some (some (.int (-16) t7)))
    (u8 : PySem.W.nsIn K mainGlobals "NOBODY" = some (some (.int (-6) t8)))
    (u9 : PySem.W.nsIn K mainGlobals "START" = some (some (.int (0) t9)))
    (u10 : PySem.W.nsIn K mainGlobals "IN_AT" = some (some (.int (1) t10)))
    (u11 : PySem.W.nsIn K mainGlobals "OUT" = some (some (.int (2) t11)))
    (u12 : PySem.W.nsIn K mainGlobals "CLOSE" = some (some (.int (3) t12)))
    (u13 : PySem.W.nsIn K mainGlobals "PRESENT" = some (some (.int (4) t13)))
    (u14 : PySem.W.nsIn K mainGlobals "THERE" = some (some (.int (5) t14)))
    (u15 : PySem.W.nsIn K mainGlobals "KINDS_THERE" = some (some (.int (6) t15)))
    (u16 : PySem.W.nsIn K mainGlobals "MOST" = some (some (.int (7) t16)))
    (u17 : PySem.W.nsIn K mainGlobals "BUSY" = some (some (.int (8) t17)))
    (u18 : PySem.W.nsIn K mainGlobals "AREA" = some (some (.int (9) t18)))
    (u19 : PySem.W.nsIn K mainGlobals "TOTAL" = some (some (.int (10) t19)))
    (u20 : PySem.W.nsIn K mainGlobals "MEAN" = some (some (.int (11) t20)))
    (u21 : PySem.W.nsIn K mainGlobals "FIRST" = some (some (.int (12) t21)))
    (u22 : PySem.W.nsIn K mainGlobals "LATEST" = some (some (.int (13) t22)))
    (u23 : PySem.W.nsIn K mainGlobals "AS_IF" = some (some (.int (14) t23)))
    (u24 : PySem.W.nsIn K mainGlobals "KIND" = some (some (.int (15) t24)))
    (u25 : PySem.W.nsIn K mainGlobals "BEFORE" = some (some (.int (16) t25)))
    (u26 : PySem.W.nsIn K mainGlobals "UNDO" = some (some (.int (18) t26)))
    (u27 : PySem.W.nsIn K mainGlobals "STATE" = some (some (.int (19) t27)))
    (aS : PySem.W.nsIn K mainGlobals "SIZES" = some (some (.ref fS)))
    (lS : K.lookup fS = some ⟨.type "tuple", odS, .seq #[.int 0 w0, .int 2 w1, .int 2 w2, .int 1 w3, .int 1 w4, .int 0 w5, .int 0 w6, .int 0 w7, .int 0 w8, .int 2 w9, .int 0 w10, .int 0 w11, .int 0 w12, .int 0 w13, .int 1 w14, .int 1 w15, .int 1 w16, .int 1 w17, .int 0 w18, .int 0 w19] nSz, slS⟩)
    : ∃ fd : FuncData, (∀ (s : Shared) (us : List Value), us.length = (["calls"] : List Str).length → BindsTo s fd ⟨us, []⟩ ((["calls"] : List Str).zip us)) ∧ ∀ base : Heap, K.In base → base.Ns mainGlobals mg → FnOk P w K mg base CX0 8 fa fd ["calls"] (spAnswers K okAll) := by
  have e := hfa.symm.trans (PySem.W.mg_of X G a38)
  cases e
  have num : ∀ {x : Str} {z : Int} {t : Tok}, PySem.W.nsIn K mainGlobals x = some (some (.int z t)) → Num mg x z := fun q => ⟨_, PySem.W.mg_of X G q, _, rfl⟩
  have T : Txt K mg C := ⟨⟨pg, hd, po, sa⟩, nS, nC, nG, PySem.W.mg_of X G aC, PySem.W.mg_none_of X G z_len, PySem.W.mg_none_of X G z_max, PySem.W.mg_none_of X G z_sum, PySem.W.mg_none_of X G z_range, PySem.W.mg_none_of X G z_zip, PySem.W.mg_none_of X G z_set, num u0, num u1, num u2, num u3, num u4, num u5, num u6, num u7, num u8⟩
  have D : TxtD mg := ⟨num u9, num u10, num u11, num u12, num u13, num u14, num u15, num u16, num u17, num u18, num u19, num u20, num u21, num u22, num u23, num u24, num u25, num u26, num u27⟩
  have Z : Siz K mg := ⟨fS, PySem.W.mg_of X G aS, fun H => .inr ⟨_, _, _, lS, rfl, rfl, (by show 20 ≤ sizeLine; decide), .cons ⟨_, rfl⟩ (.cons ⟨_, rfl⟩ (.cons ⟨_, rfl⟩ (.cons ⟨_, rfl⟩ (.cons ⟨_, rfl⟩ (.cons ⟨_, rfl⟩ (.cons ⟨_, rfl⟩ (.cons ⟨_, rfl⟩ (.cons ⟨_, rfl⟩ (.cons ⟨_, rfl⟩ (.cons ⟨_, rfl⟩ (.cons ⟨_, rfl⟩ (.cons ⟨_, rfl⟩ (.cons ⟨_, rfl⟩ (.cons ⟨_, rfl⟩ (.cons ⟨_, rfl⟩ (.cons ⟨_, rfl⟩ (.cons ⟨_, rfl⟩ (.cons ⟨_, rfl⟩ (.cons ⟨_, rfl⟩ (.nil))))))))))))))))))))⟩⟩
  have F1 := fun_mk (st := sInit) l1 c1 k1
  have b1 := F1.binds (ps := ["self"]) fun _ _ _ _ _ _ us hl => match us, hl with | [_], _ => rfl
  have F2 := fun_mk (st := sLast) l2 c2 k2
  have b2 := F2.binds (ps := ["self"]) fun _ _ _ _ _ _ us hl => match us, hl with | [_], _ => rfl
  have F3 := fun_mk (st := sCameM) l3 c3 k3
  have b3 := F3.binds (ps := ["self"]) fun _ _ _ _ _ _ us hl => match us, hl with | [_], _ => rfl
  have F4 := fun_mk (st := sGoneM) l4 c4 k4
  have b4 := F4.binds (ps := ["self"]) fun _ _ _ _ _ _ us hl => match us, hl with | [_], _ => rfl
  have F5 := fun_mk (st := sWrongM) l5 c5 k5
  have b5 := F5.binds (ps := ["self", "minute"]) fun _ _ _ _ _ _ us hl => match us, hl with | [_, _], _ => rfl
  have F6 := fun_mk (st := sWrongN) l6 c6 k6
  have b6 := F6.binds (ps := ["self", "minute", "kind"]) fun _ _ _ _ _ _ us hl => match us, hl with | [_, _, _], _ => rfl
  have F7 := fun_mk (st := sThereNow) l7 c7 k7
  have b7 := F7.binds (ps := ["self"]) fun _ _ _ _ _ _ us hl => match us, hl with | [_], _ => rfl
  have F8 := fun_mk (st := sAll) l8 c8 k8
  have b8 := F8.binds (ps := ["self"]) fun _ _ _ _ _ _ us hl => match us, hl with | [_], _ => rfl
  have F9 := fun_mk (st := sByKind) l9 c9 k9
  have b9 := F9.binds (ps := ["self"]) fun _ _ _ _ _ _ us hl => match us, hl with | [_], _ => rfl
  have F10 := fun_mk (st := sByMin) l10 c10 k10
  have b10 := F10.binds (ps := ["self"]) fun _ _ _ _ _ _ us hl => match us, hl with | [_], _ => rfl
  have F11 := fun_mk (st := sStart) l11 c11 k11
  have b11 := F11.binds (ps := ["self"]) fun _ _ _ _ _ _ us hl => match us, hl with | [_], _ => rfl
  have F12 := fun_mk (st := sCome) l12 c12 k12
  have b12 := F12.binds (ps := ["self", "minute", "kind"]) fun _ _ _ _ _ _ us hl => match us, hl with | [_, _, _], _ => rfl
  have F13 := fun_mk (st := sLeave) l13 c13 k13
  have b13 := F13.binds (ps := ["self", "minute", "kind"]) fun _ _ _ _ _ _ us hl => match us, hl with | [_, _, _], _ => rfl
  have F14 := fun_mk (st := sClose) l14 c14 k14
  have b14 := F14.binds (ps := ["self", "minute"]) fun _ _ _ _ _ _ us hl => match us, hl with | [_, _], _ => rfl
  have F15 := fun_mk (st := sUndo) l15 c15 k15
  have b15 := F15.binds (ps := ["self"]) fun _ _ _ _ _ _ us hl => match us, hl with | [_], _ => rfl
  have F16 := fun_mk (st := sPresent) l16 c16 k16
  have b16 := F16.binds (ps := ["self", "minute"]) fun _ _ _ _ _ _ us hl => match us, hl with | [_, _], _ => rfl
  have F17 := fun_mk (st := sThere) l17 c17 k17
  have b17 := F17.binds (ps := ["self"]) fun _ _ _ _ _ _ us hl => match us, hl with | [_], _ => rfl
  have F18 := fun_mk (st := sKinds) l18 c18 k18
  have b18 := F18.binds (ps := ["self"]) fun _ _ _ _ _ _ us hl => match us, hl with | [_], _ => rfl
  have F19 := fun_mk (st := sMost) l19 c19 k19
  have b19 := F19.binds (ps := ["self"]) fun _ _ _ _ _ _ us hl => match us, hl with | [_], _ => rfl
  have F20 := fun_mk (st := sBusy) l20 c20 k20
  have b20 := F20.binds (ps := ["self"]) fun _ _ _ _ _ _ us hl => match us, hl with | [_], _ => rfl
  have F21 := fun_mk (st := sArea) l21 c21 k21
  have b21 := F21.binds (ps := ["self", "since", "until"]) fun _ _ _ _ _ _ us hl => match us, hl with | [_, _, _], _ => rfl
  have F22 := fun_mk (st := sBefore) l22 c22 k22
  have b22 := F22.binds (ps := ["self", "minute"]) fun _ _ _ _ _ _ us hl => match us, hl with | [_, _], _ => rfl
  have F23 := fun_mk (st := sTotal) l23 c23 k23
  have b23 := F23.binds (ps := ["self"]) fun _ _ _ _ _ _ us hl => match us, hl with | [_], _ => rfl
  have F24 := fun_mk (st := sMean) l24 c24 k24
  have b24 := F24.binds (ps := ["self"]) fun _ _ _ _ _ _ us hl => match us, hl with | [_], _ => rfl
  have F25 := fun_mk (st := sKind) l25 c25 k25
  have b25 := F25.binds (ps := ["self", "asked"]) fun _ _ _ _ _ _ us hl => match us, hl with | [_, _], _ => rfl
  have F26 := fun_mk (st := sFirst) l26 c26 k26
  have b26 := F26.binds (ps := ["self"]) fun _ _ _ _ _ _ us hl => match us, hl with | [_], _ => rfl
  have F27 := fun_mk (st := sLatest) l27 c27 k27
  have b27 := F27.binds (ps := ["self"]) fun _ _ _ _ _ _ us hl => match us, hl with | [_], _ => rfl
  have F28 := fun_mk (st := sAsIf) l28 c28 k28
  have b28 := F28.binds (ps := ["self", "places"]) fun _ _ _ _ _ _ us hl => match us, hl with | [_, _], _ => rfl
  have F29 := fun_mk (st := sLonger) l29 c29 k29
  have b29 := F29.binds (ps := ["self", "minutes"]) fun _ _ _ _ _ _ us hl => match us, hl with | [_, _], _ => rfl
  have F30 := fun_mk (st := sState) l30 c30 k30
  have b30 := F30.binds (ps := ["self"]) fun _ _ _ _ _ _ us hl => match us, hl with | [_], _ => rfl
  have F31 := fun_mk (st := sFF) l31 c31 k31
  have b31 := F31.binds (ps := ["came", "gone"]) fun _ _ _ _ _ _ us hl => match us, hl with | [_, _], _ => rfl
  have F32 := fun_mk (st := sLG) l32 c32 k32
  have b32 := F32.binds (ps := ["came", "gone"]) fun _ _ _ _ _ _ us hl => match us, hl with | [_, _], _ => rfl
  have F33 := fun_mk (st := sCan) l33 c33 k33
  have b33 := F33.binds (ps := ["came", "gone", "places"]) fun _ _ _ _ _ _ us hl => match us, hl with | [_, _, _], _ => rfl
  have F34 := fun_mk (st := sSo) l34 c34 k34
  have b34 := F34.binds (ps := ["came", "gone", "places"]) fun _ _ _ _ _ _ us hl => match us, hl with | [_, _, _], _ => rfl
  have F35 := fun_mk (st := sTold) l35 c35 k35
  have b35 := F35.binds (ps := ["stays"]) fun _ _ _ _ _ _ us hl => match us, hl with | [_], _ => rfl
  have F36 := fun_mk (st := sGcd) l36 c36 k36
  have b36 := F36.binds (ps := ["one", "other"]) fun _ _ _ _ _ _ us hl => match us, hl with | [_, _], _ => rfl
  have F37 := fun_mk (st := sShort) l37 c37 k37
  have b37 := F37.binds (ps := ["upper", "lower"]) fun _ _ _ _ _ _ us hl => match us, hl with | [_, _], _ => rfl
  have F38 := fun_mk (st := sAnswers) l38 c38 k38
  have b38 := F38.binds (ps := ["calls"]) fun _ _ _ _ _ _ us hl => match us, hl with | [_], _ => rfl
  have F39 := fun_mk (st := sEndOf) l39 c39 k39
  have b39 := F39.binds (ps := ["calls", "place"]) fun _ _ _ _ _ _ us hl => match us, hl with | [_, _], _ => rfl
  have F40 := fun_mk (st := sAnswerTo) l40 c40 k40
  have b40 := F40.binds (ps := ["day", "call", "given"]) fun _ _ _ _ _ _ us hl => match us, hl with | [_, _, _], _ => rfl
  have F41 := fun_mk (st := sNote) l41 c41 k41
  have b41 := F41.binds (ps := ["day", "call", "given"]) fun _ _ _ _ _ _ us hl => match us, hl with | [_, _, _], _ => rfl
  have F42 := fun_mk (st := sTellC) l42 c42 k42
  have b42 := F42.binds (ps := ["day", "call", "given"]) fun _ _ _ _ _ _ us hl => match us, hl with | [_, _, _], _ => rfl
  have F43 := fun_mk (st := sTellS) l43 c43 k43
  have b43 := F43.binds (ps := ["day", "call", "given"]) fun _ _ _ _ _ _ us hl => match us, hl with | [_, _, _], _ => rfl
  refine ⟨PySem.W.fnOf "answers" "answers" (defArgs sAnswers) (defBody sAnswers) (defScope sAnswers) .none kV38 dc38 pm38 an38 cd38 ct38, fun s us hu => match us, hu with | [_], _ => .of_eq rfl, fun base _ _ => ?_⟩
  have G31 := ok_FF (P := P) (w := w) (base := base) F31 T 
  have G32 := ok_LG (P := P) (w := w) (base := base) F32 T 
  have G33 := ok_Can (P := P) (w := w) (base := base) F33 T 
  have G34 := ok_So (P := P) (w := w) (base := base) F34 T G31 b31 (PySem.W.mg_of X G a31) k31
  have G35 := ok_Told (P := P) (w := w) (base := base) F35 T 
  have G36 := ok_Gcd (P := P) (w := w) (base := base) F36 T 
  have G37 := ok_Short (P := P) (w := w) (base := base) F37 T G36 b36 (PySem.W.mg_of X G a36) k36
  have G1 := ok_init (P := P) (w := w) (base := base) F1 T 
  have G3 := ok_CameM (P := P) (w := w) (base := base) F3 T 
  have G4 := ok_GoneM (P := P) (w := w) (base := base) F4 T 
  have G2 := ok_last (P := P) (w := w) (base := base) F2 T G3 b3 ⟨a3, i3, k3⟩ G4 b4 ⟨a4, i4, k4⟩
  have G5 := ok_wrongM (P := P) (w := w) (base := base) F5 T G2 b2 ⟨a2, i2, k2⟩
  have G6 := ok_wrongN (P := P) (w := w) (base := base) F6 T G5 b5 ⟨a5, i5, k5⟩
  have G7 := ok_thereNow (P := P) (w := w) (base := base) F7 T 
  have G8 := ok_all (P := P) (w := w) (base := base) F8 T G3 b3 ⟨a3, i3, k3⟩ G4 b4 ⟨a4, i4, k4⟩
  have G9 := ok_byKind (P := P) (w := w) (base := base) F9 T 
  have G10 := ok_byMin (P := P) (w := w) (base := base) F10 T G3 b3 ⟨a3, i3, k3⟩ G4 b4 ⟨a4, i4, k4⟩
  have G11 := ok_start (P := P) (w := w) (base := base) F11 T 
  have G12 := ok_come (P := P) (w := w) (base := base) F12 T G6 b6 ⟨a6, i6, k6⟩ G7 b7 ⟨a7, i7, k7⟩
  have G13 := ok_leave (P := P) (w := w) (base := base) F13 T G6 b6 ⟨a6, i6, k6⟩ G7 b7 ⟨a7, i7, k7⟩ G9 b9 ⟨a9, i9, k9⟩
  have G14 := ok_close (P := P) (w := w) (base := base) F14 T G5 b5 ⟨a5, i5, k5⟩ G9 b9 ⟨a9, i9, k9⟩
  have G15 := ok_Undo (P := P) (w := w) (base := base) F15 T 
  have G16 := ok_present (P := P) (w := w) (base := base) F16 T G10 b10 ⟨a10, i10, k10⟩
  have G17 := ok_there (P := P) (w := w) (base := base) F17 T G7 b7 ⟨a7, i7, k7⟩
  have G18 := ok_kinds (P := P) (w := w) (base := base) F18 T G9 b9 ⟨a9, i9, k9⟩
  have G19 := ok_most (P := P) (w := w) (base := base) F19 T G10 b10 ⟨a10, i10, k10⟩
  have G20 := ok_busy (P := P) (w := w) (base := base) F20 T G2 b2 ⟨a2, i2, k2⟩ G10 b10 ⟨a10, i10, k10⟩
  have G21 := ok_area (P := P) (w := w) (base := base) F21 T G10 b10 ⟨a10, i10, k10⟩
  have G22 := ok_Before (P := P) (w := w) (base := base) F22 T G3 b3 ⟨a3, i3, k3⟩ G4 b4 ⟨a4, i4, k4⟩
  have G23 := ok_Total (P := P) (w := w) (base := base) F23 T G7 b7 ⟨a7, i7, k7⟩ G8 b8 ⟨a8, i8, k8⟩
  have G24 := ok_Mean (P := P) (w := w) (base := base) F24 T G7 b7 ⟨a7, i7, k7⟩ G8 b8 ⟨a8, i8, k8⟩ G37 b37 (PySem.W.mg_of X G a37) k37
  have G25 := ok_Kind (P := P) (w := w) (base := base) F25 T G9 b9 ⟨a9, i9, k9⟩
  have G26 := ok_First (P := P) (w := w) (base := base) F26 T G3 b3 ⟨a3, i3, k3⟩ G4 b4 ⟨a4, i4, k4⟩ G31 b31 (PySem.W.mg_of X G a31) k31 G35 b35 (PySem.W.mg_of X G a35) k35
  have G27 := ok_Latest (P := P) (w := w) (base := base) F27 T G3 b3 ⟨a3, i3, k3⟩ G4 b4 ⟨a4, i4, k4⟩ G32 b32 (PySem.W.mg_of X G a32) k32 G35 b35 (PySem.W.mg_of X G a35) k35
  have G28 := ok_AsIf (P := P) (w := w) (base := base) F28 T G3 b3 ⟨a3, i3, k3⟩ G4 b4 ⟨a4, i4, k4⟩ G33 b33 (PySem.W.mg_of X G a33) k33 G34 b34 (PySem.W.mg_of X G a34) k34 G35 b35 (PySem.W.mg_of X G a35) k35
  have G29 := ok_Longer (P := P) (w := w) (base := base) F29 T G3 b3 ⟨a3, i3, k3⟩ G4 b4 ⟨a4, i4, k4⟩ G31 b31 (PySem.W.mg_of X G a31) k31
  have G30 := ok_State (P := P) (w := w) (base := base) F30 T G2 b2 ⟨a2, i2, k2⟩
  have Gn := ok_Note (P := P) (w := w) (base := base) F41 T D ⟨⟨_, _, G12.mono (by decide), b12, ⟨a12, i12, k12⟩⟩⟩ ⟨⟨_, _, G13.mono (by decide), b13, ⟨a13, i13, k13⟩⟩⟩ ⟨⟨_, _, G14.mono (by decide), b14, ⟨a14, i14, k14⟩⟩⟩ ⟨⟨_, _, G15.mono (by decide), b15, ⟨a15, i15, k15⟩⟩⟩
  have Gc := ok_TellC (P := P) (w := w) (base := base) F42 T D ⟨⟨_, _, G16.mono (by decide), b16, ⟨a16, i16, k16⟩⟩⟩ ⟨⟨_, _, G17.mono (by decide), b17, ⟨a17, i17, k17⟩⟩⟩ ⟨⟨_, _, G18.mono (by decide), b18, ⟨a18, i18, k18⟩⟩⟩ ⟨⟨_, _, G19.mono (by decide), b19, ⟨a19, i19, k19⟩⟩⟩ ⟨⟨_, _, G20.mono (by decide), b20, ⟨a20, i20, k20⟩⟩⟩ ⟨⟨_, _, G21.mono (by decide), b21, ⟨a21, i21, k21⟩⟩⟩ ⟨⟨_, _, G22.mono (by decide), b22, ⟨a22, i22, k22⟩⟩⟩ ⟨⟨_, _, G30.mono (by decide), b30, ⟨a30, i30, k30⟩⟩⟩
  have Gs := ok_TellS (P := P) (w := w) (base := base) F43 T D ⟨⟨_, _, G23.mono (by decide), b23, ⟨a23, i23, k23⟩⟩⟩ ⟨⟨_, _, G24.mono (by decide), b24, ⟨a24, i24, k24⟩⟩⟩ ⟨⟨_, _, G26.mono (by decide), b26, ⟨a26, i26, k26⟩⟩⟩ ⟨⟨_, _, G27.mono (by decide), b27, ⟨a27, i27, k27⟩⟩⟩ ⟨⟨_, _, G28.mono (by decide), b28, ⟨a28, i28, k28⟩⟩⟩ ⟨⟨_, _, G25.mono (by decide), b25, ⟨a25, i25, k25⟩⟩⟩ ⟨⟨_, _, G29.mono (by decide), b29, ⟨a29, i29, k29⟩⟩⟩
  have Ga := ok_answerTo (P := P) (w := w) (base := base) F40 T D ⟨⟨_, _, G11.mono (by decide), b11, ⟨a11, i11, k11⟩⟩⟩ ⟨⟨_, _, Gn, b41, PySem.W.mg_of X G a41, k41⟩⟩ ⟨⟨_, _, Gc, b42, PySem.W.mg_of X G a42, k42⟩⟩ ⟨⟨_, _, Gs, b43, PySem.W.mg_of X G a43, k43⟩⟩
  have Ge := ok_End (P := P) (w := w) (base := base) F39 T D Z
  exact ok_answers F38 T ⟨mk, a1, i1, kc⟩ G1 b1 ⟨⟨_, _, Ga, b40, PySem.W.mg_of X G a40, k40⟩⟩ ⟨⟨_, _, Ge, b39, PySem.W.mg_of X G a39, k39⟩⟩
end DP
open PySem PySem.W PyProof.Rows
set_option maxRecDepth 100000 in
set_option maxHeartbeats 0 in
theorem PySem.Challenge.cw_daysums_s01_answers_holds : PySem.Challenge.rw_daysums_s01_answers.Holds := by
  w_on; k_headS; (case hw => exact ⟨[.list [.int 0]], by decide +kernel, by decide +kernel⟩)
  k_fillS
  refine L2.walk_specK (r := PySem.Challenge.rw_daysums_s01_answers) (k := 8) (CX := L2.CX0) (ps := ["calls"]) (sp := fun K => DP.spAnswers K DP.okAll) (by decide +kernel) rfl rfl ⟨rfl, by decide, by decide⟩ (fun w h Y => PySem.W.kIn_of Y) ?F ?S (fun _ _ _ _ z => z)
  case F =>
    intro w mg fa h Y KX G hmg
    refine' DP.all_mk KX G hmg ?aC ?a1 ?i1 ?l1 ?c1 ?k1 ?a2 ?i2 ?l2 ?c2 ?k2 ?a3 ?i3 ?l3 ?c3 ?k3 ?a4 ?i4 ?l4 ?c4 ?k4 ?a5 ?i5 ?l5 ?c5 ?k5 ?a6 ?i6 ?l6 ?c6 ?k6 ?a7 ?i7 ?l7 ?c7 ?k7 ?a8 ?i8 ?l8 ?c8 ?k8 ?a9 ?i9 ?l9 ?c9 ?k9 ?a10 ?i10 ?l10 ?c10 ?k10 ?a11 ?i11 ?l11 ?c11 ?k11 ?a12 ?i12 ?l12 ?c12 ?k12 ?a13 ?i13 ?l13 ?c13 ?k13 ?a14 ?i14 ?l14 ?c14 ?k14 ?a15 ?i15 ?l15 ?c15 ?k15 ?a16 ?i16 ?l16 ?c16 ?k16 ?a17 ?i17 ?l17 ?c17 ?k17 ?a18 ?i18 ?l18 ?c18 ?k18 ?a19 ?i19 ?l19 ?c19 ?k19 ?a20 ?i20 ?l20 ?c20 ?k20 ?a21 ?i21 ?l21 ?c21 ?k21 ?a22 ?i22 ?l22 ?c22 ?k22 ?a23 ?i23 ?l23 ?c23 ?k23 ?a24 ?i24 ?l24 ?c24 ?k24 ?a25 ?i25 ?l25 ?c25 ?k25 ?a26 ?i26 ?l26 ?c26 ?k26 ?a27 ?i27 ?l27 ?c27 ?k27 ?a28 ?i28 ?l28 ?c28 ?k28 ?a29 ?i29 ?l29 ?c29 ?k29 ?a30 ?i30 ?l30 ?c30 ?k30 ?a31 ?l31 ?c31 ?k31 ?a32 ?l32 ?c32 ?k32 ?a33 ?l33 ?c33 ?k33 ?a34 ?l34 ?c34 ?k34 ?a35 ?l35 ?c35 ?k35 ?a36 ?l36 ?c36 ?k36 ?a37 ?l37 ?c37 ?k37 ?a38 ?l38 ?c38 ?k38 ?a39 ?l39 ?c39 ?k39 ?a40 ?l40 ?c40 ?k40 ?a41 ?l41 ?c41 ?k41 ?a42 ?l42 ?c42 ?k42 ?a43 ?l43 ?c43 ?k43 ?pg ?hd ?po ?sa ?mk ?kc ?nS ?nC ?nG ?z_len ?z_max ?z_sum ?z_range ?z_zip ?z_set ?u0 ?u1 ?u2 ?u3 ?u4 ?u5 ?u6 ?u7 ?u8 ?u9 ?u10 ?u11 ?u12 ?u13 ?u14 ?u15 ?u16 ?u17 ?u18 ?u19 ?u20 ?u21 ?u22 ?u23 ?u24 ?u25 ?u26 ?u27 ?aS ?lS
    (case aC => k_is)
    (case a1 => k_is)
    (case i1 => k_is)
    (case l1 => k_is)
    (case c1 => k_is)
    (case k1 => k_is)
    (case a2 => k_is)
    (case i2 => k_is)
    (case l2 => k_is)
    (case c2 => k_is)
    (case k2 => k_is)
    (case a3 => k_is)
    (case i3 => k_is)
    (case l3 => k_is)
    (case c3 => k_is)
    (case k3 => k_is)
    (case a4 => k_is)
    (case i4 => k_is)
    (case l4 => k_is)
    (case c4 => k_is)
    (case k4 => k_is)
    (case a5 => k_is)
    (case i5 => k_is)
    (case l5 => k_is)
    (case c5 => k_is)
    (case k5 => k_is)
    (case a6 => k_is)
    (case i6 => k_is)
    (case l6 => k_is)
    (case c6 => k_is)
    (case k6 => k_is)
    (case a7 => k_is)
    (case i7 => k_is)
    (case l7 => k_is)
    (case c7 => k_is)
    (case k7 => k_is)
    (case a8 => k_is)
    (case i8 => k_is)
    (case l8 => k_is)
    (case c8 => k_is)
    (case k8 => k_is)
    (case a9 => k_is)
    (case i9 => k_is)
    (case l9 => k_is)
    (case c9 => k_is)
    (case k9 => k_is)
    (case a10 => k_is)
    (case i10 => k_is)
    (case l10 => k_is)
    (case c10 => k_is)
    (case k10 => k_is)
    (case a11 => k_is)
    (case i11 => k_is)
    (case l11 => k_is)
    (case c11 => k_is)
    (case k11 => k_is)
    (case a12 => k_is)
    (case i12 => k_is)
    (case l12 => k_is)
    (case c12 => k_is)
    (case k12 => k_is)
    (case a13 => k_is)
    (case i13 => k_is)
    (case l13 => k_is)
    (case c13 => k_is)
    (case k13 => k_is)
    (case a14 => k_is)
    (case i14 => k_is)
    (case l14 => k_is)
    (case c14 => k_is)
    (case k14 => k_is)
    (case a15 => k_is)
    (case i15 => k_is)
    (case l15 => k_is)
    (case c15 => k_is)
    (case k15 => k_is)
    (case a16 => k_is)
    (case i16 => k_is)
    (case l16 => k_is)
    (case c16 => k_is)
    (case k16 => k_is)
    (case a17 => k_is)
    (case i17 => k_is)
    (case l17 => k_is)
    (case c17 => k_is)
    (case k17 => k_is)
    (case a18 => k_is)
    (case i18 => k_is)
    (case l18 => k_is)
    (case c18 => k_is)
    (case k18 => k_is)
    (case a19 => k_is)
    (case i19 => k_is)
    (case l19 => k_is)
    (case c19 => k_is)
    (case k19 => k_is)
    (case a20 => k_is)
    (case i20 => k_is)
    (case l20 => k_is)
    (case c20 => k_is)
    (case k20 => k_is)
    (case a21 => k_is)
    (case i21 => k_is)
    (case l21 => k_is)
    (case c21 => k_is)
    (case k21 => k_is)
    (case a22 => k_is)
    (case i22 => k_is)
    (case l22 => k_is)
    (case c22 => k_is)
    (case k22 => k_is)
    (case a23 => k_is)
    (case i23 => k_is)
    (case l23 => k_is)
    (case c23 => k_is)
    (case k23 => k_is)
    (case a24 => k_is)
    (case i24 => k_is)
    (case l24 => k_is)
    (case c24 => k_is)
    (case k24 => k_is)
    (case a25 => k_is)
    (case i25 => k_is)
    (case l25 => k_is)
    (case c25 => k_is)
    (case k25 => k_is)
    (case a26 => k_is)
    (case i26 => k_is)
    (case l26 => k_is)
    (case c26 => k_is)
    (case k26 => k_is)
    (case a27 => k_is)
    (case i27 => k_is)
    (case l27 => k_is)
    (case c27 => k_is)
    (case k27 => k_is)
    (case a28 => k_is)
    (case i28 => k_is)
    (case l28 => k_is)
    (case c28 => k_is)
    (case k28 => k_is)
    (case a29 => k_is)
    (case i29 => k_is)
    (case l29 => k_is)
    (case c29 => k_is)
    (case k29 => k_is)
    (case a30 => k_is)
    (case i30 => k_is)
    (case l30 => k_is)
    (case c30 => k_is)
    (case k30 => k_is)
    (case a31 => k_is)
    (case l31 => k_is)
    (case c31 => k_is)
    (case k31 => k_is)
    (case a32 => k_is)
    (case l32 => k_is)
    (case c32 => k_is)
    (case k32 => k_is)
    (case a33 => k_is)
    (case l33 => k_is)
    (case c33 => k_is)
    (case k33 => k_is)
    (case a34 => k_is)
    (case l34 => k_is)
    (case c34 => k_is)
    (case k34 => k_is)
    (case a35 => k_is)
    (case l35 => k_is)
    (case c35 => k_is)
    (case k35 => k_is)
    (case a36 => k_is)
    (case l36 => k_is)
    (case c36 => k_is)
    (case k36 => k_is)
    (case a37 => k_is)
    (case l37 => k_is)
    (case c37 => k_is)
    (case k37 => k_is)
    (case a38 => k_is)
    (case l38 => k_is)
    (case c38 => k_is)
    (case k38 => k_is)
    (case a39 => k_is)
    (case l39 => k_is)
    (case c39 => k_is)
    (case k39 => k_is)
    (case a40 => k_is)
    (case l40 => k_is)
    (case c40 => k_is)
    (case k40 => k_is)
    (case a41 => k_is)
    (case l41 => k_is)
    (case c41 => k_is)
    (case k41 => k_is)
    (case a42 => k_is)
    (case l42 => k_is)
    (case c42 => k_is)
    (case k42 => k_is)
    (case a43 => k_is)
    (case l43 => k_is)
    (case c43 => k_is)
    (case k43 => k_is)
    (case pg => k_is)
    (case hd => k_is)
    (case po => k_is)
    (case sa => k_is)
    (case mk => k_is)
    (case kc => k_is)
    (case nS => k_is)
    (case nC => k_is)
    (case nG => k_is)
    (case z_len => k_is)
    (case z_max => k_is)
    (case z_sum => k_is)
    (case z_range => k_is)
    (case z_zip => k_is)
    (case z_set => k_is)
    (case u0 => k_is)
    (case u1 => k_is)
    (case u2 => k_is)
    (case u3 => k_is)
    (case u4 => k_is)
    (case u5 => k_is)
    (case u6 => k_is)
    (case u7 => k_is)
    (case u8 => k_is)
    (case u9 => k_is)
    (case u10 => k_is)
    (case u11 => k_is)
    (case u12 => k_is)
    (case u13 => k_is)
    (case u14 => k_is)
    (case u15 => k_is)
    (case u16 => k_is)
    (case u17 => k_is)
    (case u18 => k_is)
    (case u19 => k_is)
    (case u20 => k_is)
    (case u21 => k_is)
    (case u22 => k_is)
    (case u23 => k_is)
    (case u24 => k_is)
    (case u25 => k_is)
    (case u26 => k_is)
    (case u27 => k_is)
    (case aS => k_is)
    (case lS => k_is)
  case S =>
    intro K H xs a hO hwi hask hx
    cases hx with
    | cons h1 h2 =>
      cases h2
      cases h1 with
      | lst hs ha =>
        have e := L2.ints_dw a.1 _ ha
        subst e
        have q : ((Codec.inLen 0 12400 a.1 && a.1.all (Codec.inInt 0 4294967295)) && true) = true := hwi
        rw [Bool.and_eq_true, Bool.and_eq_true] at q
        obtain ⟨cs, hl, hbd, hlen, hans⟩ := DS.asked_is (l := a.1) hask
        have hl2 := (Codec.inNat_iff.mp q.1.1).2
        refine ⟨_, cs, rfl, ?_, fun x hx => DP.okAll_of (hbd x hx), hbd, hlen, ?_, fun H' p hp => .lst (L2.SqL.of hp) ?_⟩
        · rw [← hl]
          exact hs
        · rw [← hl]
          exact hl2
        · show L2.DwAll K H' ((DS.tells none cs).map L2.V.int) ((PyKqu6.answers a.1).map WData.int)
          rw [hans]
          exact L2.dw_ints _

