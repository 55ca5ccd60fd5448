import PyProof.Rows.All
import Wide.All
import OpenK.AllK
import Wide.FinOn
import Lean
import PyProof.EqAt
import PyProof.EqKinds
import PyProof.TupleCall
import PySem.Challenge.RW_seek_k07_one_sign
set_option Elab.async false
set_option linter.all false
set_option maxRecDepth 100000
/-! THE HAND LAYER, for ints, bools, texts, own classes, LISTS and tuples (index, slices, in, append, pop ..), calls, loops. Paste it whole ahead of your own text; what your proof does not reach may be deleted. -/
namespace L2
open PySem PySem.Spec PyProof.Rows

/-- a key: an int or a str -/
abbrev Key := Sum Int Str
def keyIs : Key → Value → Bool
  | .inl k, v => Value.isInt k v
  | .inr x, v => Value.isStrOf x v
def keyH (w : World) : Key → Int
  | .inl k => hashInt k
  | .inr x => hashStr w x
theorem keyIs_shape : ∀ {k : Key} {v : Value}, keyIs k v = true → (∃ i t, k = Sum.inl i ∧ v = Value.int i t) ∨ (∃ x t, k = Sum.inr x ∧ v = Value.str x t)
  | .inl i, v, h => by
    obtain ⟨t, e⟩ := Value.isInt_shape (k := i) (v := v) h
    exact .inl ⟨i, t, rfl, e⟩
  | .inr x, v, h => by
    obtain ⟨t, e⟩ := Value.isStrOf_shape (x := x) (v := v) h
    exact .inr ⟨x, t, rfl, e⟩
theorem keyIs_int (i : Int) (t : Tok) : keyIs (.inl i) (.int i t) = true := by simp [keyIs, Value.isInt]
theorem keyIs_str (x : Str) (t : Tok) : keyIs (.inr x) (.str x t) = true := by simp [keyIs, Value.isStrOf]
theorem key_ll (a b : Int) : decide ((Sum.inl a : Key) = Sum.inl b) = (a == b) := by
  by_cases e : a = b
  · subst e; simp
  · have h : ¬ (Sum.inl a : Key) = Sum.inl b := fun q => e (Sum.inl.inj q)
    rw [decide_eq_false h]
    exact (beq_eq_false_iff_ne.mpr e).symm
theorem key_rr (a b : Str) : decide ((Sum.inr a : Key) = Sum.inr b) = decide (a = b) := by
  by_cases e : a = b
  · subst e; simp
  · have h : ¬ (Sum.inr a : Key) = Sum.inr b := fun q => e (Sum.inr.inj q)
    rw [decide_eq_false h, decide_eq_false e]
theorem key_lr (a : Int) (b : Str) : decide ((Sum.inl a : Key) = Sum.inr b) = false := decide_eq_false (fun q => nomatch q)
theorem key_rl (a : Str) (b : Int) : decide ((Sum.inr a : Key) = Sum.inl b) = false := decide_eq_false (fun q => nomatch q)

def mixKind (prog : Program) (w : World) : PySem.KeyKind prog w Key where
  is := keyIs
  hash := keyH w
  inj := fun v a b ha hb => by
    rcases keyIs_shape ha with ⟨i, t, rfl, rfl⟩ | ⟨x, t, rfl, rfl⟩
    · rcases keyIs_shape hb with ⟨j, u, rfl, e⟩ | ⟨y, u, rfl, e⟩
      · injection e with e1 _; rw [e1]
      · exact nomatch e
    · rcases keyIs_shape hb with ⟨j, u, rfl, e⟩ | ⟨y, u, rfl, e⟩
      · exact nomatch e
      · injection e with e1 _; rw [e1]
  byValue := fun k v h => by
    rcases keyIs_shape h with ⟨i, t, rfl, rfl⟩ | ⟨x, t, rfl, rfl⟩ <;> rfl
  pyHash := fun hv h => by
    rcases keyIs_shape hv with ⟨i, t, rfl, rfl⟩ | ⟨x, t, rfl, rfl⟩
    · exact wpAny_pyHash_int h
    · exact wpAny_pyHash_str h
  eqBool := fun hu hv h => by
    rcases keyIs_shape hu with ⟨i, t, rfl, rfl⟩ | ⟨x, t, rfl, rfl⟩
    · rcases keyIs_shape hv with ⟨j, u, rfl, rfl⟩ | ⟨y, u, rfl, rfl⟩
      · rw [key_ll] at h; exact wpAny_eqBool_int h
      · rw [key_lr] at h; exact SeqAt.EqAt.int_str i t y u _ _ _ _ h
    · rcases keyIs_shape hv with ⟨j, u, rfl, rfl⟩ | ⟨y, u, rfl, rfl⟩
      · rw [key_rl] at h; exact SeqAt.EqAt.str_int x t j u _ _ _ _ h
      · rw [key_rr] at h; exact wpAny_eqBool_str h
  «strs» := fun k x t v h => by
    rcases keyIs_shape h with ⟨i, u, rfl, e⟩ | ⟨y, u, rfl, e⟩
    · exact nomatch e
    · injection e with e1 _
      subst e1
      cases v <;> rfl

theorem mixKind_int (prog : Program) (w : World) (i : Int) (t : Tok) : (mixKind prog w).is (.inl i) (.int i t) = true := keyIs_int i t
theorem mixKind_str (prog : Program) (w : World) (x : Str) (t : Tok) : (mixKind prog w).is (.inr x) (.str x t) = true := keyIs_str x t
end L2

namespace L2
open PySem PySem.Spec PyProof.Rows

/-- a value, without the heap -/
inductive V where
  | non | bl (b : Bool) | int (i : Int) | str (x : Str) | byt (b : Array UInt8) | flt (b : UInt64) | ref (a : Addr) | ty (n : String)
  deriving DecidableEq

def RelV : V → Value → Prop
  | .non, u => u = Value.none
  | .bl b, u => u = Value.bool b
  | .int i, u => ∃ t, u = Value.int i t
  | .str x, u => ∃ t, u = Value.str x t
  | .byt b, u => ∃ t, u = Value.bytes b t
  | .flt b, u => ∃ t, u = Value.float b t
  | .ref a, u => u = Value.ref a
  | .ty n, u => u = Value.type n

abbrev Vals : List V → List Value → Prop := Paired RelV
theorem Vals.length {xs : List V} {us : List Value} (r : Vals xs us) : xs.length = us.length := Paired.length r
theorem Vals.get : ∀ {xs : List V} {us : List Value} {i : Nat} {x : V}, Vals xs us → xs[i]? = some x → ∃ u, us[i]? = some u ∧ RelV x u
  | _, _, _, _, .nil, e => by simp at e
  | _, _, 0, _, .cons r _, e => by simp at e; subst e; exact ⟨_, rfl, r⟩
  | _, _, i + 1, x, .cons _ t, e => by
    obtain ⟨u, h1, h2⟩ := Vals.get (i := i) (x := x) t (by simpa using e)
    exact ⟨u, by simpa using h1, h2⟩
theorem Vals.set {x : V} {u : Value} (r : RelV x u) : ∀ {xs : List V} {us : List Value} (i : Nat), Vals xs us → Vals (xs.set i x) (us.set i u)
  | _, _, _, .nil => .nil
  | _, _, 0, .cons _ t => .cons r t
  | _, _, i + 1, .cons q t => .cons q (Vals.set r i t)
theorem Vals.append : ∀ {xs ys : List V} {us ws : List Value}, Vals xs us → Vals ys ws → Vals (xs ++ ys) (us ++ ws)
  | _, _, _, _, .nil, s => s
  | _, _, _, _, .cons r t, s => .cons r (Vals.append t s)
theorem Vals.take : ∀ {xs : List V} {us : List Value} (n : Nat), Vals xs us → Vals (xs.take n) (us.take n)
  | _, _, 0, _ => .nil
  | _, _, _ + 1, .nil => .nil
  | _, _, n + 1, .cons r t => .cons r (Vals.take n t)
theorem Vals.drop : ∀ {xs : List V} {us : List Value} (n : Nat), Vals xs us → Vals (xs.drop n) (us.drop n)
  | _, _, 0, r => r
  | _, _, _ + 1, .nil => .nil
  | _, _, n + 1, .cons _ t => Vals.drop n t
def RelO : Option V → Option Value → Prop
  | some v, some u => RelV v u
  | none, none => True
  | _, _ => False
def KV {κ : Type} : List (κ × V) → List (κ × Value) → Prop := Paired fun (p : κ × V) (q : κ × Value) => p.1 = q.1 ∧ RelV p.2 q.2

/-- a key of a dict (00_mix): an int or a text -/
def kV : Key → V
  | .inl i => .int i
  | .inr x => .str x

/-- what stands at a tracked address -/
inductive HO where
  /-- a list -/
  | lst (xs : List V)
  /-- a tuple (never changes) -/
  | tup (xs : List V)
  /-- a dict whose keys are ints and texts; one whose keys are tuples of ints and texts (the empty one is both) -/
  | dK (kvs : List (Key × V)) | dT (kvs : List (List Key × V))
  /-- a set of ints: its members, its size -/
  | set (S : Int → Bool) (n : Nat)
  /-- an instance of the class at C, its dict at dx, its attributes -/
  | ins (C dx : Addr) (fs : List (Str × V))
  /-- the dict of the instance at x -/
  | own (x : Addr)
  /-- the dict of an exception -/
  | xd (fs : List (Str × V))
  /-- a bound method, f of x -/
  | met (f x : Addr)
  /-- a range object lo, lo + 1, .. below hi -/
  | rng (lo hi : Int)
  /-- a thing that is known to the object (the script; a dict while a loop walks it): read, never written while it is so -/
  | frz (o : Obj) (u : HO)
  /-- a code object's table -/
  | tbl (ps : Array Value)
  /-- any other thing, by what is true of its one object (a def of one's own: SetO a S n := HO.ext fun h => ..) -/
  | ext (φ : Heap → Prop)

abbrev Hp := Addr → Option HO
def upd (H : Hp) (a : Addr) (o : HO) : Hp := fun b => if b = a then some o else H b
theorem upd_same {H : Hp} {a : Addr} {o : HO} : upd H a o a = some o := by unfold upd; rw [if_pos rfl]
theorem upd_ne {H : Hp} {a b : Addr} {o : HO} (h : b ≠ a) : upd H a o b = H b := by unfold upd; rw [if_neg h]
/-- two objects of different content stand apart -/
theorem ne_of {H : Hp} {a b : Addr} {o u : HO} (h : H a = some o) (h' : H b = some u) (d : o ≠ u) : a ≠ b := by
  intro e; subst e; rw [h] at h'; exact d (Option.some.inj h')
theorem ne_of_none {H : Hp} {a b : Addr} {o : HO} (h : H a = some o) (h' : H b = none) : a ≠ b := by
  intro e; subst e; rw [h] at h'; cases h'

section
variable (P : Program) (w : World)
def ObjOk (H : Hp) (h : Heap) (a : Addr) : HO → Prop
  | .lst xs => xs.length ≤ sizeLine ∧ ∃ (its : List Value) (n : Nat), Vals xs its ∧ h.get? a = some { cls := .type "list", data := .seq its.toArray n }
  | .tup xs => xs.length ≤ sizeLine ∧ ∃ its : List Value, Vals xs its ∧ IsTup h a its.toArray
  | .dK kvs => kvs.length ≤ sizeLine ∧ (a == sysModules) = false ∧ ∃ vs, KV kvs vs ∧ h.DictOf (mixKind P w) a vs
  | .dT kvs => kvs.length ≤ sizeLine ∧ (a == sysModules) = false ∧ ∃ xs : List (List Key × Addr × Value),
      Paired (fun (p : List Key × V) (q : List Key × Addr × Value) => p.1 = q.1 ∧ H q.2.1 = some (.tup (p.1.map kV)) ∧ RelV p.2 q.2.2) kvs xs ∧
      ∃ o es ep, h.get? a = some o ∧ o.ExactDict ∧ o.data = .dict es ep ∧ es.toList = xs.map (entryOfKey (tupleKind (mixKind P w))) ∧ (xs.map (·.1)).Nodup
  | .set S n => h.SetOf (intKind P w) a S n
  | .ins C dx fs => H dx = some (.own a) ∧ fs.length ≤ 1000 ∧ dx ≠ a ∧ h.get? a = some (PySem.W.instObj C dx) ∧
      ∃ mA, h.Ns1 dx mA ∧ (∀ f, RelO (fs.lookup f) (mA f)) ∧ PySem.Within mA (fs.map (·.1))
  | .own _ => ∃ o, h.get? a = some o
  | .xd fs => ∃ mA, h.Ns1 a mA ∧ ∀ f, RelO (fs.lookup f) (mA f)
  | .rng lo hi => ∃ t u v, h.get? a = some { cls := .type "range", data := .fields #[.int lo t, .int hi u, .int 1 v] }
  | .frz o u => h.get? a = some o ∧ ObjOk H h a u
  | .tbl ps => h.get? a = some { cls := .none, data := .fields ps }
  | .met f x => h.get? a = some (PySem.W.methodObj (.ref f) (.ref x))
  | .ext φ => φ h ∧ (∃ o, h.get? a = some o) ∧ ∀ h1 h2 : Heap, φ h1 → (∀ o, h1.get? a = some o → h2.get? a = some o) → φ h2
/-- the abstract heap is held -/
def HOk (H : Hp) (h : Heap) : Prop := ∀ a o, H a = some o → ObjOk P w H h a o
end

section
variable {P : Program} {w : World} {H H' : Hp} {h h' : Heap} {a : Addr} {o : HO}
theorem ObjOk.lt (x : ObjOk P w H h a o) : a < h.objs.size := by
  cases o with
  | lst xs => obtain ⟨_, _, _, _, e⟩ := x; exact Heap.lt_size e
  | tup xs => obtain ⟨_, _, _, p⟩ := x; exact p.lt
  | dK kvs => obtain ⟨_, _, _, _, o, _, _, e, _⟩ := x; exact Heap.lt_size e
  | dT kvs => obtain ⟨_, _, _, _, o, _, _, e, _⟩ := x; exact Heap.lt_size e
  | set S n => obtain ⟨o, _, _, _, e, _⟩ := x; exact Heap.lt_size e
  | ins C dx fs => obtain ⟨_, _, _, e, _⟩ := x; exact Heap.lt_size e
  | own y => obtain ⟨_, e⟩ := x; exact Heap.lt_size e
  | xd fs => obtain ⟨_, ⟨_, _, _, e, _⟩, _⟩ := x; exact Heap.lt_size e
  | rng lo hi => obtain ⟨_, _, _, e⟩ := x; exact Heap.lt_size e
  | frz ob u => obtain ⟨e, _⟩ := x; exact Heap.lt_size e
  | tbl ps => exact Heap.lt_size (show h.get? a = some _ from x)
  | met f y => exact Heap.lt_size (show h.get? a = some _ from x)
  | ext φ => obtain ⟨_, ⟨_, e⟩, _⟩ := x; exact Heap.lt_size e
theorem Paired.mapP {α β : Type} {F G : α → β → Prop} : ∀ {l₁ : List α} {l₂ : List β}, Paired F l₁ l₂ → (∀ a b, F a b → G a b) → Paired G l₁ l₂
  | _, _, .nil, _ => .nil
  | _, _, .cons r t, f => .cons (f _ _ r) (Paired.mapP t f)
/-- what an object's description leans on: its own object, its own dict, the tuples -/
theorem ObjOk.stay (x : ObjOk P w H h a o) (k : ∀ b u, (b = a ∨ H b = some (.own a)) → h.get? b = some u → h'.get? b = some u)
    (ho : ∀ b, H b = some (.own a) → H' b = some (.own a)) (ht : ∀ b xs, H b = some (.tup xs) → H' b = some (.tup xs)) : ObjOk P w H' h' a o := by
  induction o with
  | lst xs => obtain ⟨z, its, n, r, e⟩ := x; exact ⟨z, its, n, r, k _ _ (.inl rfl) e⟩
  | tup xs => obtain ⟨z, its, r, ob, e, c⟩ := x; exact ⟨z, its, r, ob, k _ _ (.inl rfl) e, c⟩
  | dK kvs => obtain ⟨z, y, vs, r, ob, es, ep, e, c⟩ := x; exact ⟨z, y, vs, r, ob, es, ep, k _ _ (.inl rfl) e, c⟩
  | dT kvs =>
    obtain ⟨z, y, xs, r, ob, es, ep, e, c⟩ := x
    exact ⟨z, y, xs, Paired.mapP r fun p q z => ⟨z.1, ht _ _ z.2.1, z.2.2⟩, ob, es, ep, k _ _ (.inl rfl) e, c⟩
  | set S n => obtain ⟨ob, es, ep, t, e, c⟩ := x; exact ⟨ob, es, ep, t, k _ _ (.inl rfl) e, c⟩
  | ins C dx fs =>
    obtain ⟨d, z, ne, e, mA, ⟨od, es, ep, e2, c⟩, r⟩ := x
    exact ⟨ho _ d, z, ne, k _ _ (.inl rfl) e, mA, ⟨od, es, ep, k _ _ (.inr d) e2, c⟩, r⟩
  | own y => obtain ⟨ob, e⟩ := x; exact ⟨ob, k _ _ (.inl rfl) e⟩
  | xd fs => obtain ⟨mA, ⟨od, es, ep, e, c⟩, r⟩ := x; exact ⟨mA, ⟨od, es, ep, k _ _ (.inl rfl) e, c⟩, r⟩
  | rng lo hi => obtain ⟨t, u, v, e⟩ := x; exact ⟨t, u, v, k _ _ (.inl rfl) e⟩
  | frz ob u ih => obtain ⟨e, q⟩ := x; exact ⟨k _ _ (.inl rfl) e, ih q⟩
  | tbl ps =>
    have e : h.get? a = some { cls := .none, data := .fields ps } := x
    show h'.get? a = some { cls := .none, data := .fields ps }
    exact k a _ (.inl rfl) e
  | met f y =>
    have e : h.get? a = some (PySem.W.methodObj (.ref f) (.ref y)) := x
    show h'.get? a = some (PySem.W.methodObj (.ref f) (.ref y))
    exact k a _ (.inl rfl) e
  | ext φ => obtain ⟨p, ⟨o, e⟩, st⟩ := x; exact ⟨st _ _ p fun o q => k _ _ (.inl rfl) q, ⟨o, k _ _ (.inl rfl) e⟩, st⟩
theorem HOk.lt (x : HOk P w H h) (e : H a = some o) : a < h.objs.size := (x a o e).lt
theorem HOk.fresh (x : HOk P w H h) (e : h.objs.size ≤ a) : H a = none := by
  cases q : H a with
  | none => rfl
  | some u => exact absurd (Nat.lt_of_lt_of_le (x.lt q) e) (Nat.lt_irrefl _)
/-- every object of the heap is kept -/
theorem HOk.kept (x : HOk P w H h) (k : ∀ b u, h.get? b = some u → h'.get? b = some u) : HOk P w H h' := fun a o e =>
  (x a o e).stay (fun b u _ q => k b u q) (fun _ q => q) fun _ _ q => q
/-- a new object is laid and tracked -/
theorem HOk.laid (x : HOk P w H h) (k : ∀ b u, h.get? b = some u → h'.get? b = some u) (hp : h.objs.size ≤ a) (new : ObjOk P w (upd H a o) h' a o) : HOk P w (upd H a o) h' := fun b u e => by
  have hn := x.fresh hp
  by_cases hb : b = a
  · subst hb; rw [upd_same] at e; cases e; exact new
  · rw [upd_ne hb] at e
    exact (x b u e).stay (fun c v _ q => k c v q) (fun c q => by rw [upd_ne (ne_of_none q hn)]; exact q) fun c xs q => by rw [upd_ne (ne_of_none q hn)]; exact q
end

/-- what may be read as u: it is u, or a known u -/
def Rd (H : Hp) (a : Addr) (u : HO) : Prop := H a = some u ∨ ∃ o, H a = some (.frz o u)
theorem Rd.ok {P : Program} {w : World} {H : Hp} {h : Heap} {a : Addr} {u : HO} (r : Rd H a u) (x : HOk P w H h) : ObjOk P w H h a u := by
  rcases r with r | ⟨o, r⟩
  · exact x a u r
  · obtain ⟨_, q⟩ := x a _ r
    exact q
/-- what may be written -/
def Mut : Option HO → Prop
  | some (.lst _) => True
  | some (.dK _) => True
  | some (.dT _) => True
  | some (.set _ _) => True
  | some (.ins _ _ _) => True
  | some (.ext _) => True
  | _ => False
section
variable {P : Program} {w : World} {H : Hp} {h h' : Heap} {x e : Addr} {o' : HO}
/-- the object at e is changed: x itself, or the dict of the instance x -/
theorem HOk.write (ok : HOk P w H h) (mu : Mut (H x)) (he : e = x ∨ H e = some (.own x)) (k : ∀ b u, b ≠ e → h.get? b = some u → h'.get? b = some u) (heo : ∃ u, h'.get? e = some u)
    (new : ObjOk P w (upd H x o') h' x o') : HOk P w (upd H x o') h' := fun b u q => by
  have nown : ∀ c y, H c = some (.own y) → c ≠ x := fun c y r z => by subst z; rw [r] at mu; exact mu
  have ntup : ∀ c xs, H c = some (.tup xs) → c ≠ x := fun c xs r z => by subst z; rw [r] at mu; exact mu
  by_cases hb : b = x
  · subst hb; rw [upd_same] at q; cases q; exact new
  · rw [upd_ne hb] at q
    by_cases hbe : b = e
    · have q' : H b = some (.own x) := by
        rcases he with z | z
        · exact absurd (hbe.trans z) hb
        · rw [hbe]; exact z
      rw [q] at q'; cases q'
      obtain ⟨v, hv⟩ := heo
      exact ⟨v, by rw [hbe]; exact hv⟩
    · refine (ok b u q).stay (fun c v hc r => k c v ?_ r) (fun c r => by rw [upd_ne (nown c b r)]; exact r) fun c xs r => by rw [upd_ne (ntup c xs r)]; exact r
      rcases hc with rfl | hc
      · exact hbe
      · rintro rfl
        rcases he with z | z
        · exact nown c b hc z
        · rw [hc] at z; cases z; exact hb rfl
end

/-! ### kept unless tracked; of the frames at fs (the callers') the slots may change (an exception that passes writes there); of the records at ex (iterators) nothing is said -/
structure Un (fs ex : List Addr) (H H' : Hp) (h h' : Heap) : Prop where
  keep : ∀ b o, h.get? b = some o → H b = none → b ∉ fs → b ∉ ex → h'.get? b = some o
  slot : ∀ b o, h.get? b = some o → H b = none → b ∈ fs → b ∉ ex → ∃ sl, h'.get? b = some { o with slots := sl }
  free : ∀ b o, h.get? b = some o → H b = none → b ∉ ex → H' b = none
  there : ∀ b o, h.get? b = some o → b ∉ ex → ∃ o', h'.get? b = some o'
  tups : ∀ b xs, H b = some (.tup xs) → H' b = some (.tup xs)
  frzs : ∀ b o u, H b = some (.frz o u) → H' b = some (.frz o u)
  tbls : ∀ b ps, H b = some (.tbl ps) → ∃ more, H' b = some (.tbl (ps ++ more))
section
variable {fs fs' ex ex' : List Addr} {H H1 H2 : Hp} {h h1 h2 h' : Heap} {a x e : Addr} {o : HO}
theorem Un.any (u : Un fs ex H H1 h h1) {b : Addr} {ob : Obj} (q : h.get? b = some ob) (n : H b = none) (hx : b ∉ ex) : ∃ sl, h1.get? b = some { ob with slots := sl } := by
  by_cases hb : b ∈ fs
  · exact u.slot b ob q n hb hx
  · exact ⟨ob.slots, u.keep b ob q n hb hx⟩
theorem Un.trans (a : Un fs ex H H1 h h1) (b : Un fs ex H1 H2 h1 h2) : Un fs ex H H2 h h2 where
  keep := fun c ob q n hc hx => b.keep c ob (a.keep c ob q n hc hx) (a.free c ob q n hx) hc hx
  slot := fun c ob q n hc hx => by
    obtain ⟨sl, e1⟩ := a.slot c ob q n hc hx
    obtain ⟨sl', e2⟩ := b.slot c _ e1 (a.free c ob q n hx) hc hx
    exact ⟨sl', e2⟩
  free := fun c ob q n hx => by
    obtain ⟨o', e1⟩ := a.there c ob q hx
    exact b.free c o' e1 (a.free c ob q n hx) hx
  there := fun c ob q hx => by
    obtain ⟨o', e1⟩ := a.there c ob q hx
    exact b.there c o' e1 hx
  tups := fun c xs q => b.tups c xs (a.tups c xs q)
  frzs := fun c ob xs q => b.frzs c ob xs (a.frzs c ob xs q)
  tbls := fun c ps q => by
    obtain ⟨m1, e1⟩ := a.tbls c ps q
    obtain ⟨m2, e2⟩ := b.tbls c _ e1
    exact ⟨m1 ++ m2, by rw [e2, Array.append_assoc]⟩
theorem Un.kept (k : ∀ b u, h.get? b = some u → h'.get? b = some u) : Un fs ex H H h h' :=
  ⟨fun b ob q _ _ _ => k b ob q, fun b ob q _ _ _ => ⟨ob.slots, k b ob q⟩, fun _ _ _ n _ => n, fun b ob q _ => ⟨ob, k b ob q⟩, fun _ _ q => q, fun _ _ _ q => q, fun _ ps q => ⟨#[], by rw [q]; simp⟩⟩
theorem Un.refl : Un fs ex H H h h := Un.kept fun _ _ q => q
theorem Un.laid (k : ∀ b u, h.get? b = some u → h'.get? b = some u) (hp : h.objs.size ≤ a) (hn : H a = none) : Un fs ex H (upd H a o) h h' where
  keep := fun b u q _ _ _ => k b u q
  slot := fun b u q _ _ _ => ⟨u.slots, k b u q⟩
  free := fun b u q n _ => by rw [upd_ne (Nat.ne_of_lt (Nat.lt_of_lt_of_le (Heap.lt_size q) hp))]; exact n
  there := fun b u q _ => ⟨u, k b u q⟩
  tups := fun b xs q => by rw [upd_ne (ne_of_none q hn)]; exact q
  frzs := fun b u xs q => by rw [upd_ne (ne_of_none q hn)]; exact q
  tbls := fun b ps q => ⟨#[], by rw [upd_ne (ne_of_none q hn), q]; simp⟩
theorem Un.write (mu : Mut (H x)) (he : e = x ∨ H e = some (.own x)) (k : ∀ b u, b ≠ e → h.get? b = some u → h'.get? b = some u) (heo : ∃ u, h'.get? e = some u) : Un fs ex H (upd H x o) h h' := by
  have hx : ∀ b, H b = none → b ≠ x := fun b n z => by subst z; rw [n] at mu; exact mu
  have hb : ∀ b, H b = none → b ≠ e := fun b n z => by
    subst z
    rcases he with r | r
    · exact hx b n r
    · rw [n] at r; cases r
  have hm : ∀ b u, H b = some u → ¬ Mut (some u) → b ≠ x := fun b u q nm z => by subst z; rw [q] at mu; exact nm mu
  refine ⟨fun b u q n _ _ => k b u (hb b n) q, fun b u q n _ _ => ⟨u.slots, k b u (hb b n) q⟩, fun b u q n _ => by rw [upd_ne (hx b n)]; exact n, fun b u q _ => ?_,
    fun b xs q => by rw [upd_ne (hm b _ q fun z => z)]; exact q, fun b u xs q => by rw [upd_ne (hm b _ q fun z => z)]; exact q, fun b ps q => ⟨#[], by rw [upd_ne (hm b _ q fun z => z), q]; simp⟩⟩
  by_cases hbe : b = e
  · subst hbe; exact heo
  · exact ⟨u, k b u hbe q⟩
end

/-! ### the heap without what is tracked -/
def trk (h : Heap) (H : Hp) : List Addr := (List.range h.objs.size).filter fun a => (H a).isSome
def hidT (h : Heap) (H : Hp) : Heap := PySem.W.hideAll h (trk h H)
theorem hidT_size (h : Heap) (H : Hp) : (hidT h H).objs.size = h.objs.size := PySem.W.hideAll_size _ _
theorem hidT_get {h : Heap} {H : Hp} {b : Addr} {o : Obj} (e : h.get? b = some o) (n : H b = none) : (hidT h H).get? b = some o :=
  PySem.W.hideAll_get _ e fun hm => by
    have q : (H b).isSome = true := (List.mem_filter.mp hm).2
    rw [n] at q; simp at q
theorem of_hidT {h : Heap} {H : Hp} {b : Addr} {o : Obj} (e : (hidT h H).get? b = some o) : h.get? b = some o ∧ H b = none := by
  have e' : h.get? b = some o := PySem.W.of_hideAll (trk h H) e
  refine ⟨e', ?_⟩
  cases q : H b with
  | none => rfl
  | some x =>
    have hm : b ∈ trk h H := List.mem_filter.mpr ⟨List.mem_range.mpr (Heap.lt_size e'), by simp [q]⟩
    have z : (hidT h H).get? b = none := PySem.W.hideAll_none (trk h H) hm
    rw [z] at e; cases e

/-! ### OpenK's ledger, filled with every new object but one -/
def allNews (g h : Heap) (L : Addr) : List (Addr × Obj) := (List.range h.objs.size).filterMap fun a => if a = L ∨ (g.get? a).isSome = true then none else (h.get? a).map fun o => (a, o)
def rest (g h : Heap) (L d : Addr) : List (Addr × Obj) := (allNews g h L).filter fun p => decide (p.1 ≠ d)
end L2

namespace L2
open PySem PySem.Spec PyProof.Rows

/-- the module's facts, over the base: the heap at the law's entry without what is tracked there -/
structure Mod (K : PySem.W.Frag) (mg : Str → Option Value) (base : Heap) : Prop where
  kin : K.In base
  glob : base.Ns mainGlobals mg
  blt : ∃ mb, base.Ns builtinsNs mb ∧ ∀ x : Str, x ≠ "__name__" → mb x = bootBuiltins x
  nolimit : base.NoLimit

/-- the context: a def's body (or a comprehension's block) running. base: fixed through the whole law; s₀, H₀: the entry; outer: the frames whose slots others may change (a def's callers); stack: all frames that run;
   ex: iterators that were made ahead of the entry and are walked here (a comprehension's); fn: the names whose cells were made at the entry (a def: all; a comprehension's block: its own); calm: not within an except suite; pn: pins that every state bears; xe: what is wanted of an exception that leaves the code -/
structure Cx where
  prog : Program
  w : World
  K : PySem.W.Frag
  mg : Str → Option Value
  base : Heap
  A : Around
  N : List Str
  s₀ : Shared
  H₀ : Hp
  env : Env
  outer : List Env
  stack : List Env
  ex : List Addr
  fn : Str → Bool
  calm : Bool
  pn : List (Addr × Obj)
  xe : Value → Shared → Prop
/-- the callers' frames -/
def frs (l : List Env) : List Addr := l.filterMap (·.frame)
abbrev Cx.fs (X : Cx) : List Addr := frs X.outer

def Vis (sc : Scope) (x : Str) : Prop := sc.names.lookup x = some .local ∨ sc.names.lookup x = some .cell ∨ sc.names.lookup x = some .free
def Loc (sc : Scope) (x : Str) : Prop := sc.names.lookup x = some .local ∨ sc.names.lookup x = some .cell
def Look (env : Env) (h : Heap) (m : Str → Option Value) (x : Str) (u : Value) : Prop :=
  (env.kindOf x = some .local ∧ m x = some u) ∨ ((env.kindOf x = some .cell ∨ env.kindOf x = some .free) ∧ ∃ c, env.cells.lookup x = some c ∧ h.IsCell c (some u))

structure Cx.Ok (X : Cx) : Prop where
  mod : Mod X.K X.mg X.base
  kind : X.env.scope.kind = .function
  glob : X.env.globals = mainGlobals
  blt : X.env.builtins = builtinsNs
  above : X.s₀.heap.objs.size ≤ X.env.locals
  inj : ∀ x y c, X.env.cells.lookup x = some c → X.env.cells.lookup y = some c → x = y
  has : ∀ x, (X.env.kindOf x = some .cell ∨ X.env.kindOf x = some .free) → ∃ c, X.env.cells.lookup x = some c
  cab : ∀ x c, X.fn x = true → X.env.cells.lookup x = some c → X.s₀.heap.objs.size ≤ c
  hd : X.calm = true → X.A.handled = none
  frames : X.A.frames = some X.stack
  stk : X.stack = X.outer ∨ (X.stack = X.env :: X.outer ∧ X.env.frame = some X.env.locals)
  exf : ∀ b ∈ X.ex, b ≠ X.env.locals ∧ ∀ x c, X.env.cells.lookup x = some c → c ≠ b
  bs : ∀ b o, X.base.get? b = some o → X.s₀.heap.get? b = some o ∧ X.H₀ b = none
  bsz : X.base.objs.size ≤ X.s₀.heap.objs.size
  noex : ∀ b o, X.base.get? b = some o → b ∉ X.ex
  exfs : ∀ b ∈ X.ex, b ∉ X.fs
  funs : X.s₀.heap.FunFrames X.base X.outer
  frf : ∀ b ∈ X.fs, X.H₀ b = none

structure Inv (X : Cx) (pins : List (Addr × Obj)) (σ : List (Option V)) (H : Hp) (s : Shared) : Prop where
  ok : X.Ok
  os : s.os = X.s₀.os
  bare : AllBare s.gens
  base : Un X.fs X.ex X.H₀ H X.s₀.heap s.heap
  loc : ∃ m, s.heap.Ns X.env.locals m ∧ ∀ (i : Nat) (x : Str) (v : V), X.N[i]? = some x → σ[i]? = some (some v) → Vis X.env.scope x → ∃ u, RelV v u ∧ Look X.env s.heap m x u
  cell : ∀ x c, X.env.cells.lookup x = some c → ∃ v, s.heap.IsCell c v
  free : H X.env.locals = none
  freeC : ∀ x c, X.env.cells.lookup x = some c → H c = none
  pin : ∀ p ∈ X.pn ++ pins, s.heap.get? p.1 = some p.2 ∧ H p.1 = none ∧ p.1 ≠ X.env.locals ∧ p.1 ∉ X.fs ∧ ∀ v, p.2.data ≠ .cell v
  hok : HOk X.prog X.w H s.heap
  len : σ.length = X.N.length

section
variable {X : Cx} {pins : List (Addr × Obj)} {σ : List (Option V)} {H H' : Hp} {s : Shared} {h' : Heap}

theorem Cx.Ok.nofr (ok : X.Ok) {b : Addr} {o : Obj} (e : X.base.get? b = some o) : b ∉ X.fs := fun hb => by
  have := (ok.funs.mem hb).1
  rw [e] at this; cases this
theorem Inv.bs (I : Inv X pins σ H s) : ∀ b o, X.base.get? b = some o → s.heap.get? b = some o ∧ H b = none := fun b o e =>
  ⟨I.base.keep b o (I.ok.bs b o e).1 (I.ok.bs b o e).2 (I.ok.nofr e) (I.ok.noex b o e), I.base.free b o (I.ok.bs b o e).1 (I.ok.bs b o e).2 (I.ok.noex b o e)⟩
theorem Inv.bk (I : Inv X pins σ H s) : ∀ b o, X.base.get? b = some o → s.heap.get? b = some o := fun b o e => (I.bs b o e).1
theorem Inv.mod (I : Inv X pins σ H s) : Mod X.K X.mg X.base := I.ok.mod
theorem Inv.kIn (I : Inv X pins σ H s) : X.K.In s.heap := I.ok.mod.kin.keeps I.bk
theorem Inv.lt (I : Inv X pins σ H s) : X.env.locals < s.heap.objs.size := let ⟨_, hn, _⟩ := I.loc; hn.lt
theorem Inv.sz (I : Inv X pins σ H s) : X.s₀.heap.objs.size ≤ s.heap.objs.size := Nat.le_trans I.ok.above (Nat.le_of_lt I.lt)
theorem Inv.nofs (I : Inv X pins σ H s) {a : Addr} (h : s.heap.objs.size ≤ a) : a ∉ X.fs := fun hb => by
  obtain ⟨_, o, ho, _⟩ := I.ok.funs.mem hb
  exact absurd (Nat.lt_of_lt_of_le (Heap.lt_size ho) (Nat.le_trans I.sz h)) (Nat.lt_irrefl _)
theorem Inv.cne (I : Inv X pins σ H s) : ∀ x c, X.env.cells.lookup x = some c → c ≠ X.env.locals := fun x c e z => by
  obtain ⟨v, o, ho, hd⟩ := I.cell x c e
  obtain ⟨m, ⟨o', es, ep, ho', hd', _⟩, _⟩ := I.loc
  rw [z, ho'] at ho; cases ho; rw [hd'] at hd; cases hd
theorem Inv.funs (I : Inv X pins σ H s) : s.heap.FunFrames X.base X.outer := by
  have all : ∀ (l : List Env), (∀ b ∈ frs l, b ∈ X.fs) → X.s₀.heap.FunFrames X.base l → s.heap.FunFrames X.base l := by
    intro l
    induction l with
    | nil => intro _ _; trivial
    | cons env r ih =>
      intro hs hl
      obtain ⟨hk, ⟨L, o, hf, hn, ho, hd⟩, hr⟩ := hl
      have hL : L ∈ X.fs := hs L (by unfold frs; rw [List.filterMap_cons, hf]; exact List.mem_cons_self)
      obtain ⟨sl, e⟩ := I.base.slot L o ho (I.ok.frf L hL) hL fun z => I.ok.exfs L z hL
      exact ⟨hk, ⟨L, _, hf, hn, e, hd⟩, ih (fun b hb => hs b (by unfold frs; rw [List.filterMap_cons, hf]; exact List.mem_cons_of_mem _ hb)) hr⟩
  exact all X.outer (fun _ hb => hb) I.ok.funs

/-- the frames that run, for a call -/
theorem Inv.stack (I : Inv X pins σ H s) : s.heap.FunFrames X.base X.stack := by
  rcases I.ok.stk with e | ⟨e, hf⟩
  · rw [e]; exact I.funs
  · rw [e]
    obtain ⟨m, hn, _⟩ := I.loc
    refine .cons (by rw [I.ok.kind]; decide) hf hn ?_ I.funs
    exact Heap.get?_none_of_le (Nat.le_trans I.ok.bsz I.ok.above)
theorem Inv.stkSub (I : Inv X pins σ H s) : ∀ b ∈ frs X.stack, b ∈ X.env.locals :: X.fs := fun b hb => by
  rcases I.ok.stk with e | ⟨e, hf⟩
  · rw [e] at hb; exact List.mem_cons_of_mem _ hb
  · rw [e] at hb
    unfold frs at hb
    rw [List.filterMap_cons, hf] at hb
    exact hb
theorem Inv.stkFree (I : Inv X pins σ H s) : ∀ b ∈ frs X.stack, H b = none := fun b hb => by
  rcases List.mem_cons.mp (I.stkSub b hb) with e | hb
  · rw [e]; exact I.free
  · obtain ⟨_, o, ho, _⟩ := I.ok.funs.mem hb
    exact I.base.free b o ho (I.ok.frf b hb) fun z => I.ok.exfs b z hb

/-- THE STEP: the untracked objects but the frame and the records at ch are kept (the callers' frames up to slots), the frame's map is kept, the new abstract heap is held -/
theorem Inv.step {g' : Array GenState} {t' : Nat} {d' : Drawn} {ch : List Addr} (I : Inv X pins σ H s)
    (hch : ∀ b ∈ ch, (b ∈ X.ex ∨ X.s₀.heap.objs.size ≤ b) ∧ b ≠ X.env.locals ∧ (∀ x c, X.env.cells.lookup x = some c → c ≠ b) ∧ ∀ p ∈ X.pn ++ pins, p.1 ≠ b)
    (keep : ∀ b o, b ≠ X.env.locals → b ∉ X.fs → b ∉ ch → s.heap.get? b = some o → H b = none → h'.get? b = some o)
    (slot : ∀ b o, b ≠ X.env.locals → b ∈ X.fs → b ∉ ch → s.heap.get? b = some o → H b = none → ∃ sl, h'.get? b = some { o with slots := sl }) (free : ∀ b o, b ∉ ch → s.heap.get? b = some o → H b = none → H' b = none)
    (there : ∀ b o, b ∉ ch → s.heap.get? b = some o → ∃ o', h'.get? b = some o')
    (tups : ∀ b xs, H b = some (.tup xs) → H' b = some (.tup xs)) (frzs : ∀ b o u, H b = some (.frz o u) → H' b = some (.frz o u)) (tbls : ∀ b ps, H b = some (.tbl ps) → ∃ more, H' b = some (.tbl (ps ++ more)))
    (ns : ∀ m, s.heap.Ns X.env.locals m → h'.Ns X.env.locals m) (hok : HOk X.prog X.w H' h') (hg : AllBare g') :
    Inv X pins σ H' { s with heap := h', gens := g', drawn := d', toks := t' } := by
  have neL : ∀ b o, X.s₀.heap.get? b = some o → b ≠ X.env.locals := fun b o e => Nat.ne_of_lt (Nat.lt_of_lt_of_le (Heap.lt_size e) I.ok.above)
  have neC : ∀ b o, X.s₀.heap.get? b = some o → b ∉ X.ex → b ∉ ch := fun b o e hx hb => by
    rcases (hch b hb).1 with z | z
    · exact hx z
    · exact absurd (Nat.lt_of_lt_of_le (Heap.lt_size e) z) (Nat.lt_irrefl _)
  have cellK : ∀ x c, X.env.cells.lookup x = some c → ∀ v, s.heap.IsCell c v → h'.IsCell c v := fun x c e v ⟨o, ho, hd⟩ => by
    have nch : c ∉ ch := fun z => (hch c z).2.2.1 x c e rfl
    by_cases hc : c ∈ X.fs
    · obtain ⟨sl, q⟩ := slot c o (I.cne x c e) hc nch ho (I.freeC x c e)
      exact ⟨_, q, hd⟩
    · exact ⟨o, keep c o (I.cne x c e) hc nch ho (I.freeC x c e), hd⟩
  refine ⟨I.ok, I.os, hg, ⟨fun b o e n hb hx => ?_, fun b o e n hb hx => ?_, fun b o e n hx => ?_, fun b o e hx => ?_, fun b xs e => tups b xs (I.base.tups b xs e), fun b o xs e => frzs b o xs (I.base.frzs b o xs e), fun b ps e => ?_⟩, ?_, fun x c e => ?_, ?_, fun x c e => ?_, fun p hp => ?_, hok, I.len⟩
  · exact keep b o (neL b o e) hb (neC b o e hx) (I.base.keep b o e n hb hx) (I.base.free b o e n hx)
  · obtain ⟨sl, e1⟩ := I.base.slot b o e n hb hx
    obtain ⟨sl', e2⟩ := slot b _ (neL b o e) hb (neC b o e hx) e1 (I.base.free b o e n hx)
    exact ⟨sl', e2⟩
  · obtain ⟨o', e1⟩ := I.base.there b o e hx
    exact free b o' (neC b o e hx) e1 (I.base.free b o e n hx)
  · obtain ⟨o', e1⟩ := I.base.there b o e hx
    exact there b o' (neC b o e hx) e1
  · obtain ⟨m1, e1⟩ := I.base.tbls b ps e
    obtain ⟨m2, e2⟩ := tbls b _ e1
    exact ⟨m1 ++ m2, by rw [e2, Array.append_assoc]⟩
  · obtain ⟨m, hn, hl⟩ := I.loc
    refine ⟨m, ns m hn, fun i x v e1 e2 e3 => ?_⟩
    obtain ⟨u, r, l⟩ := hl i x v e1 e2 e3
    refine ⟨u, r, ?_⟩
    rcases l with l | ⟨k, c, e, z⟩
    · exact .inl l
    · exact .inr ⟨k, c, e, cellK x c e _ z⟩
  · obtain ⟨v, z⟩ := I.cell x c e
    exact ⟨v, cellK x c e v z⟩
  · obtain ⟨m, ⟨o, _, _, ho, _⟩, _⟩ := I.loc
    exact free _ o (fun z => (hch _ z).2.1 rfl) ho I.free
  · obtain ⟨v, o, ho, hd⟩ := I.cell x c e
    exact free c o (fun z => (hch c z).2.2.1 x c e rfl) ho (I.freeC x c e)
  · obtain ⟨e, n, ne, nf, d⟩ := I.pin p hp
    have nch : p.1 ∉ ch := fun z => (hch p.1 z).2.2.2 p hp rfl
    exact ⟨keep p.1 p.2 ne nf nch e n, free p.1 p.2 nch e n, ne, nf, d⟩
/-- .. where the frame's own object is kept too -/
theorem Inv.un {t' : Nat} (I : Inv X pins σ H s) (u : Un X.fs [] H H' s.heap h') (hok : HOk X.prog X.w H' h') : Inv X pins σ H' { s with heap := h', toks := t' } := by
  obtain ⟨m, ⟨o, es, ep, ho, r⟩, _⟩ := id I.loc
  obtain ⟨sl, hL⟩ := u.any ho I.free (by simp)
  exact I.step (g' := s.gens) (d' := s.drawn) (ch := []) (fun _ z => nomatch z) (fun b o _ hb _ e n => u.keep b o e n hb (by simp)) (fun b o _ hb _ e n => u.slot b o e n hb (by simp)) (fun b o _ e n => u.free b o e n (by simp)) (fun b o _ e => u.there b o e (by simp)) u.tups u.frzs u.tbls (fun m' hm => by
    obtain ⟨o', es', ep', ho', r'⟩ := hm
    rw [ho] at ho'; cases ho'
    exact ⟨_, es', ep', hL, r'⟩) hok I.bare
/-- behind a call (or a comprehension's block): the slots of this frame may have changed too, the records at ch may have turned -/
theorem Inv.call {g' : Array GenState} {t' : Nat} {d' : Drawn} {ch : List Addr} (I : Inv X pins σ H s) (u : Un (frs X.stack) ch H H' s.heap h') (hok : HOk X.prog X.w H' h') (hg : AllBare g')
    (hch : ∀ b ∈ ch, (b ∈ X.ex ∨ X.s₀.heap.objs.size ≤ b) ∧ b ≠ X.env.locals ∧ (∀ x c, X.env.cells.lookup x = some c → c ≠ b) ∧ ∀ p ∈ X.pn ++ pins, p.1 ≠ b) :
    Inv X pins σ H' { s with heap := h', gens := g', drawn := d', toks := t' } := by
  obtain ⟨m, ⟨o, es, ep, ho, r⟩, _⟩ := id I.loc
  obtain ⟨sl, hL⟩ := u.any ho I.free fun z => (hch _ z).2.1 rfl
  exact I.step (ch := ch) hch (fun b o hL hb hc e n => u.keep b o e n (fun z => (List.mem_cons.mp (I.stkSub b z)).elim hL hb) hc) (fun b o _ _ hc e n => u.any e n hc) (fun b o hc e n => u.free b o e n hc) (fun b o hc e => u.there b o e hc) u.tups u.frzs u.tbls (fun m' hm => by
    obtain ⟨o', es', ep', ho', r'⟩ := hm
    rw [ho] at ho'; cases ho'
    exact ⟨_, es', ep', hL, r'⟩) hok hg
/-- an untracked record of ours (an iterator) has turned -/
theorem Inv.turned {t' : Nat} {it : Addr} (I : Inv X pins σ H s) (k : ∀ b o, b ≠ it → s.heap.get? b = some o → h'.get? b = some o) (hn : H it = none) (hL : it ≠ X.env.locals)
    (h1 : it ∈ X.ex ∨ X.s₀.heap.objs.size ≤ it) (h2 : ∀ x c, X.env.cells.lookup x = some c → c ≠ it) (h3 : ∀ p ∈ X.pn ++ pins, p.1 ≠ it) : Inv X pins σ H { s with heap := h', toks := t' } := by
  have nit : ∀ b u, H b = some u → b ≠ it := fun b u e z => by rw [z, hn] at e; cases e
  refine I.step (g' := s.gens) (d' := s.drawn) (ch := [it]) (fun b hb => ?_) (fun b o _ _ hc e _ => k b o (fun z => hc (by simp [z])) e) (fun b o _ _ hc e _ => ⟨o.slots, k b o (fun z => hc (by simp [z])) e⟩) (fun _ _ _ _ n => n)
    (fun b o hc e => ⟨o, k b o (fun z => hc (by simp [z])) e⟩) (fun _ _ e => e) (fun _ _ _ e => e) (fun b ps e => ⟨#[], by rw [e]; simp⟩) (fun m hm => ?_) (fun b u e => ?_) I.bare
  · have e : b = it := by simpa using hb
    subst e
    exact ⟨h1, hL, h2, h3⟩
  · obtain ⟨o, es, ep, ho, r⟩ := hm
    exact ⟨o, es, ep, k _ o (Ne.symm hL) ho, r⟩
  · refine (I.hok b u e).stay (fun c v hc q => k c v ?_ q) (fun _ q => q) fun _ _ q => q
    rcases hc with z | z
    · rw [z]; exact nit b u e
    · exact nit c _ z
theorem Inv.tok (I : Inv X pins σ H s) (t : Nat) : Inv X pins σ H { s with toks := t } := I.un (h' := s.heap) (t' := t) Un.refl I.hok
/-- all objects kept -/
theorem Inv.kept {t' : Nat} (I : Inv X pins σ H s) (k : ∀ b u, s.heap.get? b = some u → h'.get? b = some u) : Inv X pins σ H { s with heap := h', toks := t' } := I.un (Un.kept k) (I.hok.kept k)
/-- a new object laid and tracked -/
theorem Inv.laid {a : Addr} {o : HO} {t' : Nat} (I : Inv X pins σ H s) (k : ∀ b u, s.heap.get? b = some u → h'.get? b = some u) (hp : s.heap.objs.size ≤ a) (new : ObjOk X.prog X.w (upd H a o) h' a o) :
    Inv X pins σ (upd H a o) { s with heap := h', toks := t' } := I.un (Un.laid k hp (I.hok.fresh hp)) (I.hok.laid k hp new)
/-- an object written -/
theorem Inv.write {x e : Addr} {o : HO} {t' : Nat} (I : Inv X pins σ H s) (mu : Mut (H x)) (he : e = x ∨ H e = some (.own x)) (k : ∀ b u, b ≠ e → s.heap.get? b = some u → h'.get? b = some u) (heo : ∃ u, h'.get? e = some u)
    (new : ObjOk X.prog X.w (upd H x o) h' x o) : Inv X pins σ (upd H x o) { s with heap := h', toks := t' } := I.un (Un.write mu he k heo) (I.hok.write mu he k heo new)
theorem Inv.pins_of {pins' : List (Addr × Obj)} (I : Inv X pins σ H s) (h : ∀ p ∈ pins', s.heap.get? p.1 = some p.2 ∧ H p.1 = none ∧ p.1 ≠ X.env.locals ∧ p.1 ∉ X.fs ∧ ∀ v, p.2.data ≠ .cell v) : Inv X pins' σ H s :=
  ⟨I.ok, I.os, I.bare, I.base, I.loc, I.cell, I.free, I.freeC, fun p hp => (List.mem_append.mp hp).elim (fun z => I.pin p (List.mem_append_left _ z)) (h p), I.hok, I.len⟩

theorem nodup_ix {N : List Str} (hN : N.Nodup) {i j : Nat} {x : Str} (a : N[i]? = some x) (b : N[j]? = some x) : i = j := by
  obtain ⟨h1, e1⟩ := List.getElem?_eq_some_iff.mp a
  obtain ⟨h2, e2⟩ := List.getElem?_eq_some_iff.mp b
  exact (List.getElem_inj hN).mp (e1.trans e2.symm)

/-- a name is stored; what changed -/
theorem store_ok2 {M : Model} {A : Around} {E : Value → Shared → Prop} {i : Nat} {x : Str} {v : V} {u : Value} {Q : Unit → Shared → Prop} (I : Inv X pins σ H s) (hN : X.N.Nodup) (hi : X.N[i]? = some x) (hx : Loc X.env.scope x) (r : RelV v u)
    (h : ∀ s', Inv X pins (σ.set i (some v)) H s' → (∃ a, Heap.SameBut a s.heap s'.heap ∧ (a = X.env.locals ∨ X.env.cells.lookup x = some a)) → Q () s') (hf : X.fn x = true ∨ X.env.scope.names.lookup x = some .local := by first | exact .inl rfl | exact .inr rfl | assumption) : wpAny M A (storeName X.env x u) Q E s := by
  obtain ⟨m, hn, hl⟩ := id I.loc
  have hcls : (X.env.scope.kind == .class || (X.env.scope.kind == .module && X.env.locals != X.env.globals)) = false := by rw [I.ok.kind]; rfl
  have hiσ : i < σ.length := by rw [I.len]; exact (List.getElem?_eq_some_iff.mp hi).1
  have cne := I.cne
  have tracked : ∀ {a : Addr} {h' : Heap}, (∃ o, s.heap.get? a = some o ∧ H a = none) → Heap.SameBut a s.heap h' → HOk X.prog X.w H h' := fun {a h'} ha hs b ob e => by
    obtain ⟨_, _, hfree⟩ := ha
    refine (I.hok b ob e).stay (fun c w' hc q => (hs.2 c ?_).trans q) (fun _ q => q) fun _ _ q => q
    rintro rfl
    rcases hc with rfl | hc
    · rw [hfree] at e; cases e
    · rw [hfree] at hc; cases hc
  rcases hx with hk | hk
  · refine wpAny_storeName_local hk hn (fun h' hn' hs => ?_) hcls
    obtain ⟨oL, _, _, hoL, _⟩ := id hn
    refine h _ ⟨I.ok, I.os, I.bare, ⟨fun b o e n hb hx => ?_, fun b o e n hb hx => ?_, I.base.free, fun b o e hx => ?_, I.base.tups, I.base.frzs, I.base.tbls⟩, ⟨_, hn', fun j y v' e1 e2 e3 => ?_⟩, fun y c e => ?_, I.free, I.freeC, fun p hp => ?_, tracked ⟨oL, hoL, I.free⟩ hs, by simpa using I.len⟩ ⟨_, hs, .inl rfl⟩
    · exact (hs.2 b (Nat.ne_of_lt (Nat.lt_of_lt_of_le (Heap.lt_size e) I.ok.above))).trans (I.base.keep b o e n hb hx)
    · obtain ⟨sl, e1⟩ := I.base.slot b o e n hb hx
      exact ⟨sl, (hs.2 b (Nat.ne_of_lt (Nat.lt_of_lt_of_le (Heap.lt_size e) I.ok.above))).trans e1⟩
    · obtain ⟨o', e1⟩ := I.base.there b o e hx
      exact ⟨o', (hs.2 b (Nat.ne_of_lt (Nat.lt_of_lt_of_le (Heap.lt_size e) I.ok.above))).trans e1⟩
    · by_cases hj : j = i
      · subst hj
        rw [hi] at e1; cases e1
        rw [List.getElem?_set_self hiσ] at e2
        cases e2
        exact ⟨u, r, .inl ⟨hk, by simp⟩⟩
      · rw [List.getElem?_set_ne (Ne.symm hj)] at e2
        obtain ⟨u', r', q⟩ := hl j y v' e1 e2 e3
        refine ⟨u', r', ?_⟩
        rcases q with ⟨k, e⟩ | ⟨k, c, e, z⟩
        · refine .inl ⟨k, ?_⟩
          have : y ≠ x := fun e => hj (nodup_ix hN e1 (e ▸ hi))
          simp [this, e]
        · exact .inr ⟨k, c, e, z.sameBut hs (cne y c e)⟩
    · obtain ⟨w', z⟩ := I.cell y c e
      exact ⟨w', z.sameBut hs (cne y c e)⟩
    · obtain ⟨e, n, ne, nf, d⟩ := I.pin p hp
      exact ⟨(hs.2 p.1 ne).trans e, n, ne, nf, d⟩
  · have hfn : X.fn x = true := by
      rcases hf with z | z
      · exact z
      · rw [z] at hk; cases hk
    obtain ⟨c, hc⟩ := I.ok.has x (.inl hk)
    obtain ⟨w', z⟩ := I.cell x c hc
    refine wpAny_storeName_cell I.ok.kind hk hc z (fun h' hc' hs => ?_)
    obtain ⟨oc, hoc, hocd⟩ := id z
    refine h { s with heap := h' } ⟨I.ok, I.os, I.bare, ⟨fun b o e n hb hx => ?_, fun b o e n hb hx => ?_, I.base.free, fun b o e hx => ?_, I.base.tups, I.base.frzs, I.base.tbls⟩, ⟨m, hn.sameBut hs (Ne.symm (cne x c hc)), fun j y v' e1 e2 e3 => ?_⟩, fun y c' e => ?_, I.free, I.freeC, fun p hp => ?_, tracked ⟨oc, hoc, I.freeC x c hc⟩ hs, by simpa using I.len⟩ ⟨c, hs, .inr hc⟩
    · exact (hs.2 b (Nat.ne_of_lt (Nat.lt_of_lt_of_le (Heap.lt_size e) (I.ok.cab x c hfn hc)))).trans (I.base.keep b o e n hb hx)
    · obtain ⟨sl, e1⟩ := I.base.slot b o e n hb hx
      exact ⟨sl, (hs.2 b (Nat.ne_of_lt (Nat.lt_of_lt_of_le (Heap.lt_size e) (I.ok.cab x c hfn hc)))).trans e1⟩
    · obtain ⟨o', e1⟩ := I.base.there b o e hx
      exact ⟨o', (hs.2 b (Nat.ne_of_lt (Nat.lt_of_lt_of_le (Heap.lt_size e) (I.ok.cab x c hfn hc)))).trans e1⟩
    · by_cases hj : j = i
      · subst hj
        rw [hi] at e1; cases e1
        rw [List.getElem?_set_self hiσ] at e2
        cases e2
        exact ⟨u, r, .inr ⟨.inl hk, c, hc, hc'⟩⟩
      · rw [List.getElem?_set_ne (Ne.symm hj)] at e2
        obtain ⟨u', r', q⟩ := hl j y v' e1 e2 e3
        refine ⟨u', r', ?_⟩
        rcases q with q | ⟨k, c', e, z'⟩
        · exact .inl q
        · refine .inr ⟨k, c', e, z'.sameBut hs ?_⟩
          rintro rfl
          exact hj (nodup_ix hN e1 (I.ok.inj _ _ _ e hc ▸ hi))
    · by_cases hcc : c' = c
      · subst hcc; exact ⟨_, hc'⟩
      · obtain ⟨w2, z2⟩ := I.cell y c' e
        exact ⟨w2, z2.sameBut hs hcc⟩
    · obtain ⟨e, n, ne, nf, d⟩ := I.pin p hp
      refine ⟨(hs.2 p.1 ?_).trans e, n, ne, nf, d⟩
      intro q
      rw [q, hoc] at e
      have q' : oc = p.2 := Option.some.inj e
      exact d w' (by rw [← q']; exact hocd)
theorem store_ok {M : Model} {A : Around} {E : Value → Shared → Prop} {i : Nat} {x : Str} {v : V} {u : Value} {Q : Unit → Shared → Prop} (I : Inv X pins σ H s) (hN : X.N.Nodup) (hi : X.N[i]? = some x) (hx : Loc X.env.scope x) (r : RelV v u)
    (h : ∀ s', Inv X pins (σ.set i (some v)) H s' → Q () s') (hf : X.fn x = true ∨ X.env.scope.names.lookup x = some .local := by first | exact .inl rfl | exact .inr rfl | assumption) : wpAny M A (storeName X.env x u) Q E s :=
  store_ok2 I hN hi hx r (fun s' I' _ => h s' I') hf
/-- behind a call or a block, the state as it is -/
theorem Inv.call' {s' : Shared} {ch : List Addr} (I : Inv X pins σ H s) (ho : s'.os = s.os) (u : Un (frs X.stack) ch H H' s.heap s'.heap) (hok : HOk X.prog X.w H' s'.heap) (hg : AllBare s'.gens)
    (hch : ∀ b ∈ ch, (b ∈ X.ex ∨ X.s₀.heap.objs.size ≤ b) ∧ b ≠ X.env.locals ∧ (∀ x c, X.env.cells.lookup x = some c → c ≠ b) ∧ ∀ p ∈ X.pn ++ pins, p.1 ≠ b) : Inv X pins σ H' s' := by
  obtain ⟨h', g', d', t', o'⟩ := s'
  have e : o' = s.os := ho
  subst e
  exact I.call (g' := g') (t' := t') (d' := d') u hok hg hch
end

/-! ### the judgements -/
/-- an exception: its class, its own dict's address (where it has one), the abstract heap behind it -/
abbrev XK := Value → Option Addr → Hp → Prop
abbrev St := List (Option V)
abbrev VK := V → Hp → Prop
/-- an expression's reading; a test's; an argument list's -/
abbrev TE := St → Hp → VK → Prop
abbrev TT := St → Hp → (Bool → Hp → Prop) → Prop
abbrev TA := St → Hp → (List V → Hp → Prop) → Prop
/-- what is wanted behind a statement -/
structure Ends where
  nx : St → Hp → Prop
  rt : VK
  bk : St → Hp → Prop := fun _ _ => False
  ct : St → Hp → Prop := fun _ _ => False
abbrev TS := Ends → St → Hp → Prop

def EP (X : Cx) (pins : List (Addr × Obj)) (σ : St) (Q : VK) (u : Value) (s' : Shared) : Prop := ∃ v H', Inv X pins σ H' s' ∧ RelV v u ∧ Q v H'
def TP (X : Cx) (pins : List (Addr × Obj)) (σ : St) (Q : Bool → Hp → Prop) (b : Bool) (s' : Shared) : Prop := ∃ H', Inv X pins σ H' s' ∧ Q b H'
def AP (X : Cx) (pins : List (Addr × Obj)) (σ : St) (Q : List V → Hp → Prop) (us : List Value) (s' : Shared) : Prop := ∃ vs H', Inv X pins σ H' s' ∧ Vals vs us ∧ Q vs H'
def SP (X : Cx) (pins : List (Addr × Obj)) (D : Ends) (f : Flow) (s' : Shared) : Prop :=
  match f with
  | .next => ∃ σ' H', Inv X pins σ' H' s' ∧ D.nx σ' H'
  | .brk => ∃ σ' H', Inv X pins σ' H' s' ∧ D.bk σ' H'
  | .cont => ∃ σ' H', Inv X pins σ' H' s' ∧ D.ct σ' H'
  | .ret u => ∃ v σ' H', Inv X pins σ' H' s' ∧ RelV v u ∧ D.rt v H'

def PE (X : Cx) (e : Expr) (t : TE) : Prop :=
  ∀ (pins : List (Addr × Obj)) (s : Shared) (σ : St) (H : Hp) (Q : VK), Inv X pins σ H s → t σ H Q → wpAny (model X.prog X.w) X.A (eval e X.env) (EP X pins σ Q) X.xe s
def PT (X : Cx) (e : Expr) (t : TT) : Prop :=
  ∀ (pins : List (Addr × Obj)) (s : Shared) (σ : St) (H : Hp) (Q : Bool → Hp → Prop), Inv X pins σ H s → t σ H Q → wpAny (model X.prog X.w) X.A (isTrue e X.env (eval e X.env)) (TP X pins σ Q) X.xe s
/-- a test whatever its 'whole' is (and, or) -/
def PW (X : Cx) (e : Expr) (t : TT) : Prop :=
  ∀ (whole : Sem Value) (pins : List (Addr × Obj)) (s : Shared) (σ : St) (H : Hp) (Q : Bool → Hp → Prop), Inv X pins σ H s → t σ H Q → wpAny (model X.prog X.w) X.A (isTrue e X.env whole) (TP X pins σ Q) X.xe s
theorem PW.pt {X : Cx} {e : Expr} {t : TT} (h : PW X e t) : PT X e t := h _
/-- an argument list (no star), from the left -/
def PA (X : Cx) (es : List Expr) (t : TA) : Prop :=
  ∀ (pos : Pos) (pins : List (Addr × Obj)) (s : Shared) (σ : St) (H : Hp) (Q : List V → Hp → Prop), Inv X pins σ H s → t σ H Q → wpAny (model X.prog X.w) X.A (spliced (backTo pos (starEach es X.env))) (AP X pins σ Q) X.xe s
def PS (X : Cx) (st : Stmt) (t : TS) : Prop :=
  ∀ (pins : List (Addr × Obj)) (s : Shared) (σ : St) (H : Hp) (D : Ends), Inv X pins σ H s → t D σ H → wpAny (model X.prog X.w) X.A (exec st X.env) (SP X pins D) X.xe s
def PSs (X : Cx) (st : List Stmt) (t : TS) : Prop :=
  ∀ (pins : List (Addr × Obj)) (s : Shared) (σ : St) (H : Hp) (D : Ends), Inv X pins σ H s → t D σ H → wpAny (model X.prog X.w) X.A (execs st X.env) (SP X pins D) X.xe s
/-- weaken the end -/
theorem thn {α : Type} {t : Sem α} {Q Q' : α → Shared → Prop} {M : Model} {A : Around} {E : Value → Shared → Prop} {s : Shared} (h : wpAny M A t Q E s) (hQ : ∀ a s, Q a s → Q' a s) : wpAny M A t Q' E s := wpAny_mono h hQ fun _ _ x => x
end L2

namespace L2
open PySem PySem.Spec PyProof.Rows
section
variable {X : Cx}

/-- two expressions in a row -/
theorem bin {a b : Expr} {ta tb : TE} (ha : PE X a ta) (hb : PE X b tb) {pins : List (Addr × Obj)} {s : Shared} {σ : St} {H : Hp} {R : V → V → Hp → Prop} (I : Inv X pins σ H s) (h : ta σ H fun x H1 => tb σ H1 fun y H2 => R x y H2)
    {α : Type} {Q : α → Shared → Prop} {f : Value → Value → Sem α}
    (hf : ∀ v u s2 x y H2, Inv X pins σ H2 s2 → RelV x v → RelV y u → R x y H2 → wpAny (model X.prog X.w) X.A (f v u) Q X.xe s2) :
    wpAny (model X.prog X.w) X.A (eval a X.env) (fun v s₁ => wpAny (model X.prog X.w) X.A (eval b X.env) (fun u s₂ => wpAny (model X.prog X.w) X.A (f v u) Q X.xe s₂) X.xe s₁) X.xe s := by
  refine thn (ha pins s σ H _ I h) fun v s1 ⟨x, H1, I1, r1, q1⟩ => ?_
  refine thn (hb pins s1 σ H1 _ I1 q1) fun u s2 ⟨y, H2, I2, r2, q2⟩ => ?_
  exact hf v u s2 x y H2 I2 r1 r2 q2

/-! ### names and constants -/
def tVar (i : Nat) : TE := fun σ H Q => ∃ v, σ[i]? = some (some v) ∧ Q v H
def tC (v : V) : TE := fun _ H Q => Q v H
theorem pe_var {i : Nat} {x : Str} {pos : Pos} (hN : X.N[i]? = some x) (hv : Vis X.env.scope x) (hd : (x == ("__debug__" : Str)) = false := by decide) (hcd : (x == ("__classdict__" : Str)) = false := by decide) : PE X (.Name x pos) (tVar i) := by
  intro pins s σ H Q I h
  obtain ⟨v, e, h⟩ := h
  obtain ⟨m, hn, hl⟩ := I.loc
  obtain ⟨u, r, l⟩ := hl i x v hN e hv
  have fin : EP X pins σ Q u s := ⟨v, H, I, r, h⟩
  rcases l with ⟨hk, hm⟩ | ⟨hk, c, hc, hcell⟩
  · exact wpAny_Name (wpAny_loadName_local I.ok.kind hk hn hm fin) hd
  · rcases hk with hk | hk
    · exact wpAny_Name (wpAny_loadName_cell I.ok.kind hk hc hcell fin) hd
    · exact wpAny_Name (wpAny_loadName_free I.ok.kind hk hc hcell fin hcd) hd
theorem pe_int {i j pos} : PE X (.Constant (.int i) j pos) (tC (.int i)) := fun _ _ _ H _ I h => wpAny_Constant_int ⟨.int i, H, I.tok _, ⟨_, rfl⟩, h⟩
theorem pe_bl {b j pos} : PE X (.Constant (.bool b) j pos) (tC (.bl b)) := fun _ _ _ H _ I h => Constant_bool ⟨.bl b, H, I, rfl, h⟩
theorem pe_non {j pos} : PE X (.Constant .none j pos) (tC .non) := fun _ _ _ H _ I h => Constant_none ⟨.non, H, I, rfl, h⟩
theorem pe_str {x j pos} : PE X (.Constant (.str x) j pos) (tC (.str x)) := fun _ _ _ H _ I h => Calls.Constant_str ⟨.str x, H, I.tok _, ⟨_, rfl⟩, h⟩

/-- a global name of the def -/
def Gl (X : Cx) (x : Str) : Prop := X.env.kindOf x = some .globalImplicit
theorem ld_glob {E : Value → Shared → Prop} {pins : List (Addr × Obj)} {s : Shared} {σ : St} {H : Hp} {x : Str} {u : Value} {pos : Pos} {Q : Value → Shared → Prop} (I : Inv X pins σ H s) (hg : Gl X x) (hm : X.mg x = some u) (h : Q u s)
    (hd : (x == ("__debug__" : Str)) = false := by decide) : wpAny (model X.prog X.w) X.A (eval (.Name x pos) X.env) Q E s :=
  Calls.Name_function_global I.ok.kind hg (Calls.loadGlobal_global (by rw [I.ok.glob]; exact I.mod.glob.keeps I.bk) hm h) hd
theorem ld_blt {E : Value → Shared → Prop} {pins : List (Addr × Obj)} {s : Shared} {σ : St} {H : Hp} {x : Str} {u : Value} {pos : Pos} {Q : Value → Shared → Prop} (I : Inv X pins σ H s) (hg : Gl X x) (hm : X.mg x = none) (hv : bootBuiltins x = some u) (h : Q u s)
    (hn : x ≠ "__name__" := by decide) (hd : (x == ("__debug__" : Str)) = false := by decide) : wpAny (model X.prog X.w) X.A (eval (.Name x pos) X.env) Q E s := by
  obtain ⟨mb, h1, h2⟩ := I.mod.blt
  exact Calls.Name_function_global I.ok.kind hg (Calls.loadGlobal_builtin (by rw [I.ok.glob]; exact I.mod.glob.keeps I.bk) hm (by rw [I.ok.blt]; exact h1.keeps I.bk) ((h2 x hn).trans hv) h) hd
/-- a module's constant, a class, a function, as a value -/
theorem pe_glob {x : Str} {v : V} {u : Value} {pos : Pos} (hg : Gl X x) (hm : X.mg x = some u) (r : RelV v u) (hd : (x == ("__debug__" : Str)) = false := by decide) : PE X (.Name x pos) (tC v) :=
  fun _ _ _ H _ I h => ld_glob I hg hm ⟨v, H, I, r, h⟩ hd
theorem pe_bltn {x : Str} {v : V} {u : Value} {pos : Pos} (hg : Gl X x) (hm : X.mg x = none) (hv : bootBuiltins x = some u) (r : RelV v u) (hn : x ≠ "__name__" := by decide) (hd : (x == ("__debug__" : Str)) = false := by decide) : PE X (.Name x pos) (tC v) :=
  fun _ _ _ H _ I h => ld_blt I hg hm hv ⟨v, H, I, r, h⟩ hn hd

/-! ### arithmetic -/
variable {a b : Expr} {ta tb : TE} {pos : Pos}
/-! ### comparisons -/
def PC (X : Cx) (op : CmpOp) (a b : Expr) (t : TE) : Prop :=
  ∀ (pins : List (Addr × Obj)) (s : Shared) (σ : St) (H : Hp) (Q : VK), Inv X pins σ H s → t σ H Q →
    wpAny (model X.prog X.w) X.A (eval a X.env) (fun v s₁ => wpAny (model X.prog X.w) X.A (eval b X.env) (fun u s₂ => wpAny (model X.prog X.w) X.A (compareOp op v u) (EP X pins σ Q) X.xe s₂) X.xe s₁) X.xe s
theorem nobehind (b : Expr) {op : CmpOp} (h : op ≠ .In) (h2 : op ≠ .NotIn) : behindInMarks op b = false := by
  have e1 : (op == CmpOp.In) = false := by cases op <;> first | rfl | exact absurd rfl h
  have e2 : (op == CmpOp.NotIn) = false := by cases op <;> first | rfl | exact absurd rfl h2
  cases b <;> simp [behindInMarks, e1, e2]
/-- is None -/
def tIsN (ta : TE) : TE := fun σ H Q => ta σ H fun x H1 => Q (.bl (decide (x = .non))) H1
theorem RelV.none_iff {x : V} {v : Value} (r : RelV x v) : (v == Value.none) = decide (x = .non) := by
  cases x with
  | non => cases r; rfl
  | bl _ => cases r; rfl
  | int _ => obtain ⟨t, rfl⟩ := r; rfl
  | str _ => obtain ⟨t, rfl⟩ := r; rfl
  | byt _ => obtain ⟨t, rfl⟩ := r; rfl
  | flt _ => obtain ⟨t, rfl⟩ := r; rfl
  | ref _ => cases r; rfl
  | ty _ => cases r; rfl
theorem pc_isN {j pos'} (ha : PE X a ta) : PC X .Is a (.Constant .none j pos') (tIsN ta) := by
  intro pins s σ H Q I h
  refine thn (ha pins s σ H _ I h) fun v s1 ⟨x, H1, I1, r1, q1⟩ => ?_
  exact Constant_none (is_none_gen ⟨.bl _, H1, I1, by rw [r1.none_iff]; rfl, q1⟩)
/-- a comparison as a value, as a test -/
def tB (t : TE) : TT := fun σ H Q => t σ H fun x H1 => ∃ c, x = .bl c ∧ Q c H1
theorem pe_cmp {op : CmpOp} {t : TE} (h : PC X op a b t) (h1 : behindInMarks op b = false := by first | exact nobehind _ (by decide) (by decide) | rfl) : PE X (.Compare a [op] [b] pos) t := fun pins s σ H Q I hw => wpAny_Compare1 (h pins s σ H Q I hw) h1
theorem pt_cmp {op : CmpOp} {t : TE} (h : PC X op a b t) (h1 : behindInMarks op b = false := by first | exact nobehind _ (by decide) (by decide) | rfl) : PT X (.Compare a [op] [b] pos) (tB t) := by
  intro pins s σ H Q I hw
  refine wpAny_isTrue_Compare1 (thn (h pins s σ H _ I hw) fun v s1 h1 => thn h1 fun u s2 h2 => thn h2 fun c s3 ⟨x, H1, I1, r1, q1⟩ => ?_) h1
  obtain ⟨d, rfl, q⟩ := q1
  cases r1
  exact wpAny_truthy_bool ⟨H1, I1, q⟩
/-- an expression whose value is a bool, as a test -/
theorem pt_val {e : Expr} {t : TE} (h : PE X e t) (he : ∀ whole, isTrue e X.env whole = (do let v ← whole; standAt e.pos; holding [v] (truthy v)) := by intro _; rfl) : PT X e (tB t) := by
  intro pins s σ H Q I hw
  refine isTrue_plain (thn (h pins s σ H _ I hw) fun v s1 ⟨x, H1, I1, r1, q1⟩ => ?_) (he _)
  obtain ⟨d, rfl, q⟩ := q1
  cases r1
  exact wpAny_truthy_bool ⟨H1, I1, q⟩

/-! ### and, or, not -/
variable {tA tB' : TT} {rest : List Expr}
def tAnd (t u : TT) : TT := fun σ H Q => t σ H fun c H1 => if c = true then u σ H1 Q else Q false H1
def tOr (t u : TT) : TT := fun σ H Q => t σ H fun c H1 => if c = true then Q true H1 else u σ H1 Q
def tNot (t : TT) : TT := fun σ H Q => t σ H fun c H1 => Q (!c) H1
theorem pw_and1 (ha : PT X a tA) : PW X (.BoolOp .And [a] pos) tA := by
  intro wh pins s σ H Q I h
  refine isTrue_and (thn (ha pins s σ H Q I h) fun c s1 e => ?_)
  cases c with
  | true => exact isTrue_and_nil e
  | false => exact e
theorem pw_or1 (ha : PT X a tA) : PW X (.BoolOp .Or [a] pos) tA := by
  intro wh pins s σ H Q I h
  refine isTrue_or (thn (ha pins s σ H Q I h) fun c s1 e => ?_)
  cases c with
  | false => exact isTrue_or_nil e
  | true => exact e
theorem pw_and (ha : PT X a tA) (hb : PW X (.BoolOp .And (b :: rest) pos) tB') : PW X (.BoolOp .And (a :: b :: rest) pos) (tAnd tA tB') := by
  intro wh pins s σ H Q I h
  refine isTrue_and (thn (ha pins s σ H _ I h) fun c s1 ⟨H1, I1, q1⟩ => ?_)
  cases c with
  | true => exact hb wh pins s1 σ H1 Q I1 q1
  | false => exact ⟨H1, I1, q1⟩
theorem pw_or (ha : PT X a tA) (hb : PW X (.BoolOp .Or (b :: rest) pos) tB') : PW X (.BoolOp .Or (a :: b :: rest) pos) (tOr tA tB') := by
  intro wh pins s σ H Q I h
  refine isTrue_or (thn (ha pins s σ H _ I h) fun c s1 ⟨H1, I1, q1⟩ => ?_)
  cases c with
  | true => exact ⟨H1, I1, q1⟩
  | false => exact hb wh pins s1 σ H1 Q I1 q1
theorem pt_not (ha : PT X a tA) : PT X (.UnaryOp .Not a pos) (tNot tA) := by
  intro pins s σ H Q I h
  exact isTrue_not (ha pins s σ H (fun c H1 => Q (!c) H1) I h)
/-- .. as values (bools) -/
def tAndV (ta tb : TE) : TE := fun σ H Q => ta σ H fun x H1 => ∃ c, x = .bl c ∧ if c = true then tb σ H1 Q else Q (.bl false) H1
def tOrV (ta tb : TE) : TE := fun σ H Q => ta σ H fun x H1 => ∃ c, x = .bl c ∧ if c = true then Q (.bl true) H1 else tb σ H1 Q
def tNotV (ta : TE) : TE := fun σ H Q => ta σ H fun x H1 => ∃ c, x = .bl c ∧ Q (.bl (!c)) H1
theorem pe_one {op} {t : TE} (h : PE X a t) : PE X (.BoolOp op [a] pos) t := fun pins s σ H Q I hw => BoolOp_one (h pins s σ H Q I hw)
theorem pe_and (ha : PE X a ta) (hb : PE X (.BoolOp .And (b :: rest) pos) tb) : PE X (.BoolOp .And (a :: b :: rest) pos) (tAndV ta tb) := by
  intro pins s σ H Q I h
  refine BoolOp_and (thn (ha pins s σ H _ I h) fun v s1 ⟨x, H1, I1, r1, q1⟩ => ?_)
  obtain ⟨c, rfl, q1⟩ := q1
  cases r1
  refine wpAny_truthy_bool ?_
  cases c with
  | true => exact hb pins s1 σ H1 Q I1 q1
  | false => exact ⟨.bl false, H1, I1, rfl, q1⟩
theorem pe_or (ha : PE X a ta) (hb : PE X (.BoolOp .Or (b :: rest) pos) tb) : PE X (.BoolOp .Or (a :: b :: rest) pos) (tOrV ta tb) := by
  intro pins s σ H Q I h
  refine BoolOp_or (thn (ha pins s σ H _ I h) fun v s1 ⟨x, H1, I1, r1, q1⟩ => ?_)
  obtain ⟨c, rfl, q1⟩ := q1
  cases r1
  refine wpAny_truthy_bool ?_
  cases c with
  | false => exact hb pins s1 σ H1 Q I1 q1
  | true => exact ⟨.bl true, H1, I1, rfl, q1⟩
theorem pe_not (ha : PE X a ta) : PE X (.UnaryOp .Not a pos) (tNotV ta) := by
  intro pins s σ H Q I h
  refine UnaryOp_ (thn (ha pins s σ H _ I h) fun v s1 ⟨x, H1, I1, r1, q1⟩ => ?_)
  obtain ⟨c, rfl, q1⟩ := q1
  cases r1
  exact not_of (wpAny_truthy_bool ⟨.bl (!c), H1, I1, rfl, q1⟩)
/-- a if t else b -/
def tIf (t : TT) (ta tb : TE) : TE := fun σ H Q => t σ H fun c H1 => if c = true then ta σ H1 Q else tb σ H1 Q
theorem pe_ifExp {c : Expr} (hc : PT X c tA) (ha : PE X a ta) (hb : PE X b tb) : PE X (.IfExp c a b pos) (tIf tA ta tb) := by
  intro pins s σ H Q I h
  refine wpAny_IfExp (thn (hc pins s σ H _ I h) fun d s1 ⟨H1, I1, q1⟩ => ?_)
  cases d with
  | true => exact ha pins s1 σ H1 Q I1 q1
  | false => exact hb pins s1 σ H1 Q I1 q1
end
end L2

namespace L2
open PySem PySem.Spec PyProof.Rows

/-! ### a list, a tuple that is read: tracked, frozen, or an object of the module -/
def SqL (K : PySem.W.Frag) (H : Hp) (a : Addr) (xs : List V) : Prop :=
  Rd H a (.lst xs) ∨
    ∃ (o : Obj) (its : Array Value) (n : Nat), K.lookup a = some o ∧ o.cls = .type "list" ∧ o.dict = none ∧ o.data = .seq its n ∧ its.size ≤ sizeLine ∧ Vals xs its.toList
def SqT (K : PySem.W.Frag) (H : Hp) (a : Addr) (xs : List V) : Prop :=
  Rd H a (.tup xs) ∨
    ∃ (o : Obj) (its : Array Value) (n : Nat), K.lookup a = some o ∧ o.cls = .type "tuple" ∧ o.data = .seq its n ∧ its.size ≤ sizeLine ∧ Vals xs its.toList
def absV : Value → Option V
  | .none => some .non
  | .bool b => some (.bl b)
  | .int i _ => some (.int i)
  | .str x _ => some (.str x)
  | .bytes b _ => some (.byt b)
  | .float b _ => some (.flt b)
  | .ref a => some (.ref a)
  | .type n => some (.ty n)
  | _ => none
theorem RelV.abs {x : V} {u : Value} (r : RelV x u) : absV u = some x := by
  cases x with
  | non => cases r; rfl
  | bl _ => cases r; rfl
  | int _ => obtain ⟨t, rfl⟩ := r; rfl
  | str _ => obtain ⟨t, rfl⟩ := r; rfl
  | byt _ => obtain ⟨t, rfl⟩ := r; rfl
  | flt _ => obtain ⟨t, rfl⟩ := r; rfl
  | ref _ => cases r; rfl
  | ty _ => cases r; rfl
theorem RelV.inj {x y : V} {u : Value} (r : RelV x u) (q : RelV y u) : x = y := Option.some.inj (r.abs.symm.trans q.abs)
theorem Vals.inj : ∀ {xs ys : List V} {us : List Value}, Vals xs us → Vals ys us → xs = ys
  | _, _, _, .nil, .nil => rfl
  | _, _, _, .cons r t, .cons r' t' => by rw [r.inj r', Vals.inj t t']
section
variable {X : Cx} {pins : List (Addr × Obj)} {σ : St} {H : Hp} {s : Shared} {a : Addr} {xs ys : List V}
theorem SqL.of {K : PySem.W.Frag} (h : H a = some (.lst xs)) : SqL K H a xs := .inl (.inl h)
theorem SqT.of {K : PySem.W.Frag} (h : H a = some (.tup xs)) : SqT K H a xs := .inl (.inl h)
theorem Inv.list (I : Inv X pins σ H s) (h : SqL X.K H a xs) : ∃ its : List Value, Vals xs its ∧ PlainL s.heap a its.toArray ∧ xs.length ≤ sizeLine := by
  rcases h with h | ⟨o, its, n, hk, hc, hd, hs, hz, r⟩
  · obtain ⟨z, its, n, r, e⟩ := h.ok I.hok
    exact ⟨its, r, ⟨_, n, e, rfl, rfl, rfl⟩, z⟩
  · refine ⟨its.toList, r, ⟨o, n, I.kIn a o hk, hc, hd, by simpa using hs⟩, ?_⟩
    have e := r.length
    simp only [Array.length_toList] at e
    omega
theorem Inv.tuple (I : Inv X pins σ H s) (h : SqT X.K H a xs) : ∃ its : List Value, Vals xs its ∧ IsTup s.heap a its.toArray ∧ xs.length ≤ sizeLine := by
  rcases h with h | ⟨o, its, n, hk, hc, hs, hz, r⟩
  · obtain ⟨z, its, r, p⟩ := h.ok I.hok
    exact ⟨its, r, p, z⟩
  · refine ⟨its.toList, r, ⟨o, I.kIn a o hk, hc, n, by simpa using hs⟩, ?_⟩
    have e := r.length
    simp only [Array.length_toList] at e
    omega
theorem Inv.list_inj (I : Inv X pins σ H s) (h : SqL X.K H a xs) (h' : SqL X.K H a ys) : xs = ys := by
  obtain ⟨its, r, ⟨o, n, e, _, _, d⟩, _⟩ := I.list h
  obtain ⟨its', r', ⟨o', n', e', _, _, d'⟩, _⟩ := I.list h'
  rw [e] at e'; cases e'
  rw [d] at d'
  injection d' with d1 _
  have : its = its' := by simpa using congrArg Array.toList d1
  subst this
  exact r.inj r'
theorem Inv.tuple_inj (I : Inv X pins σ H s) (h : SqT X.K H a xs) (h' : SqT X.K H a ys) : xs = ys := by
  obtain ⟨its, r, ⟨o, e, _, n, d⟩, _⟩ := I.tuple h
  obtain ⟨its', r', ⟨o', e', _, n', d'⟩, _⟩ := I.tuple h'
  rw [e] at e'; cases e'
  rw [d] at d'
  injection d' with d1 _
  have : its = its' := by simpa using congrArg Array.toList d1
  subst this
  exact r.inj r'
end

/-! ### another wish about exceptions -/
abbrev Cx.wish (X : Cx) (E : Value → Shared → Prop) : Cx := { X with xe := E }
/-- no exception leaves -/
abbrev Cx.nox (X : Cx) : Cx := X.wish fun _ _ => False
theorem Cx.Ok.wish {X : Cx} (ok : X.Ok) (E : Value → Shared → Prop) : (X.wish E).Ok :=
  ⟨ok.mod, ok.kind, ok.glob, ok.blt, ok.above, ok.inj, ok.has, ok.cab, ok.hd, ok.frames, ok.stk, ok.exf, ok.bs, ok.bsz, ok.noex, ok.exfs, ok.funs, ok.frf⟩
theorem Cx.Ok.unwish {X : Cx} {E : Value → Shared → Prop} (ok : (X.wish E).Ok) : X.Ok :=
  ⟨ok.mod, ok.kind, ok.glob, ok.blt, ok.above, ok.inj, ok.has, ok.cab, ok.hd, ok.frames, ok.stk, ok.exf, ok.bs, ok.bsz, ok.noex, ok.exfs, ok.funs, ok.frf⟩
section
variable {X : Cx} {pins : List (Addr × Obj)} {σ : St} {H : Hp} {s : Shared} {E : Value → Shared → Prop}
theorem Inv.wish (I : Inv X pins σ H s) (E : Value → Shared → Prop) : Inv (X.wish E) pins σ H s := ⟨I.ok.wish E, I.os, I.bare, I.base, I.loc, I.cell, I.free, I.freeC, I.pin, I.hok, I.len⟩
theorem Inv.unwish (I : Inv (X.wish E) pins σ H s) : Inv X pins σ H s := ⟨I.ok.unwish, I.os, I.bare, I.base, I.loc, I.cell, I.free, I.freeC, I.pin, I.hok, I.len⟩
theorem SP.unwish {D : Ends} {f : Flow} {s' : Shared} (h : SP (X.wish E) pins D f s') : SP X pins D f s' := by
  cases f with
  | next => obtain ⟨σ', H', I, q⟩ := h; exact ⟨σ', H', I.unwish, q⟩
  | brk => obtain ⟨σ', H', I, q⟩ := h; exact ⟨σ', H', I.unwish, q⟩
  | cont => obtain ⟨σ', H', I, q⟩ := h; exact ⟨σ', H', I.unwish, q⟩
  | ret u => obtain ⟨v, σ', H', I, r, q⟩ := h; exact ⟨v, σ', H', I.unwish, r, q⟩
theorem PSs.nox {st : List Stmt} {t : TS} (h : PSs X.nox st t) : PSs X st t := fun pins s σ H D I hw =>
  wpAny_mono (h pins s σ H D (I.wish _) hw) (fun _ _ q => q.unwish) fun _ _ z => False.elim z
end

/-! ### blocks and small statements -/
section
variable {X : Cx} {st : Stmt} {rest : List Stmt} {t u : TS} {e : Expr} {te : TE} {pos : Pos}
def tNext : TS := fun D σ H => D.nx σ H
def tSeq (t u : TS) : TS := fun D σ H => t { D with nx := u D } σ H
theorem pss_nil : PSs X [] tNext := fun _ _ σ H _ I h => wpAny_execs_nil ⟨σ, H, I, h⟩
theorem pss_cons (h1 : PS X st t) (h2 : PSs X rest u) : PSs X (st :: rest) (tSeq t u) := by
  intro pins s σ H D I h
  refine wpAny_execs_cons (thn (h1 pins s σ H { D with nx := u D } I h) fun f s1 q => ?_)
  cases f with
  | next =>
    obtain ⟨σ', H', I', q⟩ := q
    exact h2 pins s1 σ' H' D I' q
  | ret v => exact q
  | brk => exact q
  | cont => exact q
theorem pss_one (h1 : PS X st t) : PSs X [st] t := by
  intro pins s σ H D I h
  refine wpAny_execs_cons (thn (h1 pins s σ H D I h) fun f s1 q => ?_)
  cases f with
  | next => exact wpAny_execs_nil q
  | ret v => exact q
  | brk => exact q
  | cont => exact q
/-- in a def's body nothing is shown -/
theorem Inv.quiet {pins : List (Addr × Obj)} {σ : St} {H : Hp} {s : Shared} (I : Inv X pins σ H s) : interactive X.env = false := by simp [interactive, I.ok.kind]
/-- an expression whose value is dropped -/
def tDrop (te : TE) : TS := fun D σ H => te σ H fun _ H1 => D.nx σ H1
theorem ps_expr (he : PE X e te) (hs : swapsWith e none pos.line X.env = pure false := by rfl) : PS X (.Expr e pos) (tDrop te) := by
  intro pins s σ H D I h
  exact wpAny_Expr_any (thn (he pins s σ H _ I h) fun v s1 ⟨x, H1, I1, r1, q1⟩ => ⟨σ, H1, I1, q1⟩) I.quiet hs
def tRet (te : TE) : TS := fun D σ H => te σ H D.rt
theorem ps_ret (he : PE X e te) : PS X (.Return (some e) pos) (tRet te) := by
  intro pins s σ H D I h
  exact wpAny_Return_some (thn (he pins s σ H _ I h) fun v s1 ⟨x, H1, I1, r1, q1⟩ => ⟨x, σ, H1, I1, r1, q1⟩)
def tIfS (c : TT) (t u : TS) : TS := fun D σ H => c σ H fun b H1 => if b = true then t D σ H1 else u D σ H1
theorem ps_if {c : Expr} {a b : List Stmt} {tc : TT} (hc : PT X c tc) (ha : PSs X a t) (hb : PSs X b u) : PS X (.If c a b pos) (tIfS tc t u) := by
  intro pins s σ H D I h
  refine wpAny_If (thn (hc pins s σ H _ I h) fun d s1 ⟨H1, I1, q1⟩ => ?_)
  cases d with
  | true => exact ha pins s1 σ H1 D I1 q1
  | false => exact hb pins s1 σ H1 D I1 q1
end

/-! ### targets -/
abbrev TG := V → St → Hp → (St → Hp → Prop) → Prop
abbrev TGs := List V → St → Hp → (St → Hp → Prop) → Prop
def PG (X : Cx) (target : Expr) (t : TG) : Prop :=
  ∀ (pins : List (Addr × Obj)) (s : Shared) (σ : St) (H : Hp) (v : V) (u : Value) (Q : St → Hp → Prop), Inv X pins σ H s → RelV v u → t v σ H Q →
    wpAny (model X.prog X.w) X.A (assign target X.env u) (fun _ s' => ∃ σ' H', Inv X pins σ' H' s' ∧ Q σ' H') X.xe s
/-- several targets, one after another -/
def PGs (X : Cx) (ts : List Expr) (t : TGs) : Prop :=
  ∀ (pins : List (Addr × Obj)) (s : Shared) (σ : St) (H : Hp) (vs : List V) (us : List Value) (Q : St → Hp → Prop), Inv X pins σ H s → Vals vs us → t vs σ H Q →
    wpAny (model X.prog X.w) X.A (assignInOrder ((assignEach ts X.env).map (·.2)) us) (fun _ s' => ∃ σ' H', Inv X pins σ' H' s' ∧ Q σ' H') X.xe s
/-- o[i] = v, by values -/
abbrev TSet := V → V → V → Hp → (Hp → Prop) → Prop
def PSet (X : Cx) (t : TSet) : Prop :=
  ∀ (pins : List (Addr × Obj)) (s : Shared) (σ : St) (H : Hp) (o i v : V) (ov iv u : Value) (Q : Hp → Prop), Inv X pins σ H s → RelV o ov → RelV i iv → RelV v u → t o i v H Q →
    wpAny (model X.prog X.w) X.A (setItem ov iv u) (fun _ s' => ∃ H', Inv X pins σ H' s' ∧ Q H') X.xe s
section
variable {X : Cx} {pos : Pos}
def gName (i : Nat) : TG := fun v σ H Q => Q (σ.set i (some v)) H
theorem pg_name {i : Nat} {x : Str} (hN : X.N.Nodup) (hi : X.N[i]? = some x) (hx : Loc X.env.scope x) (hf : X.fn x = true ∨ X.env.scope.names.lookup x = some .local := by first | exact .inl rfl | exact .inr rfl | assumption) : PG X (.Name x pos) (gName i) := by
  intro pins s σ H v u Q I r h
  exact wpAny_assign_Name (store_ok I hN hi hx r (fun s' I' => ⟨_, H, I', h⟩) hf)
def gNil : TGs := fun vs σ H Q => vs = [] ∧ Q σ H
def gCons (t : TG) (u : TGs) : TGs := fun vs σ H Q => ∃ v r, vs = v :: r ∧ t v σ H fun σ' H' => u r σ' H' Q
theorem pgs_nil : PGs X [] gNil := by
  intro pins s σ H vs us Q I r h
  obtain ⟨e, h⟩ := h
  subst e
  cases r
  exact assignInOrder_nil ⟨σ, H, I, h⟩
theorem pgs_cons {e : Expr} {es : List Expr} {t : TG} {u : TGs} (h1 : PG X e t) (h2 : PGs X es u)
    (hs : (assignEach (e :: es) X.env).map (·.2) = assign e X.env :: (assignEach es X.env).map (·.2) := by rfl) : PGs X (e :: es) (gCons t u) := by
  intro pins s σ H vs us Q I r h
  obtain ⟨v, vr, e1, h⟩ := h
  subst e1
  cases r with
  | cons r rr =>
    rw [hs]
    refine assignInOrder_cons (thn (h1 pins s σ H _ _ _ I r h) fun _ s1 ⟨σ1, H1, I1, q1⟩ => ?_)
    exact h2 pins s1 σ1 H1 _ _ Q I1 rr q1
/-- (a, b, ..) = a tuple of that length -/
def gTup (K : PySem.W.Frag) (n : Nat) (t : TGs) : TG := fun v σ H Q => ∃ a xs, v = .ref a ∧ SqT K H a xs ∧ xs.length = n ∧ t xs σ H Q
theorem pg_tup {es : List Expr} {k : Nat} {t : TGs} {n : Nat} (hc : X.calm = true) (h : PGs X es t)
    (hn : (assignEach es X.env).length = n := by rfl) (hst : (assignEach es X.env).findIdx? (·.1) = none := by rfl) : PG X (.Tuple es k pos) (gTup X.K n t) := by
  intro pins s σ H v u Q I r hw
  obtain ⟨a, xs, e1, hq, hl, hw⟩ := hw
  subst e1
  cases r
  obtain ⟨its, rv, ht, hz⟩ := I.tuple hq
  refine assign_Tuple_tuple (I.ok.hd hc) ht (by simp [hn, ← hl, rv.length]) hst fun h' hx => ?_
  have I1 : Inv X pins σ H { s with heap := h' } := I.kept (t' := s.toks) fun b o e => hx b o (Nat.ne_of_lt (Heap.lt_size e)) e
  exact h pins _ σ H xs _ Q I1 (by simpa using rv) hw
/-- o[i] = .. -/
def gSub (to ti : TE) (t : TSet) : TG := fun v σ H Q => to σ H fun o H1 => ti σ H1 fun i H2 => t o i v H2 fun H3 => Q σ H3
theorem pg_sub {o i : Expr} {to ti : TE} {t : TSet} (ho : PE X o to) (hi : PE X i ti) (hs : PSet X t)
    (ha : ∀ v, assign (.Subscript o i pos) X.env v = (do
      let ov ← holding [v] (eval o X.env)
      let iv ← holding [v, ov] (eval i X.env)
      standAt pos
      holding [v, ov, iv] (setItem ov iv v)
      release [v, ov, iv] []) := by intro _; rfl) : PG X (.Subscript o i pos) (gSub to ti t) := by
  intro pins s σ H v u Q I r h
  rw [ha]
  refine wpAny_bind (wpAny_holding (thn (ho pins s σ H _ I h) fun ov s1 ⟨x, H1, I1, r1, q1⟩ => ?_))
  refine wpAny_bind (wpAny_holding (thn (hi pins s1 σ H1 _ I1 q1) fun iv s2 ⟨y, H2, I2, r2, q2⟩ => ?_))
  refine wpAny_bind (wpAny_standAt (wpAny_bind (wpAny_holding (thn (hs pins s2 σ H2 x y v ov iv u _ I2 r1 r2 r q2) fun _ s3 ⟨H3, I3, q3⟩ => ?_))))
  exact wpAny_release ⟨σ, H3, I3, q3⟩
/-- target = value -/
def tAsg (te : TE) (g : TG) : TS := fun D σ H => te σ H fun x H1 => g x σ H1 D.nx
theorem ps_asg {tg e : Expr} {te : TE} {g : TG} (he : PE X e te) (hg : PG X tg g) (hs : swapsWithSole [tg] e pos.line X.env = pure false := by rfl) (hw : swappedStores [tg] e X.env = pure none := by rfl)
    (h1 : (assignEach [tg] X.env).map (·.2) = [assign tg X.env] := by rfl) : PS X (.Assign [tg] e pos) (tAsg te g) := by
  intro pins s σ H D I h
  refine wpAny_Assign_stores (thn (he pins s σ H _ I h) fun v s1 ⟨x, H1, I1, r1, q1⟩ => ?_) hs hw
  rw [h1]
  exact thn (hg pins s1 σ H1 x v _ I1 r1 q1) fun _ s2 q => q
/-- name = value -/
theorem ps_set {i : Nat} {x : Str} {e : Expr} {te : TE} {pos' : Pos} (hN : X.N.Nodup) (hi : X.N[i]? = some x) (hx : Loc X.env.scope x) (he : PE X e te) (hs : swapsWith e (some (.Name x pos')) pos.line X.env = pure false := by rfl) (hf : X.fn x = true ∨ X.env.scope.names.lookup x = some .local := by first | exact .inl rfl | exact .inr rfl | assumption) :
    PS X (.Assign [.Name x pos'] e pos) (tAsg te (gName i)) := by
  intro pins s σ H D I h
  refine wpAny_Assign_Name (thn (he pins s σ H _ I h) fun v s1 ⟨y, H1, I1, r1, q1⟩ => ?_) hs
  exact store_ok I1 hN hi hx r1 (fun s2 I2 => ⟨_, H1, I2, q1⟩) hf
end

/-! ### while -/
section
variable {X : Cx} {pos : Pos}
/-- the invariant W with its measure -/
def tWhile (c : TT) (tb : TS) : TS := fun D σ H => ∃ W : Nat → St → Hp → Prop, (∃ m, W m σ H) ∧ ∀ m σ H, W m σ H →
  c σ H fun b H1 => if b = true then ∃ N : St → Hp → Prop, (∀ σ' H', N σ' H' → ∃ m', m' < m ∧ W m' σ' H') ∧ tb { D with nx := N, ct := N, bk := D.nx } σ H1 else D.nx σ H1
theorem ps_while {c : Expr} {body : List Stmt} {tc : TT} {tb : TS} (hp : PassesOwn (model X.prog X.w) X.A X.env X.xe) (hc : PT X c tc) (hb : PSs X body tb) : PS X (.While c body [] pos) (tWhile tc tb) := by
  intro pins s σ H D I h
  obtain ⟨W, ⟨m0, w0⟩, turn⟩ := h
  refine wpAny_While (codeAny_whileLoop (fun n s' => ∃ σ' H', Inv X pins σ' H' s' ∧ W n σ' H') ?_ m0 ⟨σ, H, I, w0⟩)
  rintro n s1 ⟨σ1, H1, I1, w1⟩
  refine wpAny_passesOwn hp (thn (hc pins s1 σ1 H1 _ I1 (turn n σ1 H1 w1)) fun b s2 ⟨H2, I2, q2⟩ => ?_)
  cases b with
  | true =>
    obtain ⟨N, hN, q2⟩ := q2
    rw [if_pos rfl]
    refine wpAny_passesOwn hp (thn (hb pins s2 σ1 H2 _ I2 q2) fun f s3 q3 => ?_)
    cases f with
    | next =>
      obtain ⟨σ3, H3, I3, n3⟩ := q3
      obtain ⟨m', hm, w3⟩ := hN σ3 H3 n3
      exact ⟨m', hm, σ3, H3, I3, w3⟩
    | cont =>
      obtain ⟨σ3, H3, I3, n3⟩ := q3
      obtain ⟨m', hm, w3⟩ := hN σ3 H3 n3
      exact ⟨m', hm, σ3, H3, I3, w3⟩
    | brk => exact q3
    | ret v => exact q3
  | false =>
    rw [if_neg Bool.false_ne_true]
    exact wpAny_execs_nil ⟨σ1, H2, I2, q2⟩
end

/-! ### what a loop or a comprehension walks -/
/-- at turn i: it yields x (the heap may grow), or it stops -/
structure It where
  go : Nat → Hp → Prop
  yld : Nat → Hp → V → Hp → Prop
  stop : Nat → Hp → Prop
/-- the iterator's own objects may turn: they are not the frame's, not pinned, younger than the entry (or a comprehension's own) -/
def FpOk (X : Cx) (pins : List (Addr × Obj)) (H : Hp) (b : Addr) : Prop :=
  H b = none ∧ b ≠ X.env.locals ∧ b ∉ X.fs ∧ (b ∈ X.ex ∨ X.s₀.heap.objs.size ≤ b) ∧ (∀ x c, X.env.cells.lookup x = some c → c ≠ b) ∧ ∀ p ∈ X.pn ++ pins, p.1 ≠ b
theorem Inv.fpOk {X : Cx} {pins : List (Addr × Obj)} {σ : St} {H H' : Hp} {s : Shared} {b : Addr} (I : Inv X pins σ H s) (hb : s.heap.objs.size ≤ b) (hn : H' b = none) : FpOk X pins H' b := by
  refine ⟨hn, Nat.ne_of_gt (Nat.lt_of_lt_of_le I.lt hb), I.nofs hb, .inr (Nat.le_trans I.sz hb), fun x c e z => ?_, fun p hp z => ?_⟩
  · obtain ⟨v, q⟩ := I.cell x c e
    exact absurd (Nat.lt_of_lt_of_le q.lt (by rw [z]; exact hb)) (Nat.lt_irrefl _)
  · exact absurd (Nat.lt_of_lt_of_le (Heap.lt_size (I.pin p hp).1) (by rw [z]; exact hb)) (Nat.lt_irrefl _)
structure Turn (P : Program) (w : World) (K : PySem.W.Frag) (tg : Expr) (J : It) (fp : List Addr) (it : Addr) (tn : Nat → Heap → Prop) : Prop where
  mem : it ∈ fp
  obj : ∀ i h, tn i h → ∀ b ∈ fp, ∃ o, h.get? b = some o ∧ ∀ v, o.data ≠ .cell v
  keep : ∀ i h h', tn i h → (∀ b ∈ fp, ∀ o, h.get? b = some o → h'.get? b = some o) → tn i h'
  item : ∀ (X : Cx), X.prog = P → X.w = w → X.K = K → X.calm = true → ∀ (i : Nat) (pins : List (Addr × Obj)) (s : Shared) (σ : St) (H : Hp) (E : Value → Shared → Prop), Inv X pins σ H s → (∀ b ∈ fp, FpOk X pins H b) → tn i s.heap → J.go i H →
    wpAny (model P w) X.A (pyNext (.ref it)) (fun r s1 => ∃ u, r = some u ∧
      wpAny (model P w) X.A (letOwnedTupleGo tg (.ref it) u) (fun _ s2 => ∃ x H', Inv X pins σ H' s2 ∧ RelV x u ∧ J.yld i H x H' ∧ tn (i + 1) s2.heap ∧ ∀ b ∈ fp, H' b = none) E s1) E s
  done : ∀ (X : Cx), X.prog = P → X.w = w → X.K = K → X.calm = true → ∀ (i : Nat) (pins : List (Addr × Obj)) (s : Shared) (σ : St) (H : Hp) (E : Value → Shared → Prop), Inv X pins σ H s → (∀ b ∈ fp, FpOk X pins H b) → tn i s.heap → J.stop i H →
    wpAny (model P w) X.A (pyNext (.ref it)) (fun r s1 => r = none ∧ Inv X pins σ H s1) E s
  self : ∀ (A : Around) (i : Nat) (s : Shared) (Q : Value → Shared → Prop) (E : Value → Shared → Prop), tn i s.heap → Q (.ref it) s → wpAny (model P w) A (pyIter (.ref it)) Q E s
abbrev TI := St → Hp → (It → Hp → Prop) → Prop
/-- an iterator has come -/
def PIE (X : Cx) (pins : List (Addr × Obj)) (σ : St) (tg : Expr) (R : It → Hp → Prop) (itv : Value) (s2 : Shared) : Prop :=
  ∃ (it : Addr) (fp : List Addr) (tn : Nat → Heap → Prop) (J : It) (H' : Hp), itv = .ref it ∧ Inv X pins σ H' s2 ∧ Turn X.prog X.w X.K tg J fp it tn ∧ tn 0 s2.heap ∧ (∀ b ∈ fp, FpOk X pins H' b) ∧ R J H'
def PI (X : Cx) (tg iter : Expr) (wi : TI) : Prop :=
  ∀ (pins : List (Addr × Obj)) (s : Shared) (σ : St) (H : Hp) (R : It → Hp → Prop), Inv X pins σ H s → wi σ H R →
    wpAny (model X.prog X.w) X.A (eval iter X.env) (fun v s1 => wpAny (model X.prog X.w) X.A (pyIter v) (PIE X pins σ tg R) X.xe s1) X.xe s

/-- the step ahead of the store is nothing for an iterator that keeps no tuple -/
theorem go_of {M : Model} {A : Around} {E : Value → Shared → Prop} {s : Shared} {tg : Expr} {it : Addr} {u : Value} {o : Obj} {n : String} {vs : Array Value} {Q : Unit → Shared → Prop} (ho : s.heap.get? it = some o) (hc : o.cls = .type n) (hd : o.data = .fields vs)
    (hn : ["enumerate", "zip", "dict_itemiterator", "dict_reverseitemiterator", "odict_iterator", "itertools.zip_longest", "itertools.pairwise"].contains n = false) (hQ : Q () s) : wpAny M A (letOwnedTupleGo tg (.ref it) u) Q E s := by
  unfold letOwnedTupleGo
  cases tg <;> first
    | exact wpAny_pure hQ
    | (cases u <;> first
        | exact wpAny_pure hQ
        | (refine wpAny_bind (wpAny_load ho ?_)
           rw [hc, hd]
           show wpAny M A (if (["enumerate", "zip", "dict_itemiterator", "dict_reverseitemiterator", "odict_iterator", "itertools.zip_longest", "itertools.pairwise"].contains n && vs[0]? == some (rawInt _)) = true then _ else _) Q E s
           rw [if_neg (by intro h; rw [hn, Bool.false_and] at h; cases h)]
           exact wpAny_pure hQ))

/-- the list at a, as it stands at each turn (a loop may append to it) -/
def Itl (K : PySem.W.Frag) (a : Addr) : It :=
  ⟨fun i H => ∃ xs x, SqL K H a xs ∧ xs[i]? = some x, fun i H x H' => H' = H ∧ ∀ xs, SqL K H a xs → xs[i]? = some x, fun i H => ∃ xs, SqL K H a xs ∧ xs.length ≤ i⟩
def Itt (K : PySem.W.Frag) (a : Addr) : It :=
  ⟨fun i H => ∃ xs x, SqT K H a xs ∧ xs[i]? = some x, fun i H x H' => H' = H ∧ ∀ xs, SqT K H a xs → xs[i]? = some x, fun i H => ∃ xs, SqT K H a xs ∧ xs.length ≤ i⟩
/-- lo, lo + 1, .. (n of them) -/
def Itr (lo : Int) (n : Nat) : It := ⟨fun i _ => i < n, fun i H x H' => H' = H ∧ x = .int (lo + i), fun i _ => n ≤ i⟩
theorem turn_list {P : Program} {w : World} {K : PySem.W.Frag} {tg : Expr} (a it : Addr) : Turn P w K tg (Itl K a) [it] it (fun i h => h.IsListIter it a i) where
  mem := by simp
  obj := fun i h st b hb => by
    have e : b = it := by simpa using hb
    subst e
    obtain ⟨o, e, c, d⟩ := st
    exact ⟨o, e, fun v z => by rw [d] at z; cases z⟩
  keep := fun i h h' st k => st.at fun o e => k it (by simp) o e
  item := by
    intro X hP hw hK hc i pins s σ H E I hf st hg
    subst hP hw hK
    obtain ⟨xs, x, hq, hx⟩ := hg
    obtain ⟨its, rv, p, hz⟩ := I.list hq
    obtain ⟨u, hu, ru⟩ := rv.get hx
    obtain ⟨f0, f1, f2, f3, f4, f5⟩ := hf it (by simp)
    refine wpAny_pyNext_list_item st p.isList (x := u) (by simpa using hu) fun h' st' sb => ?_
    have I1 : Inv X pins σ H { s with heap := h' } := I.turned (t' := s.toks) (fun b o hb e => (sb.2 b hb).trans e) f0 f1 f3 f4 f5
    obtain ⟨o, e, c, d⟩ := id st'
    exact ⟨u, rfl, go_of (s := { s with heap := h' }) e c d (by decide) ⟨x, H, I1, ru, ⟨rfl, fun ys hy => by rw [I.list_inj hy hq]; exact hx⟩, st', fun b hb => (hf b hb).1⟩⟩
  done := by
    intro X hP hw hK hc i pins s σ H E I hf st hg
    subst hP hw hK
    obtain ⟨xs, hq, hx⟩ := hg
    obtain ⟨its, rv, p, hz⟩ := I.list hq
    obtain ⟨f0, f1, f2, f3, f4, f5⟩ := hf it (by simp)
    have hl := rv.length
    exact wpAny_pyNext_list_end (I.ok.hd hc) st p.isList (by simp; omega) fun h' eb => ⟨rfl, I.turned (t' := s.toks) (fun b o hb e => eb b o hb e) f0 f1 f3 f4 f5⟩
  self := fun _ _ _ _ _ st h => wpAny_pyIter_listiter st h
theorem turn_tuple {P : Program} {w : World} {K : PySem.W.Frag} {tg : Expr} (a it : Addr) : Turn P w K tg (Itt K a) [it] it (fun i h => h.IsTupleIter it a i) where
  mem := by simp
  obj := fun i h st b hb => by
    have e : b = it := by simpa using hb
    subst e
    obtain ⟨o, e, c, d⟩ := st
    exact ⟨o, e, fun v z => by rw [d] at z; cases z⟩
  keep := fun i h h' st k => st.at fun o e => k it (by simp) o e
  item := by
    intro X hP hw hK hc i pins s σ H E I hf st hg
    subst hP hw hK
    obtain ⟨xs, x, hq, hx⟩ := hg
    obtain ⟨its, rv, p, hz⟩ := I.tuple hq
    obtain ⟨u, hu, ru⟩ := rv.get hx
    obtain ⟨f0, f1, f2, f3, f4, f5⟩ := hf it (by simp)
    refine wpAny_pyNext_tuple_item st (show s.heap.IsTuple a its.toArray from p) (x := u) (by simpa using hu) fun h' st' sb => ?_
    have I1 : Inv X pins σ H { s with heap := h' } := I.turned (t' := s.toks) (fun b o hb e => (sb.2 b hb).trans e) f0 f1 f3 f4 f5
    obtain ⟨o, e, c, d⟩ := id st'
    exact ⟨u, rfl, go_of (s := { s with heap := h' }) e c d (by decide) ⟨x, H, I1, ru, ⟨rfl, fun ys hy => by rw [I.tuple_inj hy hq]; exact hx⟩, st', fun b hb => (hf b hb).1⟩⟩
  done := by
    intro X hP hw hK hc i pins s σ H E I hf st hg
    subst hP hw hK
    obtain ⟨xs, hq, hx⟩ := hg
    obtain ⟨its, rv, p, hz⟩ := I.tuple hq
    obtain ⟨f0, f1, f2, f3, f4, f5⟩ := hf it (by simp)
    have hl := rv.length
    exact wpAny_pyNext_tuple_end (I.ok.hd hc) st (show s.heap.IsTuple a its.toArray from p) (by simp; omega) fun h' eb => ⟨rfl, I.turned (t' := s.toks) (fun b o hb e => eb b o hb e) f0 f1 f3 f4 f5⟩
  self := fun _ _ _ _ _ st h => wpAny_pyIter_tupleiter st h
theorem turn_range {P : Program} {w : World} {K : PySem.W.Frag} {tg : Expr} (it : Addr) (lo : Int) (n : Nat) : Turn P w K tg (Itr lo n) [it] it (fun i h => IsRangeIter h it (lo + (i : Nat) * 1) ((n : Int) - (i : Nat)) 1) where
  mem := by simp
  obj := fun i h st b hb => by
    have e : b = it := by simpa using hb
    subst e
    exact ⟨_, st, fun v z => by
      have z' : Data.fields _ = Data.cell v := z
      cases z'⟩
  keep := fun i h h' st k => k it (by simp) _ st
  item := by
    intro X hP hw hK hc i pins s σ H E I hf st hg
    subst hP hw hK
    obtain ⟨f0, f1, f2, f3, f4, f5⟩ := hf it (by simp)
    have W := Walks.range (prog := X.prog) (w := X.w) (I.ok.hd hc) it lo 1 n
    refine W.item i s _ _ hg st fun v h' tk hv st' kk => ?_
    obtain ⟨t, rfl⟩ := hv
    have I1 : Inv X pins σ H { s with heap := h', toks := tk } := I.turned (fun b o hb e => kk b o (by simpa using hb) e) f0 f1 f3 f4 f5
    refine ⟨_, rfl, go_of (s := { s with heap := h', toks := tk }) (n := "range_iterator") st' rfl rfl (by decide) ⟨.int (lo + i), H, I1, ⟨t, ?_⟩, ⟨rfl, rfl⟩, st', fun b hb => (hf b hb).1⟩⟩
    rw [Int.mul_one]
  done := by
    intro X hP hw hK hc i pins s σ H E I hf st hg
    subst hP hw hK
    obtain ⟨f0, f1, f2, f3, f4, f5⟩ := hf it (by simp)
    exact wpAny_pyNext_range_end (I.ok.hd hc) st (by have : n ≤ i := hg; omega) fun h' eb => ⟨rfl, I.turned (t' := s.toks) (fun b o hb e => eb b o hb e) f0 f1 f3 f4 f5⟩
  self := fun _ _ _ _ _ st h => wpAny_pyIter_rangeiter st h
end L2

namespace L2
open PySem PySem.Spec PyProof.Rows
section
variable {X : Cx} {tg : Expr}
def iTup (K : PySem.W.Frag) (tl : TE) : TI := fun σ H R => tl σ H fun x H1 => ∃ a, x = .ref a ∧ (∃ xs, SqT K H1 a xs) ∧ R (Itt K a) H1
theorem pi_tup {l : Expr} {tl : TE} (hl : PE X l tl) : PI X tg l (iTup X.K tl) := by
  intro pins s σ H R I h
  refine thn (hl pins s σ H _ I h) fun v s1 ⟨x, H1, I1, r1, q1⟩ => ?_
  obtain ⟨a, e, ⟨xs, hq⟩, q⟩ := q1
  subst e
  cases r1
  obtain ⟨its, rv, p, hz⟩ := I1.tuple hq
  refine wpAny_pyIter_tuple (show s1.heap.IsTuple a its.toArray from p) ?_
  refine ⟨s1.heap.objs.size, [s1.heap.objs.size], _, _, H1, rfl, I1.kept (t' := s1.toks) fun b o e => Heap.get?_push_of_some _ e, turn_tuple a _, ⟨_, Heap.get?_push_size _ rfl, rfl, rfl⟩, fun b hb => ?_, q⟩
  have e : b = s1.heap.objs.size := by simpa using hb
  subst e
  exact I1.fpOk (Nat.le_refl _) (I1.hok.fresh (Nat.le_refl _))
/-- a range object just made, walked -/
theorem range_it {pins : List (Addr × Obj)} {σ : St} {H : Hp} {s : Shared} {R : It → Hp → Prop} {E : Value → Shared → Prop} {lo hi : Int} {t u v : Tok} {tk : Nat} (I : Inv X pins σ H s) (h1 : -(2 ^ 62) ≤ lo) (h2 : lo < 2 ^ 62) (h3 : -(2 ^ 62) ≤ hi) (h4 : hi < 2 ^ 62)
    (q : R (Itr lo (hi - lo).toNat) H) : wpAny (model X.prog X.w) X.A (pyIter (.ref s.heap.objs.size)) (PIE X pins σ tg R) E { s with heap := s.heap.push { cls := .type "range", data := .fields #[.int lo t, .int hi u, .int 1 v] }, toks := tk } := by
  refine wpAny_pyIter_range (IsRange.new ..) (small_one h1 h2 h3 h4) ?_
  have I1 : Inv X pins σ H { s with heap := s.heap.push { cls := .type "range", data := .fields #[.int lo t, .int hi u, .int 1 v] }, toks := tk } := I.kept fun b o e => Heap.get?_push_of_some _ e
  refine ⟨(s.heap.push { cls := .type "range", data := .fields #[.int lo t, .int hi u, .int 1 v] }).objs.size, [(s.heap.push { cls := .type "range", data := .fields #[.int lo t, .int hi u, .int 1 v] }).objs.size], _, _, H, rfl,
    I1.kept (t' := tk) fun b o e => Heap.get?_push_of_some _ e, turn_range _ lo (hi - lo).toNat, ?_, fun b hb => ?_, q⟩
  · have e1 : lo + ((0 : Nat) : Int) * 1 = lo := by simp
    have e2 : (((hi - lo).toNat : Nat) : Int) - ((0 : Nat) : Int) = Builtin.Range.rangeSize lo hi 1 := by rw [rangeSize_one]; split <;> omega
    show IsRangeIter _ _ (lo + ((0 : Nat) : Int) * 1) ((((hi - lo).toNat : Nat) : Int) - ((0 : Nat) : Int)) 1
    rw [e1, e2]
    exact Heap.get?_push_size _ rfl
  · have e : b = (s.heap.push { cls := .type "range", data := .fields #[.int lo t, .int hi u, .int 1 v] }).objs.size := by simpa using hb
    subst e
    exact I1.fpOk (Nat.le_refl _) (I1.hok.fresh (Nat.le_refl _))
def iRng1 (ta : TA) : TI := fun σ H R => ta σ H fun vs H1 => ∃ j : Int, vs = [.int j] ∧ -(2 ^ 62) ≤ j ∧ j < 2 ^ 62 ∧ R (Itr 0 j.toNat) H1
theorem pi_range1 {a : Expr} {ta : TA} {p pos : Pos} (hg : Gl X "range") (hm : X.mg "range" = none) (ha : PA X [a] ta) (hs : starEach [a] X.env = [(false, eval a X.env)] := by rfl) : PI X tg (.Call (.Name "range" p) [a] [] pos) (iRng1 ta) := by
  intro pins s σ H R I h
  refine Call_ (ld_blt I hg hm boot_range (PyProof.Rows.callWith_type1 (thn (ha pos pins s σ H _ I h) fun us s1 ⟨vs, H1, I1, r1, q1⟩ => ?_) hs rfl))
  obtain ⟨j, e, q1, q2, q⟩ := q1
  subst e
  cases r1 with
  | cons r rr =>
    cases rr
    obtain ⟨t, rfl⟩ := r
    exact call_range_1 (range_it I1 (by omega) (by omega) q1 q2 (by simpa using q))
/-! ### for -/
/-- W: the invariant by the turn and a measure; N: what the body is to reach -/
def tFor (wi : TI) (g : TG) (tb : TS) : TS := fun D σ H => wi σ H fun J H1 => ∃ W : Nat → Nat → St → Hp → Prop, (∃ m, W 0 m σ H1) ∧ ∀ i m σ H, W i m σ H →
  (J.stop i H ∧ D.nx σ H) ∨ (J.go i H ∧ ∃ N : St → Hp → Prop, (∀ σ' H', N σ' H' → ∃ m', m' < m ∧ W (i + 1) m' σ' H') ∧ ∀ x H', J.yld i H x H' → g x σ H' fun σ2 H2 => tb { D with nx := N, ct := N, bk := D.nx } σ2 H2)
/-- the records at fp as they stand -/
def pinsAt (fp : List Addr) (h : Heap) : List (Addr × Obj) := fp.filterMap fun b => (h.get? b).map fun o => (b, o)
theorem mem_pinsAt {fp : List Addr} {h : Heap} {b : Addr} {o : Obj} (hb : b ∈ fp) (e : h.get? b = some o) : (b, o) ∈ pinsAt fp h := List.mem_filterMap.mpr ⟨b, hb, by rw [e]; rfl⟩
theorem of_pinsAt {fp : List Addr} {h : Heap} {p : Addr × Obj} (hp : p ∈ pinsAt fp h) : p.1 ∈ fp ∧ h.get? p.1 = some p.2 := by
  obtain ⟨b, hb, e⟩ := List.mem_filterMap.mp hp
  cases q : h.get? b with
  | none => rw [q] at e; cases e
  | some o =>
    rw [q] at e
    have e' : (b, o) = p := Option.some.inj e
    subst e'
    exact ⟨hb, q⟩
theorem Inv.pinned {pins : List (Addr × Obj)} {σ : St} {H : Hp} {s : Shared} {fp : List Addr} (I : Inv X pins σ H s) (hf : ∀ b ∈ fp, FpOk X pins H b) (ho : ∀ b ∈ fp, ∃ o, s.heap.get? b = some o ∧ ∀ v, o.data ≠ .cell v) : Inv X (pins ++ pinsAt fp s.heap) σ H s :=
  I.pins_of fun p hp => (List.mem_append.mp hp).elim (fun z => I.pin p (List.mem_append_right _ z)) fun z => by
    obtain ⟨hb, e⟩ := of_pinsAt z
    obtain ⟨f0, f1, f2, _⟩ := hf p.1 hb
    obtain ⟨o, e', d⟩ := ho p.1 hb
    rw [e] at e'; cases e'
    exact ⟨e, f0, f1, f2, d⟩
theorem Inv.unpinned {pins pl : List (Addr × Obj)} {σ : St} {H : Hp} {s : Shared} (I : Inv X (pins ++ pl) σ H s) : Inv X pins σ H s := I.pins_of fun p hp => I.pin p (List.mem_append_right _ (List.mem_append_left _ hp))
theorem ps_for {iter : Expr} {body : List Stmt} {wi : TI} {g : TG} {tb : TS} {pos : Pos} (hp : PassesOwn (model X.prog X.w) X.A X.env X.xe) (hc : X.calm = true) (hi : PI X tg iter wi) (hg : PG X tg g) (hb : PSs X body tb)
    (hs : ∀ x, foldedSetIterable iter X.env x = pure x := by intro _; rfl) : PS X (.For tg iter body [] pos) (tFor wi g tb) := by
  intro pins s σ H D I h
  refine wpAny_For (thn (hi pins s σ H _ I h) fun v s1 h1 => thn h1 fun itv s2 h2 => ?_) hs
  obtain ⟨it, fp, tn, J, H2, e, I2, T, st2, f2, W, ⟨m0, w0⟩, turn⟩ := h2
  subst e
  -- what stays true of the iterator's objects through the loop
  have stat : ∀ {H' : Hp}, (∀ b ∈ fp, H' b = none) → ∀ b ∈ fp, FpOk X pins H' b := fun hn b hb => ⟨hn b hb, (f2 b hb).2⟩
  refine codeAny_forLoop_any (fun n s' => ∃ i σ' H', Inv X pins σ' H' s' ∧ tn i s'.heap ∧ (∀ b ∈ fp, H' b = none) ∧ W i n σ' H') ?_ m0 ⟨0, σ, H2, I2, st2, fun b hb => (f2 b hb).1, w0⟩
  rintro n s3 ⟨i, σ3, H3, I3, st3, fr3, w3⟩
  rcases turn i n σ3 H3 w3 with ⟨stop, qn⟩ | ⟨go, N, hN, step⟩
  · refine wpAny_passesOwn hp (thn (T.done X rfl rfl rfl hc i pins s3 σ3 H3 X.xe I3 (stat fr3) st3 stop) fun r s4 ⟨hr, I4⟩ => ?_)
    subst hr
    exact wpAny_execs_nil ⟨σ3, H3, I4, qn⟩
  · refine wpAny_passesOwn hp (thn (T.item X rfl rfl rfl hc i pins s3 σ3 H3 X.xe I3 (stat fr3) st3 go) fun r s4 ⟨u, hr, h4⟩ => ?_)
    subst hr
    refine wpAny_passesOwn hp (thn h4 fun _ s5 ⟨x, H5, I5, r5, y5, st5, fr5⟩ => ?_)
    have I5' := I5.pinned (stat fr5) (T.obj _ _ st5)
    refine wpAny_passesOwn hp (thn (hg _ s5 σ3 H5 x u _ I5' r5 (step x H5 y5)) fun _ s6 ⟨σ6, H6, I6, q6⟩ => ?_)
    refine wpAny_passesOwn hp (thn (hb _ s6 σ6 H6 _ I6 q6) fun f s7 q7 => ?_)
    have again : ∀ {σ7 : St} {H7 : Hp}, Inv X (pins ++ pinsAt fp s5.heap) σ7 H7 s7 → N σ7 H7 → ∃ m, m < n ∧ ∃ i σ' H', Inv X pins σ' H' s7 ∧ tn i s7.heap ∧ (∀ b ∈ fp, H' b = none) ∧ W i m σ' H' := fun {σ7 H7} I7 n7 => by
      obtain ⟨m', hm, w7⟩ := hN σ7 H7 n7
      refine ⟨m', hm, i + 1, σ7, H7, I7.unpinned, T.keep _ _ _ st5 fun b hb o e => (I7.pin (b, o) (List.mem_append_right _ (List.mem_append_right _ (mem_pinsAt hb e)))).1, fun b hb => ?_, w7⟩
      obtain ⟨o, e, d⟩ := T.obj _ _ st5 b hb
      exact (I7.pin (b, o) (List.mem_append_right _ (List.mem_append_right _ (mem_pinsAt hb e)))).2.1
    cases f with
    | next => obtain ⟨σ7, H7, I7, n7⟩ := q7; exact again I7 n7
    | cont => obtain ⟨σ7, H7, I7, n7⟩ := q7; exact again I7 n7
    | brk => obtain ⟨σ7, H7, I7, q7⟩ := q7; exact ⟨σ7, H7, I7.unpinned, q7⟩
    | ret v => obtain ⟨x7, σ7, H7, I7, r7, q7⟩ := q7; exact ⟨x7, σ7, H7, I7.unpinned, r7, q7⟩
end

/-! ### the forms one uses -/
/-- over a list that the body leaves as it is -/
theorem for_list {K : PySem.W.Frag} {a : Addr} {xs : List V} {g : TG} {tb : TS} {D : Ends} {σ : St} {H : Hp} (Pv : Nat → St → Hp → Prop) (h0 : Pv 0 σ H) (hl : ∀ i σ H, i ≤ xs.length → Pv i σ H → SqL K H a xs)
    (hs : ∀ i x σ H, xs[i]? = some x → Pv i σ H → g x σ H fun σ2 H2 => tb { D with nx := Pv (i + 1), ct := Pv (i + 1), bk := D.nx } σ2 H2) (hd : ∀ σ H, Pv xs.length σ H → D.nx σ H) :
    ∃ W : Nat → Nat → St → Hp → Prop, (∃ m, W 0 m σ H) ∧ ∀ i m σ H, W i m σ H →
      ((Itl K a).stop i H ∧ D.nx σ H) ∨ ((Itl K a).go i H ∧ ∃ N : St → Hp → Prop, (∀ σ' H', N σ' H' → ∃ m', m' < m ∧ W (i + 1) m' σ' H') ∧ ∀ x H', (Itl K a).yld i H x H' → g x σ H' fun σ2 H2 => tb { D with nx := N, ct := N, bk := D.nx } σ2 H2) := by
  refine ⟨fun i m σ H => m = xs.length - i ∧ i ≤ xs.length ∧ Pv i σ H, ⟨xs.length, by simp, Nat.zero_le _, h0⟩, ?_⟩
  rintro i m σ H ⟨rfl, hi, p⟩
  have q := hl i σ H hi p
  by_cases hlt : i < xs.length
  · refine .inr ⟨⟨xs, xs[i], q, by simp [hlt]⟩, Pv (i + 1), fun σ' H' p' => ⟨xs.length - (i + 1), by omega, rfl, hlt, p'⟩, fun x H' y => ?_⟩
    obtain ⟨e, y⟩ := y
    subst e
    exact hs i x σ _ (y xs q) p
  · have e : i = xs.length := by omega
    subst e
    exact .inl ⟨⟨xs, q, Nat.le_refl _⟩, hd σ H p⟩
theorem for_tup {K : PySem.W.Frag} {a : Addr} {xs : List V} {g : TG} {tb : TS} {D : Ends} {σ : St} {H : Hp} (Pv : Nat → St → Hp → Prop) (h0 : Pv 0 σ H) (hl : ∀ i σ H, i ≤ xs.length → Pv i σ H → SqT K H a xs)
    (hs : ∀ i x σ H, xs[i]? = some x → Pv i σ H → g x σ H fun σ2 H2 => tb { D with nx := Pv (i + 1), ct := Pv (i + 1), bk := D.nx } σ2 H2) (hd : ∀ σ H, Pv xs.length σ H → D.nx σ H) :
    ∃ W : Nat → Nat → St → Hp → Prop, (∃ m, W 0 m σ H) ∧ ∀ i m σ H, W i m σ H →
      ((Itt K a).stop i H ∧ D.nx σ H) ∨ ((Itt K a).go i H ∧ ∃ N : St → Hp → Prop, (∀ σ' H', N σ' H' → ∃ m', m' < m ∧ W (i + 1) m' σ' H') ∧ ∀ x H', (Itt K a).yld i H x H' → g x σ H' fun σ2 H2 => tb { D with nx := N, ct := N, bk := D.nx } σ2 H2) := by
  refine ⟨fun i m σ H => m = xs.length - i ∧ i ≤ xs.length ∧ Pv i σ H, ⟨xs.length, by simp, Nat.zero_le _, h0⟩, ?_⟩
  rintro i m σ H ⟨rfl, hi, p⟩
  have q := hl i σ H hi p
  by_cases hlt : i < xs.length
  · refine .inr ⟨⟨xs, xs[i], q, by simp [hlt]⟩, Pv (i + 1), fun σ' H' p' => ⟨xs.length - (i + 1), by omega, rfl, hlt, p'⟩, fun x H' y => ?_⟩
    obtain ⟨e, y⟩ := y
    subst e
    exact hs i x σ _ (y xs q) p
  · have e : i = xs.length := by omega
    subst e
    exact .inl ⟨⟨xs, q, Nat.le_refl _⟩, hd σ H p⟩
theorem for_range {lo : Int} {n : Nat} {g : TG} {tb : TS} {D : Ends} {σ : St} {H : Hp} (Pv : Nat → St → Hp → Prop) (h0 : Pv 0 σ H)
    (hs : ∀ i σ H, i < n → Pv i σ H → g (.int (lo + i)) σ H fun σ2 H2 => tb { D with nx := Pv (i + 1), ct := Pv (i + 1), bk := D.nx } σ2 H2) (hd : ∀ σ H, Pv n σ H → D.nx σ H) :
    ∃ W : Nat → Nat → St → Hp → Prop, (∃ m, W 0 m σ H) ∧ ∀ i m σ H, W i m σ H →
      ((Itr lo n).stop i H ∧ D.nx σ H) ∨ ((Itr lo n).go i H ∧ ∃ N : St → Hp → Prop, (∀ σ' H', N σ' H' → ∃ m', m' < m ∧ W (i + 1) m' σ' H') ∧ ∀ x H', (Itr lo n).yld i H x H' → g x σ H' fun σ2 H2 => tb { D with nx := N, ct := N, bk := D.nx } σ2 H2) := by
  refine ⟨fun i m σ H => m = n - i ∧ i ≤ n ∧ Pv i σ H, ⟨n, by simp, Nat.zero_le _, h0⟩, ?_⟩
  rintro i m σ H ⟨rfl, hi, p⟩
  by_cases hlt : i < n
  · refine .inr ⟨hlt, Pv (i + 1), fun σ' H' p' => ⟨n - (i + 1), by omega, rfl, hlt, p'⟩, fun x H' y => ?_⟩
    obtain ⟨e, y⟩ := y
    subst e y
    exact hs i σ _ hlt p
  · have e : i = n := by omega
    subst e
    exact .inl ⟨Nat.le_refl _, hd σ H p⟩
end L2

namespace L2
open PySem PySem.Spec PyProof.Rows

abbrev R2 := V → V → Hp → VK → Prop
/-- a two-place operation on values: f is binaryOp op, inplaceOp op or compareOp op -/
def OpR (X : Cx) (f : Value → Value → Sem Value) (r : R2) : Prop :=
  ∀ (pins : List (Addr × Obj)) (s : Shared) (σ : St) (H : Hp) (x y : V) (v u : Value) (Q : VK), Inv X pins σ H s → RelV x v → RelV y u → r x y H Q →
    wpAny (model X.prog X.w) X.A (f v u) (EP X pins σ Q) X.xe s
/-- a one-place operation -/
def UnR (X : Cx) (f : Value → Sem Value) (r : V → Hp → VK → Prop) : Prop :=
  ∀ (pins : List (Addr × Obj)) (s : Shared) (σ : St) (H : Hp) (x : V) (v : Value) (Q : VK), Inv X pins σ H s → RelV x v → r x H Q →
    wpAny (model X.prog X.w) X.A (f v) (EP X pins σ Q) X.xe s
/-- a call of a value that is known (a builtin, a type) with values -/
def CallR (X : Cx) (f : Value) (r : List V → Hp → VK → Prop) : Prop :=
  ∀ (pins : List (Addr × Obj)) (s : Shared) (σ : St) (H : Hp) (xs : List V) (us : List Value) (Q : VK), Inv X pins σ H s → Vals xs us → r xs H Q →
    wpAny (model X.prog X.w) X.A (call f us) (EP X pins σ Q) X.xe s
def tOp (r : R2) (ta tb : TE) : TE := fun σ H Q => ta σ H fun x H1 => tb σ H1 fun y H2 => r x y H2 Q
def tUn (r : V → Hp → VK → Prop) (ta : TE) : TE := fun σ H Q => ta σ H fun x H1 => r x H1 Q
/-- ints in, under C, and a value out -/
def rI (C : Int → Int → Prop) (g : Int → Int → V) : R2 := fun x y H Q => ∃ i j, x = .int i ∧ y = .int j ∧ C i j ∧ Q (g i j) H
def rI0 (g : Int → Int → V) : R2 := fun x y H Q => ∃ i j, x = .int i ∧ y = .int j ∧ Q (g i j) H
def rU (g : Int → V) : V → Hp → VK → Prop := fun x H Q => ∃ i, x = .int i ∧ Q (g i) H

section
variable {X : Cx} {a b c : Expr} {ta tb tc : TE} {pos : Pos}

theorem binT (ha : PE X a ta) (hb : PE X b tb) {pins : List (Addr × Obj)} {s : Shared} {σ : St} {H : Hp} {R : V → V → Hp → Prop} (I : Inv X pins σ H s)
    (h : ta σ H fun x H1 => tb σ H1 fun y H2 => R x y H2) {Q : Value → Shared → Prop} {f : Value → Value → Sem Value}
    (hf : ∀ v u s2 x y H2, Inv X pins σ H2 s2 → RelV x v → RelV y u → R x y H2 → wpAny (model X.prog X.w) X.A (f v u) Q X.xe s2) :
    wpAny (model X.prog X.w) X.A (eval a X.env) (fun v s₁ => wpAny (model X.prog X.w) X.A (eval b X.env) (fun u s₂ => wpAny (model X.prog X.w) X.A (f v u) Q X.xe s₂) X.xe s₁) X.xe s := by
  refine thn (ha pins s σ H _ I h) fun v s1 ⟨x, H1, I1, r1, q1⟩ => ?_
  refine thn (hb pins s1 σ H1 _ I1 q1) fun u s2 ⟨y, H2, I2, r2, q2⟩ => ?_
  exact hf v u s2 x y H2 I2 r1 r2 q2

theorem pe_op {op : Operator} {r : R2} (ho : OpR X (binaryOp op) r) (ha : PE X a ta) (hb : PE X b tb) : PE X (.BinOp a op b pos) (tOp r ta tb) := by
  intro pins s σ H Q I h
  exact wpAny_BinOp (binT ha hb I h fun v u s2 x y H2 I2 rx ry q => ho pins s2 σ H2 x y v u Q I2 rx ry q)
theorem pe_un {op : UnaryOp} {r : V → Hp → VK → Prop} (ho : UnR X (unaryOp op) r) (ha : PE X a ta) : PE X (.UnaryOp op a pos) (tUn r ta) := by
  intro pins s σ H Q I h
  exact UnaryOp_ (thn (ha pins s σ H _ I h) fun v s1 ⟨x, H1, I1, r1, q1⟩ => ho pins s1 σ H1 x v Q I1 r1 q1)
/-! ### ints -/
theorem opI {f : Value → Value → Sem Value} {C : Int → Int → Prop} {g : Int → Int → Int}
    (rule : ∀ (i j : Int) (t u : Tok) (s : Shared) (Q : Value → Shared → Prop) (E : Value → Shared → Prop), C i j → Q (.int (g i j) s.toks) { s with toks := s.toks + 1 } → wpAny (model X.prog X.w) X.A (f (.int i t) (.int j u)) Q E s) :
    OpR X f (rI C fun i j => .int (g i j)) := by
  intro pins s σ H x y v u Q I rx ry h
  obtain ⟨i, j, rfl, rfl, hc, q⟩ := h
  obtain ⟨t, rfl⟩ := rx
  obtain ⟨t', rfl⟩ := ry
  exact rule i j t t' s _ _ hc ⟨.int (g i j), H, I.tok _, ⟨_, rfl⟩, q⟩
theorem opI0 {f : Value → Value → Sem Value} {g : Int → Int → Int}
    (rule : ∀ (i j : Int) (t u : Tok) (s : Shared) (Q : Value → Shared → Prop) (E : Value → Shared → Prop), Q (.int (g i j) s.toks) { s with toks := s.toks + 1 } → wpAny (model X.prog X.w) X.A (f (.int i t) (.int j u)) Q E s) :
    OpR X f (rI0 fun i j => .int (g i j)) := by
  intro pins s σ H x y v u Q I rx ry h
  obtain ⟨i, j, rfl, rfl, q⟩ := h
  obtain ⟨t, rfl⟩ := rx
  obtain ⟨t', rfl⟩ := ry
  exact rule i j t t' s _ _ ⟨.int (g i j), H, I.tok _, ⟨_, rfl⟩, q⟩
theorem opB0 {f : Value → Value → Sem Value} {g : Int → Int → Bool}
    (rule : ∀ (i j : Int) (t u : Tok) (s : Shared) (Q : Value → Shared → Prop) (E : Value → Shared → Prop), Q (.bool (g i j)) s → wpAny (model X.prog X.w) X.A (f (.int i t) (.int j u)) Q E s) :
    OpR X f (rI0 fun i j => .bl (g i j)) := by
  intro pins s σ H x y v u Q I rx ry h
  obtain ⟨i, j, rfl, rfl, q⟩ := h
  obtain ⟨t, rfl⟩ := rx
  obtain ⟨t', rfl⟩ := ry
  exact rule i j t t' s _ _ ⟨.bl (g i j), H, I, rfl, q⟩

def CDiv (i j : Int) : Prop := 0 < j ∧ j < 1073741824
theorem op_add : OpR X (binaryOp .Add) (rI0 fun i j => .int (i + j)) := opI0 fun _ _ _ _ _ _ _ q => add_int q
theorem op_sub : OpR X (binaryOp .Sub) (rI0 fun i j => .int (i - j)) := opI0 fun _ _ _ _ _ _ _ q => sub_int q
/-- // by a positive divisor -/
theorem op_fdiv : OpR X (binaryOp .FloorDiv) (rI CDiv fun i j => .int (i / j)) := opI fun i j _ _ _ _ _ hc q => by
  have h1 : (0 : Int) < j := hc.1
  have h2 : j < 1073741824 := hc.2
  exact floordiv_int (by omega) (by rw [Int.fdiv_eq_ediv_of_nonneg i (by omega)]; exact q) (.inl (PyProof.noPylong_small (by omega)))
/-- % by a positive divisor of any size -/
theorem op_mod : OpR X (binaryOp .Mod) (rI (fun _ j => 0 < j) fun i j => .int (i % j)) := opI fun i j _ _ _ _ _ hc q => by
  have h1 : (0 : Int) < j := hc
  exact mod_int' (by omega) (by rw [Int.fmod_eq_emod_of_nonneg i (by omega)]; exact q)
theorem unI {f : Value → Sem Value} {g : Int → Int}
    (rule : ∀ (i : Int) (t : Tok) (s : Shared) (Q : Value → Shared → Prop) (E : Value → Shared → Prop), Q (.int (g i) s.toks) { s with toks := s.toks + 1 } → wpAny (model X.prog X.w) X.A (f (.int i t)) Q E s) :
    UnR X f (rU fun i => .int (g i)) := by
  intro pins s σ H x v Q I rx h
  obtain ⟨i, rfl, q⟩ := h
  obtain ⟨t, rfl⟩ := rx
  exact rule i t s _ _ ⟨.int (g i), H, I.tok _, ⟨_, rfl⟩, q⟩
theorem un_neg : UnR X (unaryOp .USub) (rU fun i => .int (-i)) := unI fun _ _ _ _ _ q => neg_int q
/-! ### bools among ints: n += (a < b) -/
end

/-! ### comparisons -/
/-- the scalars that == tells apart as data does -/
def scal : V → V → Bool
  | .non, .non => true | .non, .int _ => true | .int _, .non => true | .non, .bl _ => true | .bl _, .non => true | .non, .str _ => true | .str _, .non => true
  | .int _, .int _ => true | .bl _, .bl _ => true | .str _, .str _ => true | .byt _, .byt _ => true
  | .int _, .str _ => true | .str _, .int _ => true | .bl _, .str _ => true | .str _, .bl _ => true
  | _, _ => false
def rEq : R2 := fun x y H Q => scal x y = true ∧ Q (.bl (decide (x = y))) H
def rNe : R2 := fun x y H Q => scal x y = true ∧ Q (.bl (!decide (x = y))) H

theorem dec_int {i j : Int} : decide (V.int i = V.int j) = (i == j) := by
  rw [Bool.eq_iff_iff]
  simp
theorem dec_bl {i j : Bool} : decide (V.bl i = V.bl j) = (i == j) := by
  rw [Bool.eq_iff_iff]
  simp
theorem dec_str {i j : Str} : decide (V.str i = V.str j) = (i == j) := by
  rw [Bool.eq_iff_iff]
  simp
theorem dec_byt {i j : Array UInt8} : decide (V.byt i = V.byt j) = (i.toList == j.toList) := by
  rw [Bool.eq_iff_iff]
  cases i
  cases j
  simp

section
variable {X : Cx} {a b c : Expr} {ta tb tc : TE} {pos : Pos}
theorem fin_bl {pins : List (Addr × Obj)} {σ : St} {H : Hp} {s : Shared} {Q : VK} {k k' : Bool} (I : Inv X pins σ H s) (q : Q (.bl k) H) (e : k = k') : EP X pins σ Q (.bool k') s := by
  subst e
  exact ⟨.bl k, H, I, rfl, q⟩
theorem op_eq : OpR X (compareOp .Eq) rEq := by
  intro pins s σ H x y v u Q I rx ry h
  obtain ⟨hs, q⟩ := h
  cases x with
  | non =>
    cases rx
    cases y with
    | non => cases ry; exact PySem.EqNone.eq_none_none (fin_bl I q (by simp))
    | bl j => cases ry; exact PySem.EqNone.eq_none_bool (fin_bl I q (by simp))
    | int j => obtain ⟨t', rfl⟩ := ry; exact PySem.EqNone.eq_none_int (fin_bl I q (by simp))
    | str j => obtain ⟨t', rfl⟩ := ry; exact PySem.EqNone.eq_none_str (fin_bl I q (by simp))
    | _ => exact absurd (show false = true from hs) Bool.false_ne_true
  | bl i =>
    cases rx
    cases y with
    | non => cases ry; exact PySem.EqNone.eq_bool_none (fin_bl I q (by simp))
    | bl j => cases ry; exact eq_bool (fin_bl I q dec_bl)
    | str j => obtain ⟨t', rfl⟩ := ry; exact PySem.EqMixed.eq_bool_str (fin_bl I q (by simp))
    | _ => exact absurd (show false = true from hs) Bool.false_ne_true
  | int i =>
    obtain ⟨t, rfl⟩ := rx
    cases y with
    | non => cases ry; exact PySem.EqNone.eq_int_none (fin_bl I q (by simp))
    | int j => obtain ⟨t', rfl⟩ := ry; exact eq_int (fin_bl I q dec_int)
    | str j => obtain ⟨t', rfl⟩ := ry; exact PySem.EqMixed.eq_int_str (fin_bl I q (by simp))
    | _ => exact absurd (show false = true from hs) Bool.false_ne_true
  | str i =>
    obtain ⟨t, rfl⟩ := rx
    cases y with
    | non => cases ry; exact PySem.EqNone.eq_str_none (fin_bl I q (by simp))
    | bl j => cases ry; exact PySem.EqMixed.eq_str_bool (fin_bl I q (by simp))
    | int j => obtain ⟨t', rfl⟩ := ry; exact PySem.EqMixed.eq_str_int (fin_bl I q (by simp))
    | str j => obtain ⟨t', rfl⟩ := ry; exact eq_str (fin_bl I q dec_str)
    | _ => exact absurd (show false = true from hs) Bool.false_ne_true
  | byt i =>
    obtain ⟨t, rfl⟩ := rx
    cases y with
    | byt j => obtain ⟨t', rfl⟩ := ry; exact PySem.W.eq_bytes (fin_bl I q dec_byt)
    | _ => exact absurd (show false = true from hs) Bool.false_ne_true
  | _ => cases y <;> exact absurd (show false = true from hs) Bool.false_ne_true
theorem op_ne : OpR X (compareOp .NotEq) rNe := by
  intro pins s σ H x y v u Q I rx ry h
  obtain ⟨hs, q⟩ := h
  cases x with
  | non =>
    cases rx
    cases y with
    | non => cases ry; exact PySem.EqNone.ne_none_none (fin_bl I q (by simp))
    | bl j => cases ry; exact PySem.EqNone.ne_none_bool (fin_bl I q (by simp))
    | int j => obtain ⟨t', rfl⟩ := ry; exact PySem.EqNone.ne_none_int (fin_bl I q (by simp))
    | str j => obtain ⟨t', rfl⟩ := ry; exact PySem.EqNone.ne_none_str (fin_bl I q (by simp))
    | _ => exact absurd (show false = true from hs) Bool.false_ne_true
  | bl i =>
    cases rx
    cases y with
    | non => cases ry; exact PySem.EqNone.ne_bool_none (fin_bl I q (by simp))
    | bl j => cases ry; exact ne_bool (fin_bl I q (congrArg not dec_bl))
    | str j => obtain ⟨t', rfl⟩ := ry; exact PySem.EqMixed.ne_bool_str (fin_bl I q (by simp))
    | _ => exact absurd (show false = true from hs) Bool.false_ne_true
  | int i =>
    obtain ⟨t, rfl⟩ := rx
    cases y with
    | non => cases ry; exact PySem.EqNone.ne_int_none (fin_bl I q (by simp))
    | int j => obtain ⟨t', rfl⟩ := ry; exact ne_int (fin_bl I q (congrArg not dec_int))
    | str j => obtain ⟨t', rfl⟩ := ry; exact PySem.EqMixed.ne_int_str (fin_bl I q (by simp))
    | _ => exact absurd (show false = true from hs) Bool.false_ne_true
  | str i =>
    obtain ⟨t, rfl⟩ := rx
    cases y with
    | non => cases ry; exact PySem.EqNone.ne_str_none (fin_bl I q (by simp))
    | bl j => cases ry; exact PySem.EqMixed.ne_str_bool (fin_bl I q (by simp))
    | int j => obtain ⟨t', rfl⟩ := ry; exact PySem.EqMixed.ne_str_int (fin_bl I q (by simp))
    | str j => obtain ⟨t', rfl⟩ := ry; exact ne_str (fin_bl I q (congrArg not dec_str))
    | _ => exact absurd (show false = true from hs) Bool.false_ne_true
  | byt i =>
    obtain ⟨t, rfl⟩ := rx
    cases y with
    | byt j => obtain ⟨t', rfl⟩ := ry; exact PySem.W.ne_bytes (fin_bl I q (congrArg not dec_byt))
    | _ => exact absurd (show false = true from hs) Bool.false_ne_true
  | _ => cases y <;> exact absurd (show false = true from hs) Bool.false_ne_true

theorem op_lt : OpR X (compareOp .Lt) (rI0 fun i j => .bl (decide (i < j))) := opB0 fun _ _ _ _ _ _ _ q => lt_int q
theorem op_le : OpR X (compareOp .LtE) (rI0 fun i j => .bl (decide (i ≤ j))) := opB0 fun _ _ _ _ _ _ _ q => le_int q
theorem op_gt : OpR X (compareOp .Gt) (rI0 fun i j => .bl (decide (j < i))) := opB0 fun _ _ _ _ _ _ _ q => gt_int q
theorem op_ge : OpR X (compareOp .GtE) (rI0 fun i j => .bl (decide (j ≤ i))) := opB0 fun _ _ _ _ _ _ _ q => ge_int q
theorem nomark (b : Expr) {op : CmpOp} (h : op ≠ .In := by decide) (h2 : op ≠ .NotIn := by decide) : behindInMarks op b = false := by
  have e1 : (op == CmpOp.In) = false := by cases op <;> first | rfl | exact absurd rfl h
  have e2 : (op == CmpOp.NotIn) = false := by cases op <;> first | rfl | exact absurd rfl h2
  cases b <;> simp [behindInMarks, e1, e2]
/-- a comparison as a value; hm: nomark b, or (for in, not in) by with_unfolding_all rfl -/
theorem pe_cmpR {op : CmpOp} {r : R2} (ho : OpR X (compareOp op) r) (ha : PE X a ta) (hb : PE X b tb) (hm : behindInMarks op b = false) : PE X (.Compare a [op] [b] pos) (tOp r ta tb) := by
  intro pins s σ H Q I h
  exact wpAny_Compare1 (binT ha hb I h fun v u s2 x y H2 I2 rx ry q => ho pins s2 σ H2 x y v u Q I2 rx ry q) hm
/-- a reading of a value as a test -/
def tTest (t : TE) : TT := fun σ H Q => t σ H fun x H' => ∃ k, x = .bl k ∧ Q k H'
theorem pt_cmpR {op : CmpOp} {r : R2} (ho : OpR X (compareOp op) r) (ha : PE X a ta) (hb : PE X b tb) (hm : behindInMarks op b = false) : PT X (.Compare a [op] [b] pos) (tTest (tOp r ta tb)) := by
  intro pins s σ H Q I h
  refine wpAny_isTrue_Compare1 (thn (ha pins s σ H _ I h) fun v s1 ⟨x, H1, I1, r1, q1⟩ => thn (hb pins s1 σ H1 _ I1 q1) fun u s2 ⟨y, H2, I2, r2, q2⟩ =>
    thn (ho pins s2 σ H2 x y v u _ I2 r1 r2 q2) fun c s3 ⟨z, H3, I3, r3, k, e, q3⟩ => ?_) hm
  subst e
  cases r3
  exact wpAny_truthy_bool ⟨H3, I3, q3⟩
/-! ### truth -/
theorem line63 : (sizeLine : Nat) < 2 ^ 63 := by rw [sizeLine_eq]; decide
/-! ### strs and bytes -/
theorem op_add_str : OpR X (binaryOp .Add) (fun x y H Q => ∃ i j, x = .str i ∧ y = .str j ∧ i.length + j.length ≤ sizeLine ∧ Q (.str (i ++ j)) H) := by
  intro pins s σ H x y v u Q I rx ry h
  obtain ⟨i, j, rfl, rfl, hz, q⟩ := h
  obtain ⟨t, rfl⟩ := rx
  obtain ⟨t', rfl⟩ := ry
  exact add_str (fun t' tk => ⟨.str (i ++ j), H, I.tok _, ⟨_, rfl⟩, q⟩) hz
/-! ### scalar builtins, by CallR -/
theorem vals1 {x : V} {us : List Value} (r : Vals [x] us) : ∃ u, us = [u] ∧ RelV x u := by
  cases r with
  | cons r1 r2 => cases r2; exact ⟨_, rfl, r1⟩
theorem vals2 {x y : V} {us : List Value} (r : Vals [x, y] us) : ∃ u w', us = [u, w'] ∧ RelV x u ∧ RelV y w' := by
  cases r with
  | cons r1 r2 =>
    cases r2 with
    | cons r3 r4 => cases r4; exact ⟨_, _, rfl, r1, r3⟩
theorem call_int1 : CallR X (.type "int") (fun xs H Q => (∃ i, xs = [.int i] ∧ Q (.int i) H) ∨ ∃ k, xs = [.bl k] ∧ Q (.int (if k then 1 else 0)) H) := by
  intro pins s σ H xs us Q I r h
  rcases h with ⟨i, rfl, q⟩ | ⟨k, rfl, q⟩
  · obtain ⟨u, rfl, t, rfl⟩ := vals1 r
    exact call_int_int ⟨.int i, H, I, ⟨_, rfl⟩, q⟩
  · obtain ⟨u, rfl, r1⟩ := vals1 r
    cases r1
    exact call_int_bool ⟨.int (if k then 1 else 0), H, I.tok _, ⟨_, rfl⟩, q⟩
theorem call_ord : CallR X (.builtin "ord") (fun xs H Q => ∃ x, xs = [.str x] ∧ x.length = 1 ∧ Q (.int (x.cps.getD 0 0 : Nat)) H) := by
  intro pins s σ H xs us Q I r h
  obtain ⟨x, rfl, hz, q⟩ := h
  obtain ⟨u, rfl, t, rfl⟩ := vals1 r
  exact ord_of_one hz ⟨.int _, H, I.tok _, ⟨_, rfl⟩, q⟩
end
end L2

namespace L2
open PySem PySem.Spec PyProof.Rows

/-! ### an instance, its attributes a map -/
structure ObjM (h : Heap) (x dx C : Addr) (mA : Str → Option Value) : Prop where
  obj : h.get? x = some (PySem.W.instObj C dx)
  ns : h.Ns1 dx mA
  ne : dx ≠ x

theorem lookIn_ns {h : Heap} {dx : Addr} {mA : Str → Option Value} (n : h.Ns1 dx mA) : ∃ od, h.get? dx = some od ∧ ∀ name, PySem.W.lookIn name od = some (mA name) := by
  obtain ⟨o, es, ep, ho, hd, hk, _, hm⟩ := n
  refine ⟨o, ho, fun name => ?_⟩
  have e := hm name
  unfold nsFind findBy at e
  rw [← Array.find?_toList] at e
  unfold PySem.W.lookIn
  rw [hd]
  dsimp only
  split
  · rename_i y q
    rw [q] at e
    exact congrArg some e
  · rename_i q
    rw [q] at e
    have a : es.toList.any (·.refKey) = false := by
      rw [List.any_eq_false]
      intro y hy
      obtain ⟨z, t, hkey⟩ := hk y (Array.mem_toList_iff.mp hy)
      simp [DictEntry.refKey, hkey]
    have a' : ¬ es.toList.any (·.refKey) = true := by rw [a]; exact Bool.false_ne_true
    rw [if_neg a']
    exact congrArg some e

theorem ObjM.look {h : Heap} {x dx C : Addr} {mA : Str → Option Value} (I : ObjM h x dx C mA) : ∃ od, PySem.W.InstAt h x (PySem.W.instObj C dx) C (some od) ∧ ∀ name, PySem.W.lookIn name od = some (mA name) :=
  let ⟨od, ho, hl⟩ := lookIn_ns I.ns
  ⟨od, ⟨I.obj, rfl, rfl, ho⟩, hl⟩

section
variable {prog : Program} {w : World} {A : Around} {E : Value → Shared → Prop} {s : Shared} {K : PySem.W.Frag} {x dx C f : Addr} {mA : Str → Option Value} {name : Str} {v : Value}

theorem get_map {expr : Bool} {Q : Value → Shared → Prop} (X : K.In s.heap) (I : ObjM s.heap x dx C mA) (hg : PySem.W.plainGet K C name = true) (hh : PySem.W.hasDictIn K C = true)
    (ha : PySem.W.findIn K (.ref C) name = some none) (hv : mA name = some v) (hv' : PySem.W.handedIn v = true) (h : Q v { s with toks := s.toks + 1 }) :
    wpAny (model prog w) A (getAttr (.ref x) name expr) Q E s := by
  obtain ⟨od, J, hl⟩ := I.look
  exact PySem.W.get_value X J (PySem.W.plainGet_of hg).1 (PySem.W.findObj_own hh ha rfl (by rw [hl, hv])) hv' h

theorem get_meth {pl : Sem Bool} {Q : Value × List Value → Shared → Prop} (X : K.In s.heap) (I : ObjM s.heap x dx C mA) (hg : PySem.W.plainGet K C name = true)
    (hf : PySem.W.findIn K (.ref C) name = some (some (.ref f))) (ht : PySem.W.isFn K (.ref f) = true) (hv : mA name = none) (h : Q (.ref f, [.ref x]) s) :
    wpAny (model prog w) A (getMethod (.ref x) name pl) Q E s := by
  obtain ⟨od, J, hl⟩ := I.look
  exact PySem.W.method_fn X J (PySem.W.plainGet_of hg).1 (PySem.W.plainGet_of hg).2 hf (beq_iff_eq.mp ht) (by show (PySem.W.lookIn name od).map (·.isSome) = some false; rw [hl, hv]; rfl) h

theorem set_map {ns : List Str} {Q : Unit → Shared → Prop} (X : K.In s.heap) (I : ObjM s.heap x dx C mA)
    (hs : PySem.W.findIn K (.ref C) "__setattr__" = some (some (.builtin "object.__setattr__"))) (hp : PySem.W.plainOver K C = true) (ht : PySem.W.takerIn K C name = some none) (hh : PySem.W.hasDictIn K C = true)
    (hw : PySem.Within mA ns) (hsz : ns.length ≤ sizeLine)
    (h : ∀ h', ObjM h' x dx C (fun y => if y = name then some v else mA y) → Heap.SameBut dx s.heap h' → Q () { s with heap := h', toks := s.toks + 2 }) :
    wpAny (model prog w) A (setAttr (.ref x) name v) Q E s := by
  obtain ⟨od, J, hl⟩ := I.look
  refine PySem.W.set_plain X J hs (PySem.W.osa_open (s := { s with toks := s.toks + 1 }) (r := none) X J hp ht fun b => ?_)
  obtain ⟨cd, hc, hd'⟩ := PySem.W.any_some hh
  have hx : s.heap.get? x = some ⟨.ref C, some dx, .plain, #[]⟩ := I.obj
  refine wpAny_bind (wpAny_pure (wpAny_bind (wpAny_bind (wpAny_loadPart hx (wpAny_bind (PySem.W.Looks.here (s := { s with toks := s.toks + 1 }) (PySem.W.looks_clsIn X hc) ?_))))))
  rw [hd']
  refine wpAny_pure (a := some dx) (wpAny_bind (wpAny_pure (wpAny_bind ?_)))
  refine wpAny_nsSet1 (s := { s with toks := s.toks + 1 }) I.ns fun h' hn2 hs2 => ?_
  obtain ⟨oD, esD, epD, hoD, hdD, hcD⟩ := hn2.count (PySem.Within.cons name v hw)
  refine wpAny_bind (wpAny_lookBehind hoD (by rw [hdD]; exact pastItsLine_dict (Nat.le_trans hcD (by rw [List.length_cons]; omega))) ?_)
  exact wpAny_pure (h _ ⟨(hs2.2 _ (Ne.symm I.ne)).trans I.obj, hn2, I.ne⟩ hs2)

/-- C(..): the dict at the heap's end, the instance behind it; then its __init__ -/
theorem make_map {R : Result → Shared → Prop} {vs : List Value} {kw : List (Str × Value)} (X : K.In s.heap) (hm : PySem.W.makesIn K C = true)
    (hi : PySem.W.findIn K (.ref C) "__init__" = some (some (.ref f))) (hf : PySem.W.typeIn K (.ref f) = some (.type "function"))
    (h : codeAny (model prog w) (A.under (.builtin "type.__call__" ⟨.ref C :: vs, kw⟩)) (.call (.ref f) ⟨.ref (s.heap.objs.size + 1) :: vs, kw⟩) (PySem.W.InitBack (s.heap.objs.size + 1) R)
      { s with heap := (s.heap.push PySem.W.emptyDict).push (PySem.W.instObj C s.heap.objs.size) }) :
    codeAny (model prog w) A (.call (.ref C) ⟨vs, kw⟩) R s := by
  obtain ⟨hh, g, d, t, os⟩ := s
  exact PySem.W.make_core (PySem.W.makes_of X hm) (PySem.W.looks_findIn X hi) (fun self => PySem.W.bind_fn X self hf) (.inl rfl) h
end

/-! ### the attributes as a list of pairs -/
def putF (f : Str) (v : V) : List (Str × V) → List (Str × V)
  | [] => [(f, v)]
  | (g, x) :: r => if g = f then (g, v) :: r else (g, x) :: putF f v r
theorem lookup_putF (f g : Str) (v : V) : ∀ fs : List (Str × V), (putF f v fs).lookup g = if g = f then some v else fs.lookup g
  | [] => by
    show List.lookup g [(f, v)] = _
    by_cases h : g = f
    · have hb : (g == f) = true := beq_iff_eq.mpr h
      simp only [List.lookup, hb, if_pos h]
    · have hb : (g == f) = false := beq_eq_false_iff_ne.mpr h
      simp only [List.lookup, hb, if_neg h]
  | (k, x) :: r => by
    have ih := lookup_putF f g v r
    rw [show putF f v ((k, x) :: r) = (if k = f then (k, v) :: r else (k, x) :: putF f v r) from rfl]
    by_cases hk : k = f
    · rw [if_pos hk]
      by_cases h : g = k
      · have hb : (g == k) = true := beq_iff_eq.mpr h
        simp only [List.lookup, hb, if_pos (h.trans hk)]
      · have hb : (g == k) = false := beq_eq_false_iff_ne.mpr h
        simp only [List.lookup, hb, if_neg (fun e : g = f => h (e.trans hk.symm))]
    · rw [if_neg hk]
      by_cases h : g = k
      · have hb : (g == k) = true := beq_iff_eq.mpr h
        simp only [List.lookup, hb, if_neg (fun e : g = f => hk (h.symm.trans e))]
      · have hb : (g == k) = false := beq_eq_false_iff_ne.mpr h
        simp only [List.lookup, hb]
        exact ih
theorem keys_putF (f : Str) (v : V) : ∀ fs : List (Str × V), f ∈ (putF f v fs).map (·.1) ∧ ∀ g, g ∈ fs.map (·.1) → g ∈ (putF f v fs).map (·.1)
  | [] => ⟨by simp [putF], fun g h => by simp at h⟩
  | (k, x) :: r => by
    obtain ⟨i1, i2⟩ := keys_putF f v r
    rw [show putF f v ((k, x) :: r) = (if k = f then (k, v) :: r else (k, x) :: putF f v r) from rfl]
    by_cases hk : k = f
    · rw [if_pos hk]
      subst hk
      exact ⟨by simp, fun g h => by simpa using h⟩
    · rw [if_neg hk]
      refine ⟨?_, fun g h => ?_⟩
      · rw [List.map_cons]
        exact List.mem_cons_of_mem _ i1
      · rw [List.map_cons] at h ⊢
        rcases List.mem_cons.mp h with e | e
        · exact List.mem_cons.mpr (.inl e)
        · exact List.mem_cons_of_mem _ (i2 g e)
theorem length_putF (f : Str) (v : V) : ∀ fs : List (Str × V), (putF f v fs).length ≤ fs.length + 1
  | [] => by simp [putF]
  | (k, x) :: r => by
    have ih := length_putF f v r
    rw [show putF f v ((k, x) :: r) = (if k = f then (k, v) :: r else (k, x) :: putF f v r) from rfl]
    by_cases hk : k = f
    · rw [if_pos hk, List.length_cons, List.length_cons]; omega
    · rw [if_neg hk, List.length_cons, List.length_cons]; omega

theorem RelO.some_of {v : V} {o : Option Value} (r : RelO (some v) o) : ∃ u, o = some u ∧ RelV v u := by
  cases o with
  | none => exact (show False from r).elim
  | some u => exact ⟨u, rfl, r⟩
theorem RelO.none_of {o : Option Value} (r : RelO none o) : o = none := by
  cases o with
  | none => rfl
  | some u => exact (show False from r).elim
theorem handed_of {v : V} {u : Value} (r : RelV v u) : PySem.W.handedIn u = true := by
  cases v with
  | non => cases (show u = Value.none from r); rfl
  | bl b => cases (show u = Value.bool b from r); rfl
  | int i => obtain ⟨t, e⟩ := (show ∃ t, u = Value.int i t from r); cases e; rfl
  | str x => obtain ⟨t, e⟩ := (show ∃ t, u = Value.str x t from r); cases e; rfl
  | byt b => obtain ⟨t, e⟩ := (show ∃ t, u = Value.bytes b t from r); cases e; rfl
  | flt b => obtain ⟨t, e⟩ := (show ∃ t, u = Value.float b t from r); cases e; rfl
  | ref a => cases (show u = Value.ref a from r); rfl
  | ty n => cases (show u = Value.type n from r); rfl

section
variable {P : Program} {w : World} {H H' : Hp} {h h' : Heap} {a C dx : Addr} {fs fs' : List (Str × V)}
theorem ins_get (hok : HOk P w H h) (e : H a = some (.ins C dx fs)) : ∃ mA, ObjM h a dx C mA ∧ (∀ f, RelO (fs.lookup f) (mA f)) ∧ PySem.Within mA (fs.map (·.1)) ∧ fs.length ≤ 1000 ∧ H dx = some (.own a) := by
  obtain ⟨d, z, ne, ob, mA, n, r, q⟩ := (show ObjOk P w H h a (.ins C dx fs) from hok a _ e)
  exact ⟨mA, ⟨ob, n, ne⟩, r, q, z, d⟩
end

/-! ### what of the text a class must have -/
structure Cls (K : PySem.W.Frag) (C : Addr) : Prop where
  pg : PySem.W.plainGet K C Str.empty = true
  hd : PySem.W.hasDictIn K C = true
  po : PySem.W.plainOver K C = true
  sa : PySem.W.findIn K (.ref C) "__setattr__" = some (some (.builtin "object.__setattr__"))
theorem Cls.get {K : PySem.W.Frag} {C : Addr} (c : Cls K C) (f : Str) : PySem.W.plainGet K C f = true := c.pg
/-- no class of it has the name -/
def NoAttr (K : PySem.W.Frag) (C : Addr) (f : Str) : Prop := PySem.W.findIn K (.ref C) f = some none
theorem NoAttr.taker {K : PySem.W.Frag} {C : Addr} {f : Str} (n : NoAttr K C f) : PySem.W.takerIn K C f = some none := by
  unfold PySem.W.takerIn
  rw [show PySem.W.findIn K (.ref C) f = some none from n]
  rfl
/-- a method: a plain def of the class or of one above it -/
structure Meth (K : PySem.W.Frag) (C : Addr) (m : Str) (f : Addr) : Prop where
  at_ : PySem.W.findIn K (.ref C) m = some (some (.ref f))
  fn : PySem.W.isFn K (.ref f) = true
  kp : PySem.W.keepIn K (.ref f) = true

section
variable {X : Cx} {pins : List (Addr × Obj)} {σ : St} {H : Hp} {s : Shared} {a C dx : Addr} {fs : List (Str × V)} {f : Str} {v : V} {A : Around} {E : Value → Shared → Prop}

theorem getattr_ok {b : Bool} {Q : Value → Shared → Prop} (I : Inv X pins σ H s) (e : H a = some (.ins C dx fs)) (c : Cls X.K C) (n : NoAttr X.K C f) (l : fs.lookup f = some v)
    (h : ∀ u s', Inv X pins σ H s' → RelV v u → Q u s') : wpAny (model X.prog X.w) A (getAttr (.ref a) f b) Q E s := by
  obtain ⟨mA, O, r, _, _, _⟩ := ins_get I.hok e
  obtain ⟨u, hu, ru⟩ := RelO.some_of (v := v) (o := mA f) (by rw [← l]; exact r f)
  exact get_map I.kIn O (c.get f) c.hd n hu (handed_of ru) (h u _ (I.tok _) ru)

theorem getmeth_ok {m : Str} {g : Addr} {pl : Sem Bool} {Q : Value × List Value → Shared → Prop} (I : Inv X pins σ H s) (e : H a = some (.ins C dx fs)) (c : Cls X.K C) (k : Meth X.K C m g) (l : fs.lookup m = none)
    (h : Q (.ref g, [.ref a]) s) : wpAny (model X.prog X.w) A (getMethod (.ref a) m pl) Q E s := by
  obtain ⟨mA, O, r, _, _, _⟩ := ins_get I.hok e
  have hn : mA m = none := RelO.none_of (by rw [← l]; exact r m)
  exact get_meth I.kIn O (c.get m) k.at_ k.fn hn h

theorem setattr_ok {y : V} {u : Value} {Q : Unit → Shared → Prop} (I : Inv X pins σ H s) (e : H a = some (.ins C dx fs)) (c : Cls X.K C) (n : NoAttr X.K C f) (hl : fs.length < 1000) (ry : RelV y u)
    (h : ∀ s', Inv X pins σ (upd H a (.ins C dx (putF f y fs))) s' → Q () s') : wpAny (model X.prog X.w) A (setAttr (.ref a) f u) Q E s := by
  obtain ⟨mA, O, r, wi, _, ho⟩ := ins_get I.hok e
  have hz : (fs.map (·.1)).length ≤ sizeLine := by rw [List.length_map, sizeLine_eq]; omega
  refine set_map I.kIn O c.sa c.po n.taker c.hd wi hz fun h' O' sb => h _ ?_
  have hd : ∃ o, h'.get? dx = some o := let ⟨o, _, _, e', _⟩ := O'.ns; ⟨o, e'⟩
  refine I.write (x := a) (e := dx) (by rw [e]; exact True.intro) (.inr ho) (fun b q hb z => (sb.2 b hb).trans z) hd ?_
  refine ⟨by rw [upd_ne O.ne]; exact ho, ?_, O.ne, O'.obj, _, O'.ns, fun g => ?_, fun g hg => ?_⟩
  · have := length_putF f y fs; omega
  · show RelO ((putF f y fs).lookup g) (if g = f then some u else mA g)
    rw [lookup_putF]
    by_cases q : g = f
    · rw [if_pos q, if_pos q]; exact ry
    · rw [if_neg q, if_neg q]; exact r g
  · by_cases q : g = f
    · rw [q]; exact (keys_putF f y fs).1
    · refine (keys_putF f y fs).2 g (wi g fun z => hg ?_)
      show (if g = f then some u else mA g) = none
      rw [if_neg q]; exact z

/-- a new instance, tracked, without attributes -/
theorem Inv.made (I : Inv X pins σ H s) : Inv X pins σ (upd (upd H s.heap.objs.size (.own (s.heap.objs.size + 1))) (s.heap.objs.size + 1) (.ins C s.heap.objs.size []))
    { s with heap := (s.heap.push PySem.W.emptyDict).push (PySem.W.instObj C s.heap.objs.size) } := by
  have e1 : (s.heap.push PySem.W.emptyDict).get? s.heap.objs.size = some PySem.W.emptyDict := Heap.get?_push_size s.heap rfl
  have e2 : ((s.heap.push PySem.W.emptyDict).push (PySem.W.instObj C s.heap.objs.size)).get? (s.heap.objs.size + 1) = some (PySem.W.instObj C s.heap.objs.size) := by
    have := Heap.get?_push_size (s.heap.push PySem.W.emptyDict) (o := PySem.W.instObj C s.heap.objs.size) rfl
    rwa [Heap.size_push] at this
  have e3 : (s.heap.push PySem.W.emptyDict).Ns s.heap.objs.size (fun _ => none) := ⟨PySem.W.emptyDict, #[], _, e1, rfl, (fun e he => absurd he (by simp)), fun _ => rfl⟩
  have I1 := I.laid (a := s.heap.objs.size) (o := .own (s.heap.objs.size + 1)) (h' := s.heap.push PySem.W.emptyDict) (t' := s.toks) (fun b u q => Heap.get?_push_of_some _ q) (Nat.le_refl _) ⟨_, e1⟩
  refine I1.laid (a := s.heap.objs.size + 1) (o := .ins C s.heap.objs.size []) (t' := s.toks) (fun b u q => Heap.get?_push_of_some _ q) (Nat.le_of_eq (Heap.size_push _ _)) ?_
  have ne : s.heap.objs.size ≠ s.heap.objs.size + 1 := Nat.ne_of_lt (Nat.lt_succ_self _)
  refine ⟨by rw [upd_ne ne, upd_same], Nat.zero_le _, ne, e2, fun _ => none, (Heap.Ns1.of_empty e3).at fun o q => Heap.get?_push_of_some _ q, fun _ => True.intro, fun y hy => absurd rfl hy⟩

/-- e.f where nothing but the object is asked: through attributeBase (super) and the last hold -/
theorem attr_of {prog : Program} {w : World} {env : Env} {e : Expr} {f : Str} {pos : Pos} {s : Shared} {Q : Value → Shared → Prop} (hb : attributeBase e f env (eval e env) = eval e env)
    (h : wpAny (model prog w) A (eval e env) (fun o s₁ => wpAny (model prog w) A (getAttr o f true) Q E s₁) E s) : wpAny (model prog w) A (eval (.Attribute e f pos) env) Q E s :=
  Attribute_any_ h (by rw [arm_eval_Attribute, hb])
end

/-! ### readings and rules -/
/-- e.f, an attribute of the instance -/
def tFld (K : PySem.W.Frag) (ta : TE) (f : Str) : TE := fun σ H Q => ta σ H fun x H1 => ∃ a C dx fs v, x = .ref a ∧ H1 a = some (.ins C dx fs) ∧ Cls K C ∧ NoAttr K C f ∧ fs.lookup f = some v ∧ Q v H1
/-- e.f = value -/
def sFld (K : PySem.W.Frag) (ta tv : TE) (f : Str) : TS := fun D σ H => tv σ H fun y H1 => ta σ H1 fun x H2 => ∃ a C dx fs, x = .ref a ∧ H2 a = some (.ins C dx fs) ∧ Cls K C ∧ NoAttr K C f ∧ fs.length < 1000 ∧
  D.nx σ (upd H2 a (.ins C dx (putF f y fs)))
/-- an augmented operator on two values -/
def InOp (X : Cx) (op : Operator) (rd : V → V → Hp → VK → Prop) : Prop :=
  ∀ (pins : List (Addr × Obj)) (s : Shared) (σ : St) (H : Hp) (x y : V) (u v : Value) (Q : VK), Inv X pins σ H s → RelV x u → RelV y v → rd x y H Q → wpAny (model X.prog X.w) X.A (inplaceOp op u v) (EP X pins σ Q) X.xe s
/-- e.f op= value -/
def sFldAug (K : PySem.W.Frag) (ta tv : TE) (rd : V → V → Hp → VK → Prop) (f : Str) : TS := fun D σ H => ta σ H fun x H1 => ∃ a C dx fs v, x = .ref a ∧ H1 a = some (.ins C dx fs) ∧ Cls K C ∧ NoAttr K C f ∧ fs.lookup f = some v ∧
  tv σ H1 fun y H2 => rd v y H2 fun z H3 => ∃ dx' fs', H3 a = some (.ins C dx' fs') ∧ fs'.length < 1000 ∧ D.nx σ (upd H3 a (.ins C dx' (putF f z fs')))

section
variable {X : Cx} {o e value : Expr} {f : Str} {pos pos' tpos : Pos} {ta tv : TE}
theorem pe_fld (he : PE X e ta) (hb : attributeBase e f X.env (eval e X.env) = eval e X.env) : PE X (.Attribute e f pos) (tFld X.K ta f) := by
  intro pins s σ H Q I h
  refine attr_of hb (thn (he pins s σ H _ I h) fun u s1 ⟨x, H1, I1, rx, a, C, dx, fs, v, ex, ea, c, n, l, q⟩ => ?_)
  subst ex
  obtain rfl : u = Value.ref a := rx
  exact getattr_ok I1 ea c n l fun u' s2 I2 ru => ⟨v, H1, I2, ru, q⟩
theorem ps_fld (ha : PE X o ta) (hv : PE X value tv) (hs : swapsWith value (some (.Attribute o f pos')) pos.line X.env = pure false) : PS X (.Assign [.Attribute o f pos'] value pos) (sFld X.K ta tv f) := by
  intro pins s σ H D I h
  refine plainObj_wpAny_Assign_Attribute (thn (hv pins s σ H _ I h) fun u s1 ⟨y, H1, I1, ry, q⟩ => thn (ha pins s1 σ H1 _ I1 q) fun ov s2 ⟨x, H2, I2, rx, a, C, dx, fs, ex, ea, c, n, l, q2⟩ => ?_) hs
  subst ex
  obtain rfl : ov = Value.ref a := rx
  exact setattr_ok I2 ea c n l ry fun s3 I3 => ⟨σ, _, I3, q2⟩
theorem ps_fldaug {op : Operator} {rd : V → V → Hp → VK → Prop} (ha : PE X o ta) (hv : PE X value tv) (hop : InOp X op rd) : PS X (.AugAssign (.Attribute o f tpos) op value pos) (sFldAug X.K ta tv rd f) := by
  intro pins s σ H D I h
  refine wpAny_AugAssign_AttributeAny (thn (ha pins s σ H _ I h) fun ov s1 ⟨x, H1, I1, rx, a, C, dx, fs, v, ex, ea, c, n, l, q⟩ => ?_)
  subst ex
  obtain rfl : ov = Value.ref a := rx
  refine getattr_ok I1 ea c n l fun u s2 I2 ru => thn (hv pins s2 σ H1 _ I2 q) fun w3 s3 ⟨y, H2, I3, ry, q3⟩ => thn (hop pins s3 σ H2 v y u w3 _ I3 ru ry q3) fun w4 s4 ⟨z, H3, I4, rz, dx', fs', ea', l', q4⟩ => ?_
  exact setattr_ok I4 ea' c n l' rz fun s5 I5 => ⟨σ, _, I5, q4⟩
def rAdd : V → V → Hp → VK → Prop := fun x y H Q => ∃ i j, x = .int i ∧ y = .int j ∧ Q (.int (i + j)) H
theorem in_add : InOp X .Add rAdd := by
  rintro pins s σ H x y u v Q I rx ry ⟨i, j, rfl, rfl, q⟩
  obtain ⟨t, rfl⟩ := (show ∃ t, u = Value.int i t from rx)
  obtain ⟨t', rfl⟩ := (show ∃ t', v = Value.int j t' from ry)
  exact PyProof.Rows.iadd_int ⟨.int (i + j), H, I.tok _, ⟨_, rfl⟩, q⟩
/-- what is between an instance and its method: the tree of a method call -/
theorem methcall_of {pl : Sem Bool} {m : Str} {apos : Pos} {args : List Expr} {pins : List (Addr × Obj)} {s : Shared} {σ : St} {H : Hp} {Q : Value → Shared → Prop} {te : TE} (he : PE X e te) (I : Inv X pins σ H s)
    (h : te σ H fun x H1 => ∃ a C dx fs g, x = .ref a ∧ H1 a = some (.ins C dx fs) ∧ Cls X.K C ∧ Meth X.K C m g ∧ fs.lookup m = none ∧
      ∀ s1, Inv X pins σ H1 s1 → wpAny (model X.prog X.w) X.A (callWith pos (.ref g) [.ref a] (backTo pos (starEach args X.env)) (backToKw pos (keywordEach [] X.env))) Q X.xe s1)
    (ht : eval (.Call (.Attribute e m apos) args [] pos) X.env = (do
      let ov ← eval e X.env
      standAt apos.atName
      let (f, first) ← holding [ov] (getMethod ov m pl)
      callWith pos f first (backTo pos (starEach args X.env)) (backToKw pos (keywordEach [] X.env)))) :
    wpAny (model X.prog X.w) X.A (eval (.Call (.Attribute e m apos) args [] pos) X.env) Q X.xe s := by
  refine PySem.W.methodCall_KW (pl := pl) (thn (he pins s σ H _ I h) fun u s1 ⟨x, H1, I1, rx, a, C, dx, fs, g, ex, ea, c, k, l, q⟩ => ?_) ht
  subst ex
  obtain rfl : u = Value.ref a := rx
  exact getmeth_ok I1 ea c k l (q s1 I1)
end

/-! ### isinstance -/
section
variable {X : Cx} {pins : List (Addr × Obj)} {σ : St} {H : Hp} {s : Shared} {A : Around} {E : Value → Shared → Prop} {Q : Value → Shared → Prop} {c : Value} {b : Bool}
/-- the type of a value, as the fragment's deciders take it; for an instance its class -/
inductive TyOf (K : PySem.W.Frag) (H : Hp) : V → Value → Prop where
  | non : TyOf K H .non (.type "NoneType")
  | bl (x : Bool) : TyOf K H (.bl x) (.type "bool")
  | int (i : Int) : TyOf K H (.int i) (.type "int")
  | str (x : Str) : TyOf K H (.str x) (.type "str")
  | flt (x : UInt64) : TyOf K H (.flt x) (.type "float")
  | lst {a : Addr} {xs : List V} (e : H a = some (.lst xs)) : TyOf K H (.ref a) (.type "list")
  | frz {a : Addr} {o : Obj} {xs : List V} (e : H a = some (.frz o (.lst xs))) : TyOf K H (.ref a) (.type "list")
  | tup {a : Addr} {xs : List V} (e : H a = some (.tup xs)) : TyOf K H (.ref a) (.type "tuple")
  | dK {a : Addr} {kvs : List (Key × V)} (e : H a = some (.dK kvs)) : TyOf K H (.ref a) (.type "dict")
  | dT {a : Addr} {kvs : List (List Key × V)} (e : H a = some (.dT kvs)) : TyOf K H (.ref a) (.type "dict")
  | ins {a C dx : Addr} {fs : List (Str × V)} (e : H a = some (.ins C dx fs)) (cl : Cls K C) (ha : PySem.W.findIn K (.ref C) "__class__" = some (some (.builtin "object.__class__")))
      (hn : PySem.W.specialIn K (.builtin "object.__class__") "__get__" = some (some (.builtin "getset_descriptor.__get__"))) (htk : PySem.W.takesIn K (.builtin "object.__class__") = some true)
      (hm : PySem.W.mroIn K C (.type "object") = some true) : TyOf K H (.ref a) (.ref C)
/-- isinstance(x, c) for one class c, a built-in or an own one: kitOne's answer -/
theorem isinst_ok {x : V} {u t : Value} (I : Inv X pins σ H s) (rx : RelV x u) (ty : TyOf X.K H x t) (e : PySem.W.kitOne X.K t c = some b) (h : ∀ tk, Q (.bool b) { s with toks := tk }) :
    wpAny (model X.prog X.w) A (call (.builtin "isinstance") [u, c]) Q E s := by
  cases ty with
  | non => cases (show u = Value.none from rx); exact PySem.W.kia_one PySem.W.kitx_none I.kIn True.intro e (fun z => nomatch z) h
  | bl y => cases (show u = Value.bool y from rx); exact PySem.W.kia_one PySem.W.kitx_bool I.kIn True.intro e (fun z => nomatch z) h
  | int i => obtain ⟨t, q⟩ := (show ∃ t, u = Value.int i t from rx); cases q; exact PySem.W.kia_one PySem.W.kitx_int I.kIn True.intro e (fun z => nomatch z) h
  | str y => obtain ⟨t, q⟩ := (show ∃ t, u = Value.str y t from rx); cases q; exact PySem.W.kia_one PySem.W.kitx_str I.kIn True.intro e (fun z => nomatch z) h
  | flt y => obtain ⟨t, q⟩ := (show ∃ t, u = Value.float y t from rx); cases q; exact PySem.W.kia_one PySem.W.kitx_float I.kIn True.intro e (fun z => nomatch z) h
  | @lst a xs ea =>
    cases (show u = Value.ref a from rx)
    obtain ⟨_, _, n, _, h1⟩ := (show ObjOk X.prog X.w H s.heap a (.lst xs) from I.hok a _ ea)
    exact PySem.W.kia_one PySem.W.kitx_list I.kIn ⟨_, h1, rfl⟩ e (fun z => nomatch z) h
  | @frz a ob xs ea =>
    cases (show u = Value.ref a from rx)
    obtain ⟨_, _, _, n, _, h1⟩ := (show ObjOk X.prog X.w H s.heap a (.frz ob (.lst xs)) from I.hok a _ ea)
    exact PySem.W.kia_one PySem.W.kitx_list I.kIn ⟨_, h1, rfl⟩ e (fun z => nomatch z) h
  | @tup a xs ea =>
    cases (show u = Value.ref a from rx)
    obtain ⟨_, _, _, p⟩ := (show ObjOk X.prog X.w H s.heap a (.tup xs) from I.hok a _ ea)
    obtain ⟨o, h1, h2, _⟩ := p
    exact PySem.W.kia_one PySem.W.kitx_tuple I.kIn ⟨o, h1, h2⟩ e (fun z => nomatch z) h
  | @dK a kvs ea =>
    cases (show u = Value.ref a from rx)
    obtain ⟨_, _, vs, _, p⟩ := (show ObjOk X.prog X.w H s.heap a (.dK kvs) from I.hok a _ ea)
    obtain ⟨o, es, ep, h1, h2, _⟩ := p
    exact PySem.W.kia_one PySem.W.kitx_dict I.kIn ⟨o, h1, h2.1⟩ e (fun z => nomatch z) h
  | @dT a kvs ea =>
    cases (show u = Value.ref a from rx)
    obtain ⟨_, _, xs, _, o, es, ep, h1, h2, _⟩ := (show ObjOk X.prog X.w H s.heap a (.dT kvs) from I.hok a _ ea)
    exact PySem.W.kia_one PySem.W.kitx_dict I.kIn ⟨o, h1, h2.1⟩ e (fun z => nomatch z) h
  | @ins a C dx fs ea cl ha hn htk hm =>
    cases (show u = Value.ref a from rx)
    obtain ⟨mA, O, _⟩ := ins_get I.hok ea
    obtain ⟨od, J, _⟩ := O.look
    exact PySem.W.kia_one (PySem.W.kitx_own (cl.get _) cl.hd ha hn htk hm) I.kIn J e (fun z => nomatch z) h
end
end L2

namespace L2
open PySem PySem.Spec PyProof.Rows

/-! ### room -/
structure Room (k : Nat) (A : Around) : Prop where
  hd : A.handled = none
  dp : A.depth + 3 * k + 5 < recursionLimit
  un : A.units + 16 * k + 200 < cLine
theorem Room.mono {j k : Nat} {A : Around} (r : Room k A) (h : j ≤ k) : Room j A := ⟨r.hd, by have := r.dp; omega, by have := r.un; omega⟩
theorem Room.deeper {k : Nat} {A : Around} (r : Room (k + 1) A) (env : Env) : Room k (A.deeper env) :=
  ⟨r.hd, by have := r.dp; show A.depth + 1 + 3 * k + 5 < _; omega, by have := r.un; show A.units + 3 + 16 * k + 200 < _; omega⟩
theorem make_depth {A : Around} {C : Addr} {us : List Value} {kw : List (Str × Value)} : (A.under (.builtin "type.__call__" ⟨.ref C :: us, kw⟩)).depth = A.depth + 1 := by
  first | rfl | simp [Around.under, Code.weight, Code.isCreation, Code.isGuard, Code.isCaller, Code.frames, Code.isFrame, guardIds]
theorem make_units {A : Around} {C : Addr} {us : List Value} {kw : List (Str × Value)} : (A.under (.builtin "type.__call__" ⟨.ref C :: us, kw⟩)).units = A.units + 1 := by
  first | rfl | simp [Around.under, Code.cUnits, Code.frames, Code.isFrame]
theorem Room.make {k : Nat} {A : Around} (r : Room (k + 1) A) (C : Addr) (us : List Value) (kw : List (Str × Value)) : Room k (A.under (.builtin "type.__call__" ⟨.ref C :: us, kw⟩)) :=
  ⟨r.hd, by have := r.dp; rw [make_depth]; omega, by have := r.un; rw [make_units]; omega⟩
theorem Room.depth {k : Nat} {A : Around} (r : Room k A) : A.depth < recursionLimit := by have := r.dp; omega
theorem Room.units0 {k : Nat} {A : Around} (r : Room k A) : A.units < cLine := by have := r.un; omega

/-! ### argument lists and displays -/
def tNil : TA := fun _ H Q => Q [] H
def tCons (ta : TE) (tr : TA) : TA := fun σ H Q => ta σ H fun x H1 => tr σ H1 fun xs H2 => Q (x :: xs) H2
section
variable {X : Cx} {e : Expr} {es : List Expr} {te : TE} {t : TA} {pos : Pos}
theorem pa_nil : PA X [] tNil := fun _ _ _ _ H Q I h => Calls.spliced_nil ⟨[], H, I, .nil, h⟩
theorem pa_cons (ha : PE X e te) (hr : PA X es t) (hs : starEach (e :: es) X.env = (false, eval e X.env) :: starEach es X.env := by rfl) : PA X (e :: es) (tCons te t) := by
  intro pos pins s σ H Q I h
  rw [hs]
  show wpAny _ _ (spliced ((false, eval e X.env) :: backTo pos (starEach es X.env))) _ _ s
  refine Calls.spliced_cons (thn (ha pins s σ H _ I h) fun u s1 ⟨x, H1, I1, r1, q1⟩ => ?_)
  exact thn (hr pos pins s1 σ H1 _ I1 q1) fun us s2 ⟨xs, H2, I2, r2, q2⟩ => ⟨x :: xs, H2, I2, .cons r1 r2, q2⟩

/-- a tuple, a list of written items -/
def tTup (t : TA) : TE := fun σ H Q => t σ H fun xs H1 => xs.length ≤ sizeLine ∧ ∀ p, H1 p = none → Q (.ref p) (upd H1 p (.tup xs))
def tLst (t : TA) : TE := fun σ H Q => t σ H fun xs H1 => xs.length ≤ sizeLine ∧ ∀ p, H1 p = none → Q (.ref p) (upd H1 p (.lst xs))
theorem pe_tup {x1} (h : PA X es t) : PE X (.Tuple es x1 pos) (tTup t) := by
  intro pins s σ H Q I hq
  refine wpAny_Tuple_spliced (thn (h pos pins s σ H _ I hq) fun us s1 ⟨xs, H1, I1, r, z, q⟩ => ⟨by rw [← r.length]; exact z, ?_⟩)
  have hf : H1 s1.heap.objs.size = none := I1.hok.fresh (Nat.le_refl _)
  refine ⟨.ref s1.heap.objs.size, upd H1 s1.heap.objs.size (.tup xs), I1.laid (t' := s1.toks) (fun b u e => Heap.get?_push_of_some _ e) (Nat.le_refl _) ?_, rfl, q _ hf⟩
  exact ⟨z, us, r, ⟨_, Heap.get?_push_size _ rfl, rfl, _, rfl⟩⟩
theorem pe_lst (h : PA X es t) : PE X (.List es pos) (tLst t) := by
  intro pins s σ H Q I hq
  refine wpAny_List_spliced (thn (h pos pins s σ H _ I hq) fun us s1 ⟨xs, H1, I1, r, z, q⟩ => ⟨by rw [← r.length]; exact z, ?_⟩)
  have hf : H1 s1.heap.objs.size = none := I1.hok.fresh (Nat.le_refl _)
  refine ⟨.ref s1.heap.objs.size, upd H1 s1.heap.objs.size (.lst xs), I1.laid (t' := s1.toks) (fun b u e => Heap.get?_push_of_some _ e) (Nat.le_refl _) ?_, rfl, q _ hf⟩
  exact ⟨z, us, 0, r, Heap.get?_push_size _ rfl⟩
end

/-! ### what a def promises -/
/-- a def's promise: the bound arguments in the parameters' order, the heap, the wanted end, the wanted exception -/
abbrev Sp := List V → Hp → VK → XK → Prop
/-- how an exception lies behind a call (file 08 gives it): the callers' frames, abstract heap and state ahead of the call, the wish, the exception, the state -/
abbrev CXT := List Env → Hp → Shared → XK → Value → Shared → Prop

/-- the state at a call -/
structure Env0 (P : Program) (w : World) (K : PySem.W.Frag) (mg : Str → Option Value) (base : Heap) (A : Around) (outer : List Env) (s : Shared) (H : Hp) : Prop where
  frames : A.frames = some outer
  mod : Mod K mg base
  bs : ∀ b o, base.get? b = some o → s.heap.get? b = some o ∧ H b = none
  bsz : base.objs.size ≤ s.heap.objs.size
  funs : s.heap.FunFrames base outer
  frf : ∀ b ∈ frs outer, H b = none
  hok : HOk P w H s.heap
  bare : AllBare s.gens
/-- a call's end -/
def CE (outer : List Env) (P : Program) (w : World) (H : Hp) (s : Shared) (Q : VK) (u : Value) (s' : Shared) : Prop :=
  ∃ v H', s'.os = s.os ∧ AllBare s'.gens ∧ Un (frs outer) [] H H' s.heap s'.heap ∧ HOk P w H' s'.heap ∧ RelV v u ∧ Q v H'
def CR (CX : CXT) (outer : List Env) (P : Program) (w : World) (H : Hp) (s : Shared) (Q : VK) (E : XK) (r : Result) (s' : Shared) : Prop :=
  match r with
  | .ok (.ret u) => CE outer P w H s Q u s'
  | .ok _ => False
  | .error e => CX outer H s E e s'
structure FnOk (P : Program) (w : World) (K : PySem.W.Frag) (mg : Str → Option Value) (base : Heap) (CX : CXT) (k : Nat) (f : Addr) (fd : FuncData) (ps : List Str) (sp : Sp) : Prop where
  len : ∀ vs H Q E, sp vs H Q E → vs.length = ps.length
  run : ∀ (A : Around) (outer : List Env) (s : Shared) (H : Hp) (args : Args) (us : List Value) (vs : List V) (Q : VK) (E : XK), Room k A → Env0 P w K mg base A outer s H → BindsTo s fd args (ps.zip us) → Vals vs us → sp vs H Q E →
    codeAny (model P w) A (.call (.ref f) args) (CR CX outer P w H s Q E) s
theorem FnOk.mono {P : Program} {w : World} {K : PySem.W.Frag} {mg : Str → Option Value} {base : Heap} {CX : CXT} {j k : Nat} {f : Addr} {fd : FuncData} {ps : List Str} {sp : Sp} (F : FnOk P w K mg base CX j f fd ps sp) (h : j ≤ k) :
    FnOk P w K mg base CX k f fd ps sp := ⟨F.len, fun A outer s H args us vs Q E hr => F.run A outer s H args us vs Q E (hr.mono h)⟩
/-- a weaker promise -/
theorem FnOk.imp {P : Program} {w : World} {K : PySem.W.Frag} {mg : Str → Option Value} {base : Heap} {CX : CXT} {k : Nat} {f : Addr} {fd : FuncData} {ps : List Str} {sp sp' : Sp} (F : FnOk P w K mg base CX k f fd ps sp)
    (h : ∀ vs H Q E, sp' vs H Q E → sp vs H Q E) : FnOk P w K mg base CX k f fd ps sp' :=
  ⟨fun vs H Q E q => F.len vs H Q E (h _ _ _ _ q), fun A outer s H args us vs Q E hr he hb hv hs => F.run A outer s H args us vs Q E hr he hb hv (h _ _ _ _ hs)⟩

theorem Env0.make {P : Program} {w : World} {K : PySem.W.Frag} {mg : Str → Option Value} {base : Heap} {A : Around} {outer : List Env} {s : Shared} {H : Hp} (e : Env0 P w K mg base A outer s H) (C : Addr) (us : List Value) (kw : List (Str × Value)) :
    Env0 P w K mg base (A.under (.builtin "type.__call__" ⟨.ref C :: us, kw⟩)) outer s H := ⟨by first | exact e.frames | (simpa [Around.under, Code.envs, Code.isFrame, pushEnvs] using e.frames), e.mod, e.bs, e.bsz, e.funs, e.frf, e.hok, e.bare⟩
section
variable {X : Cx} {pins : List (Addr × Obj)} {σ : St} {H : Hp} {s s' : Shared}
/-- from a body: what a callee wants -/
theorem Inv.env0 (I : Inv X pins σ H s) : Env0 X.prog X.w X.K X.mg X.base X.A X.stack s H :=
  ⟨I.ok.frames, I.ok.mod, I.bs, Nat.le_trans I.ok.bsz I.sz, I.stack, I.stkFree, I.hok, I.bare⟩
/-- behind a call -/
theorem Inv.after {Q : VK} {u : Value} (I : Inv X pins σ H s) (h : CE X.stack X.prog X.w H s Q u s') : EP X pins σ Q u s' := by
  obtain ⟨v, H', os, bare, un, hok, r, q⟩ := h
  obtain ⟨hh, g, d, t, os'⟩ := s'
  obtain rfl : os' = s.os := os
  exact ⟨v, H', I.call (h' := hh) (g' := g) (d' := d) (t' := t) (ch := []) un hok bare (fun b z => absurd z (by simp)), r, q⟩
end

/-! ### calls -/
/-- f(..): the written arguments, then the defaults dvs; E: what is wanted of an exception -/
def tCall (sp : Sp) (dvs : List V) (E : XK) (t : TA) : TE := fun σ H Q => t σ H fun vs H1 => sp (vs ++ dvs) H1 Q E
/-- o.m(..) of an instance of the class at C -/
def tMeth (C : Addr) (m : Str) (sp : Sp) (dvs : List V) (E : XK) (ta : TE) (t : TA) : TE := fun σ H Q => ta σ H fun x H1 => ∃ a dx fs, x = .ref a ∧ H1 a = some (.ins C dx fs) ∧ fs.lookup m = none ∧
  t σ H1 fun vs H2 => sp (x :: (vs ++ dvs)) H2 Q E
/-- C(..): a new instance and its dict, then __init__ -/
def tMake (C : Addr) (sp : Sp) (dvs : List V) (E : XK) (t : TA) : TE := fun σ H Q => t σ H fun vs H1 => ∀ x dx, H1 x = none → H1 dx = none → dx ≠ x →
  sp (.ref x :: (vs ++ dvs)) (upd (upd H1 dx (.own x)) x (.ins C dx [])) (fun v H2 => v = .non ∧ Q (.ref x) H2) E

/-- how the parameters are bound: us the positional arguments, kw the keywords' values by name, ds the defaults that fill up -/
def Binds (K : PySem.W.Frag) (fd : FuncData) (ps : List Str) (ds : List Value) : Prop :=
  ∀ (s : Shared) (us : List Value), K.In s.heap → (us ++ ds).length = ps.length → BindsTo s fd ⟨us, []⟩ (ps.zip (us ++ ds))
/-- every parameter is given -/
theorem Binds.all {K : PySem.W.Frag} {fd : FuncData} {ps : List Str} (h : ∀ us : List Value, us.length = ps.length → bindArgs fd ⟨us, []⟩ = pure (ps.zip us)) : Binds K fd ps [] := fun s us _ hl => by
  rw [List.append_nil] at hl ⊢
  exact .of_eq (h us hl)

/-- an exception of a callee reaches what this body wants of exceptions -/
def Passes (CX : CXT) (X : Cx) (E : XK) : Prop := ∀ (pins : List (Addr × Obj)) (σ : St) (H : Hp) (s : Shared) (e : Value) (s' : Shared), Inv X pins σ H s → CX X.stack H s E e s' → X.xe e s'

section
variable {X : Cx} {CX : CXT} {k : Nat} {f C : Addr} {fd : FuncData} {ps : List Str} {sp : Sp} {dvs : List V} {ds : List Value} {E : XK} {x m : Str} {p pos apos : Pos} {e o : Expr} {es : List Expr} {ta : TE} {t : TA}

/-- the callee runs -/
theorem run_fn {pins : List (Addr × Obj)} {σ : St} {H : Hp} {s : Shared} {Q : VK} {us : List Value} {vs : List V} (F : FnOk X.prog X.w X.K X.mg X.base CX k f fd ps sp) (hr : Room k X.A) (hb : Binds X.K fd ps ds) (hd : Vals dvs ds) (hx : Passes CX X E)
    (I : Inv X pins σ H s) (r : Vals vs us) (h : sp (vs ++ dvs) H Q E) : wpAny (model X.prog X.w) X.A (call (.ref f) us) (EP X pins σ Q) X.xe s := by
  have r2 : Vals (vs ++ dvs) (us ++ ds) := r.append hd
  have hl : (us ++ ds).length = ps.length := by rw [← r2.length]; exact F.len _ _ _ _ h
  refine wpAny_call (codeAny_mono (F.run X.A X.stack s H ⟨us, []⟩ (us ++ ds) (vs ++ dvs) Q E hr I.env0 (hb s us I.kIn hl) r2 h) fun r s' hq => ?_)
  cases r with
  | error e => exact hx pins σ H s e s' I hq
  | ok fl =>
    cases fl with
    | ret u => exact I.after hq
    | next => exact False.elim hq
    | brk => exact False.elim hq
    | cont => exact False.elim hq

theorem pe_call (F : FnOk X.prog X.w X.K X.mg X.base CX k f fd ps sp) (hr : Room k X.A) (hg : Gl X x) (hm : X.mg x = some (.ref f)) (hk : PySem.W.keepIn X.K (.ref f) = true) (hb : Binds X.K fd ps ds) (hd : Vals dvs ds) (hx : Passes CX X E)
    (ha : PA X (e :: es) t) (hdb : (x == ("__debug__" : Str)) = false := by decide) (he : starEach (e :: es) X.env = (false, eval e X.env) :: starEach es X.env := by rfl) (hpl : (backTo pos (starEach es X.env)).any (·.1) = false := by rfl) :
    PE X (.Call (.Name x p) (e :: es) [] pos) (tCall sp dvs E t) := by
  intro pins s σ H Q I h
  refine wpAny_Call_Name_kw (ld_glob I hg hm ?_ hdb)
  refine PySem.W.callWith_K (h₀ := X.base) I.ok.mod.kin hk (thn (ha pos pins s σ H _ I h) fun us s1 ⟨vs, H1, I1, r, q⟩ => ⟨I1.kIn, ?_⟩) he hpl
  exact run_fn F hr hb hd hx I1 r q
/-- o.m(e, ..) -/
theorem pe_meth {pl : Sem Bool} (he : PE X o ta) (c : Cls X.K C) (hm : Meth X.K C m f) (F : FnOk X.prog X.w X.K X.mg X.base CX k f fd ps sp) (hr : Room k X.A) (hb : Binds X.K fd ps ds) (hd : Vals dvs ds) (hx : Passes CX X E) (ha : PA X (e :: es) t)
    (hst : starEach (e :: es) X.env = (false, eval e X.env) :: starEach es X.env := by rfl) (hpl : (backTo pos (starEach es X.env)).any (·.1) = false := by rfl)
    (ht : eval (.Call (.Attribute o m apos) (e :: es) [] pos) X.env = (do
      let ov ← eval o X.env
      standAt apos.atName
      let (f, first) ← holding [ov] (getMethod ov m pl)
      callWith pos f first (backTo pos (starEach (e :: es) X.env)) (backToKw pos (keywordEach [] X.env))) := by rfl) :
    PE X (.Call (.Attribute o m apos) (e :: es) [] pos) (tMeth C m sp dvs E ta t) := by
  intro pins s σ H Q I h
  refine PySem.W.methodCall_KW (pl := pl) (thn (he pins s σ H _ I h) fun u s1 ⟨x, H1, I1, rx, a, dx, fs, ex, ea, l, q⟩ => ?_) ht
  subst ex
  obtain rfl : u = Value.ref a := rx
  refine getmeth_ok I1 ea c hm l ?_
  refine PySem.W.callWith_K (first := [.ref a]) (h₀ := X.base) I.ok.mod.kin hm.kp (thn (ha pos pins s1 σ H1 _ I1 q) fun us s2 ⟨vs, H2, I2, r, q2⟩ => ⟨I2.kIn, ?_⟩) hst hpl
  exact run_fn (us := .ref a :: us) (vs := .ref a :: vs) F hr hb hd hx I2 (.cons rfl r) q2
/-- o.m() -/
theorem pe_meth0 {pl : Sem Bool} (he : PE X o ta) (c : Cls X.K C) (hm : Meth X.K C m f) (F : FnOk X.prog X.w X.K X.mg X.base CX k f fd ps sp) (hr : Room k X.A) (hb : Binds X.K fd ps ds) (hd : Vals dvs ds) (hx : Passes CX X E)
    (ht : eval (.Call (.Attribute o m apos) [] [] pos) X.env = (do
      let ov ← eval o X.env
      standAt apos.atName
      let (f, first) ← holding [ov] (getMethod ov m pl)
      callWith pos f first (backTo pos (starEach [] X.env)) (backToKw pos (keywordEach [] X.env))) := by rfl) :
    PE X (.Call (.Attribute o m apos) [] [] pos) (tMeth C m sp dvs E ta tNil) := by
  intro pins s σ H Q I h
  refine PySem.W.methodCall_KW (pl := pl) (thn (he pins s σ H _ I h) fun u s1 ⟨x, H1, I1, rx, a, dx, fs, ex, ea, l, q⟩ => ?_) ht
  subst ex
  obtain rfl : u = Value.ref a := rx
  refine getmeth_ok I1 ea c hm l ?_
  exact PySem.W.callWith_K0 (first := [.ref a]) I1.kIn hm.kp (run_fn (us := [.ref a]) (vs := [.ref a]) F hr hb hd hx I1 (.cons rfl .nil) q)

/-- what a class must have to be made -/
structure Mk (K : PySem.W.Frag) (C f : Addr) : Prop where
  makes : PySem.W.makesIn K C = true
  init : PySem.W.findIn K (.ref C) "__init__" = some (some (.ref f))
  fn : PySem.W.isFn K (.ref f) = true
  kp : PySem.W.keepIn K (.ref C) = true

theorem run_make {pins : List (Addr × Obj)} {σ : St} {H : Hp} {s : Shared} {Q : VK} {us : List Value} {vs : List V} (M : Mk X.K C f) (F : FnOk X.prog X.w X.K X.mg X.base CX k f fd ps sp) (hr : Room (k + 1) X.A) (hb : Binds X.K fd ps ds) (hd : Vals dvs ds)
    (hx : Passes CX X E) (I : Inv X pins σ H s) (r : Vals vs us)
    (h : ∀ x dx, H x = none → H dx = none → dx ≠ x → sp (.ref x :: (vs ++ dvs)) (upd (upd H dx (.own x)) x (.ins C dx [])) (fun v H2 => v = .non ∧ Q (.ref x) H2) E) :
    wpAny (model X.prog X.w) X.A (call (.ref C) us) (EP X pins σ Q) X.xe s := by
  have hq := h (s.heap.objs.size + 1) s.heap.objs.size (I.hok.fresh (Nat.le_succ _)) (I.hok.fresh (Nat.le_refl _)) (Nat.ne_of_lt (Nat.lt_succ_self _))
  have I2 := Inv.made (C := C) I
  have r2 : Vals (V.ref (s.heap.objs.size + 1) :: (vs ++ dvs)) (Value.ref (s.heap.objs.size + 1) :: (us ++ ds)) := .cons rfl (r.append hd)
  have hl : (Value.ref (s.heap.objs.size + 1) :: us ++ ds).length = ps.length := by
    have e := r2.length
    rw [F.len _ _ _ _ hq] at e
    exact e.symm
  refine wpAny_call (make_map (f := f) I.kIn M.makes M.init (beq_iff_eq.mp M.fn) (codeAny_mono (F.run _ X.stack _ _ ⟨Value.ref (s.heap.objs.size + 1) :: us, []⟩ (Value.ref (s.heap.objs.size + 1) :: (us ++ ds)) _ _ E (hr.make C us [])
    (I2.env0.make C us []) (hb _ (Value.ref (s.heap.objs.size + 1) :: us) I2.kIn hl) r2 hq) fun r s' hq' => ?_))
  cases r with
  | error e => exact hx pins σ _ _ e s' I2 hq'
  | ok fl =>
    cases fl with
    | ret u =>
      obtain ⟨v, H', I3, rv, ev, q3⟩ := I2.after hq'
      subst ev
      exact ⟨rv, ⟨V.ref (s.heap.objs.size + 1), H', I3, rfl, q3⟩⟩
    | next => exact False.elim hq'
    | brk => exact False.elim hq'
    | cont => exact False.elim hq'
theorem pe_make (M : Mk X.K C f) (F : FnOk X.prog X.w X.K X.mg X.base CX k f fd ps sp) (hr : Room (k + 1) X.A) (hg : Gl X x) (hm : X.mg x = some (.ref C)) (hb : Binds X.K fd ps ds) (hd : Vals dvs ds) (hx : Passes CX X E)
    (ha : PA X (e :: es) t) (hdb : (x == ("__debug__" : Str)) = false := by decide) (he : starEach (e :: es) X.env = (false, eval e X.env) :: starEach es X.env := by rfl) (hpl : (backTo pos (starEach es X.env)).any (·.1) = false := by rfl) :
    PE X (.Call (.Name x p) (e :: es) [] pos) (tMake C sp dvs E t) := by
  intro pins s σ H Q I h
  refine wpAny_Call_Name_kw (ld_glob I hg hm ?_ hdb)
  refine PySem.W.callWith_K (h₀ := X.base) I.ok.mod.kin M.kp (thn (ha pos pins s σ H _ I h) fun us s1 ⟨vs, H1, I1, r, q⟩ => ⟨I1.kIn, ?_⟩) he hpl
  exact run_make M F hr hb hd hx I1 r q
end

/-! ### keywords -/
/-- the values of the keywords, from the left -/
def PK (X : Cx) (kws : List Keyword) (t : TA) : Prop :=
  ∀ (pos : Pos) (pins : List (Addr × Obj)) (s : Shared) (σ : St) (H : Hp) (Q : List V → Hp → Prop), Inv X pins σ H s → t σ H Q → wpAny (model X.prog X.w) X.A (evalAll ((backToKw pos (keywordEach kws X.env)).map (·.2))) (AP X pins σ Q) X.xe s
section
variable {X : Cx} {CX : CXT} {k : Nat} {f C : Addr} {fd : FuncData} {ps ks : List Str} {sp : Sp} {E : XK} {x m : Str} {p pos apos kpos : Pos} {e o : Expr} {es : List Expr} {kws : List Keyword} {te ta : TE} {t tk : TA} {nm : Option Str}
theorem pk_nil : PK X [] tNil := fun _ _ _ _ H Q I h => wpAny_evalAll_nil ⟨[], H, I, .nil, h⟩
theorem pk_cons (ha : PE X e te) (hr : PK X kws t) : PK X (⟨nm, e, kpos⟩ :: kws) (tCons te t) := by
  intro pos pins s σ H Q I h
  show wpAny _ _ (evalAll ((do let v ← eval e X.env; standAt pos; pure v) :: (backToKw pos (keywordEach kws X.env)).map (·.2))) _ _ s
  refine wpAny_evalAll_cons (wpAny_bind (thn (ha pins s σ H _ I h) fun u s1 ⟨x, H1, I1, r1, q1⟩ => wpAny_bind (wpAny_standAt (wpAny_pure ?_))))
  exact thn (hr pos pins s1 σ H1 _ I1 q1) fun us s2 ⟨xs, H2, I2, r2, q2⟩ => ⟨x :: xs, H2, I2, .cons r1 r2, q2⟩

variable {g : List Value → List Value → List Value} {gV : List V → List V → List V}
end

/-! ### a def's body keeps its promise -/
/-- names: the parameters first -/
structure FnScope (N P : List Str) (sc : Scope) : Prop where
  kind : sc.kind = .function
  co : sc.isCoroutine = false
  gen : sc.isGenerator = false
  nd : N.Nodup
  pre : N.take P.length = P
  par : ∀ x ∈ P, sc.names.lookup x = some .local ∨ sc.names.lookup x = some .cell
  nofree : ∀ y ∈ sc.names, y.2 ≠ .free

theorem bindL_out {kindOf : Str → Option NameKind} {x : Str} : ∀ {binds : List (Str × Value)} {m : Str → Option Value}, (∀ v, (x, v) ∉ binds) → bindL kindOf binds m x = m x
  | [], _, _ => rfl
  | (n, v) :: r, m, h => by
    unfold bindL
    rw [bindL_out fun w hw => h w (List.mem_cons_of_mem _ hw)]
    split
    · have : x ≠ n := by rintro rfl; exact h v List.mem_cons_self
      simp [this]
    · rfl
theorem bindC_out {kindOf : Str → Option NameKind} {x : Str} : ∀ {binds : List (Str × Value)} {m : Str → Option Value}, (∀ v, (x, v) ∉ binds) → bindC kindOf binds m x = m x
  | [], _, _ => rfl
  | (n, v) :: r, m, h => by
    unfold bindC
    rw [bindC_out fun w hw => h w (List.mem_cons_of_mem _ hw)]
    split
    · rfl
    · have : x ≠ n := by rintro rfl; exact h v List.mem_cons_self
      simp [this]
theorem bindL_get {kindOf : Str → Option NameKind} {x : Str} {v : Value} : ∀ {P : List Str} {vs : List Value} {i : Nat} {m : Str → Option Value}, P.Nodup → P[i]? = some x → vs[i]? = some v → kindOf x = some .local →
    bindL kindOf (P.zip vs) m x = some v
  | [], _, _, _, _, h, _, _ => by simp at h
  | _ :: _, [], _, _, _, _, h, _ => by simp at h
  | p :: P, w :: vs, 0, m, nd, h1, h2, hk => by
    simp at h1 h2; subst h1; subst h2
    show bindL kindOf ((p, w) :: P.zip vs) m p = _
    unfold bindL
    rw [bindL_out fun v hv => (List.nodup_cons.mp nd).1 (List.of_mem_zip hv).1, if_pos hk]
    simp
  | p :: P, w :: vs, i + 1, m, nd, h1, h2, hk => by
    show bindL kindOf ((p, w) :: P.zip vs) m x = _
    unfold bindL
    exact bindL_get (i := i) (List.nodup_cons.mp nd).2 (by simpa using h1) (by simpa using h2) hk
theorem bindC_get {kindOf : Str → Option NameKind} {x : Str} {v : Value} : ∀ {P : List Str} {vs : List Value} {i : Nat} {m : Str → Option Value}, P.Nodup → P[i]? = some x → vs[i]? = some v → kindOf x ≠ some .local →
    bindC kindOf (P.zip vs) m x = some v
  | [], _, _, _, _, h, _, _ => by simp at h
  | _ :: _, [], _, _, _, _, h, _ => by simp at h
  | p :: P, w :: vs, 0, m, nd, h1, h2, hk => by
    simp at h1 h2; subst h1; subst h2
    show bindC kindOf ((p, w) :: P.zip vs) m p = _
    unfold bindC
    rw [bindC_out fun v hv => (List.nodup_cons.mp nd).1 (List.of_mem_zip hv).1, if_neg hk]
    simp
  | p :: P, w :: vs, i + 1, m, nd, h1, h2, hk => by
    show bindC kindOf ((p, w) :: P.zip vs) m x = _
    unfold bindC
    exact bindC_get (i := i) (List.nodup_cons.mp nd).2 (by simpa using h1) (by simpa using h2) hk

/-- the names' values at the entry -/
def start (N : List Str) (vs : List V) : St := vs.map some ++ List.replicate (N.length - vs.length) none

/-- the context of a def's body, at its entry; an exception leaves the frame, then lies as CX says -/
def cxOf (CX : CXT) (P : Program) (w : World) (K : PySem.W.Frag) (mg : Str → Option Value) (base : Heap) (N : List Str) (qual : Str) (scope : Scope) (f : Addr) (cd : Value) (A : Around) (outer : List Env) (s : Shared) (H : Hp) (E : XK) : Cx where
  prog := P
  w := w
  K := K
  mg := mg
  base := base
  A := A.deeper (envOfC qual scope s.heap.objs.size f cd)
  N := N
  s₀ := s
  H₀ := H
  env := envOfC qual scope s.heap.objs.size f cd
  outer := outer
  stack := envOfC qual scope s.heap.objs.size f cd :: outer
  ex := []
  calm := true
  fn := fun _ => true
  pn := []
  xe := fun e s' => wpAny (model P w) (A.deeper (envOfC qual scope s.heap.objs.size f cd)) (leaving (envOfC qual scope s.heap.objs.size f cd) e) (fun _ s'' => CX outer H s E e s'') (fun e' s'' => CX outer H s E e' s'') s'

theorem cell_has {sc : Scope} {n : Nat} {x : Str} (h : sc.names.lookup x = some .cell) : ∃ c, (cellsFrom n sc.names []).lookup x = some c := by
  have q := PySem.W.cellsFrom_some sc.names n [] (.inl h)
  exact Option.isSome_iff_exists.mp q

theorem inv_start {CX : CXT} {P : Program} {w : World} {K : PySem.W.Frag} {mg : Str → Option Value} {base : Heap} {N ps : List Str} {qual : Str} {scope : Scope} {f : Addr} {cd : Value} {A : Around} {outer : List Env} {s s1 : Shared} {H : Hp} {E : XK} {us : List Value} {vs : List V}
    (S : FnScope N ps scope) (hd : A.handled = none) (e0 : Env0 P w K mg base A outer s H) (hl : vs.length = ps.length) (r : Vals vs us)
    (x : InCallC s s.heap.objs.size (bindL (envOfC qual scope s.heap.objs.size f cd).kindOf (ps.zip us) fun _ => none) (cellsFrom (s.heap.objs.size + 1) scope.names []) (bindC (envOfC qual scope s.heap.objs.size f cd).kindOf (ps.zip us) fun _ => none) s1) :
    Inv (cxOf CX P w K mg base N qual scope f cd A outer s H E) [] (start N vs) H s1 := by
  have hpl : ps.length ≤ N.length := by have := congrArg List.length S.pre; rw [List.length_take] at this; omega
  obtain ⟨h1, tk, rfl, hk⟩ := x.done
  have noA : ∀ b : Addr, b ∉ (cxOf CX P w K mg base N qual scope f cd A outer s H E).ex := fun b z => absurd (show b ∈ ([] : List Addr) from z) (by simp)
  refine ⟨⟨e0.mod, S.kind, rfl, rfl, Nat.le_refl _, fun y z c h1 h2 => ?_, fun y hy => ?_, fun y c _ h => ?_, fun _ => hd, Around.frames_deeper e0.frames, .inr ⟨rfl, rfl⟩, fun b z => absurd z (noA b), e0.bs, e0.bsz, fun b _ _ => noA b, fun b z => absurd z (noA b), e0.funs, e0.frf⟩,
    rfl, e0.bare, Un.kept hk, ⟨_, x.toInCall.ns, fun i y v h1 h2 h3 => ?_⟩, fun y c h => ⟨_, x.cell y c h⟩, e0.hok.fresh (Nat.le_refl _), fun y c h => ?_, fun p hp => absurd (show p ∈ ([] : List (Addr × Obj)) from hp) (by simp), e0.hok.kept hk, ?_⟩
  · exact name_of_addr x.apart (PySem.mem_of_lookup h1) (PySem.mem_of_lookup h2)
  · have hy : scope.names.lookup y = some .cell ∨ scope.names.lookup y = some .free := hy
    rcases hy with hy | hy
    · exact cell_has hy
    · exact absurd rfl (S.nofree _ (PySem.mem_of_lookup hy))
  · exact Nat.le_of_lt (x.above y c (PySem.mem_of_lookup h))
  · have hi : i < vs.length := by
      unfold start at h2
      by_cases hi : i < vs.length
      · exact hi
      · rw [List.getElem?_append_right (by simpa using hi)] at h2
        rw [List.getElem?_replicate] at h2
        split at h2 <;> cases h2
    have ha : vs[i]? = some v := by
      unfold start at h2
      rw [List.getElem?_append_left (by simpa using hi), List.getElem?_map] at h2
      cases e : vs[i]? with
      | none => rw [e] at h2; cases h2
      | some a => rw [e] at h2; cases h2; rfl
    obtain ⟨u, hu, rv⟩ := r.get ha
    have hp : ps[i]? = some y := by
      rw [← S.pre, List.getElem?_take_of_lt (by omega)]; exact h1
    have ndP : ps.Nodup := by rw [← S.pre]; exact S.nd.sublist (List.take_sublist _ _)
    refine ⟨u, rv, ?_⟩
    rcases S.par y (List.mem_of_getElem? hp) with k | k
    · exact .inl ⟨k, bindL_get ndP hp hu k⟩
    · obtain ⟨c, e⟩ := cell_has (n := s.heap.objs.size + 1) k
      refine .inr ⟨.inl k, c, e, ?_⟩
      have q := x.cell y c e
      rw [bindC_get ndP hp hu (by show scope.names.lookup y ≠ _; rw [k]; decide)] at q
      exact q
  · exact e0.hok.fresh (Nat.le_of_lt (x.above y c (PySem.mem_of_lookup h)))
  · unfold start
    show _ = N.length
    rw [List.length_append, List.length_map, List.length_replicate]
    omega

/-- THE RULE: a def (or a method) of the text, by its body. The body's reading t is chosen for each entry; it is run at the parameters' values -/
theorem fn_of {CX : CXT} {P : Program} {w : World} {K : PySem.W.Frag} {mg : Str → Option Value} {base : Heap} {k : Nat} {f : Addr} {name qual : Str} {params : Arguments} {body : List Stmt} {scope : Scope} {dV kV doc pm cdv ct oc : Value} {an od : Option Addr}
    {osl : Array (Option Value)} {N ps : List Str} {sp : Sp} (lk : K.lookup f = some ⟨oc, od, .func (PySem.W.fnOf name qual params body scope dV kV doc pm an cdv ct), osl⟩) (hcd : PySem.W.codeIn K cdv qual = true) (S : FnScope N ps scope)
    (len : ∀ vs H Q E, sp vs H Q E → vs.length = ps.length)
    (hbody : ∀ (A : Around) (outer : List Env) (s : Shared) (H : Hp) (vs : List V) (Q : VK) (E : XK), Room k (A.deeper (envOfC qual scope s.heap.objs.size f cdv)) → sp vs H Q E →
      ∃ t, PSs (cxOf CX P w K mg base N qual scope f cdv A outer s H E) body t ∧ t { nx := fun _ H' => Q .non H', rt := Q } (start N vs) H) :
    FnOk P w K mg base CX (k + 1) f (PySem.W.fnOf name qual params body scope dV kV doc pm an cdv ct) ps sp := by
  refine ⟨len, fun A outer s H args us vs Q E hr e0 hb r hsp => ?_⟩
  have hl := len _ _ _ _ hsp
  have KX : K.In s.heap := e0.mod.kin.keeps fun b o e => (e0.bs b o e).1
  have lim : s.heap.NoLimit := e0.mod.nolimit.keeps fun b o e => (e0.bs b o e).1
  have hkind : ∀ y ∈ ps.zip us, scope.names.lookup y.1 = some .local ∨ (scope.names.lookup y.1 = some .cell ∧ ((cellsFrom (s.heap.objs.size + 1) scope.names []).lookup y.1).isSome = true) := fun ⟨n, v⟩ hy => by
    rcases S.par n (List.of_mem_zip hy).1 with q | q
    · exact .inl q
    · exact .inr ⟨q, PySem.W.cellsFrom_some _ _ _ (.inl q)⟩
  refine codeAny_call_function hr.depth (KX _ _ lk) rfl S.co S.gen rfl (PySem.W.codeRec_of KX hcd) (hb _ _ _ _ ?_)
  refine wpAny_newFunctionEnv_cells S.kind hkind fun env he s1 x => ?_
  subst he
  refine ⟨lim.keeps x.toInCall.keep, codeAny_func ?_⟩
  obtain ⟨t, ht, hq⟩ := hbody A outer s H vs Q E (hr.deeper _) hsp
  have I : Inv (cxOf CX P w K mg base N qual scope f cdv A outer s H E) [] (start N vs) H s1 := inv_start S hr.hd e0 hl r x
  refine wpAny_mono (ht [] s1 (start N vs) H _ I hq) (fun fl s' hs => ?_) fun e s' hs => hs
  have fin : ∀ {σ' : St} {H' : Hp} {v : V} {u : Value}, Inv (cxOf CX P w K mg base N qual scope f cdv A outer s H E) [] σ' H' s' → RelV v u → Q v H' → CE outer P w H s Q u s' :=
    fun {σ' H' v u} J rv q => ⟨v, H', J.os, J.bare, J.base, J.hok, rv, q⟩
  cases fl with
  | ret u =>
    obtain ⟨v, σ', H', J, rv, q⟩ := hs
    exact fin J rv q
  | next =>
    obtain ⟨σ', H', J, q⟩ := hs
    exact fin (v := V.non) (u := Value.none) J rfl q
  | brk =>
    obtain ⟨_, _, _, q⟩ := hs
    exact False.elim q
  | cont =>
    obtain ⟨_, _, _, q⟩ := hs
    exact False.elim q
end L2

namespace L2
open PySem PySem.Spec PyProof.Rows
section
variable {X : Cx} {x : Str} {p pos : Pos} {e : Expr} {es : List Expr} {t : TA} {id T : String} {r : List V → Hp → VK → Prop}

def tCB (r : List V → Hp → VK → Prop) (t : TA) : TE := fun σ H Q => t σ H fun vs H1 => r vs H1 Q
/-- f(e, ..), f a built-in function -/
theorem pe_callB (hc : CallR X (.builtin id) r) (hg : Gl X x) (hm : X.mg x = none) (hv : bootBuiltins x = some (.builtin id)) (ha : PA X (e :: es) t) (hn : x ≠ "__name__" := by decide) (hdb : (x == ("__debug__" : Str)) = false := by decide)
    (he : starEach (e :: es) X.env = (false, eval e X.env) :: starEach es X.env := by rfl) (hpl : (backTo pos (starEach es X.env)).any (·.1) = false := by rfl) : PE X (.Call (.Name x p) (e :: es) [] pos) (tCB r t) := by
  intro pins s σ H Q I h
  refine wpAny_Call_Name_kw (ld_blt I hg hm hv ?_ hn hdb)
  exact PyProof.Rows.callWith_builtin1 (thn (ha pos pins s σ H _ I h) fun us s1 ⟨vs, H1, I1, r1, q1⟩ => hc pins s1 σ H1 vs us Q I1 r1 q1) he hpl
/-- T(e, ..), T a built-in type -/
theorem pe_callTy (hc : CallR X (.type T) r) (hg : Gl X x) (hm : X.mg x = none) (hv : bootBuiltins x = some (.type T)) (ha : PA X (e :: es) t) (hn : x ≠ "__name__" := by decide) (hdb : (x == ("__debug__" : Str)) = false := by decide)
    (he : starEach (e :: es) X.env = (false, eval e X.env) :: starEach es X.env := by rfl) (hpl : (backTo pos (starEach es X.env)).any (·.1) = false := by rfl) : PE X (.Call (.Name x p) (e :: es) [] pos) (tCB r t) := by
  intro pins s σ H Q I h
  refine wpAny_Call_Name_kw (ld_blt I hg hm hv ?_ hn hdb)
  exact PyProof.Rows.callWith_type1 (thn (ha pos pins s σ H _ I h) fun us s1 ⟨vs, H1, I1, r1, q1⟩ => hc pins s1 σ H1 vs us Q I1 r1 q1) he hpl
end
end L2

namespace HT
open PySem PyProof.Rows

section
open PySem.SeqAt
open PySem.AutoSeq1 (wpAny_loadPart')
open PySem.MeetsSeq PySem.MeetsSeq2 PySem.MeetsSeq3

end

section
variable {prog : Program} {w : World} {A : Around} {E : Value → Shared → Prop} {s : Shared}

/-! ### t[a:b], not the whole -/
/-- a slice's bound as a place among n (d where it is left out) -/
def sIx (n d : Nat) : Option Int → Nat
  | none => d
  | some v => if v < 0 then (v + (n : Int)).toNat else min v.toNat n
end
end HT

namespace L2
open PySem PySem.Spec PyProof.Rows

/-! ### the parts of a slice -/
abbrev TO := St → Hp → (Option Int → Hp → Prop) → Prop
section
variable {X : Cx} {e : Expr} {te : TE} {lo hi : Option Expr} {tl th : TO} {pos p2 : Pos}

/-- what a slice of a value is, by values: the slice object stands at sl -/
def SlR (X : Cx) (r : V → Option Int → Option Int → Hp → VK → Prop) : Prop :=
  ∀ (pins : List (Addr × Obj)) (s : Shared) (σ : St) (H : Hp) (x : V) (v vl vu : Value) (lo hi : Option Int) (sl : Addr) (Q : VK), Inv X pins σ H s → RelV x v → s.heap.IsSliceOf sl vl vu .none → IsPart vl lo → IsPart vu hi → r x lo hi H Q →
    ∃ T id, typeLookup (.type T) "__getitem__" = pure (some (.builtin id)) ∧ s.TypeIs v T ∧ wpAny (model X.prog X.w) X.A (getItem v (.ref sl)) (EP X pins σ Q) X.xe s
/-- the items of xs[lo:hi] -/
def cutV (xs : List V) (lo hi : Option Int) : List V := (xs.drop (HT.sIx xs.length 0 lo)).take (HT.sIx xs.length xs.length hi - HT.sIx xs.length 0 lo)
theorem cutV_length (xs : List V) (lo hi : Option Int) : (cutV xs lo hi).length ≤ xs.length := by
  unfold cutV
  rw [List.length_take, List.length_drop]
  omega
/-! ### t < u, t + u -/
end
end L2

namespace L2
open PySem PySem.Spec PyProof.Rows

/-! ### places -/
/-- the place that an index of any sign means -/
def ixN (n : Nat) (i : Int) : Option Nat := if 0 ≤ i then (if i < n then some i.toNat else none) else if -(n : Int) ≤ i then some (i + n).toNat else none
def atI {α : Type} (xs : List α) (i : Int) : Option α := (ixN xs.length i).bind fun j => xs[j]?
theorem ixN_seq {n : Nat} {i : Int} {j : Nat} (h : ixN n i = some j) : seqIndex? i n = some j ∧ j < n ∧ -(n : Int) ≤ i ∧ i < n := by
  unfold ixN at h
  by_cases h0 : 0 ≤ i
  · rw [if_pos h0] at h
    by_cases h1 : i < n
    · rw [if_pos h1] at h
      have e : i.toNat = j := Option.some.inj h
      exact ⟨by rw [seqIndex_of h0 h1, e], by omega, by omega, h1⟩
    · rw [if_neg h1] at h; cases h
  · rw [if_neg h0] at h
    by_cases h1 : -(n : Int) ≤ i
    · rw [if_pos h1] at h
      have e : (i + n).toNat = j := Option.some.inj h
      exact ⟨by rw [seqIndex_neg (by omega) h1, e], by omega, h1, by omega⟩
    · rw [if_neg h1] at h; cases h
theorem atI_get {α : Type} {xs : List α} {i : Int} {v : α} (h : atI xs i = some v) : ∃ j, seqIndex? i xs.length = some j ∧ xs[j]? = some v ∧ j < xs.length ∧ -(xs.length : Int) ≤ i ∧ i < xs.length := by
  unfold atI at h
  cases e : ixN xs.length i with
  | none => rw [e] at h; cases h
  | some j =>
    rw [e] at h
    obtain ⟨h1, h2, h3, h4⟩ := ixN_seq e
    exact ⟨j, h1, h, h2, h3, h4⟩
theorem atI_nat {α : Type} {xs : List α} {j : Nat} {v : α} (h : xs[j]? = some v) : atI xs (j : Int) = some v := by
  have hj : j < xs.length := (List.getElem?_eq_some_iff.mp h).1
  have e : ixN xs.length (j : Int) = some j := by
    unfold ixN
    rw [if_pos (by omega), if_pos (by omega)]; simp
  unfold atI; rw [e]; exact h
/-! ### what may be subscripted -/
/-- what stands as an index of a plain subscript -/
def PlainIx (b : Expr) : Prop := ∀ o i, subscripted b false o i = operate [o, i] (getItem o i)
/-- a subscript by values -/
def IxR (X : Cx) (r : R2) : Prop :=
  ∀ (value slice : Expr) (pins : List (Addr × Obj)) (s : Shared) (σ : St) (H : Hp) (x y : V) (v u : Value) (Q : VK), Inv X pins σ H s → RelV x v → RelV y u → r x y H Q →
    subscripted slice false v u = operate [v, u] (getItem v u) → wpAny (model X.prog X.w) X.A (subscriptTail value slice v u) (EP X pins σ Q) X.xe s
/-- a call of a builtin's method by values: the receiver, the arguments -/
def MtR (X : Cx) (id : String) (r : V → List V → Hp → VK → Prop) : Prop :=
  ∀ (pins : List (Addr × Obj)) (s : Shared) (σ : St) (H : Hp) (x : V) (xs : List V) (v : Value) (us : List Value) (Q : VK), Inv X pins σ H s → RelV x v → Vals xs us → r x xs H Q →
    wpAny (model X.prog X.w) X.A (call (.builtin id) (v :: us)) (EP X pins σ Q) X.xe s
section
variable {X : Cx} {a b : Expr} {ta tb : TE} {pos : Pos}
/-- a[b] -/
theorem pe_ix {r : R2} (hr : IxR X r) (ha : PE X a ta) (hb : PE X b tb) (hs : PlainIx b) : PE X (.Subscript a b pos) (tOp r ta tb) := by
  intro pins s σ H Q I h
  exact Subscript_ (binT ha hb I h fun v u s2 x y H2 I2 rx ry q => hr a b pins s2 σ H2 x y v u Q I2 rx ry q (hs _ _))

def rIxL (K : PySem.W.Frag) : R2 := fun x y H Q => ∃ p xs i v, x = .ref p ∧ y = .int i ∧ SqL K H p xs ∧ atI xs i = some v ∧ Q v H
def rIxT (K : PySem.W.Frag) : R2 := fun x y H Q => ∃ p xs i v, x = .ref p ∧ y = .int i ∧ SqT K H p xs ∧ atI xs i = some v ∧ Q v H
def rIxS : R2 := fun x y H Q => ∃ z i c, x = .str z ∧ y = .int i ∧ z.length ≤ sizeLine ∧ atI z.cps.toList i = some c ∧ Q (.str ⟨#[c]⟩) H
theorem ix_list : IxR X (rIxL X.K) := by
  intro value slice pins s σ H x y v u Q I rx ry h hs
  obtain ⟨p, xs, i, z, rfl, rfl, hq, he, q⟩ := h
  cases rx
  obtain ⟨t, rfl⟩ := ry
  obtain ⟨its, r, pl, hz⟩ := I.list hq
  obtain ⟨j, h1, h2, h3, h4, h5⟩ := atI_get he
  obtain ⟨w, ew, rw'⟩ := r.get h2
  have hl := r.length
  have hn := line63
  have fin : EP X pins σ Q w s := ⟨z, H, I, rw', q⟩
  by_cases h0 : 0 ≤ i
  · have hj : i.toNat = j := by
      rw [seqIndex_of h0 h5] at h1
      exact Option.some.inj h1
    exact item_listR pl.isList h0 (by omega) (by rw [hj]; simpa using ew) fin hs
  · have hj : (i + (its.toArray.size : Int)).toNat = j := by
      rw [seqIndex_neg (by omega) h4] at h1
      rw [List.size_toArray, ← hl]
      exact Option.some.inj h1
    exact subscriptTail_builtinR (x := w) pl.isList.typeIs slot_list_getitem.lookup
      (wpAny_getItem_list_neg (Q := fun r s' => r = w ∧ EP X pins σ Q r s') pl.isList (by omega) (by rw [List.size_toArray] <;> omega) (by omega) (by rw [hj]; simpa using ew) ⟨rfl, fin⟩) hs
theorem ix_tup : IxR X (rIxT X.K) := by
  intro value slice pins s σ H x y v u Q I rx ry h hs
  obtain ⟨p, xs, i, z, rfl, rfl, hq, he, q⟩ := h
  cases rx
  obtain ⟨t, rfl⟩ := ry
  obtain ⟨its, r, pl, hz⟩ := I.tuple hq
  obtain ⟨j, h1, h2, h3, h4, h5⟩ := atI_get he
  obtain ⟨w, ew, rw'⟩ := r.get h2
  have hl := r.length
  have hn := line63
  have fin : EP X pins σ Q w s := ⟨z, H, I, rw', q⟩
  exact subscriptTail_builtinR (x := w) pl.typeIs slot_tuple_getitem.lookup
    (getItem_tuple (j := j) (Q := fun r s' => r = w ∧ EP X pins σ Q r s') pl (by omega) (by omega) (by rw [List.size_toArray, ← hl]; exact h1) (by simpa using ew) ⟨rfl, fin⟩) hs
theorem ix_str : IxR X rIxS := by
  intro value slice pins s σ H x y v u Q I rx ry h hs
  obtain ⟨z, i, c, rfl, rfl, hz, he, q⟩ := h
  obtain ⟨t, rfl⟩ := rx
  obtain ⟨t', rfl⟩ := ry
  obtain ⟨j, h1, h2, h3, h4, h5⟩ := atI_get he
  have hl : z.cps.toList.length = z.length := by simp [Str.length]
  rw [hl] at h1 h4 h5
  have hn := line63
  exact tail_any (typeIs_str s z t) slot_str_getitem.lookup (getItem_str (c := c) (by
    have e1 : decide (i < -(2 ^ 63 : Int)) = false := decide_eq_false (by omega)
    have e2 : decide (i ≥ 2 ^ 63) = false := decide_eq_false (by omega)
    rw [e1, e2, Bool.or_false]) (by rw [h1]; simpa using h2) ⟨.str ⟨#[c]⟩, H, I.tok _, ⟨_, rfl⟩, q⟩) hs
/-! ### xs[i] = v, any sign -/
/-- the list's object behind a store -/
theorem mapSeq_set (its : List Value) (n j : Nat) (u : Value) : Obj.mapSeq (·.setIfInBounds j u) { cls := .type "list", data := .seq its.toArray n } = { cls := .type "list", data := .seq (its.set j u).toArray n } := by
  simp [Obj.mapSeq]
theorem Inv.lst {pins : List (Addr × Obj)} {σ : St} {H : Hp} {s : Shared} {p : Addr} {xs : List V} (I : Inv X pins σ H s) (h : H p = some (.lst xs)) :
    ∃ (its : List Value) (n : Nat), Vals xs its ∧ s.heap.get? p = some { cls := .type "list", data := .seq its.toArray n } ∧ xs.length ≤ sizeLine := by
  obtain ⟨z, its, n, r, e⟩ := I.hok p _ h
  exact ⟨its, n, r, e, z⟩
/-- the list at p is written by an update of its object -/
theorem Inv.lstUpd {pins : List (Addr × Obj)} {σ : St} {H : Hp} {s : Shared} {p : Addr} {xs ys : List V} {its its' : List Value} {n n' : Nat} {f : Obj → Obj} (I : Inv X pins σ H s) (h : H p = some (.lst xs))
    (ho : s.heap.get? p = some { cls := .type "list", data := .seq its.toArray n }) (hf : f { cls := .type "list", data := .seq its.toArray n } = { cls := .type "list", data := .seq its'.toArray n' }) (r : Vals ys its') (hz : ys.length ≤ sizeLine) (t : Nat) :
    Inv X pins σ (upd H p (.lst ys)) { s with heap := s.heap.update p f, toks := t } := by
  have e : (s.heap.update p f).get? p = some { cls := .type "list", data := .seq its'.toArray n' } := by
    rw [Heap.get?_update_self f ho (by rw [hf] <;> rfl), hf]
  refine I.write (x := p) (e := p) (by rw [h]; trivial) (.inl rfl) (fun b u hb q => (Heap.get?_update_other _ _ (Ne.symm hb)).trans q) ⟨_, e⟩ ?_
  exact ⟨hz, its', n', r, e⟩
def rSetL : V → V → V → Hp → (Hp → Prop) → Prop := fun o i v H Q => ∃ p xs k j, o = .ref p ∧ i = .int k ∧ H p = some (.lst xs) ∧ ixN xs.length k = some j ∧ Q (upd H p (.lst (xs.set j v)))
theorem set_list : PSet X rSetL := by
  intro pins s σ H o i v ov iv u Q I ro ri rv h
  obtain ⟨p, xs, k, j, rfl, rfl, hp, hj, q⟩ := h
  cases ro
  obtain ⟨t, rfl⟩ := ri
  obtain ⟨its, n, r, ho, hz⟩ := I.lst hp
  obtain ⟨h1, h2, h3, h4⟩ := ixN_seq hj
  have hl := r.length
  have hn := line63
  have I' : Inv X pins σ (upd H p (.lst (xs.set j v))) { s with heap := s.heap.update p (Obj.mapSeq (·.setIfInBounds j u)) } :=
    I.lstUpd hp ho (mapSeq_set its n j u) (r.set rv j) (by rw [List.length_set]; exact hz) s.toks
  by_cases h0 : 0 ≤ k
  · have hk : k.toNat = j := by
      rw [seqIndex_of h0 h4] at h1
      exact Option.some.inj h1
    exact PySem.W.ki_setAt ho h0 (by omega) (by rw [List.size_toArray, ← hl]; exact h4) (by rw [hk]; exact ⟨_, I', q⟩)
  · have hk : (k + (its.toArray.size : Int)).toNat = j := by
      rw [seqIndex_neg (by omega) h3] at h1
      rw [List.size_toArray, ← hl]
      exact Option.some.inj h1
    exact PySem.W.ki_setBack ho (by omega) (by rw [List.size_toArray, ← hl]; exact h3) (by omega) (by rw [hk]; exact ⟨_, I', q⟩)

/-! ### slices -/
theorem slice_bounds (lo hi : Option Int) (n : Nat) : (sliceBounds lo hi none n).1 = ((HT.sIx n 0 lo : Nat) : Int) ∧ (sliceBounds lo hi none n).2.1 = ((HT.sIx n n hi : Nat) : Int) ∧ (sliceBounds lo hi none n).2.2 = 1 := by
  refine ⟨?_, ?_, rfl⟩
  · cases lo with
    | none => simp [sliceBounds, HT.sIx]
    | some i =>
      simp only [sliceBounds, HT.sIx, Option.getD_none, show (1 : Int) > 0 by decide, if_true]
      by_cases h : i < 0
      · simp only [h, if_true] <;> omega
      · simp only [h, if_false] <;> omega
  · cases hi with
    | none => simp [sliceBounds, HT.sIx]
    | some i =>
      simp only [sliceBounds, HT.sIx, Option.getD_none, show (1 : Int) > 0 by decide, if_true]
      by_cases h : i < 0
      · simp only [h, if_true] <;> omega
      · simp only [h, if_false] <;> omega
theorem slicePick_cut (its : List Value) (lo hi : Option Int) : slicePick its.toArray lo hi none = ((its.drop (HT.sIx its.length 0 lo)).take (HT.sIx its.length its.length hi - HT.sIx its.length 0 lo)).toArray := by
  obtain ⟨h1, h2, h3⟩ := slice_bounds lo hi its.toArray.size
  unfold slicePick
  rw [h1, h2, h3]
  simp only [sliceRange_one, pick_run, List.size_toArray] <;> rfl
/-- xs[lo:hi] of a list: a new list -/
def rSlL (K : PySem.W.Frag) : V → Option Int → Option Int → Hp → VK → Prop := fun x lo hi H Q => ∃ a xs, x = .ref a ∧ SqL K H a xs ∧ ∀ p, H p = none → Q (.ref p) (upd H p (.lst (cutV xs lo hi)))
theorem sl_list : SlR X (rSlL X.K) := by
  intro pins s σ H x v vl vu lo hi sl Q I rx hs pl pu h
  obtain ⟨a, xs, rfl, hx, q⟩ := h
  cases rx
  obtain ⟨its, r, ht, hz⟩ := I.list hx
  have hlen := r.length
  refine ⟨"list", _, slot_list_getitem.lookup, ht.isList.typeIs, ?_⟩
  refine wpAny_getItem_list_slice ht.isList hs pl pu .none (by simp) ?_ (by rw [List.size_toArray] <;> omega)
  rw [slicePick_cut, ← hlen]
  refine ⟨.ref s.heap.objs.size, _, I.laid (t' := s.toks) (o := .lst (cutV xs lo hi)) (fun b ob q => Heap.get?_push_of_some _ q) (Nat.le_refl _) ?_, rfl, q _ (I.hok.fresh (Nat.le_refl _))⟩
  exact ⟨Nat.le_trans (cutV_length xs lo hi) hz, _, 0, (r.drop (HT.sIx xs.length 0 lo)).take (HT.sIx xs.length xs.length hi - HT.sIx xs.length 0 lo), Heap.get?_push_size _ rfl⟩

/-! ### in, not in: flat items -/
def flatV : V → Bool
  | .non => true
  | .bl _ => true
  | .int _ => true
  | .str _ => true
  | _ => false
/-- == of flat values -/
def eqV : V → V → Bool
  | .non, .non => true
  | .bl a, .bl b => a == b
  | .bl a, .int b => (if a then 1 else 0) == b
  | .int a, .bl b => a == (if b then 1 else 0)
  | .int a, .int b => a == b
  | .str a, .str b => a == b
  | _, _ => false
theorem eqAt_V {A : Around} {s : Shared} {y x : V} {u v : Value} (ry : RelV y u) (rx : RelV x v) (fy : flatV y = true) (fx : flatV x = true) : SeqAt.EqAt A s u v (eqV y x) := by
  cases y with
  | non =>
    cases ry
    cases x with
    | non => cases rx; exact SeqAt.EqAt.same _
    | bl b => cases rx; exact SeqAt.EqAt.none_bool b
    | int b => obtain ⟨t, rfl⟩ := rx; exact SeqAt.EqAt.none_int b t
    | str b => obtain ⟨t, rfl⟩ := rx; exact SeqAt.EqAt.none_str b t
    | _ => exact absurd (show false = true from fx) Bool.false_ne_true
  | bl a =>
    cases ry
    cases x with
    | non => cases rx; exact SeqAt.EqAt.bool_none a
    | bl b => cases rx; exact SeqAt.EqAt.bool_bool a b
    | int b => obtain ⟨t, rfl⟩ := rx; exact SeqAt.EqAt.bool_int a b t
    | str b => obtain ⟨t, rfl⟩ := rx; exact SeqAt.EqAt.bool_str a b t
    | _ => exact absurd (show false = true from fx) Bool.false_ne_true
  | int a =>
    obtain ⟨t', rfl⟩ := ry
    cases x with
    | non => cases rx; exact SeqAt.EqAt.int_none a t'
    | bl b => cases rx; exact SeqAt.EqAt.int_bool a t' b
    | int b => obtain ⟨t, rfl⟩ := rx; exact SeqAt.EqAt.int_int a t' b t
    | str b => obtain ⟨t, rfl⟩ := rx; exact SeqAt.EqAt.int_str a t' b t
    | _ => exact absurd (show false = true from fx) Bool.false_ne_true
  | str a =>
    obtain ⟨t', rfl⟩ := ry
    cases x with
    | non => cases rx; exact SeqAt.EqAt.str_none a t'
    | bl b => cases rx; exact SeqAt.EqAt.str_bool a t' b
    | int b => obtain ⟨t, rfl⟩ := rx; exact SeqAt.EqAt.str_int a t' b t
    | str b => obtain ⟨t, rfl⟩ := rx; exact SeqAt.EqAt.str_str a t' b t
    | _ => exact absurd (show false = true from fx) Bool.false_ne_true
  | _ => exact absurd (show false = true from fy) Bool.false_ne_true
/-- the items' answers, read off the values (a value's own answer does not lean on its token) -/
def eqU (x : V) (u : Value) : Bool := match u with
  | .none => eqV .non x
  | .bool b => eqV (.bl b) x
  | .int i _ => eqV (.int i) x
  | .str z _ => eqV (.str z) x
  | _ => false
theorem eqU_of {x y : V} {u : Value} (r : RelV y u) (f : flatV y = true) : eqU x u = eqV y x := by
  cases y with
  | non => cases r; rfl
  | bl b => cases r; rfl
  | int i => obtain ⟨t, rfl⟩ := r; rfl
  | str z => obtain ⟨t, rfl⟩ := r; rfl
  | _ => exact absurd (show false = true from f) Bool.false_ne_true
theorem any_eqU {x : V} : ∀ {xs : List V} {us : List Value}, Vals xs us → xs.all flatV = true → us.any (eqU x) = xs.any fun y => eqV y x
  | _, _, .nil, _ => rfl
  | y :: xs, u :: us, .cons r t, f => by
    rw [List.all_cons, Bool.and_eq_true] at f
    rw [List.any_cons, List.any_cons, eqU_of r f.1, any_eqU t f.2]
theorem mem_eqAt {A : Around} {s : Shared} {x : V} {v : Value} (rx : RelV x v) (fx : flatV x = true) : ∀ {xs : List V} {us : List Value}, Vals xs us → xs.all flatV = true → ∀ u ∈ us, SeqAt.EqAt A s u v (eqU x u)
  | _, _, .nil, _ => fun u hu => by cases hu
  | y :: xs, u :: us, .cons r t, f => fun u' hu => by
    rw [List.all_cons, Bool.and_eq_true] at f
    rcases List.mem_cons.mp hu with rfl | hu
    · rw [eqU_of r f.1]; exact eqAt_V r rx f.1 fx
    · exact mem_eqAt rx fx t f.2 u' hu
def inV (x : V) (xs : List V) : Bool := xs.any fun y => eqV y x
/-- x in a list or tuple of flat items -/
def rIn (K : PySem.W.Frag) (neg : Bool) : R2 := fun x y H Q => ∃ p xs, y = .ref p ∧ (SqL K H p xs ∨ SqT K H p xs) ∧ flatV x = true ∧ xs.all flatV = true ∧ Q (.bl (if neg then !inV x xs else inV x xs)) H
theorem op_in_seq : OpR X (compareOp .In) (rIn X.K false) := by
  intro pins s σ H x y v u Q I rx ry h
  obtain ⟨p, xs, rfl, hq, fx, fs, q⟩ := h
  cases ry
  rcases hq with hq | hq
  · obtain ⟨its, r, pl, hz⟩ := I.list hq
    refine SeqAt.in_listAt (eqU x) pl.isList (fun w hw => mem_eqAt rx fx r fs w (by simpa using hw)) ⟨.bl _, H, I, rfl, ?_⟩
    rw [show its.toArray.any (eqU x) = its.any (eqU x) by simp, any_eqU r fs]
    exact q
  · obtain ⟨its, r, pl, hz⟩ := I.tuple hq
    refine SeqAt.in_tupleAt (eqU x) pl (fun w hw => mem_eqAt rx fx r fs w (by simpa using hw)) ⟨.bl _, H, I, rfl, ?_⟩
    rw [show its.toArray.any (eqU x) = its.any (eqU x) by simp, any_eqU r fs]
    exact q
theorem op_notIn_seq : OpR X (compareOp .NotIn) (rIn X.K true) := by
  intro pins s σ H x y v u Q I rx ry h
  obtain ⟨p, xs, rfl, hq, fx, fs, q⟩ := h
  cases ry
  rcases hq with hq | hq
  · obtain ⟨its, r, pl, hz⟩ := I.list hq
    refine SeqAt.notIn_listAt (eqU x) pl.isList (fun w hw => mem_eqAt rx fx r fs w (by simpa using hw)) ⟨.bl _, H, I, rfl, ?_⟩
    rw [show its.toArray.any (eqU x) = its.any (eqU x) by simp, any_eqU r fs]
    exact q
  · obtain ⟨its, r, pl, hz⟩ := I.tuple hq
    refine SeqAt.notIn_tupleAt (eqU x) pl (fun w hw => mem_eqAt rx fx r fs w (by simpa using hw)) ⟨.bl _, H, I, rfl, ?_⟩
    rw [show its.toArray.any (eqU x) = its.any (eqU x) by simp, any_eqU r fs]
    exact q
/-! ### len, list(x), tuple(x) of any list or tuple that is read -/
theorem call_len_seq : CallR X (.builtin "len") (fun xs H Q => ∃ p ys, xs = [.ref p] ∧ (SqL X.K H p ys ∨ SqT X.K H p ys) ∧ Q (.int ys.length) H) := by
  intro pins s σ H xs us Q I r h
  obtain ⟨p, ys, rfl, hq, q⟩ := h
  obtain ⟨u, rfl, rx⟩ := vals1 r
  cases rx
  have hn := line63
  rcases hq with hq | hq
  · obtain ⟨its, r', pl, hz⟩ := I.list hq
    have hlen := r'.length
    exact Calls.call_len_list pl.isList (by simp only [List.size_toArray] <;> omega) ⟨.int ys.length, H, I.tok _, ⟨s.toks + 1, by rw [List.size_toArray, hlen]⟩, q⟩
  · obtain ⟨its, r', pl, hz⟩ := I.tuple hq
    have hlen := r'.length
    exact len_tuple pl (by simp only [List.size_toArray] <;> omega) ⟨.int ys.length, H, I.tok _, ⟨s.toks + 1, by rw [List.size_toArray, hlen]⟩, q⟩
theorem call_len_str : CallR X (.builtin "len") (fun xs H Q => ∃ z, xs = [.str z] ∧ z.length ≤ sizeLine ∧ Q (.int z.length) H) := by
  intro pins s σ H xs us Q I r h
  obtain ⟨z, rfl, hz, q⟩ := h
  obtain ⟨u, rfl, t, rfl⟩ := vals1 r
  have hn := line63
  exact len_str (by omega) ⟨.int z.length, H, I.tok _, ⟨_, rfl⟩, q⟩
theorem call_list_of : CallR X (.type "list") (fun xs H Q => ∃ p ys, xs = [.ref p] ∧ (SqL X.K H p ys ∨ SqT X.K H p ys) ∧ ∀ l, H l = none → Q (.ref l) (upd H l (.lst ys))) := by
  intro pins s σ H xs us Q I r h
  obtain ⟨p, ys, rfl, hq, q⟩ := h
  obtain ⟨u, rfl, rx⟩ := vals1 r
  cases rx
  have fin : ∀ (its : List Value), Vals ys its → ys.length ≤ sizeLine → ∀ (h' : Heap) (c' : Nat), (∀ b o', s.heap.get? b = some o' → h'.get? b = some o') →
      h'.get? s.heap.objs.size = some { cls := .type "list", dict := none, data := .seq its.toArray c', slots := #[] } → EP X pins σ Q (.ref s.heap.objs.size) { s with heap := h' } := fun its r' hz h' c' kp e =>
    ⟨.ref s.heap.objs.size, _, I.laid (t' := s.toks) kp (Nat.le_refl _) (show ObjOk X.prog X.w _ h' _ (.lst ys) from ⟨hz, its, c', r', e⟩), rfl, q _ (I.hok.fresh (Nat.le_refl _))⟩
  rcases hq with hq | hq
  · obtain ⟨its, r', pl, hz⟩ := I.list hq
    have hlen := r'.length
    obtain ⟨o, ho, hc, n, hd⟩ := pl.isList
    exact call_list_seq p (.inl rfl) ho hc hd (fun h' c' kp e => fin its r' hz h' c' kp e) (by simp only [List.size_toArray] <;> omega)
  · obtain ⟨its, r', pl, hz⟩ := I.tuple hq
    have hlen := r'.length
    obtain ⟨o, ho, hc, n, hd⟩ := pl
    exact call_list_seq p (.inr rfl) ho hc hd (fun h' c' kp e => fin its r' hz h' c' kp e) (by simp only [List.size_toArray] <;> omega)
theorem call_tuple_of : CallR X (.type "tuple") (fun xs H Q => ∃ p ys, xs = [.ref p] ∧ ((SqL X.K H p ys ∧ ∀ l, H l = none → Q (.ref l) (upd H l (.tup ys))) ∨ (SqT X.K H p ys ∧ Q (.ref p) H))) := by
  intro pins s σ H xs us Q I r h
  obtain ⟨p, ys, rfl, h⟩ := h
  obtain ⟨u, rfl, rx⟩ := vals1 r
  cases rx
  rcases h with ⟨hq, q⟩ | ⟨hq, q⟩
  · obtain ⟨its, r', pl, hz⟩ := I.list hq
    have hlen := r'.length
    refine call_tuple_list pl.isList (fun h' kp => ?_) (by simp only [List.size_toArray] <;> omega)
    have I1 : Inv X pins σ H { s with heap := h' } := I.kept (t' := s.toks) kp
    have I2 : Inv X pins σ (upd H h'.objs.size (.tup ys)) { s with heap := h'.push { cls := .type "tuple", data := .seq its.toArray } } :=
      I1.laid (t' := s.toks) (fun b o e => Heap.get?_push_of_some _ e) (Nat.le_refl _) (show ObjOk X.prog X.w _ _ _ (.tup ys) from ⟨hz, its, r', IsTup.new _ _⟩)
    exact ⟨.ref h'.objs.size, _, I2, rfl, q _ (I1.hok.fresh (Nat.le_refl _))⟩
  · obtain ⟨its, r', pl, hz⟩ := I.tuple hq
    exact call_tuple_same pl ⟨.ref p, H, I, rfl, q⟩

/-! ### the call of a builtin's method: o.m(..) -/
/-- the value is of that builtin type -/
def tyV (K : PySem.W.Frag) (T : String) (x : V) (H : Hp) : Prop := match x with
  | .str _ => T = "str"
  | .int _ => T = "int"
  | .ref p => (T = "list" ∧ ∃ xs, SqL K H p xs) ∨ (T = "tuple" ∧ ∃ o, K.lookup p = some o ∧ o.cls = .type "tuple" ∧ o.dict = none) ∨
      (T = "dict" ∧ ((∃ kvs, H p = some (.dK kvs)) ∨ ∃ kvs, H p = some (.dT kvs))) ∨ (T = "set" ∧ ∃ S n, H p = some (.set S n))
  | _ => False
theorem tyV_is {pins : List (Addr × Obj)} {σ : St} {H : Hp} {s : Shared} {T : String} {x : V} {v : Value} (I : Inv X pins σ H s) (r : RelV x v) (ty : tyV X.K T x H) :
    s.TypeIs v T ∧ ∀ a, v = .ref a → ∃ ob, s.heap.get? a = some ob ∧ ob.dict = none := by
  cases x with
  | str z =>
    obtain ⟨t, rfl⟩ := r
    cases (show T = "str" from ty)
    exact ⟨typeIs_str s z t, fun _ e => nomatch e⟩
  | int i =>
    obtain ⟨t, rfl⟩ := r
    cases (show T = "int" from ty)
    exact ⟨typeIs_int s i t, fun _ e => nomatch e⟩
  | ref p =>
    cases r
    rcases ty with ⟨rfl, xs, hq⟩ | ⟨rfl, o, hk, hc, hd⟩ | ⟨rfl, hk⟩ | ⟨rfl, S, n, hk⟩
    · obtain ⟨its, _, pl, _⟩ := I.list hq
      refine ⟨pl.isList.typeIs, fun a e => ?_⟩
      cases e
      obtain ⟨o, n, e, c, hd, _⟩ := pl
      exact ⟨o, e, hd⟩
    · refine ⟨⟨o, I.kIn p o hk, hc⟩, fun a e => ?_⟩
      cases e
      exact ⟨o, I.kIn _ o hk, hd⟩
    · have z : ∃ o, s.heap.get? p = some o ∧ o.ExactDict := by
        rcases hk with ⟨kvs, hk⟩ | ⟨kvs, hk⟩
        · obtain ⟨_, _, _, _, o, _, _, e, ex, _⟩ := I.hok p _ hk
          exact ⟨o, e, ex⟩
        · obtain ⟨_, _, _, _, o, _, _, e, ex, _⟩ := I.hok p _ hk
          exact ⟨o, e, ex⟩
      obtain ⟨o, e, ex⟩ := z
      refine ⟨⟨o, e, ex.1⟩, fun a e2 => ?_⟩
      cases e2
      exact ⟨o, e, ex.2.1⟩
    · obtain ⟨o, _, _, _, e, ex, _⟩ := I.hok p _ hk
      refine ⟨⟨o, e, ex.1⟩, fun a e2 => ?_⟩
      cases e2
      exact ⟨o, e, ex.2.1⟩
  | _ => exact False.elim ty
def tBM0 (K : PySem.W.Frag) (T : String) (r : V → List V → Hp → VK → Prop) (to : TE) : TE := fun σ H Q => to σ H fun x H1 => tyV K T x H1 ∧ r x [] H1 Q
def tBM (K : PySem.W.Frag) (T : String) (r : V → List V → Hp → VK → Prop) (to : TE) (t : TA) : TE := fun σ H Q => to σ H fun x H1 => tyV K T x H1 ∧ t σ H1 fun xs H2 => r x xs H2 Q
variable {o e : Expr} {es : List Expr} {to : TE} {t : TA} {name : Str} {apos cpos : Pos} {T id : String} {r : V → List V → Hp → VK → Prop}
theorem pe_bm0 (pa : PlainAttrs T) (slot : Slot T name id) (hty : typeOf (.builtin id) = pure (.type "method_descriptor")) (hm : MtR X id r) (ho : PE X o to)
    (hbase : attributeBase o name X.env (eval o X.env) = eval o X.env := by rfl) (hline : (apos.endLine == cpos.line) = true := by rfl) : PE X (.Call (.Attribute o name apos) [] [] cpos) (tBM0 X.K T r to) := by
  intro pins s σ H Q I h
  refine wpAny_Call_method0_late hbase hline (thn (ho pins s σ H _ I h) fun v s1 ⟨x, H1, I1, r1, ty, q1⟩ => ?_)
  obtain ⟨h1, h2⟩ := tyV_is I1 r1 ty
  exact ⟨T, id, pa, slot, hty, h1, h2, Calls.callWith_builtin rfl (PySem.evalArgs_none (hm pins s1 σ H1 x [] v [] Q I1 r1 .nil q1))⟩
theorem pe_bm (pa : PlainAttrs T) (slot : Slot T name id) (hty : typeOf (.builtin id) = pure (.type "method_descriptor")) (hm : MtR X id r) (ho : PE X o to) (ha : PA X (e :: es) t)
    (hbase : attributeBase o name X.env (eval o X.env) = eval o X.env := by rfl)
    (hfew : ((backTo cpos (starEach (e :: es) X.env)).all (fun x => !x.1) && (backToKw cpos (keywordEach [] X.env)).all (fun x => x.1.isSome)
      && decide ((e :: es).length + ([] : List Keyword).length + (if ([] : List Keyword).isEmpty then 0 else 1) < 30)) = true := by rfl)
    (hline : (apos.endLine == cpos.line) = true := by rfl) (hs : starEach (e :: es) X.env = (false, eval e X.env) :: starEach es X.env := by rfl) (hplain : (backTo cpos (starEach es X.env)).any (·.1) = false := by rfl) :
    PE X (.Call (.Attribute o name apos) (e :: es) [] cpos) (tBM X.K T r to t) := by
  intro pins s σ H Q I h
  refine wpAny_Call_method_late hbase hfew hline rfl (thn (ho pins s σ H _ I h) fun v s1 ⟨x, H1, I1, r1, ty, q1⟩ => ?_)
  obtain ⟨h1, h2⟩ := tyV_is I1 r1 ty
  refine ⟨T, id, pa, slot, hty, h1, h2, ?_⟩
  have hA := ha cpos pins s1 σ H1 _ I1 q1
  rw [hs] at hA ⊢
  refine Calls.callWith_builtin (by show (false || (backTo cpos (starEach es X.env)).any (·.1)) = false; rw [hplain] <;> rfl) (Calls.evalArgs_plain ?_)
  exact thn hA fun us s2 ⟨vs, H2, I2, r2, q2⟩ => hm pins s2 σ H2 x vs v us Q I2 r1 r2 q2
/- xs.append(e), list.index on a module's tuple .. are MtR facts of 06m -/
end
end L2

namespace L2
open PySem PySem.Spec PyProof.Rows

def MtM (X : Cx) (id : String) (r : V → List V → Hp → VK → Prop) : Prop :=
  ∀ (pins : List (Addr × Obj)) (s : Shared) (σ : St) (H : Hp) (x : V) (xs : List V) (v : Value) (us : List Value) (Q : VK), Inv X pins σ H s → RelV x v → Vals xs us → r x xs H Q →
    wpAny (model X.prog X.w) X.A (call (.builtin id) (v :: us)) (EP X pins σ Q) X.xe s

/-! ### lists of values -/
theorem Vals.one : ∀ {x : V} {us : List Value}, Vals [x] us → ∃ u, us = [u] ∧ RelV x u
  | _, _, .cons r .nil => ⟨_, rfl, r⟩
theorem Vals.zero : ∀ {us : List Value}, Vals [] us → us = []
  | _, .nil => rfl
theorem Vals.dropLast {xs : List V} {us : List Value} (h : Vals xs us) : Vals xs.dropLast us.dropLast := by
  induction h with
  | nil => exact .nil
  | cons r t ih =>
    cases t with
    | nil => exact .nil
    | cons q t' => exact .cons r ih
theorem Vals.eraseIdx : ∀ {xs : List V} {us : List Value} (i : Nat), Vals xs us → Vals (xs.eraseIdx i) (us.eraseIdx i)
  | _, _, _, .nil => .nil
  | _, _, 0, .cons _ t => t
  | _, _, i + 1, .cons r t => .cons r (Vals.eraseIdx i t)
theorem Vals.rep {xs : List V} {us : List Value} (h : Vals xs us) : ∀ k : Nat, Vals (List.replicate k xs).flatten (List.replicate k us).flatten
  | 0 => .nil
  | k + 1 => by
    rw [List.replicate_succ, List.replicate_succ, List.flatten_cons, List.flatten_cons]
    exact Vals.append h (Vals.rep h k)
theorem erase_last {α : Type} (l : List α) : l.eraseIdx (l.length - 1) = l.dropLast := by
  induction l with
  | nil => rfl
  | cons a r ih =>
    cases r with
    | nil => rfl
    | cons b r =>
      have e : (a :: b :: r).length - 1 = ((b :: r).length - 1) + 1 := by
        have h1 : (a :: b :: r).length = r.length + 2 := rfl
        have h2 : (b :: r).length = r.length + 1 := rfl
        omega
      rw [e, List.eraseIdx_cons_succ, ih]
      all_goals rfl
theorem len_erase {α : Type} : ∀ (l : List α) (i : Nat), (l.eraseIdx i).length ≤ l.length
  | [], _ => Nat.le_refl _
  | _ :: _, 0 => Nat.le_succ _
  | _ :: r, i + 1 => Nat.succ_le_succ (len_erase r i)
theorem foldl_rep (its : List Value) : ∀ (k : Nat) (acc : List Value),
    List.foldl (fun x1 x2 => x1 ++ x2) acc.toArray (List.replicate k its.toArray) = (acc ++ (List.replicate k its).flatten).toArray
  | 0, acc => by simp
  | k + 1, acc => by
    have e : acc.toArray ++ its.toArray = (acc ++ its).toArray := by simp
    have e2 : (acc ++ its) ++ (List.replicate k its).flatten = acc ++ (List.replicate (k + 1) its).flatten := by
      rw [List.replicate_succ, List.flatten_cons, List.append_assoc]
    rw [← e2, ← foldl_rep its k (acc ++ its), ← e, List.replicate_succ, List.foldl_cons]

section
variable {X : Cx} {pins : List (Addr × Obj)} {σ : St} {H : Hp} {s : Shared} {l b : Addr} {xs ys zs : List V}

/-! ### the two steps: a tracked list is rewritten, a new list is laid -/
theorem Inv.lset {its its' : List Value} {n : Nat} {f : Array Value → Array Value} {t' : Nat} (I : Inv X pins σ H s) (hH : H l = some (.lst xs))
    (e : s.heap.get? l = some { cls := .type "list", data := .seq its.toArray n }) (hf : f its.toArray = its'.toArray) (hv : Vals ys its') (hz : ys.length ≤ sizeLine) :
    Inv X pins σ (upd H l (.lst ys)) { s with heap := s.heap.update l (Obj.mapSeq f), toks := t' } := by
  have q := PySem.IsL.update e f
  rw [hf] at q
  refine I.write (x := l) (e := l) (by rw [hH]; exact trivial) (.inl rfl) (fun b' u hb hu => (Heap.get?_update_other s.heap (Obj.mapSeq f) (Ne.symm hb)).trans hu) ⟨_, q⟩ ?_
  exact ⟨hz, its', _, hv, q⟩
theorem Inv.lstM (I : Inv X pins σ H s) (hH : H l = some (.lst xs)) : xs.length ≤ sizeLine ∧ ∃ (its : List Value) (n : Nat), Vals xs its ∧ xs.length = its.length ∧ s.heap.get? l = some { cls := .type "list", data := .seq its.toArray n } := by
  obtain ⟨z, its, n, r, e⟩ := I.hok l _ hH
  exact ⟨z, its, n, r, r.length, e⟩

end

section
variable {X : Cx}

/-! ### methods -/
def rAppend : V → List V → Hp → VK → Prop := fun x vs H Q => ∃ l xs y, x = .ref l ∧ vs = [y] ∧ H l = some (.lst xs) ∧ xs.length < sizeLine ∧ Q .non (upd H l (.lst (xs ++ [y])))
theorem mt_append : MtM X "list.append" rAppend := by
  intro pins s σ H x vs v us Q I rx rv h
  obtain ⟨l, xs, y, rfl, rfl, hH, hz, q⟩ := h
  cases rx
  obtain ⟨u, rfl, ru⟩ := rv.one
  obtain ⟨z, its, n, r, hl, e⟩ := I.lstM hH
  refine call_meets F.slot_list_append ⟨_, e, rfl⟩ F.entry_list_append (F.args_list_append_2 _ _) (PySem.list_append l its.toArray n u (by rw [List.size_toArray]; omega)) ⟨e, ?_⟩
  refine ⟨.non, _, I.lset (its' := its ++ [u]) hH e (by simp) (r.append (.cons ru .nil)) ?_, rfl, q⟩
  rw [List.length_append, List.length_singleton]
  omega

def rPop : V → List V → Hp → VK → Prop := fun x vs H Q => ∃ l xs y, x = .ref l ∧ vs = [] ∧ H l = some (.lst xs) ∧ xs[xs.length - 1]? = some y ∧ Q y (upd H l (.lst xs.dropLast))
theorem mt_pop : MtM X "list.pop" rPop := by
  intro pins s σ H x vs v us Q I rx rv h
  obtain ⟨l, xs, y, rfl, rfl, hH, hy, q⟩ := h
  cases rx
  have hus := rv.zero
  subst hus
  obtain ⟨z, its, n, r, hl, e⟩ := I.lstM hH
  obtain ⟨u, hu, ru⟩ := r.get hy
  have hy' : its.toArray[its.toArray.size - 1]? = some u := by
    show its.toArray[its.length - 1]? = some u
    rw [← Array.getElem?_toList, ← hl]
    exact hu
  refine call_meets F.slot_list_pop ⟨_, e, rfl⟩ F.entry_list_pop (F.args_list_pop_1 _) (MeetsSeq.list_pop_last l its.toArray n u hy' (by rw [List.size_toArray]; omega)) ⟨e, ?_⟩
  refine ⟨y, _, I.lset (its' := its.dropLast) hH e ?_ r.dropLast ?_, ru, q⟩
  · show its.toArray.eraseIdxIfInBounds (its.toArray.size - 1) = its.dropLast.toArray
    rw [List.size_toArray, List.eraseIdxIfInBounds_toArray, erase_last]
  · rw [List.length_dropLast]
    omega

def rPopAt : V → List V → Hp → VK → Prop := fun x vs H Q => ∃ l xs i k y, x = .ref l ∧ vs = [.int i] ∧ H l = some (.lst xs) ∧ -(2 ^ 63) ≤ i ∧ i < 2 ^ 63 ∧ seqIndex? i xs.length = some k ∧ xs[k]? = some y ∧ Q y (upd H l (.lst (xs.eraseIdx k)))
theorem mt_popAt : MtM X "list.pop" rPopAt := by
  intro pins s σ H x vs v us Q I rx rv h
  obtain ⟨l, xs, i, k, y, rfl, rfl, hH, h1, h2, hk, hy, q⟩ := h
  cases rx
  obtain ⟨u, rfl, ru⟩ := rv.one
  obtain ⟨t, rfl⟩ := ru
  obtain ⟨z, its, n, r, hl, e⟩ := I.lstM hH
  obtain ⟨w, hw, rw'⟩ := r.get hy
  refine call_meets F.slot_list_pop ⟨_, e, rfl⟩ F.entry_list_pop (F.args_list_pop_2 _ _)
    (MeetsSeq.list_pop_at l its.toArray n i t k w (fitsIndex_both h1 h2) (by rw [List.size_toArray, ← hl]; exact hk) (by rw [← Array.getElem?_toList]; exact hw) (by rw [List.size_toArray]; omega)) ⟨e, ?_⟩
  refine ⟨y, _, I.lset (its' := its.eraseIdx k) hH e ?_ (r.eraseIdx k) ?_, rw', q⟩
  · show its.toArray.eraseIdxIfInBounds k = (its.eraseIdx k).toArray
    rw [List.eraseIdxIfInBounds_toArray]
  · have := len_erase xs k
    omega

/-! ### list + list, list += list, list * int -/
theorem len_rep {α : Type} (xs : List α) (k : Nat) : (List.replicate k xs).flatten.length = k * xs.length := by
  induction k with
  | zero => simp
  | succ k ih => rw [List.replicate_succ, List.flatten_cons, List.length_append, ih, Nat.succ_mul, Nat.add_comm]
/-! ### del xs[i] -/
end

/-! ### xs[a:b] = ys -/
section
variable {prog : Program} {w : World} {A : Around} {E : Value → Shared → Prop} {s : Shared}
end

section
variable {X : Cx}
end
end L2

namespace Att
open PySem PySem.W PySem.Calls PyProof.Rows

/-! ### the script -/
theorem ints_of_wellAll {P : Params} {h : Heap} : ∀ (ns : List Int) (vs : List Value), WellAll P h vs (ns.map WData.int) → IntsAre vs ns := by
  intro ns
  induction ns with
  | nil =>
    intro vs w
    rw [List.map_nil] at w
    cases w
    exact .nil
  | cons n ns ih =>
    intro vs w
    rw [List.map_cons] at w
    cases w with
    | cons a b =>
      cases a
      exact .cons _ _ (ih _ b)

theorem script_of {l : OpenLaw} {n : Nat} (hn : l.most = some n) {P : Params} {h : Heap} {args : List WData} {vals : List Value}
    (hpre : l.row.toRowW.claim.pre args = true) (hwl : WellAll P h vals args) :
    ∃ a vs ns, vals = [Value.ref a] ∧ args = [WData.list (ns.map WData.int)] ∧ h.get? a = some { cls := .type "list", data := .seq vs.toArray } ∧ IntsAre vs ns ∧ ns.length ≤ n := by
  have hsh : WShape.hasAll [] args [.list .int] = true := (pre_splitW hpre).1
  have hc : l.pre.holds [] { args := args } = true := (pre_splitW hpre).2
  obtain ⟨d, r, rfl, h1, h2⟩ := hasAllW_cons hsh
  obtain rfl := hasAllW_nil h2
  obtain ⟨xs, rfl, h3⟩ := hasW_list h1
  obtain ⟨ns, rfl⟩ := items_int h3
  have hlen : ns.length ≤ n := by
    unfold OpenLaw.pre at hc
    have h4 : (WTm.not (.lt (.lit (.int (n : Int))) (.len (.arg 0)))).holds [] { args := [.list (ns.map .int)] } = true := by
      have h4 := (holds_andW hc).1
      rw [hn] at h4
      exact h4
    have h5 := condW_of h4 (w_not (w_lt w_lit (w_len_list (w_arg rfl))))
    rw [List.length_map] at h5
    refine Nat.le_of_not_lt fun q => ?_
    have q' : (n : Int) < ((ns.length : Nat) : Int) := by omega
    first
      | (rw [decide_eq_true q'] at h5; exact absurd h5 (by decide))
      | (simp at h5; omega)
  cases hwl with
  | cons w1 w2 =>
    cases w2
    cases w1 with
    | list ho hall => exact ⟨_, _, ns, rfl, rfl, ho, ints_of_wellAll ns _ hall, hlen⟩

theorem post_true (l : OpenLaw) (args : List WData) : l.row.toRowW.claim.post args (.bool true) args = true :=
  postW_of (r := l.row.toRowW) (X := (true == true))
    (show WShape.has [] (.bool true) .bool = true by first | rfl | decide | simp [WShape.has, WShape.arms, WShape.armsAll])
    (show (WTm.eq .res (.lit (.bool true))).value [] { args := args, res := some (.bool true), after := args } = some (.bool (true == true)) from w_eq_bool (w_res rfl) w_lit) rfl

/-! ### the attachment: holds_open's last premise (the goal 'hc' behind k_head) from a wpAny of the law's body -/
/-- the same from a codeAny of the CALL (for a layer whose function contracts speak of calls) -/
theorem attach_call {l : OpenLaw} {n : Nat} {q : Program} {loose : List Str} {XP : (Str → Option Value) → Heap → Prop} {YP : World → Heap → Prop} {d : DefRec}
    (hn : l.most = some n) (hdf : d.params.defaults = [])
    (call : ∀ (w : World) (s₀ s₁ : Shared) (mg mb : Str → Option Value) (fa : Addr) (o : Obj) (pm cd doc : Value) (a : Addr) (vs : List Value) (ns : List Int),
      Ground q loose [] XP w s₀ mg mb s₁.heap → YP w s₁.heap →
      s₁.heap.get? fa = some o → o.data = .func (docDef d.name d.params d.body d.scope pm cd doc) → s₁.heap.CodeRec cd d.name → mg d.name = some (.ref fa) →
      s₁.heap.get? a = some { cls := .type "list", data := .seq vs.toArray } → IntsAre vs ns → ns.length ≤ n → s₁.gens = #[] →
      codeAny (model l.prog w) callerA (.call (.ref fa) ⟨[.ref a], []⟩) (fun r s' => r = .ok (.ret (.bool true)) ∧ OldK s₁.heap s'.heap ∧ s'.os = s₁.os ∧ AllBare s'.gens) s₁) :
    WalkO q loose XP YP l.row.toRowW d [] (fun f vs => PySem.call f vs) := by
  intro w s₀ s₁ mg mb G Y fa o pm cd doc dV kV ho hd hcd hD hmg hg args vals as hpre hlay hrd hwl hlo
  obtain rfl : dV = .none := Dflts.none hD hdf
  obtain rfl : kV = .none := Dflts.noKw hD
  obtain ⟨a, vs, ns, rfl, rfl, hobj, hints, hlen⟩ := script_of hn hpre hwl
  refine enter_call (codeAny_mono (call w s₀ s₁ mg mb fa o pm cd doc a vs ns G Y ho (fd_plain hd) hcd hmg hobj hints hlen hg) fun r s' hq => ?_)
  obtain ⟨rfl, h2, h3, h4⟩ := hq
  exact ⟨.inl ⟨.bool true, .bool true, [], rfl, fun _ => rfl, .bool true, post_true l _, fun _ => ⟨List.Pairwise.nil, fun _ hm => (nomatch hm)⟩⟩, h2, h3, h4⟩

/-! ### rules over ANY heap (no ledger) from facts about the written part K: the library's own take a ledger (News) for what they write -/
section
variable {prog : Program} {w : World} {A : Around} {E : Value → Shared → Prop} {s : Shared} {K : Frag}

/-! the whole heap as the ledger: makes every rule that writes through a ledger a rule over any heap -/
def ledger (h : Heap) (L d : Addr) : List (Addr × Obj) := (List.range h.objs.size).filterMap fun a => if a = L ∨ a = d then none else (h.get? a).map fun o => (a, o)
end
end Att

namespace L2
open PySem PySem.Spec PyProof.Rows

theorem vals_ints : ∀ {vs : List Value} {ns : List Int}, IntsAre vs ns → Vals (ns.map V.int) vs
  | _, _, .nil => .nil
  | _, _, .cons n t h => .cons ⟨t, rfl⟩ (vals_ints h)

/-- nothing is tracked but the script, known to the object (or it is an object of the module) -/
def Only (H : Hp) : Prop := ∀ b, H b = none ∨ ∃ o xs, H b = some (.frz o (.lst xs))

/-- THE HEAD: the law's promise, at the heap behind the top. F, the promise of the law's def, may use that base is part of the heap (so K.In base, base.Ns mainGlobals mg stand in Mod) -/
theorem law_call {P : Program} {w : World} {K : PySem.W.Frag} {mg mb : Str → Option Value} {CX : CXT} {k : Nat} {fa a : Addr} {fd : FuncData} {x : Str} {sp : Sp} {s₁ : Shared} {vs : List Value} {ns : List Int}
    (KX : K.In s₁.heap) (hns : s₁.heap.Ns mainGlobals mg) (hb : s₁.heap.Ns builtinsNs mb) (hbb : ∀ x : Str, x ≠ "__name__" → mb x = bootBuiltins x) (hlim : s₁.heap.NoLimit) (hg : s₁.gens = #[])
    (ha : s₁.heap.get? a = some { cls := .type "list", data := .seq vs.toArray }) (hi : IntsAre vs ns) (hl : ns.length ≤ sizeLine) (hr : Room k callerA)
    (F : ∀ base : Heap, K.In base → base.Ns mainGlobals mg → FnOk P w K mg base CX k fa fd [x] sp) (hbind : ∀ (s : Shared) (u : Value), BindsTo s fd ⟨[u], []⟩ [(x, u)])
    (hsp : ∀ H : Hp, Only H → SqL K H a (ns.map V.int) → sp [.ref a] H (fun v _ => v = .bl true) fun _ _ _ => False)
    (hCX : ∀ H e s', CX [] H s₁ (fun _ _ _ => False) e s' → False) :
    codeAny (model P w) callerA (.call (.ref fa) ⟨[.ref a], []⟩) (fun r s' => r = .ok (.ret (.bool true)) ∧ OldK s₁.heap s'.heap ∧ s'.os = s₁.os ∧ AllBare s'.gens) s₁ := by
  have rv := vals_ints hi
  have lenV := hi.length
  -- from an abstract heap in which nothing but the script may be tracked
  have core : ∀ H : Hp, Only H → SqL K H a (ns.map V.int) → HOk P w H s₁.heap → (∀ b, H b ≠ none → b = a) → (H a ≠ none → K.lookup a = none) →
      codeAny (model P w) callerA (.call (.ref fa) ⟨[.ref a], []⟩) (fun r s' => r = .ok (.ret (.bool true)) ∧ OldK s₁.heap s'.heap ∧ s'.os = s₁.os ∧ AllBare s'.gens) s₁ := by
    intro H hO hS hok hA hK
    have base_of : ∀ {b : Addr} {o : Obj}, s₁.heap.get? b = some o → H b = none → (hidT s₁.heap H).get? b = some o := fun e n => hidT_get e n
    have noA : ∀ {b : Addr} {o : Obj} {es : Array DictEntry} {ep : Nat}, s₁.heap.get? b = some o → o.data = .dict es ep → H b = none := fun {b o es ep} e d => by
      cases q : H b with
      | none => rfl
      | some u =>
        have e' : b = a := hA b (by rw [q]; simp)
        subst e'
        rw [ha] at e; cases e
        have d' : Data.seq vs.toArray _ = Data.dict es ep := d
        cases d'
    have nsK : ∀ {b : Addr} {m : Str → Option Value}, s₁.heap.Ns b m → (hidT s₁.heap H).Ns b m := fun {b m} ⟨o, es, ep, e, d, r⟩ => ⟨o, es, ep, base_of e (noA e d), d, r⟩
    have hKb : K.In (hidT s₁.heap H) := fun b o e => base_of (KX b o e) (by
      cases q : H b with
      | none => rfl
      | some u =>
        have e' : b = a := hA b (by rw [q]; simp)
        subst e'
        rw [hK (by rw [q]; simp)] at e; cases e)
    have hM : Mod K mg (hidT s₁.heap H) := ⟨hKb, nsK hns, ⟨mb, nsK hb, hbb⟩, let ⟨mc, h1, h2⟩ := hlim; ⟨mc, nsK h1, h2⟩⟩
    have e0 : Env0 P w K mg (hidT s₁.heap H) callerA [] s₁ H := ⟨rfl, hM, fun b o e => of_hidT e, Nat.le_of_eq (hidT_size _ _), trivial, fun b hb => absurd (show b ∈ ([] : List Addr) from hb) (by simp), hok, .of_eq hg⟩
    refine codeAny_mono ((F _ hKb (nsK hns)).run callerA [] s₁ H ⟨[.ref a], []⟩ [.ref a] [.ref a] _ _ hr e0 (hbind s₁ (.ref a)) (.cons rfl .nil) (hsp H hO hS)) fun r s' h => ?_
    cases r with
    | error e => exact (hCX H e s' h).elim
    | ok fl =>
      cases fl with
      | next => exact False.elim h
      | brk => exact False.elim h
      | cont => exact False.elim h
      | ret u =>
        obtain ⟨v, H', os, bare, un, hok', r', q⟩ := h
        have q' : v = .bl true := q
        subst q'
        obtain rfl : u = Value.bool true := r'
        refine ⟨rfl, OldK.of_keep fun b o e => ?_, os, bare⟩
        cases q : H b with
        | none => exact un.keep b o e q (by intro z; exact absurd (show b ∈ ([] : List Addr) from z) (by simp)) (by simp)
        | some u =>
          rcases hO b with z | ⟨ob, xs, z⟩
          · rw [q] at z; cases z
          · have z2 := un.frzs b ob _ z
            obtain ⟨e1, _⟩ := hok b _ z
            obtain ⟨e2, _⟩ := hok' b _ z2
            rw [e] at e1; cases e1
            exact e2
  cases hk : K.lookup a with
  | some o =>
    -- the script is one of the module's own objects
    have e := KX a o hk
    rw [ha] at e
    cases e
    refine core (fun _ => none) (fun _ => .inl rfl) (.inr ⟨_, vs.toArray, _, hk, rfl, rfl, rfl, by rw [List.size_toArray, lenV]; exact hl, by simpa using rv⟩) (fun b u z => by have z' : (none : Option HO) = some u := z; cases z') (fun b z => absurd rfl z) fun z => absurd rfl z
  | none =>
    refine core (fun b => if b = a then some (.frz { cls := .type "list", data := .seq vs.toArray } (.lst (ns.map V.int))) else none) (fun b => ?_) (.inl (.inr ⟨{ cls := .type "list", data := .seq vs.toArray }, if_pos rfl⟩)) (fun b u z => ?_) (fun b z => ?_) fun _ => hk
    · by_cases hb : b = a
      · exact .inr ⟨_, _, if_pos hb⟩
      · exact .inl (if_neg hb)
    · by_cases hb : b = a
      · have z' := (if_pos hb).symm.trans z
        cases z'
        subst hb
        exact ⟨ha, by rw [List.length_map]; exact hl, vs, _, rv, ha⟩
      · have z' := (if_neg hb).symm.trans z
        cases z'
    · by_cases hb : b = a
      · exact hb
      · exact absurd (if_neg hb) z
end L2

namespace L2
open PySem PySem.Spec PyProof.Rows

abbrev KOf {K : PySem.W.Frag} {h : Heap} (_ : K.In h) : PySem.W.Frag := K

/-- the goal that k_head leaves (case hc), from the law's promise. F gives the function object fd (K's own) once, then the promise over every base -/
theorem walk_of {l : PySem.W.OpenLaw} {n k : Nat} {q : Program} {loose : List Str} {XP : (Str → Option Value) → Heap → Prop} {YP : World → Heap → Prop} {d : DefRec} {K : Params → PySem.W.Frag} {CX : World → CXT} {sp : World → Sp} {x : Str}
    (hn : l.most = some n) (hn2 : n ≤ sizeLine) (hdf : d.params.defaults = []) (hr : Room k callerA)
    (hY : ∀ (w : World) (h : Heap), YP w h → (K w.params).In h)
    (F : ∀ (w : World) (mg : Str → Option Value) (fa : Addr) (h : Heap), (K w.params).In h → h.Ns mainGlobals mg → mg d.name = some (.ref fa) →
      ∃ fd : FuncData, (∀ (s : Shared) (u : Value), BindsTo s fd ⟨[u], []⟩ [(x, u)]) ∧
        ∀ base : Heap, (K w.params).In base → base.Ns mainGlobals mg → FnOk l.prog w (K w.params) mg base (CX w) k fa fd [x] (sp w))
    (hsp : ∀ (w : World) (H : Hp) (a : Addr) (ns : List Int), ns.length ≤ n → Only H → SqL (K w.params) H a (ns.map V.int) → sp w [.ref a] H (fun v _ => v = .bl true) fun _ _ _ => False)
    (hCX : ∀ (w : World) (H : Hp) (s : Shared) (e : Value) (s' : Shared), CX w [] H s (fun _ _ _ => False) e s' → False) :
    PySem.W.WalkO q loose XP YP l.row.toRowW d [] (fun f vs => PySem.call f vs) := by
  refine Att.attach_call hn hdf fun w s₀ s₁ mg mb fa o pm cd doc a vs ns G Y ho hd hcd hmg hobj hints hlen hg => ?_
  have KX := hY w _ Y
  obtain ⟨fd, hb, hF⟩ := F w mg fa _ KX G.T.g hmg
  exact law_call KX G.T.g G.T.b G.T.builtins G.T.nolimit hg hobj hints (Nat.le_trans hlen hn2) hr hF hb (fun H hO hS => hsp w H a ns hlen hO hS) fun H e s' => hCX w H s₁ e s'
end L2


/-! SHORT WORDS over the layer: a def of the text, its body, what a loop and a test want. -/
namespace L2
open PySem PySem.Spec PyProof.Rows

/-! ### the text by places -/
/-- the j-th statement of a class's body -/
def inClass (s : Stmt) (j : Nat) : Stmt := match s with
  | .ClassDef _ _ _ body _ _ _ _ _ _ _ => body.getD j (.Pass ⟨0, 0, 0, 0⟩)
  | _ => .Pass ⟨0, 0, 0, 0⟩
def defArgs (s : Stmt) : Arguments := match s with
  | .FunctionDef _ a _ _ _ _ _ _ _ _ => a
  | _ => { posonlyargs := [], args := [], vararg := none, kwonlyargs := [], kw_defaults := [], kwarg := none, defaults := [] }
def defBody (s : Stmt) : List Stmt := match s with
  | .FunctionDef _ _ b _ _ _ _ _ _ _ => b
  | _ => []
def defScope (s : Stmt) : Scope := match s with
  | .FunctionDef _ _ _ _ _ _ sc _ _ _ => sc
  | _ => { kind := .function, names := [], isGenerator := false, isCoroutine := false }

/-! ### no exception leaves a def -/
abbrev CX0 : CXT := fun _ _ _ _ _ _ => False
abbrev E0 : XK := fun _ _ _ => False
theorem pass0 {X : Cx} : Passes CX0 X E0 := fun _ _ _ _ _ _ _ h => h.elim

/-! ### a def (or method) of the text as it stands behind the top -/
structure Fun (K : PySem.W.Frag) (x qual : Str) (st : Stmt) (f : Addr) (fd : FuncData) : Prop where
  ex : ∃ (oc : Value) (od : Option Addr) (kV doc pm : Value) (an : Option Addr) (cdv ct : Value) (osl : Array (Option Value)),
    fd = PySem.W.fnOf x qual (defArgs st) (defBody st) (defScope st) .none kV doc pm an cdv ct ∧ K.lookup f = some ⟨oc, od, .func fd, osl⟩ ∧ PySem.W.codeIn K cdv qual = true
  kp : PySem.W.keepIn K (.ref f) = true
section
variable {P : Program} {w : World} {K : PySem.W.Frag} {mg : Str → Option Value} {base : Heap}
/-- THE RULE for a def: its body as a term of rules, and the reading of that term -/
theorem Fun.ok {x qual : Str} {st : Stmt} {f : Addr} {fd : FuncData} {N ps : List Str} {k : Nat} {sp : Sp} (F : Fun K x qual st f fd) (S : FnScope N ps (defScope st)) (len : ∀ vs H Q E, sp vs H Q E → vs.length = ps.length)
    (hbody : ∀ (cdv : Value) (A : Around) (outer : List Env) (s : Shared) (H : Hp) (vs : List V) (Q : VK) (E : XK), Room k (A.deeper (envOfC qual (defScope st) s.heap.objs.size f cdv)) → sp vs H Q E →
      ∃ t, PSs (cxOf CX0 P w K mg base N qual (defScope st) f cdv A outer s H E).nox (defBody st) t ∧ t { nx := fun _ H' => Q .non H', rt := Q } (start N vs) H) : FnOk P w K mg base CX0 (k + 1) f fd ps sp := by
  obtain ⟨oc, od, kV, doc, pm, an, cdv, ct, osl, rfl, lk, hcd⟩ := F.ex
  refine fn_of lk hcd S len fun A outer s H vs Q E hr hsp => ?_
  obtain ⟨t, h, q⟩ := hbody cdv A outer s H vs Q E hr hsp
  exact ⟨t, h.nox, q⟩
/-- how its arguments bind (no defaults): h is «fun _ _ _ _ _ _ us hl => match us, hl with | [_, _], _ => rfl», one _ a parameter -/
theorem Fun.binds {x qual : Str} {st : Stmt} {f : Addr} {fd : FuncData} {ps : List Str} (F : Fun K x qual st f fd)
    (h : ∀ (kV doc pm : Value) (an : Option Addr) (cdv ct : Value) (us : List Value), us.length = ps.length → bindArgs (PySem.W.fnOf x qual (defArgs st) (defBody st) (defScope st) .none kV doc pm an cdv ct) ⟨us, []⟩ = pure (ps.zip us)) : Binds K fd ps [] := by
  obtain ⟨oc, od, kV, doc, pm, an, cdv, ct, osl, rfl, lk, hcd⟩ := F.ex
  exact .all (h kV doc pm an cdv ct)
theorem fun_mk {x qual : Str} {st : Stmt} {f : Addr} {oc : Value} {od an : Option Addr} {osl : Array (Option Value)} {kV doc pm cdv ct : Value} (l : K.lookup f = some ⟨oc, od, .func (PySem.W.fnOf x qual (defArgs st) (defBody st) (defScope st) .none kV doc pm an cdv ct), osl⟩)
    (c : PySem.W.codeIn K cdv qual = true) (k : PySem.W.keepIn K (.ref f) = true) : Fun K x qual st f (PySem.W.fnOf x qual (defArgs st) (defBody st) (defScope st) .none kV doc pm an cdv ct) := ⟨⟨oc, od, kV, doc, pm, an, cdv, ct, osl, rfl, l, c⟩, k⟩
end
theorem small1000 {n : Nat} (h : n ≤ 1000) : n < sizeLine := Nat.lt_of_le_of_lt h (by decide)

/-! ### expressions in short: the name that stands in the i-th slot -/
section
variable {X : Cx}
theorem pv (i : Nat) {x : Str} {pos : Pos} (hN : X.N[i]? = some x := by rfl) (hv : Vis X.env.scope x := by first | exact Or.inl rfl | exact Or.inr (Or.inl rfl) | exact Or.inr (Or.inr rfl)) (hd : (x == ("__debug__" : Str)) = false := by decide)
    (hcd : (x == ("__classdict__" : Str)) = false := by decide) : PE X (.Name x pos) (tVar i) := pe_var hN hv hd hcd
end

/-! ### tests -/
theorem iteF {A B : Prop} (h : B) : if false = true then A else B := by
  rw [if_neg Bool.false_ne_true]
  exact h
theorem iteT {A B : Prop} (h : A) : if true = true then A else B := by
  rw [if_pos rfl]
  exact h
theorem ite2 {c A B : Prop} [Decidable c] (h1 : c → A) (h2 : ¬ c → B) : if c then A else B := by
  by_cases h : c
  · rw [if_pos h]
    exact h1 h
  · rw [if_neg h]
    exact h2 h
/-! ### heaps -/
/-- all that was tracked is as it was -/
def Same (H H' : Hp) : Prop := ∀ b o, H b = some o → H' b = some o
theorem Same.trans {H H1 H2 : Hp} (a : Same H H1) (b : Same H1 H2) : Same H H2 := fun c o h => b c o (a c o h)
theorem Same.free {H H' : Hp} (e : Same H H') {l : Addr} (h : H' l = Option.none) : H l = Option.none := by
  cases q : H l with
  | none => rfl
  | some o =>
    rw [e l o q] at h
    cases h
end L2

set_option maxRecDepth 100000
namespace L2
open PySem PySem.Spec PyProof.Rows

/-! ### a list comprehension of one clause -/
def clStep (cells : List (Str × Addr)) (cs : List (Str × Addr)) (p : Str × NameKind) : List (Str × Addr) :=
  if (p.2 == .free) = true then (match cells.lookup p.1 with | some c => (p.1, c) :: cs | none => cs) else cs
def clOf (names : List (Str × NameKind)) (cells : List (Str × Addr)) : List (Str × Addr) := names.foldl (clStep cells) []
theorem forIn_fold {α β : Type} {l : List α} {f : α → β → Sem (ForInStep β)} (g : β → α → β) : ∀ (c : β), (∀ x ∈ l, ∀ c, f x c = pure (.yield (g c x))) → forIn l c f = pure (l.foldl g c) := by
  induction l with
  | nil => intro c _; rfl
  | cons x l ih =>
    intro c h
    rw [List.forIn_cons, h x List.mem_cons_self, pure_bind]
    exact ih _ fun y hy => h y (List.mem_cons_of_mem _ hy)
theorem closureFor_of {scope : Scope} {env : Env} (h : ∀ p ∈ scope.names, p.2 = .free → ∃ c, env.cells.lookup p.1 = some c) : closureFor scope env = pure (clOf scope.names env.cells) := by
  simp only [closureFor]
  rw [forIn_fold (clStep env.cells) [] (fun p hp c => by
    obtain ⟨n, k⟩ := p
    by_cases hk : k = .free
    · subst hk
      obtain ⟨a, e⟩ := h _ hp rfl
      have e' : env.cells.lookup n = some a := e
      simp [clStep, cellOf, e']
    · have hb : (k == NameKind.free) = false := by simpa using hk
      simp [clStep, hb])]
  rfl
theorem clStep_sub {cells : List (Str × Addr)} {cs : List (Str × Addr)} {p : Str × NameKind} (h : ∀ y c, cs.lookup y = some c → cells.lookup y = some c) : ∀ y c, (clStep cells cs p).lookup y = some c → cells.lookup y = some c := by
  intro y c e
  unfold clStep at e
  split at e
  · split at e
    · rename_i c' hc'
      rw [List.lookup_cons] at e
      split at e
      · rename_i hy
        have : y = p.1 := by simpa using hy
        rw [this, hc']
        exact e
      · exact h y c e
    · exact h y c e
  · exact h y c e
theorem clOf_sub (names : List (Str × NameKind)) (cells : List (Str × Addr)) : ∀ y c, (clOf names cells).lookup y = some c → cells.lookup y = some c := by
  have all : ∀ (names : List (Str × NameKind)) (cs : List (Str × Addr)), (∀ y c, cs.lookup y = some c → cells.lookup y = some c) → ∀ y c, (names.foldl (clStep cells) cs).lookup y = some c → cells.lookup y = some c := by
    intro names
    induction names with
    | nil => intro cs h; exact h
    | cons p r ih => intro cs h; exact ih _ (clStep_sub h)
  exact all names [] (fun y c e => by simp at e)
theorem clStep_keep {cells cs : List (Str × Addr)} {p : Str × NameKind} {y : Str} (h : (cs.lookup y).isSome = true) : ((clStep cells cs p).lookup y).isSome = true := by
  unfold clStep
  split
  · split
    · rw [List.lookup_cons]
      split
      · rfl
      · exact h
    · exact h
  · exact h
theorem clOf_has {names : List (Str × NameKind)} {cells : List (Str × Addr)} {y : Str} {c : Addr} (hm : (y, NameKind.free) ∈ names) (hc : cells.lookup y = some c) : ∃ c, (clOf names cells).lookup y = some c := by
  have kp : ∀ (names : List (Str × NameKind)) (cs : List (Str × Addr)), (cs.lookup y).isSome = true → ((names.foldl (clStep cells) cs).lookup y).isSome = true := by
    intro names
    induction names with
    | nil => intro cs h; exact h
    | cons p r ih => intro cs h; exact ih _ (clStep_keep h)
  have all : ∀ (names : List (Str × NameKind)) (cs : List (Str × Addr)), (y, NameKind.free) ∈ names → ((names.foldl (clStep cells) cs).lookup y).isSome = true := by
    intro names
    induction names with
    | nil => intro cs h; cases h
    | cons p r ih =>
      intro cs h
      rcases List.mem_cons.mp h with e | h
      · subst e
        refine kp r _ ?_
        unfold clStep
        simp [hc]
      · exact ih _ h
  exact Option.isSome_iff_exists.mp (all names [] hm)
theorem lookup_relabel (env : Env) : ∀ (names : List (Str × NameKind)) (y : Str),
    (names.map fun (n, k) => if (k == NameKind.free && env.scope.kind == .function && env.kindOf n == some .cell) then (n, NameKind.cell) else (n, k)).lookup y =
      (names.lookup y).map fun k => if (k == NameKind.free && env.scope.kind == .function && env.kindOf y == some .cell) then NameKind.cell else k
  | [], _ => rfl
  | (n, k) :: r, y => by
    have ih := lookup_relabel env r y
    show List.lookup y ((if (k == NameKind.free && env.scope.kind == .function && env.kindOf n == some .cell) = true then (n, NameKind.cell) else (n, k)) :: _) = _
    cases hx : y == n with
    | true =>
      have e : y = n := by simpa using hx
      subst e
      by_cases hc : (k == NameKind.free && env.scope.kind == .function && env.kindOf y == some .cell) = true
      · rw [if_pos hc]; simp only [List.lookup_cons, hx, Option.map_some]; rw [if_pos hc]
      · rw [if_neg hc]; simp only [List.lookup_cons, hx, Option.map_some]; rw [if_neg hc]
    | false =>
      by_cases hc : (k == NameKind.free && env.scope.kind == .function && env.kindOf n == some .cell) = true
      · rw [if_pos hc]; simp only [List.lookup_cons, hx]; exact ih
      · rw [if_neg hc]; simp only [List.lookup_cons, hx]; exact ih

/-! ### a comprehension whose name is a name of the def too: that one is hidden -/
/-- the context of a comprehension's block: its own name first, then the def's -/
def blk3 (X : Cx) (N' : List Str) (scope : Scope) (x : Str) (C : Addr) (s : Shared) (H : Hp) (ex : List Addr) : Cx :=
  { X with N := x :: N', s₀ := s, H₀ := H, env := compEnvC scope (clOf scope.names X.env.cells) C X.env, outer := X.stack, ex := ex, fn := fun _ => false, pn := [], xe := fun _ _ => False }
/-- what a comprehension's scope keeps to -/
structure CScope3 (x : Str) (N N' : List Str) (osc scope : Scope) : Prop where
  kind : scope.kind = .function
  nd : (x :: N').Nodup
  own : scope.names.lookup x = some .local
  nocell : ∀ y ∈ scope.names, y.2 ≠ .cell
  names : ∀ y ∈ scope.names, y.2 = .local → scope.names.lookup y.1 = some .local
  free : ∀ y ∈ scope.names, y.2 = .free → osc.names.lookup y.1 = some .cell
  nol : ∀ y ∈ N', scope.names.lookup y ≠ some .local
  len : N'.length = N.length
  hid : ∀ p ∈ N'.zip N, p.1 = p.2 ∨ scope.names.lookup p.1 = none

section
variable {X : Cx} {N' : List Str} {pins : List (Addr × Obj)} {σ : St} {H : Hp} {s : Shared}
theorem CScope3.has {x : Str} {scope : Scope} (S : CScope3 x X.N N' X.env.scope scope) (ok : X.Ok) : ∀ p ∈ scope.names, p.2 = .free → ∃ c, X.env.cells.lookup p.1 = some c := fun p hp hk =>
  ok.has p.1 (.inl (S.free p hp hk))
theorem blk3_vis {x y : Str} {scope : Scope} {C : Addr} {H₀ : Hp} {ex : List Addr} (S : CScope3 x X.N N' X.env.scope scope) (ok : X.Ok) (hk : (blk3 X N' scope x C s H₀ ex).env.kindOf y = some .cell ∨ (blk3 X N' scope x C s H₀ ex).env.kindOf y = some .free) :
    X.env.kindOf y = some .cell ∧ ∃ c, (clOf scope.names X.env.cells).lookup y = some c := by
  have e : (blk3 X N' scope x C s H₀ ex).env.kindOf y = (scope.names.lookup y).map fun k => if (k == NameKind.free && X.env.scope.kind == .function && X.env.kindOf y == some .cell) then NameKind.cell else k := lookup_relabel X.env scope.names y
  rw [e] at hk
  cases q : scope.names.lookup y with
  | none => rw [q] at hk; simp at hk
  | some k =>
    rw [q] at hk
    have hm := PySem.mem_of_lookup q
    have hfree : k = .free := by
      cases k with
      | free => rfl
      | cell => exact absurd rfl (S.nocell _ hm)
      | _ => simp at hk
    subst hfree
    have h1 := S.free _ hm rfl
    obtain ⟨c, hc⟩ := ok.has y (.inl h1)
    exact ⟨h1, clOf_has hm hc⟩
theorem blk3_start {x : Str} {scope : Scope} {C acc : Addr} {fp : List Addr} {h' : Heap} {t' : Nat} {m : Str → Option Value} (S : CScope3 x X.N N' X.env.scope scope) (I : Inv X pins σ H s) (hf : ∀ b ∈ fp, FpOk X pins H b) (ho : ∀ b ∈ fp, ∃ o, s.heap.get? b = some o)
    (hC : s.heap.objs.size ≤ C) (hn : h'.Ns C m) (old : ∀ b o, s.heap.get? b = some o → h'.get? b = some o) : Inv (blk3 X N' scope x C s H fp) [] (none :: σ) H { s with heap := h', toks := t' } := by
  have sub := clOf_sub scope.names X.env.cells
  refine ⟨⟨I.ok.mod, S.kind, I.ok.glob, I.ok.blt, hC, fun y z c h1 h2 => I.ok.inj y z c (sub _ _ h1) (sub _ _ h2), fun y hy => (blk3_vis S I.ok hy).2, fun y c z _ => absurd (show false = true from z) Bool.false_ne_true, I.ok.hd, I.ok.frames, .inl rfl, fun b hb => ⟨?_, fun y c e => ?_⟩, I.bs, Nat.le_trans I.ok.bsz I.sz, fun b o e hb => ?_, fun b hb z => ?_, I.stack, I.stkFree⟩,
    rfl, I.bare, Un.kept old, ⟨m, hn, fun i y v h1 h2 h3 => ?_⟩, fun y c e => ?_, I.hok.fresh hC, fun y c e => I.freeC y c (sub _ _ e), fun p hp => absurd (show p ∈ ([] : List (Addr × Obj)) from hp) (by simp), I.hok.kept old, ?_⟩
  · obtain ⟨o, e⟩ := ho b hb
    exact Nat.ne_of_lt (Nat.lt_of_lt_of_le (Heap.lt_size e) hC)
  · exact (hf b hb).2.2.2.2.1 y c (sub _ _ e)
  · rcases (hf b hb).2.2.2.1 with z | z
    · exact I.ok.noex b o e z
    · exact absurd (Nat.lt_of_lt_of_le (Heap.lt_size e) (Nat.le_trans I.ok.bsz z)) (Nat.lt_irrefl _)
  · rcases List.mem_cons.mp (I.stkSub b z) with e | e
    · exact (hf b hb).2.1 e
    · exact (hf b hb).2.2.1 e
  · cases i with
    | zero => simp at h2
    | succ i =>
      have h0' : N'[i]? = some y := h1
      have h2' : σ[i]? = some (some v) := by simpa using h2
      have hk : (blk3 X N' scope x C s H fp).env.kindOf y = some .cell ∨ (blk3 X N' scope x C s H fp).env.kindOf y = some .free := by
        rcases h3 with h3 | h3
        · exfalso
          have e : (blk3 X N' scope x C s H fp).env.kindOf y = (scope.names.lookup y).map fun k => if (k == NameKind.free && X.env.scope.kind == .function && X.env.kindOf y == some .cell) then NameKind.cell else k := lookup_relabel X.env scope.names y
          have h3' : (blk3 X N' scope x C s H fp).env.kindOf y = some .local := h3
          rw [e] at h3'
          cases q : scope.names.lookup y with
          | none => rw [q] at h3'; cases h3'
          | some k =>
            rw [q] at h3'
            rw [Option.map_some] at h3'
            split at h3'
            · cases h3'
            · cases h3'
              exact S.nol y (List.mem_of_getElem? h0') q
        · exact h3
      obtain ⟨hk1, c, hc⟩ := blk3_vis S I.ok hk
      have h1' : X.N[i]? = some y := by
        have hlt : i < N'.length := (List.getElem?_eq_some_iff.mp h0').1
        have hlt2 : i < X.N.length := by rw [← S.len]; exact hlt
        have hz : (y, X.N[i]) ∈ N'.zip X.N := by
          refine List.mem_iff_getElem?.mpr ⟨i, ?_⟩
          rw [List.getElem?_zip_eq_some]
          exact ⟨h0', List.getElem?_eq_getElem hlt2⟩
        rcases S.hid _ hz with e | e
        · have e' : y = X.N[i] := e
          rw [List.getElem?_eq_getElem hlt2, ← e']
        · exfalso
          have e' : scope.names.lookup y = none := e
          have e2 : (blk3 X N' scope x C s H fp).env.kindOf y = (scope.names.lookup y).map fun k => if (k == NameKind.free && X.env.scope.kind == .function && X.env.kindOf y == some .cell) then NameKind.cell else k := lookup_relabel X.env scope.names y
          rw [e2, e'] at hk
          rcases hk with hk | hk <;> cases hk
      obtain ⟨m1, hn1, hl⟩ := I.loc
      obtain ⟨u, r, l⟩ := hl i y v h1' h2' (.inr (.inl hk1))
      refine ⟨u, r, .inr ⟨hk, c, hc, ?_⟩⟩
      rcases l with ⟨l, _⟩ | ⟨_, c', hc', z⟩
      · rw [hk1] at l; cases l
      · have := sub _ _ hc
        rw [hc'] at this
        cases this
        obtain ⟨o, e, d⟩ := z
        exact ⟨o, old _ _ e, d⟩
  · obtain ⟨v, o, e1, d⟩ := I.cell y c (sub _ _ e)
    exact ⟨v, o, old _ _ e1, d⟩
  · show (none :: σ).length = (x :: N').length
    simp [I.len, S.len]
/-- the tests of a clause -/
def PTs (X : Cx) (ifs : List Expr) (t : TT) : Prop :=
  ∀ (pins : List (Addr × Obj)) (s : Shared) (σ : St) (H : Hp) (Q : Bool → Hp → Prop), Inv X pins σ H s → t σ H Q →
    wpAny (model X.prog X.w) X.A (forIn ifs true fun c r => if r = true then do let ok ← isTrue c X.env (eval c X.env); pure (ForInStep.yield ok) else pure (ForInStep.yield r)) (TP X pins σ Q) X.xe s
def tYes : TT := fun _ H Q => Q true H
theorem pts_nil : PTs X [] tYes := fun _ _ _ H _ I h => wpAny_tests_nil ⟨H, I, h⟩
theorem pts_one {c : Expr} {t : TT} (h : PT X c t) : PTs X [c] t := fun pins s σ H Q I hq => wpAny_tests_one (h pins s σ H Q I hq)
/-- W: turn, measure, items so far, heap; N: what a turn is to reach -/
def LCW (J : It) (σ : St) (tt : TT) (te : TE) (Fin : List V → Hp → Prop) (H1 : Hp) : Prop := ∃ W : Nat → Nat → List V → Hp → Prop, (∃ m, W 0 m [] H1) ∧ ∀ i m ys H, W i m ys H →
  (J.stop i H ∧ Fin ys H) ∨ (J.go i H ∧ ys.length < sizeLine ∧ ∃ N : List V → Hp → Prop, (∀ ys' H', N ys' H' → ∃ m', m' < m ∧ W (i + 1) m' ys' H') ∧ ∀ x H', J.yld i H x H' → tt (some x :: σ) H' fun b H2 =>
    if b = true then te (some x :: σ) H2 fun y H3 => N (ys ++ [y]) H3 else N ys H2)
def tLC (wi : TI) (tt : TT) (te : TE) : TE := fun σ H Q => wi σ H fun J H1 => LCW J σ tt te (fun ys H => ∀ l, H l = none → Q (.ref l) (upd H l (.lst ys))) H1
theorem comp_core3 {elt iter : Expr} {x : Str} {px pos : Pos} {scope : Scope} {ifs : List Expr} {tt : TT} {te : TE} {s2 : Shared} {it : Addr} {fp : List Addr} {tn : Nat → Heap → Prop} {J : It} {H2 : Hp} {E : Value → Shared → Prop} {Fin : List V → Hp → Prop} {RR : Value → Addr → Result → Shared → Prop}
    (hc : X.calm = true) (S : CScope3 x X.N N' X.env.scope scope) (I2 : Inv X pins σ H2 s2) (T : Turn X.prog X.w X.K (.Name x px) J fp it tn) (st2 : tn 0 s2.heap) (f2 : ∀ b ∈ fp, FpOk X pins H2 b) (hw : LCW J σ tt te Fin H2)
    (ht : ∀ C s H ex, PTs (blk3 X N' scope x C s H ex) ifs tt) (he : ∀ C s H ex, PE (blk3 X N' scope x C s H ex) elt te)
    (hRR : ∀ D C s4 ys H3 m5, Inv X pins σ (upd H3 D (.lst ys)) s4 → s4.heap.Ns C m5 → FpOk X pins (upd H3 D (.lst ys)) C → H3 D = none → Fin ys H3 → RR (.ref D) C (.ok .next) s4) :
    wpAny (model X.prog X.w) X.A (newList []) (fun acc s₃ => wpAny (model X.prog X.w) X.A (newFunctionEnv scope X.env.globals (clOf scope.names X.env.cells) [] X.env.qual none .none (some X.env)) (fun cenv s₄ =>
      codeAny (model X.prog X.w) X.A (.compStart (.ListComp elt [⟨.Name x px, iter, ifs, 0⟩] scope pos) 0 (.ref it) acc { cenv with scope := relabel scope X.env }) (RR acc cenv.locals) s₄) E s₃) E s2 := by
  obtain ⟨W, ⟨m0, w0⟩, turn⟩ := hw
  have hob := T.obj 0 s2.heap st2
  refine wpAny_newObj_type (wpAny_newFunctionEnv S.nocell (by intro y hy; simp at hy) (fun h₁ hns₁ hsb₁ => ?_) S.kind)
  dsimp only at hns₁ hsb₁ ⊢
  generalize hG2 : s2.heap.push { cls := .type "list", dict := none, data := .seq ([] : List Value).toArray } = G2 at hns₁ hsb₁ ⊢
  have hC : G2.objs.size = s2.heap.objs.size + 1 := by rw [← hG2, Heap.size_push]
  have hDC : s2.heap.objs.size ≠ G2.objs.size := by rw [hC]; exact Nat.ne_of_lt (Nat.lt_succ_self _)
  have hCle : s2.heap.objs.size ≤ G2.objs.size := by rw [hC]; exact Nat.le_succ _
  have below : ∀ b, b < s2.heap.objs.size → b ≠ G2.objs.size ∧ b ≠ s2.heap.objs.size := fun b hb => ⟨by rw [hC]; exact Nat.ne_of_lt (Nat.lt_succ_of_lt hb), Nat.ne_of_lt hb⟩
  have old : ∀ b o, s2.heap.get? b = some o → h₁.get? b = some o := fun b o e => hsb₁.extBut b o (below b (Heap.lt_size e)).1 (Heap.get?_push_of_some _ (hG2 ▸ Heap.get?_push_of_some _ e))
  have hacc : h₁.get? s2.heap.objs.size = some { cls := .type "list", data := .seq ([] : List Value).toArray 0 } := hsb₁.extBut _ _ hDC (Heap.get?_push_of_some _ (hG2 ▸ Heap.get?_push_size _ rfl))
  generalize hD : s2.heap.objs.size = D at *
  generalize hCC : G2.objs.size = C at *
  have hDf : D ∉ fp := fun hm => by
    obtain ⟨o, e, _⟩ := hob D hm
    exact absurd (Heap.lt_size e) (by rw [hD]; exact Nat.lt_irrefl _)
  have I4 : Inv (blk3 X N' scope x C s2 H2 fp) [] (none :: σ) H2 { s2 with heap := h₁, toks := s2.toks + ([] : List (Str × Value)).length } :=
    blk3_start (acc := D) S I2 f2 (fun b hb => let ⟨o, e, _⟩ := hob b hb; ⟨o, e⟩) (by omega) hns₁ old
  have hDn : ∀ {σ' : St} {H' : Hp} {s' : Shared}, Inv (blk3 X N' scope x C s2 H2 fp) [] σ' H' s' → (∀ b ∈ fp, H' b = none) → ∀ b ∈ fp, FpOk (blk3 X N' scope x C s2 H2 fp) [] H' b := fun {σ' H' s'} I' hn b hb => by
    refine ⟨hn b hb, (I'.ok.exf b hb).1, I'.ok.exfs b hb, .inl hb, fun y c e => (I'.ok.exf b hb).2 y c e, fun p hp => absurd (show p ∈ ([] : List (Addr × Obj)) from hp) (by simp)⟩
  have hDfp : ∀ {σ' : St} {H' : Hp} {s' : Shared}, Inv (blk3 X N' scope x C s2 H2 fp) [] σ' H' s' → H' D = none → FpOk (blk3 X N' scope x C s2 H2 fp) [] H' D := fun {σ' H' s'} I' hn => by
    refine ⟨hn, hDC, fun z => ?_, .inr (by show s2.heap.objs.size ≤ D; omega), fun y c e => ?_, fun p hp => absurd (show p ∈ ([] : List (Addr × Obj)) from hp) (by simp)⟩
    · obtain ⟨_, o, e, _⟩ := I'.ok.funs.mem z
      exact absurd (show D < s2.heap.objs.size from Heap.lt_size e) (by rw [hD]; exact Nat.lt_irrefl _)
    · obtain ⟨v, z⟩ := I2.cell y c (clOf_sub _ _ _ _ e)
      intro e2
      exact absurd z.lt (by rw [hD, e2]; exact Nat.lt_irrefl _)
  have hgt : ∀ b o, s2.heap.get? b = some o → b ≠ C ∧ b ≠ D := fun b o e => by
    have z := below b (by rw [← hD]; exact Heap.lt_size e)
    exact z
  let LI : Nat → Shared → Prop := fun n s' => ∃ i ys its k σ0 H', Inv (blk3 X N' scope x C s2 H2 fp) [] (σ0 :: σ) H' s' ∧ tn i s'.heap ∧ (∀ b ∈ fp, H' b = none) ∧ H' D = none ∧ Vals ys its ∧ ys.length ≤ sizeLine ∧ s'.heap.get? D = some { cls := .type "list", data := .seq its.toArray k } ∧ W i n ys H'
  have loop : ∀ s₃ : Shared, s₃ = { s2 with heap := h₁, toks := s2.toks + ([] : List (Str × Value)).length } →
      codeAny (model X.prog X.w) X.A (.compLoop (.ListComp elt [⟨.Name x px, iter, ifs, 0⟩] scope pos) 0 (.ref it) (.ref D) (compEnvC scope (clOf scope.names X.env.cells) C X.env))
        (RR (.ref D) C) s₃ := by
    rintro s₃ rfl
    refine codeAny_compLoop_tests LI ?_ m0 ⟨0, [], [], 0, none, H2, I4, T.keep _ _ _ st2 (fun b _ o e => old b o e), fun b hb => (f2 b hb).1, I2.hok.fresh (by rw [hD]; exact Nat.le_refl _), .nil, Nat.zero_le _, hacc, w0⟩
    rintro n s3 ⟨i, ys, its, k, σ0, H3, I3, st3, fr3, frD, rv, hysz, ha3, w3⟩
    -- the list so far is pinned
    have IP : Inv (blk3 X N' scope x C s2 H2 fp) [(D, { cls := .type "list", data := .seq its.toArray k })] (σ0 :: σ) H3 s3 := I3.pins_of fun p hp => by
      have e : p = (D, { cls := .type "list", data := .seq its.toArray k }) := by simpa using hp
      subst e
      obtain ⟨f0, f1, f3, _⟩ := hDfp I3 frD
      exact ⟨ha3, f0, f1, f3, fun v z => by cases z⟩
    have fpP : ∀ {H' : Hp}, (∀ b ∈ fp, H' b = none) → ∀ b ∈ fp, FpOk (blk3 X N' scope x C s2 H2 fp) [(D, { cls := .type "list", data := .seq its.toArray k })] H' b := fun {H'} hn b hb => by
      refine ⟨hn b hb, (I3.ok.exf b hb).1, I3.ok.exfs b hb, .inl hb, fun y c e => (I3.ok.exf b hb).2 y c e, fun p hp => ?_⟩
      have e : p = (D, { cls := .type "list", data := .seq its.toArray k }) := by
        have hp' : p ∈ [(D, ({ cls := .type "list", data := .seq its.toArray k } : Obj))] := hp
        simpa using hp'
      subst e
      exact fun z => hDf (by rw [show D = b from z]; exact hb)
    rcases turn i n ys H3 w3 with ⟨stop, qn⟩ | ⟨go, hlen, N, hN, step⟩
    · refine wpAny_mono (T.done (blk3 X N' scope x C s2 H2 fp) rfl rfl rfl hc i _ s3 (σ0 :: σ) H3 (fun _ _ => False) IP (fpP fr3) st3 stop) (fun r s4 ⟨hr, I5⟩ => ?_) fun _ _ z => z.elim
      subst hr
      obtain ⟨m5, hn5, _⟩ := I5.loc
      have hD4 := (I5.pin _ (List.mem_append_right _ (List.mem_singleton.mpr rfl))).1
      have hcn : H3 C = none := I5.free
      have hok' : HOk X.prog X.w (upd H3 D (.lst ys)) s4.heap := fun b u e => by
        by_cases hb : b = D
        · subst hb
          rw [upd_same] at e
          cases e
          exact ⟨hysz, its, k, rv, hD4⟩
        · rw [upd_ne hb] at e
          exact (I5.hok b u e).stay (fun c v hc q => q) (fun c q => by rw [upd_ne (ne_of_none q frD)]; exact q) fun c xs q => by rw [upd_ne (ne_of_none q frD)]; exact q
      have un' : Un (frs X.stack) fp H2 (upd H3 D (.lst ys)) s2.heap s4.heap := by
        have u := I5.base
        refine ⟨u.keep, u.slot, fun b o q n hx => ?_, u.there, fun b xs q => ?_, fun b o xs q => ?_, fun b ps q => ?_⟩
        · rw [upd_ne (hgt b o q).2]
          exact u.free b o q n hx
        · have e := u.tups b xs q
          rw [upd_ne (ne_of_none e frD)]
          exact e
        · have e := u.frzs b o xs q
          rw [upd_ne (ne_of_none e frD)]
          exact e
        · obtain ⟨more, e⟩ := u.tbls b ps q
          exact ⟨more, by rw [upd_ne (ne_of_none e frD)]; exact e⟩
      have I6 : Inv X pins σ (upd H3 D (.lst ys)) s4 := I2.call' (ch := fp) I5.os un' hok' I5.bare (fun b hb => ⟨(f2 b hb).2.2.2.1, (f2 b hb).2.1, (f2 b hb).2.2.2.2.1, (f2 b hb).2.2.2.2.2⟩)
      exact hRR D C s4 ys H3 m5 I6 hn5 (I2.fpOk (by rw [hD]; exact hCle) (by rw [upd_ne (Ne.symm hDC)]; exact hcn)) frD qn
    · refine wpAny_mono (T.item (blk3 X N' scope x C s2 H2 fp) rfl rfl rfl hc i _ s3 (σ0 :: σ) H3 (fun _ _ => False) IP (fpP fr3) st3 go) (fun r s4 ⟨u, hr, h4⟩ => ?_) fun _ _ z => z.elim
      subst hr
      show wpAny (model X.prog X.w) X.A (letOwnedTupleGo (.Name x px) (.ref it) u >>= fun _ => assign (.Name x px) (compEnvC scope (clOf scope.names X.env.cells) C X.env) u) _ _ s4
      refine wpAny_bind (wpAny_mono h4 (fun _ s5 ⟨xv, H5, I5, r5, y5, st5, fr5⟩ => ?_) fun _ _ z => z.elim)
      have I5' := I5.pinned (fpP fr5) (T.obj _ _ st5)
      have hloc : Loc (blk3 X N' scope x C s2 H2 fp).env.scope x := .inl (lookup_relabel_local S.own)
      refine wpAny_mono (pg_name (X := blk3 X N' scope x C s2 H2 fp) (i := 0) S.nd rfl hloc (.inr (lookup_relabel_local S.own)) _ s5 (σ0 :: σ) H5 xv u (fun σ' H' => σ' = some xv :: σ ∧ H' = H5) I5' r5 ⟨rfl, rfl⟩) (fun _ s6 ⟨σ6, H6, I6, e1, e2⟩ => ?_) fun _ _ z => z.elim
      subst e1 e2
      refine wpAny_mono (ht C s2 H2 fp _ s6 (some xv :: σ) H6 _ I6 (step xv H6 y5)) (fun b s7 ⟨H7, I7, q7⟩ => ?_) fun _ _ z => z.elim
      have hpD : ∀ {σ' : St} {H' : Hp} {s' : Shared}, Inv (blk3 X N' scope x C s2 H2 fp) ([(D, { cls := .type "list", data := .seq its.toArray k })] ++ pinsAt fp s5.heap) σ' H' s' → s'.heap.get? D = some { cls := .type "list", data := .seq its.toArray k } ∧ H' D = none := fun {σ' H' s'} I' => by
        have z := I'.pin (D, { cls := .type "list", data := .seq its.toArray k }) (List.mem_append_right _ (List.mem_append_left _ (List.mem_singleton.mpr rfl)))
        exact ⟨z.1, z.2.1⟩
      have hpF : ∀ {σ' : St} {H' : Hp} {s' : Shared}, Inv (blk3 X N' scope x C s2 H2 fp) ([(D, { cls := .type "list", data := .seq its.toArray k })] ++ pinsAt fp s5.heap) σ' H' s' → (∀ b ∈ fp, ∀ o, s5.heap.get? b = some o → s'.heap.get? b = some o) ∧ ∀ b ∈ fp, H' b = none := fun {σ' H' s'} I' => by
        refine ⟨fun b hb o e => (I'.pin (b, o) (List.mem_append_right _ (List.mem_append_right _ (mem_pinsAt hb e)))).1, fun b hb => ?_⟩
        obtain ⟨o, e, d⟩ := T.obj _ _ st5 b hb
        exact (I'.pin (b, o) (List.mem_append_right _ (List.mem_append_right _ (mem_pinsAt hb e)))).2.1
      cases b with
      | false =>
        rw [if_neg Bool.false_ne_true] at q7 ⊢
        obtain ⟨m', hm, w7⟩ := hN _ _ q7
        exact ⟨m', hm, i + 1, ys, its, k, some xv, H7, I7.pins_of (pins' := []) (fun p hp => absurd hp (by simp)), T.keep _ _ _ st5 (hpF I7).1, (hpF I7).2, (hpD I7).2, rv, hysz, (hpD I7).1, w7⟩
      | true =>
        rw [if_pos rfl] at q7 ⊢
        refine wpAny_mono (he C s2 H2 fp _ s7 (some xv :: σ) H7 _ I7 q7) (fun u8 s8 ⟨y, H8, I8, r8, q8⟩ => ?_) fun _ _ z => z.elim
        obtain ⟨m', hm, w8⟩ := hN _ _ q8
        obtain ⟨hd1, hd2⟩ := hpD I8
        have hl := rv.length
        refine append_at hd1 (fun h' hs' e' => ?_) (by rw [List.size_toArray]; omega)
        have I9 : Inv (blk3 X N' scope x C s2 H2 fp) [] (some xv :: σ) H8 s8 := I8.pins_of (pins' := []) (fun p hp => absurd hp (by simp))
        obtain ⟨f0, f1, f3, f4, f5, f6⟩ := hDfp I9 hd2
        refine ⟨m', hm, i + 1, ys ++ [y], its ++ [u8], k + 1, some xv, H8, I9.turned (it := D) (t' := s8.toks) (fun b o hb e => (hs'.2 b hb).trans e) f0 f1 f4 f5 f6,
          T.keep _ _ _ st5 (fun b hb o e => (hs'.2 b (fun z => hDf (by rw [← z]; exact hb))).trans ((hpF I8).1 b hb o e)), (hpF I8).2, hd2, rv.append (.cons r8 .nil), by rw [List.length_append, List.length_singleton]; omega, ?_, w8⟩
        rw [e', List.push_toArray]
  exact codeAny_compStart_list (loop _ rfl) (T.self _ 0 _ _ _ (T.keep _ _ _ st2 (fun b _ o e => old b o e)) (loop _ rfl))
theorem pe_lcomp3 {elt iter : Expr} {x : Str} {px pos : Pos} {scope : Scope} {ifs : List Expr} {wi : TI} {tt : TT} {te : TE} (hc : X.calm = true) (S : CScope3 x X.N N' X.env.scope scope) (hi : PI X (.Name x px) iter wi)
    (ht : ∀ C s H ex, PTs (blk3 X N' scope x C s H ex) ifs tt) (he : ∀ C s H ex, PE (blk3 X N' scope x C s H ex) elt te) (hs : ∀ v, foldedSetIterable iter X.env v = pure v := by intro _; rfl) :
    PE X (.ListComp elt [⟨.Name x px, iter, ifs, 0⟩] scope pos) (tLC wi tt te) := by
  intro pins s σ H Q I h
  rw [eval_ListComp]
  refine wpAny_comprehension_free (use := none) rfl hs (closureFor_of (S.has I.ok)) S.kind S.names (thn (hi pins s σ H _ I h) fun v s1 h1 => thn h1 fun itv s2 h2 => ?_)
  obtain ⟨it, fp, tn, J, H2, e, I2, T, st2, f2, hw⟩ := h2
  subst e
  refine comp_core3 (RR := fun acc C => compPost (model X.prog X.w) X.A X.xe none (EP X pins σ Q) acc C) hc S I2 T st2 f2 hw ht he fun D C s4 ys H3 m5 I5 hn5 fC frD qn => ⟨m5, hn5, fun h' hs' => ?_⟩
  obtain ⟨f0, f1, f3, f4, f5, f6⟩ := fC
  exact ⟨.ref D, _, I5.turned (it := C) (t' := s4.toks) (fun b o hb e => (hs'.2 b hb).trans e) f0 f1 f4 f5 f6, rfl, qn D frD⟩
/-- name = [.. for ..], the store ahead of the block's end -/
theorem ps_setLC3 {i : Nat} {y : Str} {elt iter : Expr} {x : Str} {px py pos spos : Pos} {scope : Scope} {ifs : List Expr} {wi : TI} {tt : TT} {te : TE} (hN : X.N.Nodup) (hi' : X.N[i]? = some y) (hy : X.env.scope.names.lookup y = some .local) (hc : X.calm = true) (S : CScope3 x X.N N' X.env.scope scope) (hi : PI X (.Name x px) iter wi)
    (ht : ∀ C s H ex, PTs (blk3 X N' scope x C s H ex) ifs tt) (he : ∀ C s H ex, PE (blk3 X N' scope x C s H ex) elt te)
    (hsw : swapsWith (.ListComp elt [⟨.Name x px, iter, ifs, 0⟩] scope pos) (some (.Name y py)) spos.line X.env = pure true) (hs : ∀ v, foldedSetIterable iter X.env v = pure v := by intro _; rfl) :
    PS X (.Assign [.Name y py] (.ListComp elt [⟨.Name x px, iter, ifs, 0⟩] scope pos) spos) (tAsg (tLC wi tt te) (gName i)) := by
  intro pins s σ H D0 I h
  rw [exec_Assign_Name_used _ _ _ _ hsw]
  refine wpAny_bind (wpAny_standAt (wpAny_bind ?_))
  show wpAny _ X.A (do let _ ← comprehension (.ListComp elt [⟨.Name x px, iter, ifs, 0⟩] scope pos) scope X.env _ (newList []) false (eval iter X.env) (some (assign (.Name y py) X.env))) _ _ s
  refine wpAny_bind (wpAny_mono (wpAny_comprehension_free (use := some (assign (.Name y py) X.env)) (Q := fun _ s' => SP X pins D0 .next s') rfl hs (closureFor_of (S.has I.ok)) S.kind S.names
    (thn (hi pins s σ H _ I h) fun v s1 h1 => thn h1 fun itv s2 h2 => ?_)) (fun _ s' hq => wpAny_pure (wpAny_pure hq)) fun _ _ e => e)
  obtain ⟨it, fp, tn, J, H2, e, I2, T, st2, f2, hw⟩ := h2
  subst e
  refine comp_core3 (RR := fun acc C => compPost (model X.prog X.w) X.A X.xe (some (assign (.Name y py) X.env)) (fun _ s' => SP X pins D0 .next s') acc C) hc S I2 T st2 f2 hw ht he fun D C s4 ys H3 m5 I5 hn5 fC frD qn => ?_
  show wpAny _ X.A (assign (.Name y py) X.env (.ref D)) _ _ _
  obtain ⟨f0, f1, f3, f4, f5, f6⟩ := fC
  refine wpAny_assign_Name (store_ok2 I5 hN hi' (.inl hy) (v := .ref D) rfl (fun s' I' ⟨a, sb, ha⟩ => ?_) (.inr hy))
  have hCa : C ≠ a := by
    rcases ha with e | e
    · rw [e]; exact f1
    · exact Ne.symm (f5 _ _ e)
  refine ⟨m5, hn5.sameBut sb hCa, fun h' hs' => ?_⟩
  exact ⟨_, _, I'.turned (it := C) (t' := s'.toks) (fun b o hb e => (hs'.2 b hb).trans e) f0 f1 f4 f5 f6, qn D frD⟩

/-! ### a name of its own -/
abbrev blk (X : Cx) (scope : Scope) (x : Str) (C : Addr) (s : Shared) (H : Hp) (ex : List Addr) : Cx := blk3 X X.N scope x C s H ex
structure CScope (x : Str) (N : List Str) (osc scope : Scope) : Prop where
  kind : scope.kind = .function
  nd : (x :: N).Nodup
  own : scope.names.lookup x = some .local
  nocell : ∀ y ∈ scope.names, y.2 ≠ .cell
  names : ∀ y ∈ scope.names, y.2 = .local → scope.names.lookup y.1 = some .local
  free : ∀ y ∈ scope.names, y.2 = .free → osc.names.lookup y.1 = some .cell
  nol : ∀ y ∈ N, scope.names.lookup y ≠ some .local
theorem zip_self {α : Type} : ∀ (l : List α), ∀ p ∈ l.zip l, p.1 = p.2
  | [], p, h => by simp at h
  | a :: l, p, h => by
    rw [List.zip_cons_cons] at h
    rcases List.mem_cons.mp h with rfl | h
    · rfl
    · exact zip_self l p h
theorem CScope.to3 {x : Str} {N : List Str} {osc scope : Scope} (S : CScope x N osc scope) : CScope3 x N N osc scope := ⟨S.kind, S.nd, S.own, S.nocell, S.names, S.free, S.nol, rfl, fun p hp => .inl (zip_self N p hp)⟩
theorem pe_lcomp {elt iter : Expr} {x : Str} {px pos : Pos} {scope : Scope} {ifs : List Expr} {wi : TI} {tt : TT} {te : TE} (hc : X.calm = true) (S : CScope x X.N X.env.scope scope) (hi : PI X (.Name x px) iter wi)
    (ht : ∀ C s H ex, PTs (blk X scope x C s H ex) ifs tt) (he : ∀ C s H ex, PE (blk X scope x C s H ex) elt te) (hs : ∀ v, foldedSetIterable iter X.env v = pure v := by intro _; rfl) :
    PE X (.ListComp elt [⟨.Name x px, iter, ifs, 0⟩] scope pos) (tLC wi tt te) := pe_lcomp3 hc S.to3 hi ht he hs
theorem ps_setLC {i : Nat} {y : Str} {elt iter : Expr} {x : Str} {px py pos spos : Pos} {scope : Scope} {ifs : List Expr} {wi : TI} {tt : TT} {te : TE} (hN : X.N.Nodup) (hi' : X.N[i]? = some y) (hy : X.env.scope.names.lookup y = some .local) (hc : X.calm = true) (S : CScope x X.N X.env.scope scope) (hi : PI X (.Name x px) iter wi)
    (ht : ∀ C s H ex, PTs (blk X scope x C s H ex) ifs tt) (he : ∀ C s H ex, PE (blk X scope x C s H ex) elt te)
    (hsw : swapsWith (.ListComp elt [⟨.Name x px, iter, ifs, 0⟩] scope pos) (some (.Name y py)) spos.line X.env = pure true) (hs : ∀ v, foldedSetIterable iter X.env v = pure v := by intro _; rfl) :
    PS X (.Assign [.Name y py] (.ListComp elt [⟨.Name x px, iter, ifs, 0⟩] scope pos) spos) (tAsg (tLC wi tt te) (gName i)) := ps_setLC3 hN hi' hy hc S.to3 hi ht he hsw hs
/-! ### the forms one uses -/
theorem lc_gen {J : It} {n : Nat} {σ : St} {tt : TT} {te : TE} {Fin : List V → Hp → Prop} {H1 : Hp} (Pv : Nat → List V → Hp → Prop) (h0 : Pv 0 [] H1) (hz : n < sizeLine) (hlen : ∀ i ys H, Pv i ys H → ys.length ≤ i)
    (hgo : ∀ i ys H, i < n → Pv i ys H → J.go i H) (hst : ∀ ys H, Pv n ys H → J.stop n H)
    (hs : ∀ i ys H x H', i < n → Pv i ys H → J.yld i H x H' → tt (some x :: σ) H' fun b H2 => if b = true then te (some x :: σ) H2 fun y H3 => Pv (i + 1) (ys ++ [y]) H3 else Pv (i + 1) ys H2)
    (hd : ∀ ys H, Pv n ys H → Fin ys H) : LCW J σ tt te Fin H1 := by
  refine ⟨fun i m ys H => m = n - i ∧ i ≤ n ∧ Pv i ys H, ⟨n, by simp, Nat.zero_le _, h0⟩, ?_⟩
  rintro i m ys H ⟨rfl, hi, p⟩
  by_cases hlt : i < n
  · have hl := hlen i ys H p
    exact .inr ⟨hgo i ys H hlt p, by omega, fun ys' H' => Pv (i + 1) ys' H', fun ys' H' p' => ⟨n - (i + 1), by omega, rfl, hlt, p'⟩, fun x H' y => hs i ys H x H' hlt p y⟩
  · have e : i = n := by omega
    subst e
    exact .inl ⟨hst ys H p, hd ys H p⟩
theorem lc_range {lo : Int} {n : Nat} {σ : St} {te : TE} {Fin : List V → Hp → Prop} {H1 : Hp} (Pv : Nat → List V → Hp → Prop) (h0 : Pv 0 [] H1) (hz : n < sizeLine) (hlen : ∀ i ys H, Pv i ys H → ys.length ≤ i)
    (hs : ∀ i ys H, i < n → Pv i ys H → te (some (.int (lo + i)) :: σ) H fun y H3 => Pv (i + 1) (ys ++ [y]) H3) (hd : ∀ ys H, Pv n ys H → Fin ys H) :
    LCW (Itr lo n) σ tYes te Fin H1 := by
  refine lc_gen (n := n) Pv h0 hz hlen (fun i ys H hi p => hi) (fun ys H p => Nat.le_refl n) (fun i ys H x H' hi p y => ?_) hd
  obtain ⟨e, y⟩ := y
  subst e y
  exact hs i ys _ hi p
end
end L2

set_option maxRecDepth 100000
namespace L2
open PySem PySem.Spec PyProof.Rows
section
variable {X : Cx}
theorem toks_of : ∀ {ns : List Int} {us : List Value}, Vals (ns.map V.int) us → ∃ ps : List (Int × Tok), us = ps.map (fun p => Value.int p.1 p.2) ∧ ps.map (·.1) = ns
  | [], us, r => by rw [List.map_nil] at r; cases r; exact ⟨[], rfl, rfl⟩
  | n :: ns, us, r => by
    rw [List.map_cons] at r
    cases r with
    | cons r1 r2 =>
      obtain ⟨t, e⟩ := r1
      obtain ⟨ps, e1, e2⟩ := toks_of r2
      exact ⟨(n, t) :: ps, by rw [e, e1]; rfl, by rw [List.map_cons, e2]⟩
/-- a list against an empty one -/
theorem op_eqNil (hu : X.A.units < cLine) : OpR X (compareOp .Eq) (fun x y H Q => ∃ (p r : Addr) (xs : List V), x = .ref p ∧ y = .ref r ∧ SqL X.K H p xs ∧ SqL X.K H r [] ∧ Q (.bl xs.isEmpty) H) := by
  intro pins s σ H x y v u Q I rx ry h
  obtain ⟨p, r, xs, rfl, rfl, hp, hr, q⟩ := h
  cases rx
  cases ry
  obtain ⟨its, rv, pl, hz⟩ := I.list hp
  obtain ⟨its2, rv2, pl2, hz2⟩ := I.list hr
  cases rv2
  cases rv with
  | nil => exact SeqAt.eq_listAt (e := fun _ => true) pl.isList pl2.isList (by simp) hu (fun j h1 h2 => absurd h1 (by simp)) ⟨.bl true, H, I, rfl, q⟩
  | cons r1 r2 => exact SeqAt.eq_list_lengthsAt pl.isList pl2.isList (by simp) hu ⟨.bl false, H, I, rfl, q⟩
/-- isinstance(x, T), T a built-in type -/
theorem call_isinst {T : String} {f : V → Hp → Bool → Prop} (hf : ∀ x H b, f x H b → ∃ t, TyOf X.K H x t ∧ PySem.W.kitOne X.K t (.type T) = some b) :
    CallR X (.builtin "isinstance") (fun xs H Q => ∃ x b, xs = [x, .ty T] ∧ f x H b ∧ Q (.bl b) H) := by
  intro pins s σ H xs us Q I r h
  obtain ⟨x, b, rfl, hx, q⟩ := h
  obtain ⟨u, w', rfl, r1, r2⟩ := vals2 r
  cases (show w' = Value.type T from r2)
  obtain ⟨t, ty, e⟩ := hf x H b hx
  exact isinst_ok I r1 ty e fun tk => ⟨.bl b, H, I.tok _, rfl, q⟩
/-- a value's own name of type -/
def isT (T : String) : V → Hp → Bool → Prop := fun x H b => match x with
  | .non => b = (T == "NoneType")
  | .bl _ => b = (T == "bool" || T == "int")
  | .int _ => b = (T == "int")
  | .str _ => b = (T == "str")
  | .ref a => (∃ xs, H a = some (.tup xs) ∧ b = (T == "tuple")) ∨ (∃ xs, H a = some (.lst xs) ∧ b = (T == "list"))
  | _ => False
theorem isT_ok {K : PySem.W.Frag} {T : String} (hT : T = "bool" ∨ T = "int" ∨ T = "str" ∨ T = "tuple" ∨ T = "list") : ∀ x H b, isT T x H b → ∃ t, TyOf K H x t ∧ PySem.W.kitOne K t (.type T) = some b := by
  intro x H b h
  cases x with
  | non => refine ⟨_, .non, ?_⟩; rcases hT with rfl | rfl | rfl | rfl | rfl <;> cases h <;> rfl
  | bl y => refine ⟨_, .bl y, ?_⟩; rcases hT with rfl | rfl | rfl | rfl | rfl <;> cases h <;> rfl
  | int i => refine ⟨_, .int i, ?_⟩; rcases hT with rfl | rfl | rfl | rfl | rfl <;> cases h <;> rfl
  | str z => refine ⟨_, .str z, ?_⟩; rcases hT with rfl | rfl | rfl | rfl | rfl <;> cases h <;> rfl
  | ref a =>
    rcases h with ⟨xs, e, h⟩ | ⟨xs, e, h⟩
    · refine ⟨_, .tup e, ?_⟩; rcases hT with rfl | rfl | rfl | rfl | rfl <;> cases h <;> rfl
    · refine ⟨_, .lst e, ?_⟩; rcases hT with rfl | rfl | rfl | rfl | rfl <;> cases h <;> rfl
  | _ => exact (show False from h).elim
end
end L2

set_option maxRecDepth 100000
namespace Seek
open PySem PySem.Spec PyProof.Rows L2

/-! ### own defs as one fact; what the built-ins' names are -/
structure Own (P : Program) (w : World) (K : PySem.W.Frag) (mg : Str → Option Value) (base : Heap) (k : Nat) (x : Str) (ps : List Str) (sp : Sp) : Prop where
  ex : ∃ f fd, FnOk P w K mg base CX0 k f fd ps sp ∧ mg x = some (.ref f) ∧ PySem.W.keepIn K (.ref f) = true ∧ Binds K fd ps []
theorem Own.mono {P : Program} {w : World} {K : PySem.W.Frag} {mg : Str → Option Value} {base : Heap} {j k : Nat} {x : Str} {ps : List Str} {sp : Sp} (O : Own P w K mg base j x ps sp) (h : j ≤ k) : Own P w K mg base k x ps sp := by
  obtain ⟨f, fd, F, r⟩ := O.ex
  exact ⟨f, fd, F.mono h, r⟩
theorem pe_own {X : Cx} {k : Nat} {x : Str} {ps : List Str} {sp : Sp} {p pos : Pos} {e : Expr} {es : List Expr} {t : TA} (O : Own X.prog X.w X.K X.mg X.base k x ps sp) (hr : Room k X.A) (hg : Gl X x) (ha : PA X (e :: es) t)
    (hdb : (x == ("__debug__" : Str)) = false := by decide) (he : starEach (e :: es) X.env = (false, eval e X.env) :: starEach es X.env := by rfl) (hpl : (backTo pos (starEach es X.env)).any (·.1) = false := by rfl) :
    PE X (.Call (.Name x p) (e :: es) [] pos) (tCall sp [] E0 t) := by
  obtain ⟨f, fd, F, hm, hk, hb⟩ := O.ex
  exact pe_call F hr hg hm hk hb .nil pass0 ha hdb he hpl
structure Blt (mg : Str → Option Value) : Prop where
  b_len : mg "len" = none
  b_range : mg "range" = none
  b_sum : mg "sum" = none
  b_all : mg "all" = none
  b_ord : mg "ord" = none
  b_max : mg "max" = none
  b_min : mg "min" = none
  b_int : mg "int" = none
  b_list : mg "list" = none
  b_tuple : mg "tuple" = none
  b_str : mg "str" = none
  b_bool : mg "bool" = none
  b_isinstance : mg "isinstance" = none

/-! ### heaps that grow; the lists at S may have changed -/
structure Gro (S : List Addr) (H H' : Hp) : Prop where
  keep : ∀ b o, H b = some o → b ∉ S → H' b = some o
  tups : ∀ b xs, H b = some (.tup xs) → H' b = some (.tup xs)
theorem Gro.refl {S : List Addr} {H : Hp} : Gro S H H := ⟨fun _ _ h _ => h, fun _ _ h => h⟩
theorem Gro.trans {S : List Addr} {H H1 H2 : Hp} (a : Gro S H H1) (b : Gro S H1 H2) : Gro S H H2 := ⟨fun c o h hc => b.keep c o (a.keep c o h hc) hc, fun c xs h => b.tups c xs (a.tups c xs h)⟩
theorem Gro.mono {S S' : List Addr} {H H' : Hp} (a : Gro S H H') (h : ∀ b ∈ S, b ∈ S') : Gro S' H H' := ⟨fun c o q hc => a.keep c o q fun z => hc (h c z), a.tups⟩
theorem Gro.new {S : List Addr} {H : Hp} {p : Addr} (h : H p = none) (o : HO) : Gro S H (upd H p o) := ⟨fun b u q _ => by rw [upd_ne (ne_of_none q h)]; exact q, fun b xs q => by rw [upd_ne (ne_of_none q h)]; exact q⟩
theorem Gro.set {S : List Addr} {H : Hp} {p : Addr} {xs : List V} (hp : p ∈ S) (h : H p = some (.lst xs)) (o : HO) : Gro S H (upd H p o) :=
  ⟨fun b u q hb => by rw [upd_ne (fun z => hb (by rw [z]; exact hp))]; exact q, fun b ys q => by rw [upd_ne (ne_of q h (by intro z; cases z))]; exact q⟩
/-! ### the places of what is drawn -/
def BoxAt (H : Hp) (b : Addr) : Prop := ∃ ns : List Int, H b = some (.lst (ns.map V.int)) ∧ ns.length ≤ 63
def LetAt (H : Hp) (l : Addr) : Prop := ∃ x y z : Str, H l = some (.lst [.str x, .str y, .str z]) ∧ x.length = 1 ∧ y.length = 1 ∧ z.length = 1
theorem BoxAt.ne_let {H : Hp} {b l : Addr} (h : BoxAt H b) (h' : LetAt H l) : b ≠ l := by
  obtain ⟨ns, e, _⟩ := h
  obtain ⟨x, y, z, e', _⟩ := h'
  refine ne_of e e' fun q => ?_
  have q' : ns.map V.int = [.str x, .str y, .str z] := by injection q
  cases ns with
  | nil => cases q'
  | cons n r => rw [List.map_cons] at q'; injection q' with q1 _; cases q1
theorem LetAt.gro {S : List Addr} {H H' : Hp} {l : Addr} (h : LetAt H l) (g : Gro S H H') (hl : l ∉ S) : LetAt H' l := by
  obtain ⟨x, y, z, e, r⟩ := h
  exact ⟨x, y, z, g.keep _ _ e hl, r⟩
theorem BoxAt.gro {S : List Addr} {H H' : Hp} {l : Addr} (h : BoxAt H l) (g : Gro S H H') (hl : l ∉ S) : BoxAt H' l := by
  obtain ⟨x, e, r⟩ := h
  exact ⟨x, g.keep _ _ e hl, r⟩
theorem LetAt.new {H : Hp} {l p : Addr} {o : HO} (h : LetAt H l) (hp : H p = none) : LetAt (upd H p o) l := h.gro (S := []) (Gro.new hp o) (by simp)
theorem BoxAt.new {H : Hp} {l p : Addr} {o : HO} (h : BoxAt H l) (hp : H p = none) : BoxAt (upd H p o) l := h.gro (S := []) (Gro.new hp o) (by simp)
/-- one of the three signs -/
theorem let_at {x y z : Str} {i : Int} (h0 : 0 ≤ i) (h1 : i < 3) (hx : x.length = 1) (hy : y.length = 1) (hz : z.length = 1) : ∃ s : Str, s.length = 1 ∧ atI [V.str x, V.str y, V.str z] i = some (.str s) := by
  have : i = 0 ∨ i = 1 ∨ i = 2 := by omega
  rcases this with rfl | rfl | rfl
  · exact ⟨x, hx, rfl⟩
  · exact ⟨y, hy, rfl⟩
  · exact ⟨z, hz, rfl⟩
theorem small {n : Nat} (h : n ≤ 1000) : n ≤ sizeLine := Nat.le_of_lt (small1000 h)

/-! ### patterns -/
inductive How where | much | little | keep
  deriving DecidableEq
def How.text : How → Str
  | .much => "much" | .little => "little" | .keep => "keep"
inductive Lk where | once | ahead | notahead | behind | notbehind
  deriving DecidableEq
def Lk.text : Lk → Str
  | .once => "once" | .ahead => "ahead" | .notahead => "notahead" | .behind => "behind" | .notbehind => "notbehind"
inductive Hd where
  | sign (s : Str) | any | inn (rs : List (Str × Str)) | out (rs : List (Str × Str)) | beg | fin | row | alt
  | times (lo : Int) (hi : Option Int) (how : How) | grp (k : Int) | again (k : Int) | hav (k : Int) | look (w : Lk)
inductive Pat where
  | node (h : Hd) (ks : List Pat)
def Hd.word : Hd → Str
  | .sign _ => "sign" | .any => "any" | .inn _ => "in" | .out _ => "out" | .beg => "begin" | .fin => "end" | .row => "row" | .alt => "or"
  | .times _ _ _ => "times" | .grp _ => "group" | .again _ => "again" | .hav _ => "have" | .look w => w.text
def optV : Option Int → V
  | some i => .int i
  | none => .non
def RunsAt (H : Hp) (r : Addr) (rs : List (Str × Str)) : Prop := ∃ vs : List V, H r = some (.tup vs) ∧ Paired (fun (v : V) (p : Str × Str) => p.1.length = 1 ∧ p.2.length = 1 ∧ ∃ a, v = .ref a ∧ H a = some (.tup [.str p.1, .str p.2])) vs rs ∧ rs.length ≤ 20
/-- what stands at a tuple of this head; kv: the parts' values -/
def Lay (H : Hp) (a : Addr) : Hd → List V → Prop
  | .sign s, kv => kv = [] ∧ s.length = 1 ∧ H a = some (.tup [.str "sign", .str s])
  | .any, kv => kv = [] ∧ H a = some (.tup [.str "any"])
  | .inn rs, kv => kv = [] ∧ ∃ r, H a = some (.tup [.str "in", .ref r]) ∧ RunsAt H r rs
  | .out rs, kv => kv = [] ∧ ∃ r, H a = some (.tup [.str "out", .ref r]) ∧ RunsAt H r rs
  | .beg, kv => kv = [] ∧ H a = some (.tup [.str "begin"])
  | .fin, kv => kv = [] ∧ H a = some (.tup [.str "end"])
  | .row, kv => kv.length ≤ 10 ∧ ∃ r, H a = some (.tup [.str "row", .ref r]) ∧ H r = some (.tup kv)
  | .alt, kv => 1 ≤ kv.length ∧ kv.length ≤ 10 ∧ ∃ r, H a = some (.tup [.str "or", .ref r]) ∧ H r = some (.tup kv)
  | .times lo hi how, kv => (0 ≤ lo ∧ lo ≤ 20 ∧ ∀ h, hi = some h → 0 ≤ h ∧ h ≤ 20) ∧ ∃ k, kv = [k] ∧ H a = some (.tup [.str "times", .int lo, optV hi, .str how.text, k])
  | .grp n, kv => (0 ≤ n ∧ n ≤ 20) ∧ ∃ k, kv = [k] ∧ H a = some (.tup [.str "group", .int n, k])
  | .again n, kv => (0 ≤ n ∧ n ≤ 20) ∧ kv = [] ∧ H a = some (.tup [.str "again", .int n])
  | .hav n, kv => (0 ≤ n ∧ n ≤ 20) ∧ ∃ y z, kv = [y, z] ∧ H a = some (.tup [.str "have", .int n, y, z])
  | .look w, kv => ∃ k, kv = [k] ∧ H a = some (.tup [.str w.text, k])
def PatAt (H : Hp) : Nat → V → Pat → Prop
  | 0, _, _ => False
  | d + 1, v, .node h ks => ∃ a kv, v = .ref a ∧ Lay H a h kv ∧ Paired (PatAt H d) kv ks
theorem RunsAt.mono {H H' : Hp} (t : ∀ b xs, H b = some (.tup xs) → H' b = some (.tup xs)) {r : Addr} {rs : List (Str × Str)} (h : RunsAt H r rs) : RunsAt H' r rs := by
  obtain ⟨vs, e, p, z⟩ := h
  exact ⟨vs, t _ _ e, Paired.mapP p fun v q ⟨h1, h2, a, e1, e2⟩ => ⟨h1, h2, a, e1, t _ _ e2⟩, z⟩
theorem Lay.mono {H H' : Hp} (t : ∀ b xs, H b = some (.tup xs) → H' b = some (.tup xs)) {a : Addr} {kv : List V} : ∀ {h : Hd}, Lay H a h kv → Lay H' a h kv
  | .sign _, ⟨x, y, z⟩ => ⟨x, y, t _ _ z⟩
  | .any, ⟨x, z⟩ => ⟨x, t _ _ z⟩
  | .inn _, ⟨x, r, z, q⟩ => ⟨x, r, t _ _ z, q.mono t⟩
  | .out _, ⟨x, r, z, q⟩ => ⟨x, r, t _ _ z, q.mono t⟩
  | .beg, ⟨x, z⟩ => ⟨x, t _ _ z⟩
  | .fin, ⟨x, z⟩ => ⟨x, t _ _ z⟩
  | .row, ⟨x, r, z, q⟩ => ⟨x, r, t _ _ z, t _ _ q⟩
  | .alt, ⟨x, y, r, z, q⟩ => ⟨x, y, r, t _ _ z, t _ _ q⟩
  | .times _ _ _, ⟨x, k, y, z⟩ => ⟨x, k, y, t _ _ z⟩
  | .grp _, ⟨x, k, y, z⟩ => ⟨x, k, y, t _ _ z⟩
  | .again _, ⟨x, y, z⟩ => ⟨x, y, t _ _ z⟩
  | .hav _, ⟨x, k, l, y, z⟩ => ⟨x, k, l, y, t _ _ z⟩
  | .look _, ⟨k, y, z⟩ => ⟨k, y, t _ _ z⟩
theorem PatAt.mono {H H' : Hp} (t : ∀ b xs, H b = some (.tup xs) → H' b = some (.tup xs)) : ∀ {d : Nat} {v : V} {p : Pat}, PatAt H d v p → PatAt H' d v p
  | 0, _, _, h => h.elim
  | d + 1, v, .node h ks, ⟨a, kv, e, l, p⟩ => ⟨a, kv, e, l.mono t, Paired.mapP p fun _ _ q => PatAt.mono t q⟩
/-- the word at the tuple's head -/
theorem Lay.head {H : Hp} {a : Addr} {kv : List V} : ∀ {h : Hd}, Lay H a h kv → ∃ r, H a = some (.tup (.str h.word :: r))
  | .sign _, ⟨x, y, z⟩ => ⟨_, z⟩
  | .any, ⟨x, z⟩ => ⟨_, z⟩
  | .inn _, ⟨x, r, z, q⟩ => ⟨_, z⟩
  | .out _, ⟨x, r, z, q⟩ => ⟨_, z⟩
  | .beg, ⟨x, z⟩ => ⟨_, z⟩
  | .fin, ⟨x, z⟩ => ⟨_, z⟩
  | .row, ⟨x, r, z, q⟩ => ⟨_, z⟩
  | .alt, ⟨x, y, r, z, q⟩ => ⟨_, z⟩
  | .times _ _ _, ⟨x, k, y, z⟩ => ⟨_, z⟩
  | .grp _, ⟨x, k, y, z⟩ => ⟨_, z⟩
  | .again _, ⟨x, y, z⟩ => ⟨_, z⟩
  | .hav _, ⟨x, k, l, y, z⟩ => ⟨_, z⟩
  | .look _, ⟨k, y, z⟩ => ⟨_, z⟩
/-! ### how many patterns there are in one -/
mutual
def Pat.size : Pat → Nat
  | .node _ ks => 1 + sizeL ks
def sizeL : List Pat → Nat
  | [] => 0
  | k :: ks => k.size + sizeL ks
end
def B (n : Nat) : Nat := 3 ^ (n + 1)
end Seek

set_option maxRecDepth 100000
set_option maxHeartbeats 4000000
namespace Seek
open PySem PySem.Spec PyProof.Rows L2
theorem sz {n : Nat} (h : Nat.ble n 1000 = true := by rfl) : n ≤ sizeLine := small (Nat.le_of_ble_eq_true h)
theorem at0 {x : V} {r : List V} : atI (x :: r) 0 = some x := atI_nat (j := 0) rfl
theorem ix0 {x : V} {r : List V} : ixN (x :: r).length 0 = some 0 := by
  unfold ixN
  rw [if_pos (Int.le_refl 0), if_pos (by rw [List.length_cons]; omega)]
  rfl
theorem Gro.fresh {S : List Addr} {H H' : Hp} {a : Addr} (g : Gro S H H') (ha : H a = none) (o : HO) : Gro S H (upd H' a o) :=
  ⟨fun b u q hb => by rw [upd_ne (ne_of_none q ha)]; exact g.keep b u q hb, fun b xs q => by rw [upd_ne (ne_of_none q ha)]; exact g.tups b xs q⟩
theorem Gro.tup {S : List Addr} {H H' : Hp} {p : Addr} {o : HO} (g : Gro S H H') (hp : H' p = none) : Gro S H (upd H' p o) := g.trans (Gro.new hp o)
/-- a pair of signs at v -/
def RunP (H : Hp) (v : V) (p : Str × Str) : Prop := p.1.length = 1 ∧ p.2.length = 1 ∧ ∃ a, v = .ref a ∧ H a = some (.tup [.str p.1, .str p.2])
theorem RunP.mono {H H' : Hp} (t : ∀ b xs, H b = some (.tup xs) → H' b = some (.tup xs)) {v : V} {p : Str × Str} (h : RunP H v p) : RunP H' v p := by
  obtain ⟨h1, h2, a, e1, e2⟩ := h
  exact ⟨h1, h2, a, e1, t _ _ e2⟩
theorem paired_mono {H H' : Hp} (t : ∀ b xs, H b = some (.tup xs) → H' b = some (.tup xs)) {vs : List V} {rs : List (Str × Str)} (h : Paired (RunP H) vs rs) : Paired (RunP H') vs rs := Paired.mapP h fun _ _ q => q.mono t
section
variable {K : PySem.W.Frag}
theorem letS {H : Hp} {l : Addr} {r : Int} {Q : V → Hp → Prop} (h : LetAt H l) (h0 : 0 ≤ r) (h1 : r < 3) (q : ∀ s : Str, s.length = 1 → Q (.str s) H) : rIxL K (.ref l) (.int r) H Q := by
  obtain ⟨x, y, z, hl, hx, hy, hz⟩ := h
  obtain ⟨s, hs, e⟩ := let_at h0 h1 hx hy hz
  exact ⟨l, _, _, _, rfl, rfl, SqL.of hl, e, q s hs⟩
end
/-- a block by a stronger reading -/
theorem pss_cut {X : Cx} {sts : List Stmt} {t : TS} (t2 : TS) (h : PSs X sts t) (imp : ∀ D σ H, t2 D σ H → t D σ H) : PSs X sts t2 := fun pins s σ H D I q => h pins s σ H D I (imp D σ H q)
section
variable {P : Program} {w : World} {K : PySem.W.Frag} {mg : Str → Option Value} {base : Heap} {f : Addr} {fd : FuncData}
/-- a def as it stands behind the top -/
structure Def (K : PySem.W.Frag) (mg : Str → Option Value) (x : Str) (st : Stmt) (ps : List Str) : Prop where
  ex : ∃ f fd, Fun K x x st f fd ∧ mg x = some (.ref f) ∧ Binds K fd ps []
theorem Def.own {x : Str} {st : Stmt} {ps : List Str} {k : Nat} {sp : Sp} (D : Def K mg x st ps) (h : ∀ f fd, Fun K x x st f fd → FnOk P w K mg base CX0 k f fd ps sp) : Own P w K mg base k x ps sp := by
  obtain ⟨f, fd, F, m, b⟩ := D.ex
  exact ⟨f, fd, h f fd F, m, F.kp, b⟩
theorem FnOk.never {ps : List Str} {k : Nat} {sp : Sp} (no : ∀ vs H Q E, ¬ sp vs H Q E) : FnOk P w K mg base CX0 k f fd ps sp :=
  ⟨fun vs H Q E h => absurd h (no vs H Q E), fun A outer s H args us vs Q E _ _ _ _ h => absurd h (no vs H Q E)⟩
end
theorem Gro.drop {b c : Addr} {H H2 : Hp} {o : HO} (g : Gro [b, c] (upd H c o) H2) (hc : H c = none) : Gro [b] H H2 :=
  ⟨fun x u q hx => g.keep x u (by rw [upd_ne (ne_of_none q hc)]; exact q) (by
      have hxc : x ≠ c := ne_of_none q hc
      have hxb : x ≠ b := by simpa using hx
      simp [hxb, hxc]), fun x xs q => g.tups x xs (by rw [upd_ne (ne_of_none q hc)]; exact q)⟩
theorem paired_take {α β : Type} {F : α → β → Prop} : ∀ {xs : List α} {ys : List β} (n : Nat), Paired F xs ys → Paired F (xs.take n) (ys.take n)
  | _, _, 0, _ => .nil
  | _, _, _ + 1, .nil => .nil
  | _, _, n + 1, .cons r t => .cons r (paired_take n t)
end Seek

set_option maxRecDepth 100000
set_option maxHeartbeats 4000000
namespace Seek
open PySem PySem.Spec PyProof.Rows L2
/-! ### the heads' words, without their parts -/
inductive Wd where
  | sign | any | inn | out | beg | fin | row | alt | times | grp | again | hav | once | ahead | notahead | behind | notbehind
def Wd.text : Wd → Str
  | .sign => "sign" | .any => "any" | .inn => "in" | .out => "out" | .beg => "begin" | .fin => "end" | .row => "row" | .alt => "or" | .times => "times" | .grp => "group" | .again => "again" | .hav => "have"
  | .once => "once" | .ahead => "ahead" | .notahead => "notahead" | .behind => "behind" | .notbehind => "notbehind"
def Hd.wd : Hd → Wd
  | .sign _ => .sign | .any => .any | .inn _ => .inn | .out _ => .out | .beg => .beg | .fin => .fin | .row => .row | .alt => .alt
  | .times _ _ _ => .times | .grp _ => .grp | .again _ => .again | .hav _ => .hav | .look .once => .once | .look .ahead => .ahead | .look .notahead => .notahead | .look .behind => .behind | .look .notbehind => .notbehind
theorem Hd.word_wd (h : Hd) : h.word = h.wd.text := by
  cases h with
  | look lk => cases lk <;> rfl
  | _ => rfl
def isw (x y : Str) : Bool := decide (V.str x = V.str y)
theorem ite_no {c A B : Prop} [Decidable c] (h : ¬ c) (b : B) : if c then A else B := by rw [if_neg h]; exact b
theorem ite_yes {c A B : Prop} [Decidable c] (h : c) (a : A) : if c then A else B := by rw [if_pos h]; exact a
theorem paired_get {α β : Type} {F : α → β → Prop} : ∀ {xs : List α} {ys : List β} {i : Nat} {x : α}, Paired F xs ys → xs[i]? = some x → ∃ y, ys[i]? = some y ∧ F x y
  | _, _, _, _, .nil, e => by simp at e
  | _, _, 0, _, .cons r _, e => by simp at e; subst e; exact ⟨_, rfl, r⟩
  | _, _, i + 1, x, .cons _ t, e => by
    obtain ⟨y, h1, h2⟩ := paired_get (i := i) (x := x) t (by simpa using e)
    exact ⟨y, by simpa using h1, h2⟩
theorem take_snoc {α : Type} {l : List α} {i : Nat} {x : α} (h : l[i]? = some x) : l.take (i + 1) = l.take i ++ [x] := by rw [List.take_add_one, h]; rfl
/-! ### the least and the greatest of a list of ints -/
def mxL (ns : List Int) : Int := ns.getD (argBest (fun i j => decide (ns.getD i 0 > ns.getD j 0)) (ns.length - 1)) 0
theorem numAt_of {ps : List (Int × Tok)} {ns : List Int} (e : ps.map (·.1) = ns) : numAt ps.toArray = fun i => ns.getD i 0 := by
  funext i
  subst e
  simp [numAt, List.getD_eq_getElem?_getD, List.getElem?_map]
theorem item_of {ps : List (Int × Tok)} {ns : List Int} (e : ps.map (·.1) = ns) {k : Nat} {v : Value} (h : (intItems ps.toArray)[k]? = some v) : ∃ t, v = .int (ns.getD k 0) t := by
  obtain ⟨t, q⟩ := intItems_at h
  rw [numAt_of e] at q
  exact ⟨t, q⟩
section
variable {X : Cx}
end

/-! ### two values that are the same data -/
def plainV : V → Bool
  | .non => true | .bl _ => true | .int _ => true | .str _ => true | _ => false
def SameAt (H : Hp) : Nat → V → V → Prop
  | 0, _, _ => False
  | n + 1, x, y => (x = y ∧ plainV x = true) ∨ (∃ (a b : Addr) (xs ys : List V), x = .ref a ∧ y = .ref b ∧ H a = some (.tup xs) ∧ H b = some (.tup ys) ∧ xs.length ≤ 1000000 ∧ Paired (SameAt H n) xs ys)
end Seek

set_option maxRecDepth 100000
namespace L2
open PySem PySem.Spec PyProof.Rows
/-! ### lists of pairs as tables -/
section
variable {κ : Type} [DecidableEq κ]
def valV (kvs : List (κ × V)) (k : κ) : Option V := (kvs.find? fun kv => decide (kv.1 = k)).map (·.2)
def dropK (kvs : List (κ × V)) (k : κ) : List (κ × V) := kvs.filter fun kv => decide (kv.1 ≠ k)

theorem valV_pos {p : κ × V} {r : List (κ × V)} {k : κ} (e : p.1 = k) : valV (p :: r) k = some p.2 := by simp [valV, List.find?_cons, e]
theorem valV_neg {p : κ × V} {r : List (κ × V)} {k : κ} (e : ¬ p.1 = k) : valV (p :: r) k = valV r k := by simp [valV, List.find?_cons, e]
/-- raw tables of the same keys -/
theorem KV.val {kvs : List (κ × V)} {vs : List (κ × Value)} (r : KV kvs vs) (k : κ) : RelO (valV kvs k) (valueAt vs k) := by
  unfold KV at r
  induction r with
  | nil => exact True.intro
  | @cons p q ps qs h t ih =>
    obtain ⟨h1, h2⟩ := h
    by_cases e : p.1 = k
    · have e' : q.1 = k := h1.symm.trans e
      have b : valueAt (q :: qs) k = some q.2 := by simp [valueAt, List.find?_cons, e']
      rw [valV_pos e, b]; exact h2
    · have e' : ¬ q.1 = k := fun z => e (h1.trans z)
      have b : valueAt (q :: qs) k = valueAt qs k := by simp [valueAt, List.find?_cons, e']
      rw [valV_neg e, b]; exact ih
theorem KV.drop {kvs : List (κ × V)} {vs : List (κ × Value)} (r : KV kvs vs) (k : κ) : KV (dropK kvs k) (without vs k) := by
  unfold KV at r ⊢
  unfold dropK without
  induction r with
  | nil => exact .nil
  | @cons p q ps qs h t ih =>
    obtain ⟨h1, h2⟩ := h
    rw [List.filter_cons, List.filter_cons]
    by_cases e : p.1 = k
    · have a : ¬ decide (p.1 ≠ k) = true := by simp [e]
      have b : ¬ decide (q.1 ≠ k) = true := by simp [h1.symm.trans e]
      rw [if_neg a, if_neg b]; exact ih
    · have e' : ¬ q.1 = k := fun z => e (h1.trans z)
      have a : decide (p.1 ≠ k) = true := by simp [e]
      have b : decide (q.1 ≠ k) = true := by simp [e']
      rw [if_pos a, if_pos b]; exact .cons ⟨h1, h2⟩ ih
theorem KV.length {kvs : List (κ × V)} {vs : List (κ × Value)} (r : KV kvs vs) : kvs.length = vs.length := Paired.length r
end


/-! ### a tracked dict, its keys ints and texts or tuples of these -/
theorem kV_is {P : Program} {w : World} {k : Key} {u : Value} (r : RelV (kV k) u) : (mixKind P w).is k u = true := by
  cases k with
  | inl i => obtain ⟨t, e⟩ := (show ∃ t, u = Value.int i t from r); subst e; exact mixKind_int P w i t
  | inr x => obtain ⟨t, e⟩ := (show ∃ t, u = Value.str x t from r); subst e; exact mixKind_str P w x t
section
variable {P : Program} {w : World} {H : Hp} {h : Heap} {a : Addr}
end

section
variable {X : Cx} {pins : List (Addr × Obj)} {σ : St} {H : Hp} {s : Shared} {a : Addr} {y v : V} {u r : Value} {o : Option V} {A : Around} {E : Value → Shared → Prop}

end

section
variable {X : Cx} {pins : List (Addr × Obj)} {σ : St} {H : Hp} {s : Shared} {a : Addr} {kvs : List (Key × V)} {k : Key} {u : Value} {A : Around} {E : Value → Shared → Prop}
end


/-! ### readings and rules -/
/-- the element of a subscription, not a slice -/
def NoSl (i : Expr) : Prop := ∀ ov iv, subscripted i false ov iv = operate [ov, iv] (getItem ov iv)
theorem subD_of {prog : Program} {w : World} {A : Around} {E : Value → Shared → Prop} {s : Shared} {env : Env} {value slice : Expr} {pos : Pos} {T id : String} {Q : Value → Shared → Prop}
    (hl : typeLookup (.type T) "__getitem__" = pure (some (.builtin id))) (hs : NoSl slice)
    (h : wpAny (model prog w) A (eval value env) (fun o s₁ => wpAny (model prog w) A (eval slice env) (fun i s₂ => s₂.TypeIs o T ∧ wpAny (model prog w) A (getItem o i) Q E s₂) E s₁) E s) :
    wpAny (model prog w) A (eval (.Subscript value slice pos) env) Q E s := by
  refine Subscript_ (wpAny_mono h (fun o s₁ h₁ => wpAny_mono h₁ (fun i s₂ h₂ => ?_) fun _ _ x => x) fun _ _ x => x)
  obtain ⟨hT, h₂⟩ := h₂
  unfold subscriptTail
  refine wpAny_bind ?_
  rw [getitemInPython_of_ne hT.not_modules]
  refine wpAny_bind (wpAny_specialOf hT hl ?_)
  have fin : wpAny (model prog w) A (subscripted slice false o i) (fun r s₃ => wpAny (model prog w) A (letTemporaryGo value o r >>= fun _ => pure r) Q E s₃) E s₂ := by
    rw [hs o i]
    exact wpAny_operating (wpAny_mono h₂ (fun r s₃ h₃ => wpAny_bind (wpAny_letTemporaryGo (wpAny_pure h₃))) fun _ _ x => x)
  first
    | exact wpAny_pure (wpAny_bind fin)
    | exact wpAny_bind (wpAny_pure (wpAny_bind fin))
    | exact wpAny_bind fin

section
variable {X : Cx} {o i e value : Expr} {pos pos' tpos : Pos} {td ty tv : TE}
end


/-! ### displays -/
section
variable {X : Cx} {pos : Pos}
end

end L2

set_option maxRecDepth 100000
namespace L2
open PySem PySem.Spec PyProof.Rows
/-! ### a dict of the module: read, never written -/
def DEnt (w : World) (e : DictEntry) (kv : Key × V) : Prop := keyIs kv.1 e.key = true ∧ e.hash = keyH w kv.1 ∧ RelV kv.2 e.val
def DcK (K : PySem.W.Frag) (w : World) (a : Addr) (kvs : List (Key × V)) : Prop := (a == sysModules) = false ∧ ∃ (o : Obj) (es : Array DictEntry) (ep : Nat), K.lookup a = some o ∧ o.ExactDict ∧ o.data = .dict es ep ∧ Paired (DEnt w) es.toList kvs ∧ (kvs.map (·.1)).Nodup
theorem dent_pairs {P : Program} {w : World} : ∀ {es : List DictEntry} {kvs : List (Key × V)}, Paired (DEnt w) es kvs → ∃ vs : List (Key × Value), KV kvs vs ∧ PySem.Pairs (mixKind P w) es vs ∧ vs.map (·.1) = kvs.map (·.1) ∧ ∀ e ∈ es, ∃ k, (mixKind P w).is k e.key = true ∧ e.hash = (mixKind P w).hash k
  | _, _, .nil => ⟨[], .nil, .nil, rfl, fun e he => by simp at he⟩
  | e :: es, kv :: kvs, .cons ⟨h1, h2, h3⟩ t => by
    obtain ⟨vs, r, p, m, k⟩ := dent_pairs (P := P) t
    refine ⟨(kv.1, e.val) :: vs, .cons ⟨rfl, h3⟩ r, .cons h1 rfl p, by simp [m], fun e' he' => ?_⟩
    rcases List.mem_cons.mp he' with rfl | he'
    · exact ⟨kv.1, h1, h2⟩
    · exact k e' he'
section
variable {X : Cx} {pins : List (Addr × Obj)} {σ : St} {H : Hp} {s : Shared} {a : Addr} {kvs : List (Key × V)}
theorem Inv.dcK (I : Inv X pins σ H s) (h : DcK X.K X.w a kvs) : ∃ vs : List (Key × Value), KV kvs vs ∧ s.heap.DictOf (mixKind X.prog X.w) a vs := by
  obtain ⟨_, o, es, ep, l, x, d, p, nd⟩ := h
  obtain ⟨vs, r, pr, m, k⟩ := dent_pairs (P := X.prog) p
  exact ⟨vs, r, o, es, ep, I.kIn a o l, x, d, fun e he => k e (by simpa using he), pr, by rw [m]; exact nd⟩
end
def rCG (K : PySem.W.Frag) (w : World) : R2 := fun x y H Q => ∃ a kvs k v, x = .ref a ∧ DcK K w a kvs ∧ y = kV k ∧ valV kvs k = some v ∧ Q v H
def tCGet (K : PySem.W.Frag) (w : World) (td ty : TE) : TE := tOp (rCG K w) td ty
section
variable {X : Cx} {o i : Expr} {pos : Pos} {td ty : TE}
theorem pe_cget (ho : PE X o td) (hi : PE X i ty) (hs : NoSl i) : PE X (.Subscript o i pos) (tCGet X.K X.w td ty) := by
  intro pins s σ H Q I h
  refine subD_of PySem.F.slot_dict_getitem.lookup hs (thn (ho pins s σ H _ I h) fun u s1 ⟨x, H1, I1, rx, q1⟩ => thn (hi pins s1 σ H1 _ I1 q1) fun iv s2 ⟨y, H2, I2, ry, a, kvs, k, v, ex, dc, ey, hv, q2⟩ => ?_)
  subst ex ey
  obtain rfl : u = Value.ref a := rx
  obtain ⟨vs, rel, dd⟩ := I2.dcK dc
  obtain ⟨w', hw, rw'⟩ := RelO.some_of (v := v) (o := valueAt vs k) (by rw [← hv]; exact rel.val k)
  exact ⟨dd.typeIs, wpAny_getItem_of (kV_is ry) dd.mapOf hw ⟨v, H2, I2.tok _, rw', q2⟩⟩
end
/-- the entries of a dict that the top has written out -/
theorem dcK_of {K : PySem.W.Frag} {w : World} {a : Addr} {es : Array DictEntry} {ep : Nat} {kvs : List (Key × V)} (l : K.lookup a = some ⟨.type "dict", none, .dict es ep, #[]⟩) (hd : (a == sysModules) = false) (p : Paired (DEnt w) es.toList kvs) (nd : (kvs.map (·.1)).Nodup) : DcK K w a kvs :=
  ⟨hd, _, es, ep, l, ⟨rfl, rfl, rfl⟩, rfl, p, nd⟩
end L2

set_option maxRecDepth 100000
namespace L2
open PySem PySem.Spec PyProof.Rows
/-! ### a list comprehension whose target stores several names -/
section
variable {X : Cx} {pins : List (Addr × Obj)} {σ : St} {H : Hp} {s : Shared}
end
end L2

set_option maxRecDepth 100000
namespace L2
open PySem PySem.Spec PyProof.Rows
/-! ### texts -/
theorem strsAre_of : ∀ {xs : List Str} {us : List Value}, Vals (xs.map V.str) us → StrsAre us xs
  | [], _, r => by cases r; exact .nil
  | x :: xs, _, r => by
    rw [List.map_cons] at r
    cases r with
    | cons q t =>
      obtain ⟨k, rfl⟩ := q
      exact .cons x k (strsAre_of t)
def rJoin (K : PySem.W.Frag) : V → List V → Hp → VK → Prop := fun x vs H Q => ∃ (sep : Str) (l : Addr) (xs : List Str), x = .str sep ∧ vs = [.ref l] ∧ SqL K H l (xs.map V.str) ∧ (xs.map (·.length)).sum + xs.length * sep.length ≤ 16777216 ∧ Q (.str (Txt.join sep xs)) H
section
variable {X : Cx}
theorem mt_join : MtR X "str.join" (rJoin X.K) := by
  intro pins s σ H x vs v us Q I rx rv h
  obtain ⟨sep, l, xs, rfl, rfl, hl, hz, q⟩ := h
  obtain ⟨t, rfl⟩ := rx
  obtain ⟨u, rfl, ru⟩ := Vals.one rv
  obtain rfl : u = Value.ref l := ru
  obtain ⟨its, r, pl, _⟩ := I.list hl
  exact join_list pl.isList (by simpa using strsAre_of r) hz fun t' k => ⟨.str (Txt.join sep xs), H, I.tok _, ⟨_, rfl⟩, q⟩
end
end L2

set_option maxRecDepth 100000
namespace L2
open PySem PySem.Spec PyProof.Rows
open Builtin
theorem noFill_tup_mul : fillsNumberSlot (.type "tuple") "mul" = pure false :=
  PySem.fillsNumberSlot_seq (id := "tuple.__mul__") (r := some (.builtin "tuple.__rmul__")) F.slot_tuple_mul.lookup (by decide +kernel) F.slot_tuple_rmul.lookup (by decide +kernel)
theorem rep_tup : seqRepeat? (.type "tuple") = pure (some (.builtin "tuple.__mul__")) := by
  unfold seqRepeat?
  rw [PySem.seqSlot_of (T := "tuple") (name := "__mul__") (id := "tuple.__mul__") F.slot_tuple_mul.lookup (by decide +kernel), PySem.seqSlot_of (T := "tuple") (name := "__rmul__") (id := "tuple.__rmul__") F.slot_tuple_rmul.lookup (by decide +kernel)]
  rfl
theorem rmul_tup (a : Int) (t : Tok) (l : Addr) (od : Option Addr) (items : Array Value) (n : Nat) (sl : Array (Option Value)) :
    Meets (Builtin.«int.__rmul__» ⟨[.int a t, .ref l], []⟩) (fun _ R s => s.heap.get? l = some ⟨.type "tuple", od, .seq items n, sl⟩ ∧ R (.ok (.ret Value.notImplemented)) s) :=
  .of_wp fun prog w A R s h => by obtain ⟨hp, g, d, tk, os⟩ := s; obtain ⟨hl, h⟩ := h; wp_walk; exact ⟨_, rfl, h⟩
theorem mul_tup0 (k : Int) (t : Tok) (l : Addr) (od : Option Addr) (items : Array Value) (n : Nat) (sl : Array (Option Value)) (h1 : ¬ (decide (k < -(2 ^ 63)) || decide (k ≥ 2 ^ 63)) = true) (h2 : ¬ (items.isEmpty || k == 1) = true) (h3 : (decide (k ≤ 0) || items.isEmpty) = true) :
    Meets (Builtin.«tuple.__mul__» ⟨[.ref l, .int k t], []⟩) (fun _ R s => s.heap.get? l = some ⟨.type "tuple", od, .seq items n, sl⟩ ∧ R (.ok (.ret (Value.ref s.heap.objs.size))) { s with heap := s.heap.push { cls := Value.type "tuple", data := .seq #[] } }) :=
  .of_wp fun prog w A R s h => by
    obtain ⟨hp, g, d, tk, os⟩ := s; obtain ⟨hl, h⟩ := h; have f1 := AutoSeq1.idx_int; wp_walk
    rw [if_neg h1]
    wp_walk
    exact ⟨_, rfl, h⟩
theorem mul_tup1 (k : Int) (t : Tok) (l : Addr) (od : Option Addr) (items : Array Value) (n : Nat) (sl : Array (Option Value)) (h1 : ¬ (decide (k < -(2 ^ 63)) || decide (k ≥ 2 ^ 63)) = true) (h2 : (items.isEmpty || k == 1) = true) :
    Meets (Builtin.«tuple.__mul__» ⟨[.ref l, .int k t], []⟩) (fun _ R s => s.heap.get? l = some ⟨.type "tuple", od, .seq items n, sl⟩ ∧ R (.ok (.ret (Value.ref l))) s) :=
  .of_wp fun prog w A R s h => by
    obtain ⟨hp, g, d, tk, os⟩ := s; obtain ⟨hl, h⟩ := h; have f1 := AutoSeq1.idx_int; wp_walk
    rw [if_neg h1]
    wp_walk
    exact ⟨_, rfl, h⟩
theorem mul_tupN (k : Int) (t : Tok) (l : Addr) (od : Option Addr) (items : Array Value) (n : Nat) (sl : Array (Option Value)) (h1 : ¬ (decide (k < -(2 ^ 63)) || decide (k ≥ 2 ^ 63)) = true) (h2 : ¬ (items.isEmpty || k == 1) = true) (h3 : ¬ (decide (k ≤ 0) || items.isEmpty) = true)
    (h4 : ¬ (items.size : Int) * k > (2 ^ 63 - 1) / 8) (h5 : ¬ Tuple.tupleTooMany (items.size * k) = true) (h6 : (List.foldl (fun x1 x2 => x1 ++ x2) #[] (List.replicate k.toNat items)).size ≤ sizeLine) :
    Meets (Builtin.«tuple.__mul__» ⟨[.ref l, .int k t], []⟩) (fun _ R s => s.heap.get? l = some ⟨.type "tuple", od, .seq items n, sl⟩ ∧ R (.ok (.ret (Value.ref s.heap.objs.size))) { s with heap := s.heap.push { cls := Value.type "tuple", data := .seq (List.foldl (fun x1 x2 => x1 ++ x2) #[] (List.replicate k.toNat items)) } }) :=
  .of_wp fun prog w A R s h => by
    obtain ⟨hp, g, d, tk, os⟩ := s; obtain ⟨hl, h⟩ := h; have f1 := AutoSeq1.idx_int; wp_walk
    rw [if_neg h1]
    wp_walk
    rw [if_neg h4]
    wp_walk
    exact ⟨_, rfl, h⟩
/-- t * k: the same tuple, or a new one -/
def rRepT : R2 := fun x y H Q => ∃ a k xs, x = .ref a ∧ y = .int k ∧ H a = some (.tup xs) ∧ 0 ≤ k ∧ xs.length * k.toNat ≤ 1000 ∧ k ≤ 1000 ∧
  (k = 1 → Q (.ref a) H) ∧ ((xs = [] → k = 1) → k ≠ 1 → ∀ p, H p = none → Q (.ref p) (upd H p (.tup (List.replicate k.toNat xs).flatten))) ∧ (xs ≠ [])
section
variable {X : Cx}
theorem op_repT : OpR X (binaryOp .Mult) rRepT := by
  intro pins s σ H x y v u Q I rx ry h
  obtain ⟨a, k, xs, rfl, rfl, hH, h0, hz, hk, q1, q2, hne⟩ := h
  cases rx
  obtain ⟨t, rfl⟩ := ry
  obtain ⟨its, r, ⟨o, ho, hc, n, hd⟩, _⟩ := I.tuple (SqT.of hH)
  obtain ⟨oc, od, odt, osl⟩ := o
  cases hc
  cases hd
  have hl := r.length
  have hlen : 0 < its.length := by
    rw [← hl]
    exact List.length_pos_iff.mpr hne
  have hem : its.toArray.isEmpty = false := by
    cases its with
    | nil => simp at hlen
    | cons _ _ => rfl
  have c1 : ¬ (decide (k < -(2 ^ 63)) || decide (k ≥ 2 ^ 63)) = true := by simp; omega
  refine wpAny_binaryOp_repeat_ref (T := "tuple") (U := "int") (by decide) ⟨_, ho, rfl⟩ (fun s' => typeIs_int s' k t) noFill_tup_mul F.fills_int_mul F.slot_int_rmul rep_tup F.slot_int_index.lookup
    (call_meets F.slot_int_rmul (typeIs_int s k t) F.entry_int_rmul (F.args_int_rmul_2 _ _) (rmul_tup k t a od its.toArray n osl) ⟨ho, rfl, ⟨_, ho, rfl⟩, ?_⟩)
  by_cases e1 : k = 1
  · exact call_meets F.slot_tuple_mul ⟨_, ho, rfl⟩ F.entry_tuple_mul (F.args_tuple_mul_2 _ _) (mul_tup1 k t a od its.toArray n osl c1 (by simp [e1])) ⟨ho, .ref a, H, I, rfl, q1 e1⟩
  have c2 : ¬ (its.toArray.isEmpty || k == 1) = true := by rw [hem]; simpa using e1
  have q2' := q2 (fun z => absurd z hne) e1
  by_cases e0 : k = 0
  · refine call_meets F.slot_tuple_mul ⟨_, ho, rfl⟩ F.entry_tuple_mul (F.args_tuple_mul_2 _ _) (mul_tup0 k t a od its.toArray n osl c1 c2 (by simp [e0])) ⟨ho, ?_⟩
    have hn := I.hok.fresh (Nat.le_refl s.heap.objs.size)
    have := q2' _ hn
    rw [e0] at this
    refine ⟨.ref s.heap.objs.size, _, I.laid (a := s.heap.objs.size) (o := .tup []) (t' := s.toks) (fun _ _ q => Heap.get?_push_of_some _ q) (Nat.le_refl _) ⟨Nat.zero_le _, [], .nil, ⟨_, Heap.get?_push_size _ rfl, rfl, 0, rfl⟩⟩, rfl, ?_⟩
    exact this
  · have hrep : List.foldl (fun x1 x2 => x1 ++ x2) #[] (List.replicate k.toNat its.toArray) = (List.replicate k.toNat its).flatten.toArray := by
      have := foldl_rep its k.toNat []
      rw [List.nil_append] at this
      exact this
    have hzi : its.length * k.toNat ≤ 1000 := by rw [← hl]; exact hz
    have hzk : (its.length : Int) * k ≤ 1000 := by
      have : ((its.length * k.toNat : Nat) : Int) ≤ 1000 := by omega
      rw [Int.natCast_mul, Int.toNat_of_nonneg h0] at this
      exact this
    have hsl : (sizeLine : Int) = 16777216 := by rw [sizeLine_eq]; rfl
    refine call_meets F.slot_tuple_mul ⟨_, ho, rfl⟩ F.entry_tuple_mul (F.args_tuple_mul_2 _ _) (mul_tupN k t a od its.toArray n osl c1 c2 (by rw [hem]; simp; omega) (by rw [List.size_toArray]; omega) (by rw [List.size_toArray]; unfold Tuple.tupleTooMany; simp; omega) (by rw [hrep, List.size_toArray, len_rep, sizeLine_eq, Nat.mul_comm]; omega)) ⟨ho, ?_⟩
    have hn := I.hok.fresh (Nat.le_refl s.heap.objs.size)
    rw [hrep]
    refine ⟨.ref s.heap.objs.size, _, I.laid (a := s.heap.objs.size) (o := .tup (List.replicate k.toNat xs).flatten) (t' := s.toks) (fun _ _ q => Heap.get?_push_of_some _ q) (Nat.le_refl _) ⟨by rw [len_rep, sizeLine_eq, Nat.mul_comm]; omega, _, r.rep k.toNat, ⟨_, Heap.get?_push_size _ rfl, rfl, 0, rfl⟩⟩, rfl, q2' _ hn⟩
/-- texts, one no greater than another -/
theorem op_le_str : OpR X (compareOp .LtE) (fun x y H Q => ∃ i j, x = .str i ∧ y = .str j ∧ Q (.bl (!decide (j.cps.toList < i.cps.toList))) H) := by
  intro pins s σ H x y v u Q I rx ry h
  obtain ⟨i, j, rfl, rfl, q⟩ := h
  obtain ⟨t, rfl⟩ := rx
  obtain ⟨t', rfl⟩ := ry
  exact PySem.P.le_str (fin_bl I q rfl)
/-! ### a call of a def that a table tells -/
def tDyn (P : Program) (w : World) (K : PySem.W.Frag) (mg : Str → Option Value) (base : Heap) (k : Nat) (tf : TE) (t : TA) : TE := fun σ H Q => tf σ H fun x H1 => ∃ f fd ps sp, x = .ref f ∧ FnOk P w K mg base CX0 k f fd ps sp ∧ PySem.W.keepIn K (.ref f) = true ∧ Binds K fd ps [] ∧ t σ H1 fun vs H2 => sp vs H2 Q E0
theorem pe_dyn {k : Nat} {o i e : Expr} {es : List Expr} {p pos : Pos} {tf : TE} {t : TA} (hr : Room k X.A) (hf : PE X (.Subscript o i p) tf) (ha : PA X (e :: es) t) (he : starEach (e :: es) X.env = (false, eval e X.env) :: starEach es X.env := by rfl) (hpl : (backTo pos (starEach es X.env)).any (·.1) = false := by rfl) :
    PE X (.Call (.Subscript o i p) (e :: es) [] pos) (tDyn X.prog X.w X.K X.mg X.base k tf t) := by
  intro pins s σ H Q I h
  show wpAny _ _ (eval (.Subscript o i p) X.env >>= fun f => callWith pos f [] (backTo pos (starEach (e :: es) X.env)) (backToKw pos (keywordEach [] X.env))) _ _ _
  refine wpAny_bind (thn (hf pins s σ H _ I h) fun u s1 ⟨x, H1, I1, r1, f, fd, ps, sp, ex, F, hk, hb, q1⟩ => ?_)
  subst ex
  obtain rfl : u = Value.ref f := r1
  refine PySem.W.callWith_K (h₀ := X.base) I1.ok.mod.kin hk (thn (ha pos pins s1 σ H1 _ I1 q1) fun us s2 ⟨vs, H2, I2, r2, q2⟩ => ⟨I2.kIn, ?_⟩) he hpl
  exact run_fn F hr hb .nil pass0 I2 r2 (by rw [List.append_nil]; exact q2)
end
end L2

set_option maxRecDepth 100000
namespace L2
open PySem PySem.Spec PyProof.Rows
/-! ### max(xs, default=d) of a list of ints -/
section
variable {prog : Program} {w : World} {A : Around} {R : Result → Shared → Prop} {it : Addr} {fp wr : List Addr} {m : Nat} {P : Nat → Value → Prop} {St : Nat → Heap → Prop}
/-- the loop behind the first item -/
theorem mx_loop {kw : List (Str × Value)} (Wk : Walks prog w A.in1 it fp wr m P St) (bt : Nat → Nat → Bool) (cmp : CmpOf prog w A.in1 .Gt P bt) (B : Addr) (nB : B ∉ fp) :
    ∀ (k j : Nat) (z : Shared) (u : Value) (c : Nat), m - (j + 1) = k → j + 1 ≤ m → St (j + 1) z.heap → P (argBest bt j) u → z.heap.get? B = some ⟨.type "list", none, .seq #[u, u] c, #[]⟩ →
    (∀ v h' tk, P (argBest bt (m - 1)) v → (∀ b o, b ∉ wr → b ≠ B → z.heap.get? b = some o → h'.get? b = some o) → R (.ok (.ret v)) { z with heap := h', toks := tk }) →
    codeAny (model prog w) A (.builtin "max.loop" ⟨[.ref it, .none, .ref B], kw⟩) R z := by
  have nW : B ∉ wr := fun h => nB (Wk.sub _ h)
  have nm : (toString "max" ++ toString ".loop" : String) = "max.loop" := by decide
  intro k
  induction k with
  | zero =>
    intro j z u c ek lej sj pj gB fin
    have ej : j + 1 = m := by omega
    refine codeAny_builtin PySem.F.entry_max_loop ?_
    rw [Around.under_plainId PySem.F.plain_max_loop _]
    show wpAny _ A.in1 (seqItems? (.ref B) >>= _) _ _ z
    refine wpAny_bind (wpAny_seqItems gB rfl ?_)
    show wpAny _ A.in1 (tryCatch (pyNext (.ref it)) _ >>= _) _ _ z
    refine wpAny_bind (wpAny_tryCatch (Wk.done z _ _ (ej ▸ sj) fun g tk kp => ?_))
    have gB' := kp B _ nW gB
    show wpAny _ A.in1 (updateSeq B (fun _ => #[]) >>= _) _ _ _
    refine wpAny_bind ?_
    refine wpAny_updateSeq gB' rfl (wpAny_bind (wpAny_letGo (wpAny_pure ?_)))
    exact fin u _ tk (by rw [← ej]; exact pj) fun b o b1 b2 e => (Heap.get?_update_other _ _ (Ne.symm b2)).trans (kp b o b1 e)
  | succ k ih =>
    intro j z u c ek lej sj pj gB fin
    have lt : j + 1 < m := by omega
    refine codeAny_builtin PySem.F.entry_max_loop ?_
    rw [Around.under_plainId PySem.F.plain_max_loop _]
    show wpAny _ A.in1 (seqItems? (.ref B) >>= _) _ _ z
    refine wpAny_bind (wpAny_seqItems gB rfl ?_)
    show wpAny _ A.in1 (tryCatch (pyNext (.ref it)) _ >>= _) _ _ z
    refine wpAny_bind (wpAny_tryCatch (Wk.item (j + 1) z _ _ lt sj fun v g tk pv sv kp => ?_))
    have gB' := kp B _ nW gB
    show wpAny _ A.in1 (tryCatch (holding [v, v] (richCompare .Gt v u >>= _)) _ >>= _) _ _ _
    refine wpAny_bind (wpAny_tryCatch (wpAny_holding (wpAny_bind (cmp (j + 1) (argBest bt j) v u _ _ _ pv pj ?_))))
    refine wpAny_bind (wpAny_holding (wpAny_truthy_bool ?_))
    refine wpAny_bind (wpAny_letGo (wpAny_pure ?_))
    cases eb : bt (j + 1) (argBest bt j) with
    | true =>
      simp only [if_true]
      refine wpAny_bind ?_
      refine wpAny_updateSeq gB' rfl (wpAny_bind (wpAny_letGo ?_))
      rw [nm]
      refine wpAny_pure ⟨plainId_quiet PySem.F.plain_max_loop _, ih (j + 1) _ v _ (by omega) lt (Wk.frame _ _ _ sv fun b bf o e => ?_) (by simp only [argBest, eb, if_true]; exact pv) (Heap.get?_update_self _ gB' rfl) fun v' g' tk' p' k' => ?_⟩
      · exact (Heap.get?_update_other _ _ (fun q : B = b => nB (by rw [q]; exact bf))).trans e
      · exact fin v' g' tk' p' fun b o b1 b2 e => k' b o b1 b2 ((Heap.get?_update_other _ _ (Ne.symm b2)).trans (kp b o b1 e))
    | false =>
      simp only [Bool.false_eq_true, if_false]
      refine wpAny_bind (wpAny_letGo ?_)
      rw [nm]
      refine wpAny_pure ⟨plainId_quiet PySem.F.plain_max_loop _, ih (j + 1) _ u c (by omega) lt sv (by simp only [argBest, eb, Bool.false_eq_true, if_false]; exact pj) gB' fun v' g' tk' p' k' => ?_⟩
      exact fin v' g' tk' p' fun b o b1 b2 e => k' b o b1 b2 (kp b o b1 e)
theorem mx_first {kw : List (Str × Value)} {d : Value} (hkw : kw = [(("default" : Str), d)]) (Wk : Walks prog w A.in1 it fp wr m P St) (bt : Nat → Nat → Bool) (cmp : CmpOf prog w A.in1 .Gt P bt) (B : Addr) (nB : B ∉ fp) {z : Shared} {c : Nat} (s0 : St 0 z.heap) (gB : z.heap.get? B = some ⟨.type "list", none, .seq #[] c, #[]⟩)
    (fin : ∀ v h' tk, ((m = 0 ∧ v = d) ∨ (0 < m ∧ P (argBest bt (m - 1)) v)) → (∀ b o, b ∉ wr → b ≠ B → z.heap.get? b = some o → h'.get? b = some o) → R (.ok (.ret v)) { z with heap := h', toks := tk }) :
    codeAny (model prog w) A (.builtin "max.loop" ⟨[.ref it, .none, .ref B], kw⟩) R z := by
  subst hkw
  have nW : B ∉ wr := fun h => nB (Wk.sub _ h)
  have nm : (toString "max" ++ toString ".loop" : String) = "max.loop" := by decide
  refine codeAny_builtin PySem.F.entry_max_loop ?_
  rw [Around.under_plainId PySem.F.plain_max_loop _]
  show wpAny _ A.in1 (seqItems? (.ref B) >>= _) _ _ z
  refine wpAny_bind (wpAny_seqItems gB rfl ?_)
  show wpAny _ A.in1 (tryCatch (pyNext (.ref it)) _ >>= _) _ _ z
  by_cases e0 : m = 0
  · refine wpAny_bind (wpAny_tryCatch (Wk.done z _ _ (e0 ▸ s0) fun g tk kp => ?_))
    show wpAny _ A.in1 (rule _ >>= _) _ _ _
    refine wpAny_bind (wpAny_rule (wpAny_pure ?_))
    exact fin d g tk (.inl ⟨e0, rfl⟩) fun b o b1 _ e => kp b o b1 e
  · refine wpAny_bind (wpAny_tryCatch (Wk.item 0 z _ _ (by omega) s0 fun v g tk pv sv kp => ?_))
    have gB' := kp B _ nW gB
    show wpAny _ A.in1 (updateSeq B (fun _ => #[v, v]) >>= _) _ _ _
    refine wpAny_bind ?_
    refine wpAny_updateSeq gB' rfl ?_
    rw [nm]
    refine wpAny_pure ⟨plainId_quiet PySem.F.plain_max_loop _, mx_loop Wk bt cmp B nB _ 0 _ v _ rfl (by omega) (Wk.frame _ _ _ sv fun b bf o e => ?_) pv (Heap.get?_update_self _ gB' rfl) fun v' g' tk' p' k' => ?_⟩
    · exact (Heap.get?_update_other _ _ (fun q : B = b => nB (by rw [q]; exact bf))).trans e
    · exact fin v' g' tk' (.inr ⟨by omega, p'⟩) fun b o b1 b2 e => k' b o b1 b2 ((Heap.get?_update_other _ _ (Ne.symm b2)).trans (kp b o b1 e))
theorem args_mx (a d : Value) : argsOk "max" ⟨[a], [(("default" : Str), d)]⟩ := by unfold argsOk; kernel_rfl
theorem call_tree_kw {E : Value → Shared → Prop} {s : Shared} {id : String} {b : Builtin} {as : List Value} {kw : List (Str × Value)} {Q : Value → Shared → Prop} (hk : builtinKind id = none) (hp : plainId id = true) (hb : entryFor table id = some b) (ha : argsOk id ⟨as, kw⟩)
    (hc : wpAny (model prog w) A.in1 (b ⟨as, kw⟩) (fun fin s' => match fin with
      | .done f => (match (Except.ok f : Result) with | .ok (.ret v) => Q v s' | .ok _ => False | .error e => E e s')
      | .again c => c.quiet = true ∧ codeAny (model prog w) A c (fun r s' => match r with | .ok (.ret v) => Q v s' | .ok _ => False | .error e => E e s') s') E s) : wpAny (model prog w) A (call (.builtin id) as kw) Q E s := by
  refine wpAny_call (codeAny_call_builtin hp hb ?_)
  simp only [checkBuiltinCall, hk]
  cases sg : Manifest.signature? id with
  | none => exact wpAny_pure hc
  | some sig =>
    simp only [argsOk, sg] at ha
    have h2 : Bind.checkArgs id sig ⟨as, kw⟩ = pure () := ha
    show wpAny _ A.in1 (Bind.checkArgs id sig ⟨as, kw⟩) _ _ s
    rw [h2]
    exact wpAny_pure hc
theorem max_default {E : Value → Shared → Prop} {s : Shared} {l : Addr} {xs : Array (Int × Tok)} {d : Value} {Q : Value → Shared → Prop} (hh : A.handled = none) (hl : s.heap.IsList l (intItems xs))
    (h : ∀ v h' tk, ((xs.size = 0 ∧ v = d) ∨ (0 < xs.size ∧ (intItems xs)[argBest (fun i j => decide (numAt xs i > numAt xs j)) (xs.size - 1)]? = some v)) → (∀ b o, s.heap.get? b = some o → h'.get? b = some o) → Q v { s with heap := h', toks := tk }) :
    wpAny (model prog w) A (call (.builtin "max") [.ref l] [(("default" : Str), d)]) Q E s := by
  have nm : (toString "max" ++ toString ".loop" : String) = "max.loop" := by decide
  refine call_tree_kw PySem.F.kind_max PySem.F.plain_max PySem.F.entry_max (args_mx _ _) ?_
  show wpAny _ A.in1 (Builtin.Builtins.bindParams "max" ["key", "default"] 0 ⟨[], [(("default" : Str), d)]⟩ >>= _) _ _ s
  refine wpAny_bind (wpAny_of_eq (show Builtin.Builtins.bindParams "max" ["key", "default"] 0 ⟨[], [(("default" : Str), d)]⟩ = pure [none, some d] from rfl) ?_)
  refine wpAny_bind (wpAny_pure ?_)
  refine wpAny_bind (iter_intList hl fun s₂ e st hfp hlI => ?_)
  subst e
  refine wpAny_bind (wpAny_newObj_type ?_)
  rw [nm]
  have Wk := Walks.list (prog := prog) (w := w) (A := A.in1) hh _ l hlI (intItems xs)
  refine wpAny_pure ⟨plainId_quiet PySem.F.plain_max_loop _, mx_first (d := d) (kw := [(("default" : Str), d)]) rfl Wk (fun i j => decide (numAt xs i > numAt xs j)) (CmpOf.ints_gt (numAt xs) (fun _ _ => intItems_at)) _ (fun hm => Nat.lt_irrefl _ (hfp _ hm)) (Wk.frame _ _ _ st fun b _ o e => Heap.get?_push_of_some _ e) (Heap.get?_push_size _ rfl) ?_⟩
  intro v h' tk hv hk
  refine h v h' tk (by simpa [intItems] using hv) fun b o e => ?_
  have lt := Heap.lt_size e
  refine hk b o (by simpa using Nat.ne_of_lt lt) ?_ (Heap.get?_push_of_some _ (Heap.get?_push_of_some _ e))
  show b ≠ (s.heap.push _).objs.size
  rw [Heap.size_push]
  exact Nat.ne_of_lt (Nat.lt_succ_of_lt lt)
end
end L2

set_option maxRecDepth 100000
namespace Seek
open PySem PySem.Spec PyProof.Rows L2
section
variable {X : Cx}
/-- max(e, default=d) of a list of ints -/
def tMaxD (K : PySem.W.Frag) (t tk : TA) : TE := fun σ H Q => t σ H fun vs H1 => tk σ H1 fun zs H2 => ∃ (l : Addr) (ns : List Int) (z : V), vs = [.ref l] ∧ zs = [z] ∧ SqL K H2 l (ns.map V.int) ∧ Q (if ns = [] then z else .int (mxL ns)) H2
theorem pe_maxD {e d : Expr} {t tk : TA} {p pos kp : Pos} (hc : X.calm = true) (hg : Gl X "max") (hm : X.mg "max" = none) (ha : PA X [e] t) (hk : PK X [⟨some "default", d, kp⟩] tk) (he : backTo pos (starEach [e] X.env) = (false, eval e X.env) :: backTo pos (starEach [] X.env) := by rfl) (hpl : (backTo pos (starEach [e] X.env)).any (·.1) = false := by rfl) :
    PE X (.Call (.Name "max" p) [e] [⟨some "default", d, kp⟩] pos) (tMaxD X.K t tk) := by
  intro pins s σ H Q I h
  refine wpAny_Call_Name_kw (ld_blt I hg hm PyProof.Rows.Boot.«max» ?_)
  refine PyProof.Rows.callWith_kw (thn (ha pos pins s σ H _ I h) fun us s1 ⟨vs, H1, I1, r, q⟩ => thn (hk pos pins s1 σ H1 _ I1 q) fun ws s2 ⟨zs, H2, I2, rz, l, ns, z, ev, ez, hl, q2⟩ => ?_) he hpl
  subst ev ez
  obtain ⟨u, rfl, ru⟩ := vals1 r
  obtain ⟨y, rfl, ry⟩ := vals1 rz
  obtain rfl : u = Value.ref l := ru
  obtain ⟨its, rv, pl, hz⟩ := I2.list hl
  obtain ⟨ps, e1, e2⟩ := toks_of rv
  have hlist : s2.heap.IsList l (intItems ps.toArray) := by
    have e : intItems ps.toArray = its.toArray := by rw [e1]; simp [intItems]
    rw [e]; exact pl.isList
  have hlen : ps.length = ns.length := by rw [← e2, List.length_map]
  refine max_default (d := y) (I2.ok.hd hc) hlist fun v h' tk hv hk => ?_
  rcases hv with ⟨h0, rfl⟩ | ⟨h0, hv⟩
  · have hn : ns = [] := List.length_eq_zero_iff.mp (by rw [← hlen]; simpa using h0)
    rw [if_pos hn] at q2
    exact ⟨z, H2, I2.kept hk, ry, q2⟩
  · have hn : ns ≠ [] := fun e => by rw [e] at hlen; simp [hlen] at h0
    rw [if_neg hn] at q2
    obtain ⟨t, e⟩ := item_of e2 hv
    rw [numAt_of e2, show ps.toArray.size = ns.length by simp [hlen]] at e
    exact ⟨.int (mxL ns), H2, I2.kept hk, ⟨t, e⟩, q2⟩
end
end Seek

set_option maxRecDepth 100000
set_option maxHeartbeats 4000000
namespace Seek
open PySem PySem.Spec PyProof.Rows L2
/-! ### the machine as an object -/
structure MS where
  rows : V
  text : Str
  row : Int
  place : Int
  groups : V
  held : V
  choices : Addr
  made : Int
  found : Bool
  ended : Bool
def MS.fs (s : MS) : List (Str × V) := [("rows", s.rows), ("text", .str s.text), ("row", .int s.row), ("at", .int s.place), ("groups", s.groups), ("held", s.held), ("choices", .ref s.choices), ("made", .int s.made), ("found", .bl s.found), ("ended", .bl s.ended)]
theorem lk_neg {x y : Str} {v : V} {l : List (Str × V)} (h : (x == y) = false) : ((y, v) :: l).lookup x = l.lookup x := by rw [List.lookup_cons, h]
theorem lk_pos {x : Str} {v : V} {l : List (Str × V)} : ((x, v) :: l).lookup x = some v := by simp
theorem pf_neg {x y : Str} {v u : V} {l : List (Str × V)} (h : ¬ y = x) : putF x v ((y, u) :: l) = (y, u) :: putF x v l := by
  show (if y = x then (y, v) :: l else (y, u) :: putF x v l) = _
  rw [if_neg h]
theorem pf_pos {x : Str} {v u : V} {l : List (Str × V)} : putF x v ((x, u) :: l) = (x, v) :: l := by
  show (if x = x then (x, v) :: l else (x, u) :: putF x v l) = _
  rw [if_pos rfl]
theorem pf_nil {x : Str} {v : V} : putF x v [] = [(x, v)] := rfl
theorem fs_rows (s : MS) : s.fs.lookup ("rows" : Str) = some s.rows := lk_pos
theorem fs_text (s : MS) : s.fs.lookup ("text" : Str) = some (.str s.text) := by unfold MS.fs; rw [lk_neg (by decide +kernel), lk_pos]
theorem fs_row (s : MS) : s.fs.lookup ("row" : Str) = some (.int s.row) := by unfold MS.fs; rw [lk_neg (by decide +kernel), lk_neg (by decide +kernel), lk_pos]
theorem fs_at (s : MS) : s.fs.lookup ("at" : Str) = some (.int s.place) := by unfold MS.fs; rw [lk_neg (by decide +kernel), lk_neg (by decide +kernel), lk_neg (by decide +kernel), lk_pos]
theorem fs_groups (s : MS) : s.fs.lookup ("groups" : Str) = some s.groups := by unfold MS.fs; rw [lk_neg (by decide +kernel), lk_neg (by decide +kernel), lk_neg (by decide +kernel), lk_neg (by decide +kernel), lk_pos]
theorem fs_held (s : MS) : s.fs.lookup ("held" : Str) = some s.held := by unfold MS.fs; rw [lk_neg (by decide +kernel), lk_neg (by decide +kernel), lk_neg (by decide +kernel), lk_neg (by decide +kernel), lk_neg (by decide +kernel), lk_pos]
theorem fs_choices (s : MS) : s.fs.lookup ("choices" : Str) = some (.ref s.choices) := by unfold MS.fs; rw [lk_neg (by decide +kernel), lk_neg (by decide +kernel), lk_neg (by decide +kernel), lk_neg (by decide +kernel), lk_neg (by decide +kernel), lk_neg (by decide +kernel), lk_pos]
theorem fs_made (s : MS) : s.fs.lookup ("made" : Str) = some (.int s.made) := by unfold MS.fs; rw [lk_neg (by decide +kernel), lk_neg (by decide +kernel), lk_neg (by decide +kernel), lk_neg (by decide +kernel), lk_neg (by decide +kernel), lk_neg (by decide +kernel), lk_neg (by decide +kernel), lk_pos]
theorem fs_found (s : MS) : s.fs.lookup ("found" : Str) = some (.bl s.found) := by unfold MS.fs; rw [lk_neg (by decide +kernel), lk_neg (by decide +kernel), lk_neg (by decide +kernel), lk_neg (by decide +kernel), lk_neg (by decide +kernel), lk_neg (by decide +kernel), lk_neg (by decide +kernel), lk_neg (by decide +kernel), lk_pos]
theorem fs_ended (s : MS) : s.fs.lookup ("ended" : Str) = some (.bl s.ended) := by unfold MS.fs; rw [lk_neg (by decide +kernel), lk_neg (by decide +kernel), lk_neg (by decide +kernel), lk_neg (by decide +kernel), lk_neg (by decide +kernel), lk_neg (by decide +kernel), lk_neg (by decide +kernel), lk_neg (by decide +kernel), lk_neg (by decide +kernel), lk_pos]
theorem pf_row (s : MS) (i : Int) : putF "row" (.int i) s.fs = ({ s with row := i } : MS).fs := by unfold MS.fs; rw [pf_neg (by decide +kernel), pf_neg (by decide +kernel), pf_pos]
theorem pf_at (s : MS) (i : Int) : putF "at" (.int i) s.fs = ({ s with place := i } : MS).fs := by unfold MS.fs; rw [pf_neg (by decide +kernel), pf_neg (by decide +kernel), pf_neg (by decide +kernel), pf_pos]
theorem pf_groups (s : MS) (v : V) : putF "groups" v s.fs = ({ s with groups := v } : MS).fs := by unfold MS.fs; rw [pf_neg (by decide +kernel), pf_neg (by decide +kernel), pf_neg (by decide +kernel), pf_neg (by decide +kernel), pf_pos]
theorem pf_held (s : MS) (v : V) : putF "held" v s.fs = ({ s with held := v } : MS).fs := by unfold MS.fs; rw [pf_neg (by decide +kernel), pf_neg (by decide +kernel), pf_neg (by decide +kernel), pf_neg (by decide +kernel), pf_neg (by decide +kernel), pf_pos]
theorem pf_made (s : MS) (i : Int) : putF "made" (.int i) s.fs = ({ s with made := i } : MS).fs := by unfold MS.fs; rw [pf_neg (by decide +kernel), pf_neg (by decide +kernel), pf_neg (by decide +kernel), pf_neg (by decide +kernel), pf_neg (by decide +kernel), pf_neg (by decide +kernel), pf_neg (by decide +kernel), pf_pos]
theorem pf_found (s : MS) (b : Bool) : putF "found" (.bl b) s.fs = ({ s with found := b } : MS).fs := by unfold MS.fs; rw [pf_neg (by decide +kernel), pf_neg (by decide +kernel), pf_neg (by decide +kernel), pf_neg (by decide +kernel), pf_neg (by decide +kernel), pf_neg (by decide +kernel), pf_neg (by decide +kernel), pf_neg (by decide +kernel), pf_pos]
theorem pf_ended (s : MS) (b : Bool) : putF "ended" (.bl b) s.fs = ({ s with ended := b } : MS).fs := by unfold MS.fs; rw [pf_neg (by decide +kernel), pf_neg (by decide +kernel), pf_neg (by decide +kernel), pf_neg (by decide +kernel), pf_neg (by decide +kernel), pf_neg (by decide +kernel), pf_neg (by decide +kernel), pf_neg (by decide +kernel), pf_neg (by decide +kernel), pf_pos]
theorem fs_few (s : MS) : s.fs.length < 1000 := by show 10 < 1000; decide
/-- no method's name is an attribute -/
def NoM (m : Str) : Prop := ∀ s : MS, s.fs.lookup m = none
theorem noM {m : Str} (h : (m == "rows") = false ∧ (m == "text") = false ∧ (m == "row") = false ∧ (m == "at") = false ∧ (m == "groups") = false ∧ (m == "held") = false ∧ (m == "choices") = false ∧ (m == "made") = false ∧ (m == "found") = false ∧ (m == "ended") = false) : NoM m := fun s => by
  obtain ⟨h1, h2, h3, h4, h5, h6, h7, h8, h9, h10⟩ := h
  unfold MS.fs
  rw [lk_neg h1, lk_neg h2, lk_neg h3, lk_neg h4, lk_neg h5, lk_neg h6, lk_neg h7, lk_neg h8, lk_neg h9, lk_neg h10]
  rfl
theorem no_go_back : NoM "go_back" := noM (by decide +kernel)
theorem no_enter : NoM "enter" := noM (by decide +kernel)
theorem no_move : NoM "move" := noM (by decide +kernel)
theorem no_way : NoM "way" := noM (by decide +kernel)
theorem no_moves : NoM "moves" := noM (by decide +kernel)
/-! ### choices -/
abbrev Chc := Int × Int × V × V
def ChAt (H : Hp) (v : V) (q : Chc) : Prop := ∃ t, v = .ref t ∧ H t = some (.tup [.int q.1, .int q.2.1, q.2.2.1, q.2.2.2])
theorem ChAt.mono {H H' : Hp} (t : ∀ b xs, H b = some (.tup xs) → H' b = some (.tup xs)) {v : V} {q : Chc} (h : ChAt H v q) : ChAt H' v q := by
  obtain ⟨a, e, h⟩ := h
  exact ⟨a, e, t _ _ h⟩
/-- a machine at m, with the choices cs, the last one kept last -/
structure MM where
  s : MS
  cs : List Chc
def MM.enter (M : MM) (q : Chc) : MM := { M with s := { M.s with row := q.1, place := q.2.1, groups := q.2.2.1, held := q.2.2.2 } }
def MM.back (M : MM) : MM := match M.cs.getLast? with
  | none => { M with s := { M.s with ended := true } }
  | some q => MM.enter { M with cs := M.cs.dropLast } q
structure MAt (C : Addr) (H : Hp) (m : Addr) (M : MM) : Prop where
  ob : ∃ dx, H m = some (.ins C dx M.s.fs)
  ch : ∃ vs, H M.s.choices = some (.lst vs) ∧ Paired (ChAt H) vs M.cs
theorem MAt.ne {C : Addr} {H : Hp} {m : Addr} {M : MM} (h : MAt C H m M) : m ≠ M.s.choices := by
  obtain ⟨⟨dx, e⟩, vs, e', _⟩ := h
  exact ne_of e e' (by intro z; cases z)
theorem MAt.gro {S : List Addr} {C : Addr} {H H' : Hp} {m : Addr} {M : MM} (h : MAt C H m M) (g : Gro S H H') (h1 : m ∉ S) (h2 : M.s.choices ∉ S) : MAt C H' m M := by
  obtain ⟨⟨dx, e⟩, vs, e', p⟩ := h
  exact ⟨⟨dx, g.keep _ _ e h1⟩, vs, g.keep _ _ e' h2, Paired.mapP p fun _ _ q => q.mono g.tups⟩
theorem MAt.new {C : Addr} {H : Hp} {m p : Addr} {M : MM} {o : HO} (h : MAt C H m M) (hp : H p = none) : MAt C (upd H p o) m M := h.gro (S := []) (Gro.new hp o) (by simp) (by simp)
/-- an attribute stored -/
theorem Gro.ins {S : List Addr} {H : Hp} {p C dx : Addr} {fs : List (Str × V)} (hp : p ∈ S) (h : H p = some (.ins C dx fs)) (o : HO) : Gro S H (upd H p o) :=
  ⟨fun b u q hb => by rw [upd_ne (fun z => hb (by rw [z]; exact hp))]; exact q, fun b ys q => by rw [upd_ne (ne_of q h (by intro z; cases z))]; exact q⟩
theorem MAt.put {C : Addr} {H : Hp} {m dx : Addr} {M : MM} {s' : MS} (h : MAt C H m M) (hx : H m = some (.ins C dx M.s.fs)) (hc : s'.choices = M.s.choices) : MAt C (upd H m (.ins C dx s'.fs)) m ⟨s', M.cs⟩ := by
  have hne := h.ne
  obtain ⟨_, vs, e', p⟩ := h
  have g : Gro [m] H (upd H m (.ins C dx s'.fs)) := Gro.ins (by simp) hx _
  refine ⟨⟨dx, upd_same⟩, vs, ?_, Paired.mapP p fun _ _ q => q.mono g.tups⟩
  show (upd H m (.ins C dx s'.fs)) s'.choices = _
  rw [hc, upd_ne (Ne.symm hne)]
  exact e'
/-! ### the class as the top has made it -/
structure Txt (K : PySem.W.Frag) (mg : Str → Option Value) (C : Addr) : Prop where
  cl : Cls K C
  a1 : NoAttr K C "rows"
  a2 : NoAttr K C "text"
  a3 : NoAttr K C "row"
  a4 : NoAttr K C "at"
  a5 : NoAttr K C "groups"
  a6 : NoAttr K C "held"
  a7 : NoAttr K C "choices"
  a8 : NoAttr K C "made"
  a9 : NoAttr K C "found"
  a10 : NoAttr K C "ended"
/-- a method as one fact -/
structure OwnM (P : Program) (w : World) (K : PySem.W.Frag) (mg : Str → Option Value) (base : Heap) (k : Nat) (C : Addr) (m : Str) (ps : List Str) (sp : Sp) : Prop where
  ex : ∃ f fd, FnOk P w K mg base CX0 k f fd ps sp ∧ Meth K C m f ∧ Binds K fd ps []
theorem OwnM.mono {P : Program} {w : World} {K : PySem.W.Frag} {mg : Str → Option Value} {base : Heap} {j k : Nat} {C : Addr} {x : Str} {ps : List Str} {sp : Sp} (O : OwnM P w K mg base j C x ps sp) (h : j ≤ k) : OwnM P w K mg base k C x ps sp := by
  obtain ⟨f, fd, F, r⟩ := O.ex
  exact ⟨f, fd, F.mono h, r⟩
theorem pe_ownm {X : Cx} {k : Nat} {C : Addr} {m : Str} {ps : List Str} {sp : Sp} {o e : Expr} {es : List Expr} {ta : TE} {t : TA} {apos pos : Pos} {pl : Sem Bool} (O : OwnM X.prog X.w X.K X.mg X.base k C m ps sp) (c : Cls X.K C) (hr : Room k X.A) (he : PE X o ta) (ha : PA X (e :: es) t)
    (hst : starEach (e :: es) X.env = (false, eval e X.env) :: starEach es X.env := by rfl) (hpl : (backTo pos (starEach es X.env)).any (·.1) = false := by rfl)
    (ht : eval (.Call (.Attribute o m apos) (e :: es) [] pos) X.env = (do
      let ov ← eval o X.env
      standAt apos.atName
      let (f, first) ← holding [ov] (getMethod ov m pl)
      callWith pos f first (backTo pos (starEach (e :: es) X.env)) (backToKw pos (keywordEach [] X.env))) := by rfl) : PE X (.Call (.Attribute o m apos) (e :: es) [] pos) (tMeth C m sp [] E0 ta t) := by
  obtain ⟨f, fd, F, hm, hb⟩ := O.ex
  exact pe_meth he c hm F hr hb .nil pass0 ha hst hpl ht
theorem pe_ownm0 {X : Cx} {k : Nat} {C : Addr} {m : Str} {ps : List Str} {sp : Sp} {o : Expr} {ta : TE} {apos pos : Pos} {pl : Sem Bool} (O : OwnM X.prog X.w X.K X.mg X.base k C m ps sp) (c : Cls X.K C) (hr : Room k X.A) (he : PE X o ta)
    (ht : eval (.Call (.Attribute o m apos) [] [] pos) X.env = (do
      let ov ← eval o X.env
      standAt apos.atName
      let (f, first) ← holding [ov] (getMethod ov m pl)
      callWith pos f first (backTo pos (starEach [] X.env)) (backToKw pos (keywordEach [] X.env))) := by rfl) : PE X (.Call (.Attribute o m apos) [] [] pos) (tMeth C m sp [] E0 ta tNil) := by
  obtain ⟨f, fd, F, hm, hb⟩ := O.ex
  exact pe_meth0 he c hm F hr hb .nil pass0 ht
/-- the class's making as one fact -/
structure OwnC (P : Program) (w : World) (K : PySem.W.Frag) (mg : Str → Option Value) (base : Heap) (k : Nat) (C : Addr) (x : Str) (ps : List Str) (sp : Sp) : Prop where
  ex : ∃ f fd, FnOk P w K mg base CX0 k f fd ps sp ∧ Mk K C f ∧ mg x = some (.ref C) ∧ Binds K fd ps []
end Seek

set_option maxRecDepth 100000
namespace L2
open PySem PySem.Spec PyProof.Rows
section
variable {X : Cx}
/-- a list is not the empty one -/
theorem op_neNil (hu : X.A.units < cLine) : OpR X (compareOp .NotEq) (fun x y H Q => ∃ (p r : Addr) (xs : List V), x = .ref p ∧ y = .ref r ∧ SqL X.K H p xs ∧ SqL X.K H r [] ∧ Q (.bl (!xs.isEmpty)) H) := by
  intro pins s σ H x y v u Q I rx ry h
  obtain ⟨p, r, xs, rfl, rfl, hp, hr, q⟩ := h
  cases rx
  cases ry
  obtain ⟨its, rv, pl, hz⟩ := I.list hp
  obtain ⟨its2, rv2, pl2, hz2⟩ := I.list hr
  cases rv2
  cases rv with
  | nil => exact PySem.EqBoolInt.of_rcne (SeqAt.RcNeAt.lists (e := fun _ => true) pl.isList pl2.isList (by simp) hu (fun j h1 h2 => absurd h1 (by simp))) ⟨.bl false, H, I, rfl, q⟩
  | cons r1 r2 => exact PySem.EqBoolInt.of_rcne (SeqAt.RcNeAt.lists_lengths pl.isList pl2.isList (by simp) hu) ⟨.bl true, H, I, rfl, q⟩
end
end L2
namespace Seek
open PySem PySem.Spec PyProof.Rows L2
theorem OwnC.mono {P : Program} {w : World} {K : PySem.W.Frag} {mg : Str → Option Value} {base : Heap} {j k : Nat} {C : Addr} {x : Str} {ps : List Str} {sp : Sp} (O : OwnC P w K mg base j C x ps sp) (h : j ≤ k) : OwnC P w K mg base k C x ps sp := by
  obtain ⟨f, fd, F, r⟩ := O.ex
  exact ⟨f, fd, F.mono h, r⟩
theorem pe_ownc {X : Cx} {k : Nat} {C : Addr} {x : Str} {ps : List Str} {sp : Sp} {p pos : Pos} {e : Expr} {es : List Expr} {t : TA} (O : OwnC X.prog X.w X.K X.mg X.base k C x ps sp) (hr : Room (k + 1) X.A) (hg : Gl X x) (ha : PA X (e :: es) t)
    (hdb : (x == ("__debug__" : Str)) = false := by decide) (he : starEach (e :: es) X.env = (false, eval e X.env) :: starEach es X.env := by rfl) (hpl : (backTo pos (starEach es X.env)).any (·.1) = false := by rfl) :
    PE X (.Call (.Name x p) (e :: es) [] pos) (tMake C sp [] E0 t) := by
  obtain ⟨f, fd, F, M, hm, hb⟩ := O.ex
  exact pe_make M F hr hg hm hb .nil pass0 ha hdb he hpl
end Seek

set_option maxRecDepth 100000
set_option maxHeartbeats 4000000
namespace Seek
open PySem PySem.Spec PyProof.Rows L2
/-! ### rows, as a function of the pattern and of the place of the first one -/
inductive Rw where
  | pat (h : Hd) | tup (xs : List V)
/-! ### how many rows -/
/-! ### the go's, set in their places -/
/-! ### rows on the heap -/
def RowAt (H : Hp) (v : V) : Rw → Prop
  | .pat h => PatAt H 1 v (.node h [])
  | .tup xs => ∃ a, v = .ref a ∧ H a = some (.tup xs)
theorem RowAt.mono {H H' : Hp} (t : ∀ b xs, H b = some (.tup xs) → H' b = some (.tup xs)) {v : V} : ∀ {r : Rw}, RowAt H v r → RowAt H' v r
  | .pat _, h => PatAt.mono t h
  | .tup _, ⟨a, e, q⟩ => ⟨a, e, t _ _ q⟩
theorem rows_mono {H H' : Hp} (t : ∀ b xs, H b = some (.tup xs) → H' b = some (.tup xs)) {vs : List V} {rs : List Rw} (h : Paired (RowAt H) vs rs) : Paired (RowAt H') vs rs := Paired.mapP h fun _ _ q => q.mono t
theorem paired_append {α β : Type} {F : α → β → Prop} : ∀ {xs xs' : List α} {ys ys' : List β}, Paired F xs ys → Paired F xs' ys' → Paired F (xs ++ xs') (ys ++ ys')
  | _, _, _, _, .nil, s => s
  | _, _, _, _, .cons r t, s => .cons r (paired_append t s)
/-! ### the rows of a pattern are plain -/
/-! ### the branches one by one -/
/-! ### the words -/
abbrev itself : List V := [.str "sign", .str "any", .str "in", .str "out", .str "begin", .str "end", .str "again"]
def Wd.leaf : Wd → Bool
  | .sign => true | .any => true | .inn => true | .out => true | .beg => true | .fin => true | .again => true | _ => false
theorem w_itself (h : Hd) : inV (.str h.word) itself = h.wd.leaf := by rw [h.word_wd]; cases h.wd <;> decide +kernel
theorem big {n : Nat} (h : n ≤ 1000000) : n < sizeLine := Nat.lt_of_le_of_lt h (by rw [sizeLine_eq]; decide)
/-! ### a list that grows -/
theorem app_r {H : Hp} {r t : Addr} {xs : List V} {o : HO} (hr : H r = some (.lst xs)) (ht : H t = none) : (upd H t o) r = some (.lst xs) := by rw [upd_ne (ne_of_none hr ht)]; exact hr
theorem app_g {H : Hp} {r t : Addr} {xs zs : List V} {o : HO} (hr : H r = some (.lst xs)) (ht : H t = none) : Gro [r] H (upd (upd H t o) r (.lst zs)) := (Gro.new ht _).trans (Gro.set (by simp) (app_r hr ht) _)
theorem app_t {H : Hp} {r t : Addr} {xs ys zs : List V} (hr : H r = some (.lst xs)) (ht : H t = none) : (upd (upd H t (.tup ys)) r (.lst zs)) t = some (.tup ys) := by rw [upd_ne (Ne.symm (ne_of_none hr ht))]; exact upd_same
end Seek

set_option maxRecDepth 100000
set_option maxHeartbeats 4000000
namespace Seek
open PySem PySem.Spec PyProof.Rows L2
def top (i : Nat) : Stmt := PySem.Challenge.pw_seek_k07_one_sign.main.body.getD i (.Pass ⟨0, 0, 0, 0⟩)
section
variable {P : Program} {w : World} {K : PySem.W.Frag} {mg : Str → Option Value} {base : Heap} {f : Addr} {fd : FuncData}

/-! ### a number is taken out of the box -/
def spTake : Sp := fun vs H Q _ => ∃ (b : Addr) (m : Int), vs = [.ref b, .int m] ∧ BoxAt H b ∧ 0 < m ∧ m < 1073741824 ∧ ∀ (r : Int) (H' : Hp), 0 ≤ r → r < m → BoxAt H' b → Gro [b] H H' → Q (.int r) H'
abbrev s_l_take : Stmt := top 37
theorem sc_l_take : FnScope ["_law_box", "_law_many", "_law_number"] ["_law_box", "_law_many"] (defScope s_l_take) := ⟨rfl, rfl, rfl, by decide +kernel, rfl, by decide +kernel, by decide +kernel⟩
theorem ok_take (F : Fun K "_law_take" "_law_take" s_l_take f fd) : FnOk P w K mg base CX0 1 f fd ["_law_box", "_law_many"] spTake := by
  refine F.ok sc_l_take (fun vs H Q E h => ?_) (fun cdv A outer s H vs Q E hr h => ?_)
  · obtain ⟨b, m, rfl, _⟩ := h
    rfl
  obtain ⟨b, m, rfl, ⟨ns, hb, hl⟩, h0, h1, q⟩ := h
  refine ⟨_, (pss_cons (ps_if (pt_cmpR (op_eqNil hr.units0) (pv 0) (pe_lst pa_nil) (nomark _)) (pss_one (ps_ret pe_int)) pss_nil)
    (pss_cons (ps_set (i := 2) sc_l_take.nd rfl (by first | exact Or.inl rfl | exact Or.inr rfl) (pe_ix ix_list (pv 0) pe_int (fun _ _ => rfl)))
    (pss_cons (ps_asg (pe_op op_fdiv (pv 2) (pv 1)) (pg_sub (pv 0) pe_int set_list))
    (pss_cons (ps_if (PW.pt (pw_or (pt_cmpR op_eq (pe_ix ix_list (pv 0) pe_int (fun _ _ => rfl)) pe_int (nomark _)) (pw_or1 (pt_cmpR op_eq (pe_ix ix_list (pv 0) pe_int (fun _ _ => rfl)) (pe_un un_neg pe_int) (nomark _))))) (pss_one (ps_expr (pe_bm PySem.F.plainAttrs_list PySem.F.slot_list_pop PySem.F.type_list_pop mt_popAt (pv 0) (pa_cons pe_int pa_nil)))) pss_nil)
    (pss_one (ps_ret (pe_op op_mod (pv 2) (pv 1)))))))), ?_⟩
  refine ⟨_, rfl, sz, fun p hp => ?_⟩
  have np : b ≠ p := ne_of_none hb hp
  have g1 : Gro [b] H (upd H p (.lst [])) := Gro.new hp _
  have hb1 : (upd H p (.lst [])) b = some (.lst (ns.map V.int)) := by rw [upd_ne np]; exact hb
  refine ⟨b, p, ns.map V.int, rfl, rfl, SqL.of hb1, SqL.of upd_same, _, rfl, ?_⟩
  cases ns with
  | nil => exact iteT (q 0 _ (Int.le_refl 0) h0 ⟨[], hb1, hl⟩ g1)
  | cons n r =>
    refine iteF ?_
    refine ⟨_, rfl, b, _, _, _, rfl, rfl, SqL.of hb1, at0, ?_⟩
    refine ⟨_, rfl, _, rfl, _, _, rfl, rfl, ⟨h0, h1⟩, ?_⟩
    refine ⟨_, rfl, b, _, _, 0, rfl, rfl, hb1, ix0, ?_⟩
    have hm0 : 0 ≤ n % m := Int.emod_nonneg _ (by omega)
    have hm1 : n % m < m := Int.emod_lt_of_pos _ h0
    generalize hH2 : upd (upd H p (.lst [])) b (.lst ((List.map V.int (n :: r)).set 0 (V.int (n / m)))) = H2
    have hb2 : H2 b = some (.lst (V.int (n / m) :: r.map V.int)) := by rw [← hH2, upd_same]; rfl
    have g2 : Gro [b] H H2 := g1.trans (by rw [← hH2]; exact Gro.set (by simp) hb1 _)
    have box2 : BoxAt H2 b := ⟨n / m :: r, hb2, by simpa using hl⟩
    have hpop : ∀ Q' : V → Hp → Prop, Q' (.int (n / m)) (upd H2 b (.lst (r.map V.int))) → rPopAt (.ref b) [.int 0] H2 Q' := fun Q' hq =>
      ⟨b, _, 0, 0, _, rfl, rfl, hb2, by decide, by decide, seqIndex_of (by omega) (by rw [List.length_cons]; omega), rfl, hq⟩
    have box3 : BoxAt (upd H2 b (.lst (r.map V.int))) b := ⟨r, upd_same, by simp at hl; omega⟩
    have g3 : Gro [b] H (upd H2 b (.lst (r.map V.int))) := g2.trans (Gro.set (by simp) hb2 _)
    have ty2 : tyV K "list" (.ref b) H2 := .inl ⟨rfl, _, SqL.of hb2⟩
    refine ⟨_, rfl, b, _, _, _, rfl, rfl, SqL.of hb2, at0, rfl, _, rfl, ?_⟩
    refine ite2 (fun c => ?_) (fun c => ?_)
    · refine iteT ⟨_, rfl, ty2, ?_⟩
      refine hpop _ ?_
      refine ⟨_, rfl, _, rfl, _, _, rfl, rfl, h0, ?_⟩
      exact q _ _ hm0 hm1 box3 g3
    · refine ⟨_, rfl, b, _, _, _, rfl, rfl, SqL.of hb2, at0, _, rfl, rfl, _, rfl, ?_⟩
      refine ite2 (fun c => ?_) (fun c => ?_)
      · refine ⟨_, rfl, ty2, ?_⟩
        refine hpop _ ?_
        refine ⟨_, rfl, _, rfl, _, _, rfl, rfl, h0, ?_⟩
        exact q _ _ hm0 hm1 box3 g3
      · refine ⟨_, rfl, _, rfl, _, _, rfl, rfl, h0, ?_⟩
        exact q _ _ hm0 hm1 box2 g2

/-! ### a sign, three signs -/
def spSign : Sp := fun vs H Q _ => ∃ c : Int, vs = [.int c] ∧ ∀ s : Str, s.length = 1 → Q (.str s) H
abbrev s_l_sign : Stmt := top 38
theorem sc_l_sign : FnScope ["_law_cell", "_law_some"] ["_law_cell"] (defScope s_l_sign) := ⟨rfl, rfl, rfl, by decide +kernel, rfl, by decide +kernel, by decide +kernel⟩
theorem ok_sign (F : Fun K "_law_sign" "_law_sign" s_l_sign f fd) : FnOk P w K mg base CX0 1 f fd ["_law_cell"] spSign := by
  refine F.ok sc_l_sign (fun vs H Q E h => ?_) (fun cdv A outer s H vs Q E hr h => ?_)
  · obtain ⟨c, rfl, _⟩ := h
    rfl
  obtain ⟨c, rfl, q⟩ := h
  refine ⟨_, (pss_cons (ps_set (i := 1) sc_l_sign.nd rfl (by first | exact Or.inl rfl | exact Or.inr rfl) pe_str)
    (pss_cons (ps_set (i := 1) sc_l_sign.nd rfl (by first | exact Or.inl rfl | exact Or.inr rfl) (pe_op op_add_str (pv 1) pe_str))
    (pss_one (ps_ret (pe_ix ix_str (pv 1) (pe_op op_mod (pv 0) pe_int) (fun _ _ => rfl)))))), ?_⟩
  refine ⟨_, rfl, _, _, rfl, rfl, sz, ?_⟩
  refine ⟨_, rfl, _, rfl, _, _, rfl, rfl, (by decide : (0 : Int) < 94), ?_⟩
  generalize hz : (Str.ofString _ ++ Str.ofString _ : Str) = z
  have hlen : z.cps.toList.length = 94 := by rw [← hz]; decide +kernel
  have h0 : 0 ≤ c % 94 := Int.emod_nonneg _ (by omega)
  have h1 : c % 94 < 94 := Int.emod_lt_of_pos _ (by omega)
  have hlt : (c % 94).toNat < z.cps.toList.length := by omega
  have e : atI z.cps.toList (c % 94) = some (z.cps.toList[(c % 94).toNat]) := by
    have := atI_nat (xs := z.cps.toList) (j := (c % 94).toNat) (List.getElem?_eq_getElem hlt)
    rw [Int.toNat_of_nonneg h0] at this
    exact this
  refine ⟨z, _, _, rfl, rfl, ?_, e, q _ rfl⟩
  have : z.length = 94 := by rw [← hlen]; simp [Str.length]
  rw [this]; exact sz
def spLetters : Sp := fun vs H Q _ => ∃ b : Addr, vs = [.ref b] ∧ BoxAt H b ∧ ∀ (l : Addr) (H' : Hp), BoxAt H' b → LetAt H' l → Gro [b] H H' → Q (.ref l) H'
abbrev s_l_letters : Stmt := top 39
theorem sc_l_letters : FnScope ["_law_box"] ["_law_box"] (defScope s_l_letters) := ⟨rfl, rfl, rfl, by decide +kernel, rfl, by decide +kernel, by decide +kernel⟩
theorem ok_letters (T : Blt mg) (O_l_take : Own P w K mg base 1 "_law_take" ["_law_box", "_law_many"] spTake) (O_l_sign : Own P w K mg base 1 "_law_sign" ["_law_cell"] spSign) (F : Fun K "_law_letters" "_law_letters" s_l_letters f fd) :
    FnOk P w K mg base CX0 2 f fd ["_law_box"] spLetters := by
  refine F.ok sc_l_letters (fun vs H Q E h => ?_) (fun cdv A outer s H vs Q E hr h => ?_)
  · obtain ⟨b, rfl, _⟩ := h
    rfl
  obtain ⟨b, rfl, hb, q⟩ := h
  refine ⟨_, (pss_one (ps_ret (pe_lcomp rfl (show CScope _ ["_law_box"] (defScope s_l_letters) _ from ⟨rfl, by decide +kernel, rfl, by decide +kernel, by decide +kernel, by decide +kernel, by decide +kernel⟩) (pi_range1 rfl T.b_range (pa_cons pe_int pa_nil)) (fun _ _ _ _ => pts_nil) (fun _ _ _ _ => (pe_own (O_l_sign.mono (by omega)) hr rfl (pa_cons (pe_own (O_l_take.mono (by omega)) hr rfl (pa_cons (pv 1) (pa_cons pe_int pa_nil))) pa_nil)))))), ?_⟩
  refine ⟨3, rfl, by decide, by decide, ?_⟩
  refine lc_range (n := 3) (fun i ys H' => (∃ xs : List Str, ys = xs.map V.str ∧ xs.length = i ∧ ∀ x ∈ xs, x.length = 1) ∧ BoxAt H' b ∧ Gro [b] H H') ⟨⟨[], rfl, rfl, by simp⟩, hb, Gro.refl⟩ (small1000 (by decide)) (fun i ys H' ⟨⟨xs, e1, e2, _⟩, _⟩ => by rw [e1, List.length_map, e2]; exact Nat.le_refl _) ?_ ?_
  · rintro i ys H1 hi ⟨⟨xs, rfl, e2, e3⟩, hb1, g1⟩
    refine ⟨_, rfl, b, 94, rfl, hb1, by decide, by decide, fun r H2 h0 h1 hb2 g2 => ?_⟩
    refine ⟨r, rfl, fun s hs => ⟨⟨xs ++ [s], by simp, by simp [e2], fun x hx => ?_⟩, hb2, g1.trans g2⟩⟩
    rcases List.mem_append.mp hx with z | z
    · exact e3 x z
    · rw [List.mem_singleton.mp z]; exact hs
  · rintro ys H1 ⟨⟨xs, rfl, e2, e3⟩, hb1, g1⟩ l hl
    match xs, e2, e3 with
    | [x, y, z], _, e3 =>
      exact q l _ (hb1.new hl) ⟨x, y, z, upd_same, e3 x (by simp), e3 y (by simp), e3 z (by simp)⟩ (g1.trans (Gro.new hl _))
end
end Seek

set_option maxRecDepth 100000
set_option maxHeartbeats 4000000
namespace Seek
open PySem PySem.Spec PyProof.Rows L2
section
variable {P : Program} {w : World} {K : PySem.W.Frag} {mg : Str → Option Value} {base : Heap} {f : Addr} {fd : FuncData}
def spRuns : Sp := fun vs H Q _ => ∃ b l : Addr, vs = [.ref b, .ref l] ∧ BoxAt H b ∧ LetAt H l ∧ ∀ (r : Addr) (rs : List (Str × Str)) (H' : Hp), BoxAt H' b → RunsAt H' r rs → 1 ≤ rs.length → rs.length ≤ 2 → Gro [b] H H' → Q (.ref r) H'
abbrev s_l_runs : Stmt := top 42
theorem sc_l_runs : FnScope ["_law_box", "_law_letters_here", "_law_runs_here", "_law_k", "_law_one", "_law_two"] ["_law_box", "_law_letters_here"] (defScope s_l_runs) := ⟨rfl, rfl, rfl, by decide +kernel, rfl, by decide +kernel, by decide +kernel⟩
theorem ok_runs (T : Blt mg) (O_l_take : Own P w K mg base 1 "_law_take" ["_law_box", "_law_many"] spTake) (F : Fun K "_law_runs" "_law_runs" s_l_runs f fd) :
    FnOk P w K mg base CX0 2 f fd ["_law_box", "_law_letters_here"] spRuns := by
  refine F.ok sc_l_runs (fun vs H Q E h => ?_) (fun cdv A outer s H vs Q E hr h => ?_)
  · obtain ⟨b, l, rfl, _⟩ := h
    rfl
  obtain ⟨b, l, rfl, hb, hl, q⟩ := h
  refine ⟨_, (pss_cons (ps_set (i := 2) sc_l_runs.nd rfl (by first | exact Or.inl rfl | exact Or.inr rfl) (pe_lst pa_nil))
    (pss_cons (ps_for PassesOwn.never rfl (pi_range1 rfl T.b_range (pa_cons (pe_op op_add pe_int (pe_own (O_l_take.mono (by omega)) hr rfl (pa_cons (pv 0) (pa_cons pe_int pa_nil)))) pa_nil)) (pg_name (i := 3) sc_l_runs.nd rfl (by first | exact Or.inl rfl | exact Or.inr rfl)) (pss_cons (ps_set (i := 4) sc_l_runs.nd rfl (by first | exact Or.inl rfl | exact Or.inr rfl) (pe_ix ix_list (pv 1) (pe_own (O_l_take.mono (by omega)) hr rfl (pa_cons (pv 0) (pa_cons pe_int pa_nil))) (fun _ _ => rfl)))
    (pss_cons (ps_set (i := 5) sc_l_runs.nd rfl (by first | exact Or.inl rfl | exact Or.inr rfl) (pe_ix ix_list (pv 1) (pe_own (O_l_take.mono (by omega)) hr rfl (pa_cons (pv 0) (pa_cons pe_int pa_nil))) (fun _ _ => rfl)))
    (pss_one (ps_if (pt_cmpR op_gt (pe_callB call_ord rfl T.b_ord PyProof.Rows.Boot.«ord» (pa_cons (pv 4) pa_nil)) (pe_callB call_ord rfl T.b_ord PyProof.Rows.Boot.«ord» (pa_cons (pv 5) pa_nil)) (nomark _)) (pss_one (ps_expr (pe_bm PySem.F.plainAttrs_list PySem.F.slot_list_append PySem.F.type_list_append mt_append (pv 2) (pa_cons (pe_tup (pa_cons (pv 5) (pa_cons (pv 4) pa_nil))) pa_nil)))) (pss_one (ps_expr (pe_bm PySem.F.plainAttrs_list PySem.F.slot_list_append PySem.F.type_list_append mt_append (pv 2) (pa_cons (pe_tup (pa_cons (pv 4) (pa_cons (pv 5) pa_nil))) pa_nil)))))))))
    (pss_one (ps_ret (pe_callTy call_tuple_of rfl T.b_tuple PyProof.Rows.Boot.«tuple» (pa_cons (pv 2) pa_nil)))))), ?_⟩
  have bl : b ≠ l := hb.ne_let hl
  refine ⟨sz, fun a ha => ?_⟩
  refine ⟨_, rfl, b, 2, rfl, hb.new ha, by decide, by decide, fun r H1 h0 h1 hb1 g1 => ?_⟩
  refine ⟨_, _, rfl, rfl, _, rfl, by omega, by omega, ?_⟩
  have g1' : Gro [b] H H1 := (Gro.new ha _).trans g1
  have ha1 : H1 a = some (.lst []) := g1.keep a _ upd_same (by rw [List.mem_singleton]; exact Ne.symm (ne_of_none hb.choose_spec.1 ha))
  refine for_range (fun i σ H' => ∃ (vs : List V) (rs : List (Str × Str)) (k o t : Option V), σ = [some (.ref b), some (.ref l), some (.ref a), k, o, t] ∧ H' a = some (.lst vs) ∧ Paired (RunP H') vs rs ∧ rs.length = i ∧ BoxAt H' b ∧ Gro [b] H H')
    ⟨[], [], none, none, none, rfl, ha1, .nil, rfl, hb1, g1'⟩ ?_ ?_
  · rintro i σ H2 hi ⟨vs, rs, k, o, t, rfl, ha2, hp2, hl2, hb2, g2⟩
    have ba : b ≠ a := ne_of_none hb.choose_spec.1 ha
    have l2 : LetAt H2 l := hl.gro g2 (by simpa using Ne.symm bl)
    refine ⟨_, rfl, _, rfl, b, 3, rfl, hb2, by decide, by decide, fun r3 H3 h30 h31 hb3 g3 => ?_⟩
    have l3 : LetAt H3 l := l2.gro g3 (by simpa using Ne.symm bl)
    refine letS l3 h30 h31 fun s1 hs1 => ?_
    refine ⟨_, rfl, _, rfl, b, 3, rfl, hb3, by decide, by decide, fun r4 H4 h40 h41 hb4 g4 => ?_⟩
    have l4 : LetAt H4 l := l3.gro g4 (by simpa using Ne.symm bl)
    refine letS l4 h40 h41 fun s2 hs2 => ?_
    have g24 := g3.trans g4
    have ha4 : H4 a = some (.lst vs) := g24.keep a _ ha2 (by simpa using Ne.symm ba)
    have hp4 : Paired (RunP H4) vs rs := paired_mono g24.tups hp2
    have hvl : vs.length ≤ 2 := by have := Paired.length hp2; omega
    refine ⟨_, rfl, s1, rfl, hs1, _, rfl, s2, rfl, hs2, _, _, rfl, rfl, _, rfl, ?_⟩
    have fin : ∀ (x y : Str), x.length = 1 → y.length = 1 → ∀ p, H4 p = none → ∃ (vs' : List V) (rs' : List (Str × Str)) (k o t : Option V),
        [some (V.ref b), some (.ref l), some (.ref a), some (.int (0 + (i : Int))), some (.str s1), some (.str s2)] = [some (.ref b), some (.ref l), some (.ref a), k, o, t] ∧ (upd (upd H4 p (.tup [.str x, .str y])) a (.lst (vs ++ [.ref p]))) a = some (.lst vs') ∧
        Paired (RunP (upd (upd H4 p (.tup [.str x, .str y])) a (.lst (vs ++ [.ref p])))) vs' rs' ∧ rs'.length = i + 1 ∧ BoxAt (upd (upd H4 p (.tup [.str x, .str y])) a (.lst (vs ++ [.ref p]))) b ∧ Gro [b] H (upd (upd H4 p (.tup [.str x, .str y])) a (.lst (vs ++ [.ref p]))) := by
      intro x y hx hy p hp
      have hpa : p ≠ a := Ne.symm (ne_of_none ha4 hp)
      have ha5 : (upd H4 p (.tup [.str x, .str y])) a = some (.lst vs) := by rw [upd_ne (Ne.symm hpa)]; exact ha4
      have t5 : Gro [a] H4 (upd (upd H4 p (.tup [.str x, .str y])) a (.lst (vs ++ [.ref p]))) := (Gro.new hp _).trans (Gro.set (by simp) ha5 _)
      refine ⟨vs ++ [.ref p], rs ++ [(x, y)], _, _, _, rfl, upd_same, ?_, by simp [hl2], ?_, ?_⟩
      · exact (paired_mono t5.tups hp4).snoc ⟨hx, hy, p, rfl, by rw [upd_ne hpa]; exact upd_same⟩
      · exact (hb4.new hp).gro (S := [a]) (Gro.set (by simp) ha5 _) (by simpa using ba)
      · exact ((g2.trans g24).tup hp).fresh ha _
    refine ite2 (fun c => ?_) (fun c => ?_)
    · refine ⟨_, rfl, .inl ⟨rfl, _, SqL.of ha4⟩, _, rfl, _, rfl, sz, fun p hp => ?_⟩
      refine ⟨a, vs, _, rfl, rfl, by rw [upd_ne (ne_of_none ha4 hp)]; exact ha4, small1000 (by omega), ?_⟩
      exact fin s2 s1 hs2 hs1 p hp
    · refine ⟨_, rfl, .inl ⟨rfl, _, SqL.of ha4⟩, _, rfl, _, rfl, sz, fun p hp => ?_⟩
      refine ⟨a, vs, _, rfl, rfl, by rw [upd_ne (ne_of_none ha4 hp)]; exact ha4, small1000 (by omega), ?_⟩
      exact fin s1 s2 hs1 hs2 p hp
  · rintro σ H2 ⟨vs, rs, k, o, t, rfl, ha2, hp2, hl2, hb2, g2⟩
    refine ⟨_, rfl, a, _, rfl, .inl ⟨SqL.of ha2, fun r hr => ?_⟩⟩
    exact q r rs _ (hb2.new hr) ⟨vs, upd_same, paired_mono (Gro.new (S := []) hr _).tups hp2, by omega⟩ (by omega) (by omega) (g2.tup hr)
abbrev s_l_leaf : Stmt := top 43
theorem sc_l_leaf : FnScope ["_law_box", "_law_letters_here", "_law_count", "_law_kind"] ["_law_box", "_law_letters_here", "_law_count"] (defScope s_l_leaf) := ⟨rfl, rfl, rfl, by decide +kernel, rfl, by decide +kernel, by decide +kernel⟩
end
end Seek

set_option maxRecDepth 100000
set_option maxHeartbeats 4000000
namespace Seek
open PySem PySem.Spec PyProof.Rows L2
section
variable {P : Program} {w : World} {K : PySem.W.Frag} {mg : Str → Option Value} {base : Heap} {f : Addr} {fd : FuncData}
/-! ### alike: of two that are the same data it tells True -/
def spAlk (n : Nat) : Sp := fun vs H Q _ => ∃ x y : V, vs = [x, y] ∧ SameAt H n x y ∧ Q (.bl true) H
abbrev s_l_alike : Stmt := top 41
theorem sc_l_alike : FnScope ["_law_found", "_law_due", "_law_k"] ["_law_found", "_law_due"] (defScope s_l_alike) := ⟨rfl, rfl, rfl, by decide +kernel, rfl, by decide +kernel, by decide +kernel⟩
theorem ok_alk {n : Nat} (T : Blt mg) (O_l_alike : Own P w K mg base (2 + n) "_law_alike" ["_law_found", "_law_due"] (spAlk n)) (F : Fun K "_law_alike" "_law_alike" s_l_alike f fd) : FnOk P w K mg base CX0 (2 + n + 1) f fd ["_law_found", "_law_due"] (spAlk (n + 1)) := by
  refine F.ok sc_l_alike (fun vs H Q E h => ?_) (fun cdv A outer s H vs Q E hr h => ?_)
  · obtain ⟨x, y, rfl, _⟩ := h
    rfl
  obtain ⟨x, y, rfl, hxy, q⟩ := h
  refine ⟨_, (pss_cons (ps_if (pt_cmp (pc_isN (pv 1))) (pss_one (ps_ret (pe_cmp (pc_isN (pv 0))))) pss_nil)
    (pss_cons (ps_if (pt_val (pe_callB (call_isinst (T := "bool") (isT_ok (by simp))) rfl T.b_isinstance PyProof.Rows.Boot.«isinstance» (pa_cons (pv 1) (pa_cons (pe_bltn (v := .ty "bool") rfl T.b_bool PyProof.Rows.Boot.«bool» rfl) pa_nil)))) (pss_one (ps_ret (pe_and (pe_callB (call_isinst (T := "bool") (isT_ok (by simp))) rfl T.b_isinstance PyProof.Rows.Boot.«isinstance» (pa_cons (pv 0) (pa_cons (pe_bltn (v := .ty "bool") rfl T.b_bool PyProof.Rows.Boot.«bool» rfl) pa_nil))) (pe_one (pe_cmpR op_eq (pv 0) (pv 1) (nomark _)))))) pss_nil)
    (pss_cons (ps_if (pt_val (pe_callB (call_isinst (T := "int") (isT_ok (by simp))) rfl T.b_isinstance PyProof.Rows.Boot.«isinstance» (pa_cons (pv 1) (pa_cons (pe_bltn (v := .ty "int") rfl T.b_int PyProof.Rows.Boot.«int» rfl) pa_nil)))) (pss_one (ps_ret (pe_and (pe_callB (call_isinst (T := "int") (isT_ok (by simp))) rfl T.b_isinstance PyProof.Rows.Boot.«isinstance» (pa_cons (pv 0) (pa_cons (pe_bltn (v := .ty "int") rfl T.b_int PyProof.Rows.Boot.«int» rfl) pa_nil))) (pe_and (pe_not (pe_callB (call_isinst (T := "bool") (isT_ok (by simp))) rfl T.b_isinstance PyProof.Rows.Boot.«isinstance» (pa_cons (pv 0) (pa_cons (pe_bltn (v := .ty "bool") rfl T.b_bool PyProof.Rows.Boot.«bool» rfl) pa_nil)))) (pe_one (pe_cmpR op_eq (pv 0) (pv 1) (nomark _))))))) pss_nil)
    (pss_cons (ps_if (pt_val (pe_callB (call_isinst (T := "str") (isT_ok (by simp))) rfl T.b_isinstance PyProof.Rows.Boot.«isinstance» (pa_cons (pv 1) (pa_cons (pe_bltn (v := .ty "str") rfl T.b_str PyProof.Rows.Boot.«str» rfl) pa_nil)))) (pss_one (ps_ret (pe_and (pe_callB (call_isinst (T := "str") (isT_ok (by simp))) rfl T.b_isinstance PyProof.Rows.Boot.«isinstance» (pa_cons (pv 0) (pa_cons (pe_bltn (v := .ty "str") rfl T.b_str PyProof.Rows.Boot.«str» rfl) pa_nil))) (pe_one (pe_cmpR op_eq (pv 0) (pv 1) (nomark _)))))) pss_nil)
    (pss_cons (ps_if (PW.pt (pw_or (pt_cmpR op_ne (pe_callB (call_isinst (T := "tuple") (isT_ok (by simp))) rfl T.b_isinstance PyProof.Rows.Boot.«isinstance» (pa_cons (pv 1) (pa_cons (pe_bltn (v := .ty "tuple") rfl T.b_tuple PyProof.Rows.Boot.«tuple» rfl) pa_nil))) (pe_callB (call_isinst (T := "tuple") (isT_ok (by simp))) rfl T.b_isinstance PyProof.Rows.Boot.«isinstance» (pa_cons (pv 0) (pa_cons (pe_bltn (v := .ty "tuple") rfl T.b_tuple PyProof.Rows.Boot.«tuple» rfl) pa_nil))) (nomark _)) (pw_or1 (pt_cmpR op_ne (pe_callB (call_isinst (T := "list") (isT_ok (by simp))) rfl T.b_isinstance PyProof.Rows.Boot.«isinstance» (pa_cons (pv 1) (pa_cons (pe_bltn (v := .ty "list") rfl T.b_list PyProof.Rows.Boot.«list» rfl) pa_nil))) (pe_callB (call_isinst (T := "list") (isT_ok (by simp))) rfl T.b_isinstance PyProof.Rows.Boot.«isinstance» (pa_cons (pv 0) (pa_cons (pe_bltn (v := .ty "list") rfl T.b_list PyProof.Rows.Boot.«list» rfl) pa_nil))) (nomark _))))) (pss_one (ps_ret pe_bl)) pss_nil)
    (pss_cons (ps_if (pt_cmpR op_ne (pe_callB call_len_seq rfl T.b_len PyProof.Rows.Boot.«len» (pa_cons (pv 0) pa_nil)) (pe_callB call_len_seq rfl T.b_len PyProof.Rows.Boot.«len» (pa_cons (pv 1) pa_nil)) (nomark _)) (pss_one (ps_ret pe_bl)) pss_nil)
    (pss_cons (ps_for PassesOwn.never rfl (pi_range1 rfl T.b_range (pa_cons (pe_callB call_len_seq rfl T.b_len PyProof.Rows.Boot.«len» (pa_cons (pv 1) pa_nil)) pa_nil)) (pg_name (i := 2) sc_l_alike.nd rfl (by first | exact Or.inl rfl | exact Or.inr rfl)) (pss_one (ps_if (pt_not (pt_val (pe_own (O_l_alike.mono (by omega)) hr rfl (pa_cons (pe_ix ix_tup (pv 0) (pv 2) (fun _ _ => rfl)) (pa_cons (pe_ix ix_tup (pv 1) (pv 2) (fun _ _ => rfl)) pa_nil))))) (pss_one (ps_ret pe_bl)) pss_nil)))
    (pss_one (ps_ret pe_bl))))))))), ?_⟩
  rcases hxy with ⟨rfl, hx⟩ | ⟨a, b, xs, ys, rfl, rfl, ha, hb, hz, hp⟩
  · cases x with
    | non => exact ⟨_, rfl, _, rfl, ite_yes (by decide) ⟨_, rfl, q⟩⟩
    | bl i =>
      refine ⟨_, rfl, _, rfl, ite_no (by simp) ?_⟩
      refine ⟨_, rfl, _, _, rfl, rfl, _, rfl, ite_yes (by decide) ?_⟩
      refine ⟨_, rfl, _, _, rfl, rfl, _, rfl, ite_yes (by decide) ?_⟩
      refine ⟨_, rfl, _, rfl, rfl, ?_⟩
      rw [decide_eq_true rfl]
      exact q
    | int i =>
      refine ⟨_, rfl, _, rfl, ite_no (by simp) ?_⟩
      refine ⟨_, rfl, _, _, rfl, rfl, _, rfl, ite_no (by decide) ?_⟩
      refine ⟨_, rfl, _, _, rfl, rfl, _, rfl, ite_yes (by decide) ?_⟩
      refine ⟨_, rfl, _, _, rfl, rfl, _, rfl, ite_yes (by decide) ?_⟩
      refine ⟨_, rfl, _, _, rfl, rfl, _, rfl, _, rfl, ite_yes (by decide) ?_⟩
      refine ⟨_, rfl, _, rfl, rfl, ?_⟩
      rw [decide_eq_true rfl]
      exact q
    | str i =>
      refine ⟨_, rfl, _, rfl, ite_no (by simp) ?_⟩
      refine ⟨_, rfl, _, _, rfl, rfl, _, rfl, ite_no (by decide) ?_⟩
      refine ⟨_, rfl, _, _, rfl, rfl, _, rfl, ite_no (by decide) ?_⟩
      refine ⟨_, rfl, _, _, rfl, rfl, _, rfl, ite_yes (by decide) ?_⟩
      refine ⟨_, rfl, _, _, rfl, rfl, _, rfl, ite_yes (by decide) ?_⟩
      refine ⟨_, rfl, _, rfl, rfl, ?_⟩
      rw [decide_eq_true rfl]
      exact q
    | _ => exact absurd (show false = true from hx) (by decide)
  · have hl := Paired.length hp
    refine ⟨_, rfl, _, rfl, ite_no (by simp) ?_⟩
    refine ⟨_, rfl, _, _, rfl, .inl ⟨ys, hb, rfl⟩, _, rfl, ite_no (by decide) ?_⟩
    refine ⟨_, rfl, _, _, rfl, .inl ⟨ys, hb, rfl⟩, _, rfl, ite_no (by decide) ?_⟩
    refine ⟨_, rfl, _, _, rfl, .inl ⟨ys, hb, rfl⟩, _, rfl, ite_no (by decide) ?_⟩
    refine ⟨_, rfl, _, _, rfl, .inl ⟨ys, hb, rfl⟩, _, rfl, _, _, rfl, .inl ⟨xs, ha, rfl⟩, rfl, _, rfl, ite_no (by decide) ?_⟩
    refine ⟨_, rfl, _, _, rfl, .inl ⟨ys, hb, rfl⟩, _, rfl, _, _, rfl, .inl ⟨xs, ha, rfl⟩, rfl, _, rfl, ite_no (by decide) ?_⟩
    refine ⟨_, rfl, a, xs, rfl, .inr (SqT.of ha), _, rfl, b, ys, rfl, .inr (SqT.of hb), rfl, _, rfl, ite_no (by rw [hl]; simp) ?_⟩
    refine ⟨_, rfl, b, ys, rfl, .inr (SqT.of hb), _, rfl, by omega, by omega, ?_⟩
    refine for_range (fun i σ H' => ∃ k : Option V, σ = [some (.ref a), some (.ref b), k] ∧ H' = H) ⟨none, rfl, rfl⟩ ?_ ?_
    · rintro i σ H' hi ⟨k, rfl, rfl⟩
      have hi2 : i < ys.length := by simpa using hi
      have hi1 : i < xs.length := by omega
      obtain ⟨y', hy', hs⟩ := paired_get hp (List.getElem?_eq_getElem hi1)
      have ez : (0 : Int) + (i : Int) = ((i : Nat) : Int) := by omega
      refine ⟨_, rfl, _, rfl, a, xs, _, _, rfl, rfl, SqT.of ha, by rw [ez]; exact atI_nat (List.getElem?_eq_getElem hi1), _, rfl, _, rfl, b, ys, _, _, rfl, rfl, SqT.of hb, by rw [ez]; exact atI_nat hy', _, _, rfl, hs, _, rfl, ?_⟩
      exact ite_no (by decide) ⟨_, rfl, rfl⟩
    · rintro σ H' ⟨k, rfl, rfl⟩
      exact q
end
end Seek

set_option maxRecDepth 100000
set_option maxHeartbeats 4000000
namespace Seek
open PySem PySem.Spec PyProof.Rows L2
/-! ### coded, of a leaf or a row of leaves alone -/
def LeafAt (H : Hp) (v : V) (h : Hd) : Prop := PatAt H 1 v (.node h []) ∧ h.wd.leaf = true
theorem LeafAt.mono {H H' : Hp} (t : ∀ b xs, H b = some (.tup xs) → H' b = some (.tup xs)) {v : V} {h : Hd} (q : LeafAt H v h) : LeafAt H' v h := ⟨q.1.mono t, q.2⟩
def FlatAt (H : Hp) (v : V) (hs : List Hd) : Prop := (∃ h, hs = [h] ∧ LeafAt H v h) ∨ (∃ (a r : Addr) (kv : List V), v = .ref a ∧ H a = some (.tup [.str "row", .ref r]) ∧ H r = some (.tup kv) ∧ Paired (LeafAt H) kv hs ∧ kv.length ≤ 10)
theorem FlatAt.mono {H H' : Hp} (t : ∀ b xs, H b = some (.tup xs) → H' b = some (.tup xs)) {v : V} {hs : List Hd} (q : FlatAt H v hs) : FlatAt H' v hs := by
  rcases q with ⟨h, e, q⟩ | ⟨a, r, kv, e, h1, h2, p, z⟩
  · exact .inl ⟨h, e, q.mono t⟩
  · exact .inr ⟨a, r, kv, e, t _ _ h1, t _ _ h2, Paired.mapP p fun _ _ q => q.mono t, z⟩
section
variable {P : Program} {w : World} {K : PySem.W.Frag} {mg : Str → Option Value} {base : Heap} {f : Addr} {fd : FuncData}
def spNo : Sp := fun _ _ _ _ => False
def spPutL : Sp := fun vs H Q _ => ∃ (r : Addr) (v : V) (xs : List V) (h : Hd), vs = [.ref r, v] ∧ LeafAt H v h ∧ H r = some (.lst xs) ∧ xs.length ≤ 1000 ∧ ∀ H' : Hp, H' r = some (.lst (xs ++ [v])) → Gro [r] H H' → Q .non H'
def spPutF : Sp := fun vs H Q _ => ∃ (r : Addr) (v : V) (hs : List Hd), vs = [.ref r, v] ∧ FlatAt H v hs ∧ H r = some (.lst []) ∧ ∀ (ys : List V) (H' : Hp), H' r = some (.lst ys) → Paired (LeafAt H') ys hs → ys.length ≤ 10 → Gro [r] H H' → Q .non H'
abbrev s_put_or : Stmt := top 7
abbrev s_put_times : Stmt := top 8
abbrev s_put_have : Stmt := top 9
abbrev s_put_look : Stmt := top 10
abbrev s_put : Stmt := top 5
theorem sc_put : FnScope ["rows", "pattern", "kind", "part"] ["rows", "pattern"] (defScope s_put) := ⟨rfl, rfl, rfl, by decide +kernel, rfl, by decide +kernel, by decide +kernel⟩
theorem ok_putL {it : Addr} (T : Blt mg) (c_ITSELF : mg "ITSELF" = some (.ref it)) (hIT : ∀ H, SqT K H it itself) (O_put : Own P w K mg base 1 "put" ["rows", "pattern"] spNo) (O_put_or : Own P w K mg base 1 "put_or" ["rows", "branches"] spNo) (O_put_times : Own P w K mg base 1 "put_times" ["rows", "low", "high", "how", "part"] spNo)
    (O_put_have : Own P w K mg base 1 "put_have" ["rows", "number", "yes", "no"] spNo) (O_put_look : Own P w K mg base 1 "put_look" ["rows", "kind", "part"] spNo) (F : Fun K "put" "put" s_put f fd) : FnOk P w K mg base CX0 2 f fd ["rows", "pattern"] spPutL := by
  refine F.ok sc_put (fun vs H Q E h => ?_) (fun cdv A outer s H vs Q E hr h => ?_)
  · obtain ⟨r, v, xs, p, rfl, _⟩ := h
    rfl
  obtain ⟨r, v, xs, h, rfl, ⟨hp, hlf⟩, hr0, hz, q⟩ := h
  refine ⟨_, (pss_cons (ps_set (i := 2) sc_put.nd rfl (by first | exact Or.inl rfl | exact Or.inr rfl) (pe_ix ix_tup (pv 1) pe_int (fun _ _ => rfl)))
    (pss_one (ps_if (pt_cmpR op_in_seq (pv 2) (pe_glob (v := .ref _) rfl c_ITSELF rfl) (by with_unfolding_all rfl)) (pss_one (ps_expr (pe_bm PySem.F.plainAttrs_list PySem.F.slot_list_append PySem.F.type_list_append mt_append (pv 0) (pa_cons (pv 1) pa_nil)))) (pss_one (ps_if (pt_cmpR op_eq (pv 2) pe_str (nomark _)) (pss_one (ps_for PassesOwn.never rfl (pi_tup (pe_ix ix_tup (pv 1) pe_int (fun _ _ => rfl))) (pg_name (i := 3) sc_put.nd rfl (by first | exact Or.inl rfl | exact Or.inr rfl)) (pss_one (ps_expr (pe_own (O_put.mono (by omega)) hr rfl (pa_cons (pv 0) (pa_cons (pv 3) pa_nil))))))) (pss_one (ps_if (pt_cmpR op_eq (pv 2) pe_str (nomark _)) (pss_one (ps_expr (pe_own (O_put_or.mono (by omega)) hr rfl (pa_cons (pv 0) (pa_cons (pe_ix ix_tup (pv 1) pe_int (fun _ _ => rfl)) pa_nil))))) (pss_one (ps_if (pt_cmpR op_eq (pv 2) pe_str (nomark _)) (pss_one (ps_expr (pe_own (O_put_times.mono (by omega)) hr rfl (pa_cons (pv 0) (pa_cons (pe_ix ix_tup (pv 1) pe_int (fun _ _ => rfl)) (pa_cons (pe_ix ix_tup (pv 1) pe_int (fun _ _ => rfl)) (pa_cons (pe_ix ix_tup (pv 1) pe_int (fun _ _ => rfl)) (pa_cons (pe_ix ix_tup (pv 1) pe_int (fun _ _ => rfl)) pa_nil)))))))) (pss_one (ps_if (pt_cmpR op_eq (pv 2) pe_str (nomark _)) (pss_cons (ps_expr (pe_bm PySem.F.plainAttrs_list PySem.F.slot_list_append PySem.F.type_list_append mt_append (pv 0) (pa_cons (pe_tup (pa_cons pe_str pa_nil)) pa_nil)))
    (pss_cons (ps_expr (pe_own (O_put.mono (by omega)) hr rfl (pa_cons (pv 0) (pa_cons (pe_ix ix_tup (pv 1) pe_int (fun _ _ => rfl)) pa_nil))))
    (pss_one (ps_expr (pe_bm PySem.F.plainAttrs_list PySem.F.slot_list_append PySem.F.type_list_append mt_append (pv 0) (pa_cons (pe_tup (pa_cons pe_str (pa_cons (pe_ix ix_tup (pv 1) pe_int (fun _ _ => rfl)) pa_nil))) pa_nil)))))) (pss_one (ps_if (pt_cmpR op_eq (pv 2) pe_str (nomark _)) (pss_one (ps_expr (pe_own (O_put_have.mono (by omega)) hr rfl (pa_cons (pv 0) (pa_cons (pe_ix ix_tup (pv 1) pe_int (fun _ _ => rfl)) (pa_cons (pe_ix ix_tup (pv 1) pe_int (fun _ _ => rfl)) (pa_cons (pe_ix ix_tup (pv 1) pe_int (fun _ _ => rfl)) pa_nil))))))) (pss_one (ps_expr (pe_own (O_put_look.mono (by omega)) hr rfl (pa_cons (pv 0) (pa_cons (pv 2) (pa_cons (pe_ix ix_tup (pv 1) pe_int (fun _ _ => rfl)) pa_nil))))))))))))))))))), ?_⟩
  obtain ⟨a, kv, rfl, lay, hk⟩ := id hp
  obtain ⟨r0, ea⟩ := lay.head
  refine ⟨_, rfl, a, _, _, _, rfl, rfl, SqT.of ea, at0, ?_⟩
  refine ⟨_, rfl, it, itself, rfl, .inr (hIT _), rfl, rfl, _, rfl, ?_⟩
  show if inV (.str h.word) itself = true then _ else _
  rw [w_itself, hlf]
  exact iteT ⟨_, rfl, .inl ⟨rfl, _, SqL.of hr0⟩, _, rfl, r, xs, _, rfl, rfl, hr0, big (by omega), q _ upd_same (Gro.set (by simp) hr0 _)⟩
theorem ok_putF {it : Addr} (T : Blt mg) (c_ITSELF : mg "ITSELF" = some (.ref it)) (hIT : ∀ H, SqT K H it itself) (O_put : Own P w K mg base 2 "put" ["rows", "pattern"] spPutL) (O_put_or : Own P w K mg base 1 "put_or" ["rows", "branches"] spNo) (O_put_times : Own P w K mg base 1 "put_times" ["rows", "low", "high", "how", "part"] spNo)
    (O_put_have : Own P w K mg base 1 "put_have" ["rows", "number", "yes", "no"] spNo) (O_put_look : Own P w K mg base 1 "put_look" ["rows", "kind", "part"] spNo) (F : Fun K "put" "put" s_put f fd) : FnOk P w K mg base CX0 3 f fd ["rows", "pattern"] spPutF := by
  refine F.ok sc_put (fun vs H Q E h => ?_) (fun cdv A outer s H vs Q E hr h => ?_)
  · obtain ⟨r, v, hs, rfl, _⟩ := h
    rfl
  obtain ⟨r, v, hs, rfl, hf, hr0, q⟩ := h
  refine ⟨_, (pss_cons (ps_set (i := 2) sc_put.nd rfl (by first | exact Or.inl rfl | exact Or.inr rfl) (pe_ix ix_tup (pv 1) pe_int (fun _ _ => rfl)))
    (pss_one (ps_if (pt_cmpR op_in_seq (pv 2) (pe_glob (v := .ref _) rfl c_ITSELF rfl) (by with_unfolding_all rfl)) (pss_one (ps_expr (pe_bm PySem.F.plainAttrs_list PySem.F.slot_list_append PySem.F.type_list_append mt_append (pv 0) (pa_cons (pv 1) pa_nil)))) (pss_one (ps_if (pt_cmpR op_eq (pv 2) pe_str (nomark _)) (pss_one (ps_for PassesOwn.never rfl (pi_tup (pe_ix ix_tup (pv 1) pe_int (fun _ _ => rfl))) (pg_name (i := 3) sc_put.nd rfl (by first | exact Or.inl rfl | exact Or.inr rfl)) (pss_one (ps_expr (pe_own (O_put.mono (by omega)) hr rfl (pa_cons (pv 0) (pa_cons (pv 3) pa_nil))))))) (pss_one (ps_if (pt_cmpR op_eq (pv 2) pe_str (nomark _)) (pss_one (ps_expr (pe_own (O_put_or.mono (by omega)) hr rfl (pa_cons (pv 0) (pa_cons (pe_ix ix_tup (pv 1) pe_int (fun _ _ => rfl)) pa_nil))))) (pss_one (ps_if (pt_cmpR op_eq (pv 2) pe_str (nomark _)) (pss_one (ps_expr (pe_own (O_put_times.mono (by omega)) hr rfl (pa_cons (pv 0) (pa_cons (pe_ix ix_tup (pv 1) pe_int (fun _ _ => rfl)) (pa_cons (pe_ix ix_tup (pv 1) pe_int (fun _ _ => rfl)) (pa_cons (pe_ix ix_tup (pv 1) pe_int (fun _ _ => rfl)) (pa_cons (pe_ix ix_tup (pv 1) pe_int (fun _ _ => rfl)) pa_nil)))))))) (pss_one (ps_if (pt_cmpR op_eq (pv 2) pe_str (nomark _)) (pss_cons (ps_expr (pe_bm PySem.F.plainAttrs_list PySem.F.slot_list_append PySem.F.type_list_append mt_append (pv 0) (pa_cons (pe_tup (pa_cons pe_str pa_nil)) pa_nil)))
    (pss_cons (ps_expr (pe_own (O_put.mono (by omega)) hr rfl (pa_cons (pv 0) (pa_cons (pe_ix ix_tup (pv 1) pe_int (fun _ _ => rfl)) pa_nil))))
    (pss_one (ps_expr (pe_bm PySem.F.plainAttrs_list PySem.F.slot_list_append PySem.F.type_list_append mt_append (pv 0) (pa_cons (pe_tup (pa_cons pe_str (pa_cons (pe_ix ix_tup (pv 1) pe_int (fun _ _ => rfl)) pa_nil))) pa_nil)))))) (pss_one (ps_if (pt_cmpR op_eq (pv 2) pe_str (nomark _)) (pss_one (ps_expr (pe_own (O_put_have.mono (by omega)) hr rfl (pa_cons (pv 0) (pa_cons (pe_ix ix_tup (pv 1) pe_int (fun _ _ => rfl)) (pa_cons (pe_ix ix_tup (pv 1) pe_int (fun _ _ => rfl)) (pa_cons (pe_ix ix_tup (pv 1) pe_int (fun _ _ => rfl)) pa_nil))))))) (pss_one (ps_expr (pe_own (O_put_look.mono (by omega)) hr rfl (pa_cons (pv 0) (pa_cons (pv 2) (pa_cons (pe_ix ix_tup (pv 1) pe_int (fun _ _ => rfl)) pa_nil))))))))))))))))))), ?_⟩
  rcases hf with ⟨h, rfl, hp, hlf⟩ | ⟨a, b, kv, rfl, e, er, hk, hz⟩
  · obtain ⟨a, kv, rfl, lay, hk⟩ := id hp
    obtain ⟨r0, ea⟩ := lay.head
    refine ⟨_, rfl, a, _, _, _, rfl, rfl, SqT.of ea, at0, ?_⟩
    refine ⟨_, rfl, it, itself, rfl, .inr (hIT _), rfl, rfl, _, rfl, ?_⟩
    show if inV (.str h.word) itself = true then _ else _
    rw [w_itself, hlf]
    have g : Gro [r] H (upd H r (.lst ([] ++ [.ref a]))) := Gro.set (by simp) hr0 _
    exact iteT ⟨_, rfl, .inl ⟨rfl, _, SqL.of hr0⟩, _, rfl, r, [], _, rfl, rfl, hr0, big (by decide), q [.ref a] _ upd_same (.cons ⟨hp.mono g.tups, hlf⟩ .nil) (by simp) g⟩
  · refine ⟨_, rfl, a, _, _, _, rfl, rfl, SqT.of e, at0, ?_⟩
    refine ⟨_, rfl, it, itself, rfl, .inr (hIT _), rfl, rfl, _, rfl, ?_⟩
    rw [show inV (.str "row") itself = false by decide +kernel]
    refine iteF ⟨_, rfl, rfl, _, rfl, ite_yes (by decide +kernel) ?_⟩
    refine ⟨_, rfl, a, _, _, _, rfl, rfl, SqT.of e, rfl, b, rfl, ⟨_, SqT.of er⟩, ?_⟩
    refine for_tup (xs := kv) (fun i σ H' => ∃ pt : Option V, σ = [some (.ref r), some (.ref a), some (.str "row"), pt] ∧ H' r = some (.lst (kv.take i)) ∧ Gro [r] H H')
      ⟨none, rfl, hr0, Gro.refl⟩ (fun i σ H' _ ⟨_, _, _, g⟩ => SqT.of (g.tups _ _ er)) ?_ ?_
    · rintro i x σ H1 hx ⟨pt, rfl, hr1, g1⟩
      obtain ⟨h, hhi, hl⟩ := paired_get hk hx
      refine ⟨_, rfl, _, rfl, r, x, _, h, rfl, hl.mono g1.tups, hr1, by rw [List.length_take]; omega, fun H2 hr2 g2 => ?_⟩
      exact ⟨_, rfl, by rw [hr2, take_snoc hx], g1.trans g2⟩
    · rintro σ H1 ⟨pt, rfl, hr1, g1⟩
      rw [List.take_length] at hr1
      exact q kv H1 hr1 (Paired.mapP hk fun _ _ h => h.mono g1.tups) hz g1
def spCodedF : Sp := fun vs H Q _ => ∃ (v : V) (hs : List Hd), vs = [v] ∧ FlatAt H v hs ∧ ∀ (t : Addr) (ys : List V) (H' : Hp), H' t = some (.tup ys) → Paired (RowAt H') ys (hs.map Rw.pat ++ [.tup [.str "found"]]) → Gro [] H H' → Q (.ref t) H'
theorem pats_of {H : Hp} : ∀ {ys : List V} {hs : List Hd}, Paired (LeafAt H) ys hs → Paired (RowAt H) ys (hs.map Rw.pat)
  | _, _, .nil => .nil
  | _, _, .cons h t => .cons h.1 (pats_of t)
abbrev s_coded : Stmt := top 4
theorem sc_coded : FnScope ["pattern", "rows"] ["pattern"] (defScope s_coded) := ⟨rfl, rfl, rfl, by decide +kernel, rfl, by decide +kernel, by decide +kernel⟩
theorem ok_codedF (T : Blt mg) (O_put : Own P w K mg base 3 "put" ["rows", "pattern"] spPutF) (F : Fun K "coded" "coded" s_coded f fd) : FnOk P w K mg base CX0 4 f fd ["pattern"] spCodedF := by
  refine F.ok sc_coded (fun vs H Q E h => ?_) (fun cdv A outer s H vs Q E hr h => ?_)
  · obtain ⟨v, p, rfl, _⟩ := h
    rfl
  obtain ⟨v, hs, rfl, hf, q⟩ := h
  refine ⟨_, (pss_cons (ps_set (i := 1) sc_coded.nd rfl (by first | exact Or.inl rfl | exact Or.inr rfl) (pe_lst pa_nil))
    (pss_cons (ps_expr (pe_own (O_put.mono (by omega)) hr rfl (pa_cons (pv 1) (pa_cons (pv 0) pa_nil))))
    (pss_cons (ps_expr (pe_bm PySem.F.plainAttrs_list PySem.F.slot_list_append PySem.F.type_list_append mt_append (pv 1) (pa_cons (pe_tup (pa_cons pe_str pa_nil)) pa_nil)))
    (pss_one (ps_ret (pe_callTy call_tuple_of rfl T.b_tuple PyProof.Rows.Boot.«tuple» (pa_cons (pv 1) pa_nil))))))), ?_⟩
  refine ⟨sz, fun r hr0 => ?_⟩
  have g0 : Gro [] H (upd H r (.lst [])) := Gro.new hr0 _
  refine ⟨_, rfl, _, rfl, r, v, hs, rfl, hf.mono g0.tups, upd_same, fun ys H1 hr1 hy1 hz1 g1 => ?_⟩
  refine ⟨_, rfl, .inl ⟨rfl, _, SqL.of hr1⟩, sz, fun t ht => ⟨r, _, _, rfl, rfl, app_r hr1 ht, big (by omega), ?_⟩⟩
  have g2 : Gro [r] H1 _ := app_g (zs := ys ++ [V.ref t]) (o := .tup [.str "found"]) hr1 ht
  refine ⟨_, rfl, r, _, rfl, .inl ⟨SqL.of upd_same, fun t3 ht3 => ?_⟩⟩
  have et := app_t (ys := [.str "found"]) (zs := ys ++ [V.ref t]) hr1 ht
  generalize upd (upd H1 t (.tup [.str "found"])) r (.lst (ys ++ [V.ref t])) = H2 at *
  have g3 : Gro [] H2 (upd H2 t3 (.tup (ys ++ [V.ref t]))) := Gro.new ht3 _
  have gg : Gro [r] (upd H r (.lst [])) (upd H2 t3 (.tup (ys ++ [V.ref t]))) := (g1.trans g2).trans (g3.mono (by simp))
  refine q t3 _ _ upd_same ?_ ⟨fun c o hc _ => gg.keep c o (g0.keep c o hc (by simp)) (by simpa using ne_of_none hc hr0), fun c zs hc => gg.tups _ _ (g0.tups _ _ hc)⟩
  exact paired_append (rows_mono (fun b c h => g3.tups _ _ (g2.tups _ _ h)) (pats_of hy1)) (.cons ⟨t, rfl, g3.tups _ _ et⟩ .nil)
theorem own_codedF {it : Addr} (T : Blt mg) (c_ITSELF : mg "ITSELF" = some (.ref it)) (hIT : ∀ H, SqT K H it itself) (d0 : Def K mg "coded" s_coded ["pattern"]) (d1 : Def K mg "put" s_put ["rows", "pattern"]) (p3 : Def K mg "put_or" s_put_or ["rows", "branches"]) (p4 : Def K mg "put_times" s_put_times ["rows", "low", "high", "how", "part"]) (p5 : Def K mg "put_have" s_put_have ["rows", "number", "yes", "no"]) (p6 : Def K mg "put_look" s_put_look ["rows", "kind", "part"]) :
    Own P w K mg base 4 "coded" ["pattern"] spCodedF := by
  have no : Own P w K mg base 1 "put" ["rows", "pattern"] spNo := d1.own fun _ _ _ => FnOk.never fun _ _ _ _ h => h
  have d3 : Own P w K mg base 1 "put_or" ["rows", "branches"] spNo := p3.own fun _ _ _ => FnOk.never fun _ _ _ _ h => h
  have d4 : Own P w K mg base 1 "put_times" ["rows", "low", "high", "how", "part"] spNo := p4.own fun _ _ _ => FnOk.never fun _ _ _ _ h => h
  have d5 : Own P w K mg base 1 "put_have" ["rows", "number", "yes", "no"] spNo := p5.own fun _ _ _ => FnOk.never fun _ _ _ _ h => h
  have d6 : Own P w K mg base 1 "put_look" ["rows", "kind", "part"] spNo := p6.own fun _ _ _ => FnOk.never fun _ _ _ _ h => h
  have l : Own P w K mg base 2 "put" ["rows", "pattern"] spPutL := d1.own fun _ _ F => ok_putL T c_ITSELF hIT no d3 d4 d5 d6 F
  have r : Own P w K mg base 3 "put" ["rows", "pattern"] spPutF := d1.own fun _ _ F => ok_putF T c_ITSELF hIT l d3 d4 d5 d6 F
  exact d0.own fun _ _ F => ok_codedF T r F
end
end Seek

set_option maxRecDepth 100000
set_option maxHeartbeats 4000000
namespace Seek
open PySem PySem.Spec PyProof.Rows L2
section
variable {P : Program} {w : World} {K : PySem.W.Frag} {mg : Str → Option Value} {base : Heap} {f C : Addr} {fd : FuncData}
/-- what a def of the machine promises: the machine behind it -/
def Goes (C : Addr) (Q : VK) (H : Hp) (m c : Addr) (M : MM) : Prop := ∀ H' : Hp, MAt C H' m M → Gro [m, c] H H' → Q .non H'
def spEnter (C : Addr) : Sp := fun vs H Q _ => ∃ (m t : Addr) (M : MM) (q : Chc), vs = [.ref m, .ref t] ∧ MAt C H m M ∧ H t = some (.tup [.int q.1, .int q.2.1, q.2.2.1, q.2.2.2]) ∧ Goes C Q H m M.s.choices (M.enter q)
abbrev s_Machine_enter : Stmt := inClass (top 35) 4
theorem sc_Machine_enter : FnScope ["self", "state"] ["self", "state"] (defScope s_Machine_enter) := ⟨rfl, rfl, rfl, by decide +kernel, rfl, by decide +kernel, by decide +kernel⟩
theorem ok_enter (MT : Txt K mg C) (F : Fun K "enter" "Machine.enter" s_Machine_enter f fd) : FnOk P w K mg base CX0 1 f fd ["self", "state"] (spEnter C) := by
  refine F.ok sc_Machine_enter (fun vs H Q E h => ?_) (fun cdv A outer s H vs Q E hr h => ?_)
  · obtain ⟨m, t, M, q, rfl, _⟩ := h
    rfl
  obtain ⟨m, t, M, ⟨r, a, g, hd⟩, rfl, hM, ht, q⟩ := h
  refine ⟨_, (pss_cons (ps_fld (pv 0) (pe_ix ix_tup (pv 1) pe_int (fun _ _ => rfl)) rfl)
    (pss_cons (ps_fld (pv 0) (pe_ix ix_tup (pv 1) pe_int (fun _ _ => rfl)) rfl)
    (pss_cons (ps_fld (pv 0) (pe_ix ix_tup (pv 1) pe_int (fun _ _ => rfl)) rfl)
    (pss_one (ps_fld (pv 0) (pe_ix ix_tup (pv 1) pe_int (fun _ _ => rfl)) rfl))))), ?_⟩
  obtain ⟨⟨dx, h1⟩, _⟩ := id hM
  refine ⟨_, rfl, t, _, _, _, rfl, rfl, SqT.of ht, at0, _, rfl, m, C, dx, _, rfl, h1, MT.cl, MT.a3, fs_few _, ?_⟩
  rw [pf_row]
  have M1 : MAt C _ m ⟨{ M.s with row := r }, M.cs⟩ := hM.put (s' := { M.s with row := r }) h1 rfl
  have g1 : Gro [m] H (upd H m (.ins C dx ({ M.s with row := r } : MS).fs)) := Gro.ins (by simp) h1 _
  have e1 : (upd H m (.ins C dx ({ M.s with row := r } : MS).fs)) m = some (.ins C dx ({ M.s with row := r } : MS).fs) := upd_same
  generalize upd H m (.ins C dx ({ M.s with row := r } : MS).fs) = H1 at *
  refine ⟨_, rfl, t, _, _, _, rfl, rfl, SqT.of (g1.tups _ _ ht), rfl, _, rfl, m, C, dx, _, rfl, e1, MT.cl, MT.a4, fs_few _, ?_⟩
  rw [pf_at]
  have M2 : MAt C _ m ⟨{ M.s with row := r, place := a }, M.cs⟩ := M1.put (s' := { M.s with row := r, place := a }) e1 rfl
  have g2 : Gro [m] H1 (upd H1 m (.ins C dx ({ M.s with row := r, place := a } : MS).fs)) := Gro.ins (by simp) e1 _
  have e2 : (upd H1 m (.ins C dx ({ M.s with row := r, place := a } : MS).fs)) m = some (.ins C dx ({ M.s with row := r, place := a } : MS).fs) := upd_same
  generalize upd H1 m (.ins C dx ({ M.s with row := r, place := a } : MS).fs) = H2 at *
  have g12 := g1.trans g2
  refine ⟨_, rfl, t, _, _, _, rfl, rfl, SqT.of (g12.tups _ _ ht), rfl, _, rfl, m, C, dx, _, rfl, e2, MT.cl, MT.a5, fs_few _, ?_⟩
  rw [pf_groups]
  have M3 : MAt C _ m ⟨{ M.s with row := r, place := a, groups := g }, M.cs⟩ := M2.put (s' := { M.s with row := r, place := a, groups := g }) e2 rfl
  have g3 : Gro [m] H2 (upd H2 m (.ins C dx ({ M.s with row := r, place := a, groups := g } : MS).fs)) := Gro.ins (by simp) e2 _
  have e3 : (upd H2 m (.ins C dx ({ M.s with row := r, place := a, groups := g } : MS).fs)) m = some (.ins C dx ({ M.s with row := r, place := a, groups := g } : MS).fs) := upd_same
  generalize upd H2 m (.ins C dx ({ M.s with row := r, place := a, groups := g } : MS).fs) = H3 at *
  have g13 := g12.trans g3
  refine ⟨_, rfl, t, _, _, _, rfl, rfl, SqT.of (g13.tups _ _ ht), rfl, _, rfl, m, C, dx, _, rfl, e3, MT.cl, MT.a6, fs_few _, ?_⟩
  rw [pf_held]
  have M4 : MAt C _ m ⟨{ M.s with row := r, place := a, groups := g, held := hd }, M.cs⟩ := M3.put (s' := { M.s with row := r, place := a, groups := g, held := hd }) e3 rfl
  have g4 : Gro [m] H3 (upd H3 m (.ins C dx ({ M.s with row := r, place := a, groups := g, held := hd } : MS).fs)) := Gro.ins (by simp) e3 _
  exact q _ M4 ((g13.trans g4).mono (by simp))
def spBack (C : Addr) : Sp := fun vs H Q _ => ∃ (m : Addr) (M : MM), vs = [.ref m] ∧ MAt C H m M ∧ M.cs.length ≤ 1000000 ∧ Goes C Q H m M.s.choices M.back
theorem paired_last {α β : Type} {F : α → β → Prop} {xs : List α} {ys : List β} (h : Paired F xs ys) {y : β} (e : ys.getLast? = some y) : ∃ x, xs[xs.length - 1]? = some x ∧ F x y := by
  have hl := Paired.length h
  have hne : ys ≠ [] := fun z => by rw [z] at e; simp at e
  have hp := List.length_pos_iff.mpr hne
  obtain ⟨x, hx⟩ : ∃ x, xs[xs.length - 1]? = some x := ⟨xs[xs.length - 1]'(by omega), List.getElem?_eq_getElem (by omega)⟩
  obtain ⟨y', hy', q⟩ := paired_get h hx
  rw [List.getLast?_eq_getElem?] at e
  rw [hl, e] at hy'
  cases hy'
  exact ⟨x, hx, q⟩
theorem paired_init {α β : Type} {F : α → β → Prop} {xs : List α} {ys : List β} (h : Paired F xs ys) : Paired F xs.dropLast ys.dropLast := by
  rw [List.dropLast_eq_take, List.dropLast_eq_take, Paired.length h]
  exact paired_take _ h
abbrev s_Machine_go_back : Stmt := inClass (top 35) 5
theorem sc_Machine_go_back : FnScope ["self"] ["self"] (defScope s_Machine_go_back) := ⟨rfl, rfl, rfl, by decide +kernel, rfl, by decide +kernel, by decide +kernel⟩
theorem ok_go_back (T : Blt mg) (MT : Txt K mg C) (O_Machine_enter : OwnM P w K mg base 1 C "enter" ["self", "state"] (spEnter C)) (F : Fun K "go_back" "Machine.go_back" s_Machine_go_back f fd) : FnOk P w K mg base CX0 2 f fd ["self"] (spBack C) := by
  refine F.ok sc_Machine_go_back (fun vs H Q E h => ?_) (fun cdv A outer s H vs Q E hr h => ?_)
  · obtain ⟨m, M, rfl, _⟩ := h
    rfl
  obtain ⟨m, M, rfl, hM, hz, q⟩ := h
  refine ⟨_, (pss_one (ps_if (pt_cmpR op_eq (pe_callB call_len_seq rfl T.b_len PyProof.Rows.Boot.«len» (pa_cons (pe_fld (pv 0) rfl) pa_nil)) pe_int (nomark _)) (pss_one (ps_fld (pv 0) pe_bl rfl)) (pss_one (ps_expr (pe_ownm (O_Machine_enter.mono (by omega)) MT.cl hr (pv 0) (pa_cons (pe_bm0 PySem.F.plainAttrs_list PySem.F.slot_list_pop PySem.F.type_list_pop mt_pop (pe_fld (pv 0) rfl)) pa_nil)))))), ?_⟩
  have hne := hM.ne
  obtain ⟨⟨dx, h1⟩, vs, hv, hp⟩ := id hM
  have hl := Paired.length hp
  refine ⟨_, rfl, m, C, dx, _, _, rfl, h1, MT.cl, MT.a7, fs_choices _, M.s.choices, vs, rfl, .inl (SqL.of hv), rfl, _, rfl, ite2 (fun z => ?_) (fun z => ?_)⟩
  · have h0 : M.cs = [] := by
      have : V.int ((vs.length : Nat) : Int) = V.int 0 := of_decide_eq_true z
      injection this with this
      exact List.length_eq_zero_iff.mp (by omega)
    refine ⟨_, rfl, m, C, dx, _, rfl, h1, MT.cl, MT.a10, fs_few _, ?_⟩
    rw [pf_ended]
    have hb : M.back = ⟨{ M.s with ended := true }, M.cs⟩ := by unfold MM.back; rw [h0]; rfl
    refine q _ ?_ (Gro.ins (by simp) h1 _)
    rw [hb]
    exact hM.put (s' := { M.s with ended := true }) h1 rfl
  · have h0 : M.cs ≠ [] := fun e => z (by
      rw [e] at hl
      rw [hl]
      exact decide_eq_true rfl)
    obtain ⟨y, hy⟩ : ∃ y, M.cs.getLast? = some y := ⟨M.cs.getLast h0, List.getLast?_eq_some_getLast h0⟩
    obtain ⟨x, hx, t, rfl, ht⟩ := paired_last hp hy
    have hb : M.back = MM.enter ⟨M.s, M.cs.dropLast⟩ y := by unfold MM.back; rw [hy]
    refine ⟨_, rfl, m, dx, _, rfl, h1, no_enter _, _, rfl, m, C, dx, _, _, rfl, h1, MT.cl, MT.a7, fs_choices _, .inl ⟨rfl, _, SqL.of hv⟩, M.s.choices, vs, _, rfl, rfl, hv, hx, ?_⟩
    have g1 : Gro [M.s.choices] H (upd H M.s.choices (.lst vs.dropLast)) := Gro.set (by simp) hv _
    have M1 : MAt C (upd H M.s.choices (.lst vs.dropLast)) m ⟨M.s, M.cs.dropLast⟩ := ⟨⟨dx, by rw [upd_ne hne]; exact h1⟩, vs.dropLast, upd_same, Paired.mapP (paired_init hp) fun _ _ q => q.mono g1.tups⟩
    refine ⟨m, t, _, y, rfl, M1, g1.tups _ _ ht, fun H2 M2 g2 => q H2 (by rw [hb]; exact M2) ((g1.mono (by simp)).trans g2)⟩
end
end Seek

set_option maxRecDepth 100000
set_option maxHeartbeats 4000000
namespace Seek
open PySem PySem.Spec PyProof.Rows L2
/-! ### one sign -/
def chr (t : Str) (i : Nat) : Str := ⟨#[t.cps.toList.getD i 0]⟩
def liesIn (rs : List (Str × Str)) (c : Str) : Bool := rs.any fun r => !decide (c.cps.toList < r.1.cps.toList) && !decide (r.2.cps.toList < c.cps.toList)
def Hd.one : Hd → Bool
  | .sign _ => true | .any => true | .inn _ => true | .out _ => true | _ => false
def Hd.eats (h : Hd) (c : Str) : Bool := match h with
  | .sign s => decide (V.str s = V.str c) | .any => true | .inn rs => liesIn rs c | .out rs => !liesIn rs c | _ => false
def takesAt (h : Hd) (t : Str) (i : Int) : Bool := if i < t.length then h.eats (chr t i.toNat) else false
theorem chr_at {t : Str} {i : Int} (h0 : 0 ≤ i) (h1 : i < t.length) : atI t.cps.toList i = some (t.cps.toList.getD i.toNat 0) := by
  have hl : i.toNat < t.cps.toList.length := by
    have : t.cps.toList.length = t.length := by simp [Str.length]
    omega
  have := atI_nat (xs := t.cps.toList) (j := i.toNat) (v := t.cps.toList.getD i.toNat 0) (by rw [List.getD_eq_getElem?_getD, List.getElem?_eq_getElem hl]; rfl)
  rw [Int.toNat_of_nonneg h0] at this
  exact this
section
variable {P : Program} {w : World} {K : PySem.W.Frag} {mg : Str → Option Value} {base : Heap} {f C : Addr} {fd : FuncData}
def spLies : Sp := fun vs H Q _ => ∃ (r : Addr) (rs : List (Str × Str)) (c : Str), vs = [.ref r, .str c] ∧ RunsAt H r rs ∧ Q (.bl (liesIn rs c)) H
abbrev s_lies_in : Stmt := top 12
theorem sc_lies_in : FnScope ["runs", "sign", "low", "high"] ["runs", "sign"] (defScope s_lies_in) := ⟨rfl, rfl, rfl, by decide +kernel, rfl, by decide +kernel, by decide +kernel⟩
theorem ok_lies_in (F : Fun K "lies_in" "lies_in" s_lies_in f fd) : FnOk P w K mg base CX0 1 f fd ["runs", "sign"] spLies := by
  refine F.ok sc_lies_in (fun vs H Q E h => ?_) (fun cdv A outer s H vs Q E hr h => ?_)
  · obtain ⟨r, rs, c, rfl, _⟩ := h
    rfl
  obtain ⟨r, rs, c, rfl, ⟨vs, hv, hp, hz⟩, q⟩ := h
  refine ⟨_, (pss_cons (ps_for PassesOwn.never rfl (pi_tup (pv 0)) (pg_tup rfl (pgs_cons (pg_name (i := 2) sc_lies_in.nd rfl (by first | exact Or.inl rfl | exact Or.inr rfl)) (pgs_cons (pg_name (i := 3) sc_lies_in.nd rfl (by first | exact Or.inl rfl | exact Or.inr rfl)) pgs_nil))) (pss_one (ps_if (PW.pt (pw_and (pt_cmpR op_le_str (pv 2) (pv 1) (nomark _)) (pw_and1 (pt_cmpR op_le_str (pv 1) (pv 3) (nomark _))))) (pss_one (ps_ret pe_bl)) pss_nil)))
    (pss_one (ps_ret pe_bl))), ?_⟩
  have hl := Paired.length hp
  refine ⟨_, rfl, r, rfl, ⟨vs, SqT.of hv⟩, ?_⟩
  refine for_tup (xs := vs) (fun i σ H' => ∃ lo hi : Option V, σ = [some (.ref r), some (.str c), lo, hi] ∧ H' = H ∧ (rs.take i).any (fun r => !decide (c.cps.toList < r.1.cps.toList) && !decide (r.2.cps.toList < c.cps.toList)) = false) ⟨none, none, rfl, rfl, rfl⟩ (fun i σ H' _ ⟨_, _, _, e, _⟩ => by rw [e]; exact SqT.of hv) ?_ ?_
  · rintro i x σ H1 hx ⟨lo, hi, rfl, rfl, hno⟩
    obtain ⟨p, hpi, _, _, a, rfl, ha⟩ := paired_get hp hx
    refine ⟨a, _, rfl, SqT.of ha, rfl, _, _, rfl, _, _, rfl, rfl, ?_⟩
    have yes : (!decide (c.cps.toList < p.1.cps.toList) && !decide (p.2.cps.toList < c.cps.toList)) = true → liesIn rs c = true := fun h => by
      unfold liesIn
      rw [List.any_eq_true]
      exact ⟨p, List.mem_of_getElem? hpi, h⟩
    have no : (!decide (c.cps.toList < p.1.cps.toList) && !decide (p.2.cps.toList < c.cps.toList)) = false → (rs.take (i + 1)).any (fun r => !decide (c.cps.toList < r.1.cps.toList) && !decide (r.2.cps.toList < c.cps.toList)) = false := fun h => by
      rw [take_snoc hpi, List.any_append, hno]
      simpa using h
    refine ⟨_, rfl, _, rfl, _, _, rfl, rfl, _, rfl, ite2 (fun z1 => ?_) (fun z1 => ?_)⟩
    · refine ⟨_, rfl, _, rfl, _, _, rfl, rfl, _, rfl, ite2 (fun z2 => ?_) (fun z2 => ?_)⟩
      · rw [yes (by rw [z1, z2]; rfl)] at q
        exact q
      · exact ⟨_, _, rfl, rfl, no (by rw [z1, Bool.eq_false_iff.mpr z2]; rfl)⟩
    · exact iteF ⟨_, _, rfl, rfl, no (by rw [Bool.eq_false_iff.mpr z1]; rfl)⟩
  · rintro σ H1 ⟨lo, hi, rfl, rfl, hno⟩
    rw [hl, List.take_length] at hno
    rw [show liesIn rs c = false from hno] at q
    exact q
def spTakes : Sp := fun vs H Q _ => ∃ (a : Addr) (h : Hd) (t : Str) (i : Int), vs = [.ref a, .str t, .int i] ∧ PatAt H 1 (.ref a) (.node h []) ∧ h.one = true ∧ 0 ≤ i ∧ t.length ≤ 1000 ∧ Q (.bl (takesAt h t i)) H
abbrev s_takes_sign : Stmt := top 11
theorem sc_takes_sign : FnScope ["row", "text", "at", "kind"] ["row", "text", "at"] (defScope s_takes_sign) := ⟨rfl, rfl, rfl, by decide +kernel, rfl, by decide +kernel, by decide +kernel⟩
theorem ok_takes_sign (T : Blt mg) (O_lies_in : Own P w K mg base 1 "lies_in" ["runs", "sign"] spLies) (F : Fun K "takes_sign" "takes_sign" s_takes_sign f fd) : FnOk P w K mg base CX0 2 f fd ["row", "text", "at"] spTakes := by
  refine F.ok sc_takes_sign (fun vs H Q E h => ?_) (fun cdv A outer s H vs Q E hr h => ?_)
  · obtain ⟨a, h, t, i, rfl, _⟩ := h
    rfl
  obtain ⟨a, h, t, i, rfl, hp, h1, h0, ht, q⟩ := h
  refine ⟨_, (pss_cons (ps_if (pt_cmpR op_ge (pv 2) (pe_callB call_len_str rfl T.b_len PyProof.Rows.Boot.«len» (pa_cons (pv 1) pa_nil)) (nomark _)) (pss_one (ps_ret pe_bl)) pss_nil)
    (pss_cons (ps_set (i := 3) sc_takes_sign.nd rfl (by first | exact Or.inl rfl | exact Or.inr rfl) (pe_ix ix_tup (pv 0) pe_int (fun _ _ => rfl)))
    (pss_cons (ps_if (pt_cmpR op_eq (pv 3) pe_str (nomark _)) (pss_one (ps_ret (pe_cmpR op_eq (pe_ix ix_tup (pv 0) pe_int (fun _ _ => rfl)) (pe_ix ix_str (pv 1) (pv 2) (fun _ _ => rfl)) (nomark _)))) pss_nil)
    (pss_cons (ps_if (pt_cmpR op_eq (pv 3) pe_str (nomark _)) (pss_one (ps_ret pe_bl)) pss_nil)
    (pss_one (ps_ret (pe_cmpR op_eq (pe_own (O_lies_in.mono (by omega)) hr rfl (pa_cons (pe_ix ix_tup (pv 0) pe_int (fun _ _ => rfl)) (pa_cons (pe_ix ix_str (pv 1) (pv 2) (fun _ _ => rfl)) pa_nil))) (pe_cmpR op_eq (pv 3) pe_str (nomark _)) (nomark _)))))))), ?_⟩
  obtain ⟨a', kv, e, lay, hk⟩ := hp
  cases e
  cases hk
  obtain ⟨r0, ea⟩ := lay.head
  unfold takesAt at q
  refine ⟨_, rfl, _, rfl, t, rfl, small ht, _, _, rfl, rfl, _, rfl, ite2 (fun z => ?_) (fun z => ?_)⟩
  · have : ¬ i < t.length := by
      have := of_decide_eq_true z
      omega
    rw [if_neg this] at q
    exact q
  have hlt : i < t.length := by
    have : ¬ ((t.length : Nat) : Int) ≤ i := fun e => z (decide_eq_true e)
    omega
  rw [if_pos hlt] at q
  have hc := chr_at h0 hlt
  refine ⟨_, rfl, a, _, _, _, rfl, rfl, SqT.of ea, at0, ?_⟩
  cases h with
  | sign x =>
    refine ⟨_, rfl, rfl, _, rfl, ite_yes (show isw "sign" "sign" = true by decide +kernel) ?_⟩
    exact ⟨_, rfl, a, _, _, _, rfl, rfl, SqT.of lay.2.2, rfl, _, rfl, _, rfl, t, i, _, rfl, rfl, small ht, hc, rfl, q⟩
  | any =>
    refine ⟨_, rfl, rfl, _, rfl, ite_no (show ¬ isw "any" "sign" = true by decide +kernel) ?_⟩
    exact ⟨_, rfl, rfl, _, rfl, ite_yes (show isw "any" "any" = true by decide +kernel) q⟩
  | inn rs =>
    obtain ⟨_, r, e, hr'⟩ := lay
    refine ⟨_, rfl, rfl, _, rfl, ite_no (show ¬ isw "in" "sign" = true by decide +kernel) ?_⟩
    refine ⟨_, rfl, rfl, _, rfl, ite_no (show ¬ isw "in" "any" = true by decide +kernel) ?_⟩
    refine ⟨_, rfl, a, _, _, _, rfl, rfl, SqT.of e, rfl, _, rfl, _, rfl, t, i, _, rfl, rfl, small ht, hc, r, rs, _, rfl, hr', _, rfl, rfl, rfl, ?_⟩
    have e2 : decide (V.str (Hd.inn rs).word = V.str "in") = true := by show decide (V.str "in" = V.str "in") = true; decide +kernel
    rw [e2]
    have q' : Q (.bl (liesIn rs (chr t i.toNat))) H := q
    show Q (.bl (decide (V.bl (liesIn rs (chr t i.toNat)) = V.bl true))) H
    cases hb : liesIn rs (chr t i.toNat) <;> rw [hb] at q' <;> exact q'
  | out rs =>
    obtain ⟨_, r, e, hr'⟩ := lay
    refine ⟨_, rfl, rfl, _, rfl, ite_no (show ¬ isw "out" "sign" = true by decide +kernel) ?_⟩
    refine ⟨_, rfl, rfl, _, rfl, ite_no (show ¬ isw "out" "any" = true by decide +kernel) ?_⟩
    refine ⟨_, rfl, a, _, _, _, rfl, rfl, SqT.of e, rfl, _, rfl, _, rfl, t, i, _, rfl, rfl, small ht, hc, r, rs, _, rfl, hr', _, rfl, rfl, rfl, ?_⟩
    have e2 : decide (V.str (Hd.out rs).word = V.str "in") = false := by show decide (V.str "out" = V.str "in") = false; decide +kernel
    rw [e2]
    have q' : Q (.bl (!liesIn rs (chr t i.toNat))) H := q
    show Q (.bl (decide (V.bl (liesIn rs (chr t i.toNat)) = V.bl false))) H
    cases hb : liesIn rs (chr t i.toNat) <;> rw [hb] at q' <;> exact q'
  | _ => exact absurd h1 (by simp [Hd.one])
end
end Seek

set_option maxRecDepth 100000
set_option maxHeartbeats 4000000
namespace Seek
open PySem PySem.Spec PyProof.Rows L2
def MM.doSign (h : Hd) (M : MM) : MM := if takesAt h M.s.text M.s.place = true then ⟨{ M.s with place := M.s.place + 1 }, M.cs⟩ else M.back
def MM.doBegin (M : MM) : MM := if M.s.place = 0 then M else M.back
def MM.doEnd (M : MM) : MM := if M.s.place = M.s.text.length then M else M.back
def MM.doFound (M : MM) : MM := ⟨{ M.s with found := true }, M.cs⟩
section
variable {P : Program} {w : World} {K : PySem.W.Frag} {mg : Str → Option Value} {base : Heap} {f C : Addr} {fd : FuncData}
/-- a row's def: the machine at m, the row at a -/
def spRow (C : Addr) (pre : MM → Prop) (row : Hp → Addr → Prop) (go : MM → MM) : Sp := fun vs H Q _ => ∃ (m a : Addr) (M : MM), vs = [.ref m, .ref a] ∧ MAt C H m M ∧ M.cs.length ≤ 1000000 ∧ pre M ∧ row H a ∧ Goes C Q H m M.s.choices (go M)
abbrev preT : MM → Prop := fun M => 0 ≤ M.s.place ∧ M.s.text.length ≤ 1000
def rowH (h : Hd) : Hp → Addr → Prop := fun H a => PatAt H 1 (.ref a) (.node h [])
abbrev s_do_sign : Stmt := top 15
theorem sc_do_sign : FnScope ["machine", "row"] ["machine", "row"] (defScope s_do_sign) := ⟨rfl, rfl, rfl, by decide +kernel, rfl, by decide +kernel, by decide +kernel⟩
theorem ok_do_sign {h : Hd} (h1 : h.one = true) (MT : Txt K mg C) (O_takes_sign : Own P w K mg base 2 "takes_sign" ["row", "text", "at"] spTakes) (O_Machine_go_back : OwnM P w K mg base 2 C "go_back" ["self"] (spBack C)) (F : Fun K "do_sign" "do_sign" s_do_sign f fd) :
    FnOk P w K mg base CX0 3 f fd ["machine", "row"] (spRow C preT (rowH h) (MM.doSign h)) := by
  refine F.ok sc_do_sign (fun vs H Q E h => ?_) (fun cdv A outer s H vs Q E hr h => ?_)
  · obtain ⟨m, a, M, rfl, _⟩ := h
    rfl
  obtain ⟨m, a, M, rfl, hM, hz, ⟨p0, p1⟩, hrow, q⟩ := h
  refine ⟨_, (pss_one (ps_if (pt_val (pe_own (O_takes_sign.mono (by omega)) hr rfl (pa_cons (pv 1) (pa_cons (pe_fld (pv 0) rfl) (pa_cons (pe_fld (pv 0) rfl) pa_nil))))) (pss_one (ps_fldaug (pv 0) pe_int in_add)) (pss_one (ps_expr (pe_ownm0 (O_Machine_go_back.mono (by omega)) MT.cl hr (pv 0)))))), ?_⟩
  obtain ⟨⟨dx, e1⟩, _⟩ := id hM
  refine ⟨_, rfl, _, rfl, m, C, dx, _, _, rfl, e1, MT.cl, MT.a2, fs_text _, _, rfl, m, C, dx, _, _, rfl, e1, MT.cl, MT.a4, fs_at _, a, _, M.s.text, M.s.place, rfl, hrow, h1, p0, p1, _, rfl, ?_⟩
  unfold MM.doSign at q
  refine ite2 (fun z => ?_) (fun z => ?_)
  · rw [if_pos z] at q
    refine ⟨_, rfl, m, C, dx, _, _, rfl, e1, MT.cl, MT.a4, fs_at _, _, _, rfl, rfl, dx, _, e1, fs_few _, ?_⟩
    rw [pf_at]
    exact q _ (hM.put (s' := { M.s with place := M.s.place + 1 }) e1 rfl) (Gro.ins (by simp) e1 _)
  · rw [if_neg z] at q
    exact ⟨_, rfl, m, dx, _, rfl, e1, no_go_back _, m, M, rfl, hM, hz, q⟩
abbrev s_do_begin : Stmt := top 16
theorem sc_do_begin : FnScope ["machine", "row"] ["machine", "row"] (defScope s_do_begin) := ⟨rfl, rfl, rfl, by decide +kernel, rfl, by decide +kernel, by decide +kernel⟩
theorem ok_do_begin (MT : Txt K mg C) (O_Machine_go_back : OwnM P w K mg base 2 C "go_back" ["self"] (spBack C)) (F : Fun K "do_begin" "do_begin" s_do_begin f fd) : FnOk P w K mg base CX0 3 f fd ["machine", "row"] (spRow C preT (rowH .beg) MM.doBegin) := by
  refine F.ok sc_do_begin (fun vs H Q E h => ?_) (fun cdv A outer s H vs Q E hr h => ?_)
  · obtain ⟨m, a, M, rfl, _⟩ := h
    rfl
  obtain ⟨m, a, M, rfl, hM, hz, _, _, q⟩ := h
  refine ⟨_, (pss_one (ps_if (pt_cmpR op_ne (pe_fld (pv 0) rfl) pe_int (nomark _)) (pss_one (ps_expr (pe_ownm0 (O_Machine_go_back.mono (by omega)) MT.cl hr (pv 0)))) pss_nil)), ?_⟩
  obtain ⟨⟨dx, e1⟩, _⟩ := id hM
  unfold MM.doBegin at q
  refine ⟨_, rfl, m, C, dx, _, _, rfl, e1, MT.cl, MT.a4, fs_at _, rfl, _, rfl, ite2 (fun z => ?_) (fun z => ?_)⟩
  · have : ¬ M.s.place = 0 := fun e => by rw [e] at z; exact absurd z (by decide)
    rw [if_neg this] at q
    exact ⟨_, rfl, m, dx, _, rfl, e1, no_go_back _, m, M, rfl, hM, hz, q⟩
  · have : M.s.place = 0 := by
      have : (!decide (V.int M.s.place = V.int 0)) = false := Bool.eq_false_iff.mpr z
      simpa using this
    rw [if_pos this] at q
    exact q H hM Gro.refl
abbrev s_do_end : Stmt := top 17
theorem sc_do_end : FnScope ["machine", "row"] ["machine", "row"] (defScope s_do_end) := ⟨rfl, rfl, rfl, by decide +kernel, rfl, by decide +kernel, by decide +kernel⟩
theorem ok_do_end (T : Blt mg) (MT : Txt K mg C) (O_Machine_go_back : OwnM P w K mg base 2 C "go_back" ["self"] (spBack C)) (F : Fun K "do_end" "do_end" s_do_end f fd) : FnOk P w K mg base CX0 3 f fd ["machine", "row"] (spRow C preT (rowH .fin) MM.doEnd) := by
  refine F.ok sc_do_end (fun vs H Q E h => ?_) (fun cdv A outer s H vs Q E hr h => ?_)
  · obtain ⟨m, a, M, rfl, _⟩ := h
    rfl
  obtain ⟨m, a, M, rfl, hM, hz, ⟨p0, p1⟩, _, q⟩ := h
  refine ⟨_, (pss_one (ps_if (pt_cmpR op_ne (pe_fld (pv 0) rfl) (pe_callB call_len_str rfl T.b_len PyProof.Rows.Boot.«len» (pa_cons (pe_fld (pv 0) rfl) pa_nil)) (nomark _)) (pss_one (ps_expr (pe_ownm0 (O_Machine_go_back.mono (by omega)) MT.cl hr (pv 0)))) pss_nil)), ?_⟩
  obtain ⟨⟨dx, e1⟩, _⟩ := id hM
  unfold MM.doEnd at q
  refine ⟨_, rfl, m, C, dx, _, _, rfl, e1, MT.cl, MT.a4, fs_at _, _, rfl, m, C, dx, _, _, rfl, e1, MT.cl, MT.a2, fs_text _, M.s.text, rfl, small p1, rfl, _, rfl, ite2 (fun z => ?_) (fun z => ?_)⟩
  · have : ¬ M.s.place = M.s.text.length := fun e => by rw [e] at z; simp at z
    rw [if_neg this] at q
    exact ⟨_, rfl, m, dx, _, rfl, e1, no_go_back _, m, M, rfl, hM, hz, q⟩
  · have : M.s.place = M.s.text.length := by
      have : (!decide (V.int M.s.place = V.int ((M.s.text.length : Nat) : Int))) = false := Bool.eq_false_iff.mpr z
      simpa using this
    rw [if_pos this] at q
    exact q H hM Gro.refl
def rowF : Hp → Addr → Prop := fun H a => H a = some (.tup [.str "found"])
abbrev s_do_found : Stmt := top 33
theorem sc_do_found : FnScope ["machine", "row"] ["machine", "row"] (defScope s_do_found) := ⟨rfl, rfl, rfl, by decide +kernel, rfl, by decide +kernel, by decide +kernel⟩
theorem ok_do_found (MT : Txt K mg C) (F : Fun K "do_found" "do_found" s_do_found f fd) : FnOk P w K mg base CX0 1 f fd ["machine", "row"] (spRow C (fun _ => True) rowF MM.doFound) := by
  refine F.ok sc_do_found (fun vs H Q E h => ?_) (fun cdv A outer s H vs Q E hr h => ?_)
  · obtain ⟨m, a, M, rfl, _⟩ := h
    rfl
  obtain ⟨m, a, M, rfl, hM, hz, _, _, q⟩ := h
  refine ⟨_, (pss_one (ps_fld (pv 0) pe_bl rfl)), ?_⟩
  obtain ⟨⟨dx, e1⟩, _⟩ := id hM
  refine ⟨_, rfl, m, C, dx, _, rfl, e1, MT.cl, MT.a9, fs_few _, ?_⟩
  rw [pf_found]
  exact q _ (hM.put (s' := { M.s with found := true }) e1 rfl) (Gro.ins (by simp) e1 _)
def spMoves (C : Addr) : Sp := fun vs H Q _ => ∃ (m : Addr) (M : MM), vs = [.ref m] ∧ MAt C H m M ∧ Q (.int M.s.made) H
abbrev s_Machine_moves : Stmt := inClass (top 35) 2
theorem sc_Machine_moves : FnScope ["self"] ["self"] (defScope s_Machine_moves) := ⟨rfl, rfl, rfl, by decide +kernel, rfl, by decide +kernel, by decide +kernel⟩
theorem ok_moves (MT : Txt K mg C) (F : Fun K "moves" "Machine.moves" s_Machine_moves f fd) : FnOk P w K mg base CX0 1 f fd ["self"] (spMoves C) := by
  refine F.ok sc_Machine_moves (fun vs H Q E h => ?_) (fun cdv A outer s H vs Q E hr h => ?_)
  · obtain ⟨m, M, rfl, _⟩ := h
    rfl
  obtain ⟨m, M, rfl, hM, q⟩ := h
  refine ⟨_, (pss_one (ps_ret (pe_fld (pv 0) rfl))), ?_⟩
  obtain ⟨⟨dx, e1⟩, _⟩ := id hM
  exact ⟨_, rfl, m, C, dx, _, _, rfl, e1, MT.cl, MT.a8, fs_made _, q⟩
/-! ### one move -/
/-- the defs of the rows, by their words -/
structure Tells (P : Program) (w : World) (K : PySem.W.Frag) (mg : Str → Option Value) (base : Heap) (k : Nat) (ds : List (Key × V)) (wd : Str) (sp : Sp) : Prop where
  ex : ∃ f fd ps, valV ds (Sum.inr wd) = some (.ref f) ∧ FnOk P w K mg base CX0 k f fd ps sp ∧ PySem.W.keepIn K (.ref f) = true ∧ Binds K fd ps []
def MM.next (M : MM) : MM := ⟨{ M.s with row := M.s.row + 1, made := M.s.made + 1 }, M.cs⟩
def spMove (P : Program) (w : World) (K : PySem.W.Frag) (mg : Str → Option Value) (base : Heap) (k : Nat) (ds : List (Key × V)) (C : Addr) : Sp := fun vs H Q _ => ∃ (m ra a : Addr) (ys : List V) (wd : Str) (r : List V) (M : MM) (sp : Sp), vs = [.ref m] ∧ MAt C H m M ∧ M.s.rows = .ref ra ∧ H ra = some (.tup ys) ∧ atI ys M.s.row = some (.ref a) ∧ H a = some (.tup (.str wd :: r)) ∧
  Tells P w K mg base k ds wd sp ∧ ∀ H1 : Hp, MAt C H1 m M.next → Gro [m] H H1 → sp [.ref m, .ref a] H1 (fun _ H2 => Q .non H2) E0
abbrev s_Machine_move : Stmt := inClass (top 35) 3
theorem sc_Machine_move : FnScope ["self", "row"] ["self"] (defScope s_Machine_move) := ⟨rfl, rfl, rfl, by decide +kernel, rfl, by decide +kernel, by decide +kernel⟩
theorem ok_move {k : Nat} {dn : Addr} {ds : List (Key × V)} (MT : Txt K mg C) (c_DOINGS : mg "DOINGS" = some (.ref dn)) (hDN : DcK K w dn ds) (F : Fun K "move" "Machine.move" s_Machine_move f fd) : FnOk P w K mg base CX0 (k + 1) f fd ["self"] (spMove P w K mg base k ds C) := by
  refine F.ok sc_Machine_move (fun vs H Q E h => ?_) (fun cdv A outer s H vs Q E hr h => ?_)
  · obtain ⟨m, ra, a, ys, wd, r, M, sp, rfl, _⟩ := h
    rfl
  obtain ⟨m, ra, a, ys, wd, r, M, sp, rfl, hM, hrows, hra, hat, ha, ⟨g, gd, ps, hv, G, kp, hb⟩, q⟩ := h
  refine ⟨_, (pss_cons (ps_set (i := 1) sc_Machine_move.nd rfl (by first | exact Or.inl rfl | exact Or.inr rfl) (pe_ix ix_tup (pe_fld (pv 0) rfl) (pe_fld (pv 0) rfl) (fun _ _ => rfl)))
    (pss_cons (ps_fldaug (pv 0) pe_int in_add)
    (pss_cons (ps_fldaug (pv 0) pe_int in_add)
    (pss_one (ps_expr (pe_dyn hr (pe_cget (pe_glob (v := .ref _) rfl c_DOINGS rfl) (pe_ix ix_tup (pv 1) pe_int (fun _ _ => rfl)) (fun _ _ => rfl)) (pa_cons (pv 0) (pa_cons (pv 1) pa_nil)))))))), ?_⟩
  obtain ⟨⟨dx, e1⟩, _⟩ := id hM
  have hrr : M.s.fs.lookup ("rows" : Str) = some (.ref ra) := by rw [fs_rows, hrows]
  refine ⟨_, rfl, m, C, dx, _, _, rfl, e1, MT.cl, MT.a1, hrr, _, rfl, m, C, dx, _, _, rfl, e1, MT.cl, MT.a3, fs_row _, ra, ys, _, _, rfl, rfl, SqT.of hra, hat, ?_⟩
  refine ⟨_, rfl, m, C, dx, _, _, rfl, e1, MT.cl, MT.a3, fs_row _, _, _, rfl, rfl, dx, _, e1, fs_few _, ?_⟩
  rw [pf_row]
  have M1 := hM.put (s' := { M.s with row := M.s.row + 1 }) e1 rfl
  have g1 : Gro [m] H (upd H m (.ins C dx ({ M.s with row := M.s.row + 1 } : MS).fs)) := Gro.ins (by simp) e1 _
  have e2 : (upd H m (.ins C dx ({ M.s with row := M.s.row + 1 } : MS).fs)) m = some (.ins C dx ({ M.s with row := M.s.row + 1 } : MS).fs) := upd_same
  generalize upd H m (.ins C dx ({ M.s with row := M.s.row + 1 } : MS).fs) = H1 at *
  refine ⟨_, rfl, m, C, dx, _, _, rfl, e2, MT.cl, MT.a8, fs_made _, _, _, rfl, rfl, dx, _, e2, fs_few _, ?_⟩
  rw [pf_made]
  have M2 : MAt C _ m M.next := M1.put (s' := { M.s with row := M.s.row + 1, made := M.s.made + 1 }) e2 rfl
  have g2 : Gro [m] H1 (upd H1 m (.ins C dx ({ M.s with row := M.s.row + 1, made := M.s.made + 1 } : MS).fs)) := Gro.ins (by simp) e2 _
  have q2 := q _ M2 (g1.trans g2)
  refine ⟨_, rfl, a, _, _, _, rfl, rfl, SqT.of (g2.tups _ _ (g1.tups _ _ ha)), at0, dn, ds, Sum.inr wd, _, rfl, hDN, rfl, hv, g, gd, ps, sp, rfl, G, kp, hb, ?_⟩
  exact ⟨_, rfl, _, rfl, q2⟩
end
end Seek

set_option maxRecDepth 100000
set_option maxHeartbeats 4000000
namespace Seek
open PySem PySem.Spec PyProof.Rows L2
def MM.fresh (M : MM) : MM := if M.s.found = true then MM.back ⟨{ M.s with found := false }, M.cs⟩ else M
section
variable {P : Program} {w : World} {K : PySem.W.Frag} {mg : Str → Option Value} {base : Heap} {f C : Addr} {fd : FuncData}
/-- what comes of so many moves; J: behind k of them -/
structure Runs (P : Program) (w : World) (K : PySem.W.Frag) (mg : Str → Option Value) (base : Heap) (kk : Nat) (ds : List (Key × V)) (C m : Addr) (M : MM) (H : Hp) (most : Int) (Q : VK) (J : Nat → MM → Hp → Prop) : Prop where
  start : ∀ H', MAt C H' m M.fresh → Gro [m, M.s.choices] H H' → J 0 M.fresh H'
  at_ : ∀ k M' H', J k M' H' → MAt C H' m M' ∧ M'.s.made = M.s.made + k ∧ M'.s.found = false ∧ (k : Int) ≤ most
  none_ : ∀ k M' H', J k M' H' → M'.s.ended = true → ∀ t, H' t = none → Q (.ref t) (upd H' t (.tup [.str "none"]))
  over : ∀ k M' H', J k M' H' → M'.s.ended = false → (k : Int) = most → ∀ t, H' t = none → Q (.ref t) (upd H' t (.tup [.str "over"]))
  turn : ∀ k M' H', J k M' H' → M'.s.ended = false → (k : Int) < most → ∀ Q' : VK, (∀ (v : V) (H2 : Hp) (M2 : MM), MAt C H2 m M2 → ((M2.s.found = true ∧ ∀ t, H2 t = none → Q (.ref t) (upd H2 t (.tup [.str "way", .int M2.s.place, M2.s.groups]))) ∨ (M2.s.found = false ∧ J (k + 1) M2 H2)) → Q' v H2) → spMove P w K mg base kk ds C [.ref m] H' Q' E0
def spWay (P : Program) (w : World) (K : PySem.W.Frag) (mg : Str → Option Value) (base : Heap) (kk : Nat) (ds : List (Key × V)) (C : Addr) : Sp := fun vs H Q _ => ∃ (m : Addr) (most : Int) (M : MM) (J : Nat → MM → Hp → Prop), vs = [.ref m, .int most] ∧ MAt C H m M ∧ 1 ≤ most ∧ M.cs.length ≤ 1000000 ∧ Runs P w K mg base kk ds C m M H most Q J
def cutY (m : Addr) (most : Int) (M : MM) (J : Nat → MM → Hp → Prop) : TS := fun D σ H1 => σ = [some (.ref m), some (.int most), none] ∧ J 0 M.fresh H1
abbrev s_Machine_way : Stmt := inClass (top 35) 1
theorem sc_Machine_way : FnScope ["self", "most", "last"] ["self", "most"] (defScope s_Machine_way) := ⟨rfl, rfl, rfl, by decide +kernel, rfl, by decide +kernel, by decide +kernel⟩
theorem ok_way {kk : Nat} {ds : List (Key × V)} (MT : Txt K mg C) (O_Machine_move : OwnM P w K mg base (kk + 1) C "move" ["self"] (spMove P w K mg base kk ds C)) (O_Machine_go_back : OwnM P w K mg base 2 C "go_back" ["self"] (spBack C)) (F : Fun K "way" "Machine.way" s_Machine_way f fd) :
    FnOk P w K mg base CX0 (kk + 3) f fd ["self", "most"] (spWay P w K mg base kk ds C) := by
  refine F.ok sc_Machine_way (fun vs H Q E h => ?_) (fun cdv A outer s H vs Q E hr h => ?_)
  · obtain ⟨m, most, M, J, rfl, _⟩ := h
    rfl
  obtain ⟨m, most, M, J, rfl, hM, h1, hz, R⟩ := h
  refine ⟨_, (pss_cons (ps_if (pt_val (pe_fld (pv 0) rfl)) (pss_cons (ps_fld (pv 0) pe_bl rfl)
    (pss_one (ps_expr (pe_ownm0 (O_Machine_go_back.mono (by omega)) MT.cl hr (pv 0))))) pss_nil)
    (pss_cut (fun D σ H1 => cutY m most M J D σ H1 ∧ D.rt = Q) (pss_cons (ps_set (i := 2) sc_Machine_way.nd rfl (by first | exact Or.inl rfl | exact Or.inr rfl) (pe_op op_add (pe_fld (pv 0) rfl) (pv 1)))
    (pss_cons (ps_while PassesOwn.never (PW.pt (pw_and (pt_not (pt_val (pe_fld (pv 0) rfl))) (pw_and1 (pt_cmpR op_lt (pe_fld (pv 0) rfl) (pv 2) (nomark _))))) (pss_cons (ps_expr (pe_ownm0 (O_Machine_move.mono (by omega)) MT.cl hr (pv 0)))
    (pss_one (ps_if (pt_val (pe_fld (pv 0) rfl)) (pss_one (ps_ret (pe_tup (pa_cons pe_str (pa_cons (pe_fld (pv 0) rfl) (pa_cons (pe_fld (pv 0) rfl) pa_nil)))))) pss_nil))))
    (pss_one (ps_ret (pe_ifExp (pt_val (pe_fld (pv 0) rfl)) (pe_tup (pa_cons pe_str pa_nil)) (pe_tup (pa_cons pe_str pa_nil))))))) (fun D1 σ1 H1 hcut => ?cut1))), ?_⟩
  case cut1 =>
    obtain ⟨⟨rfl, hJ⟩, hD⟩ := hcut
    obtain ⟨M0, hm0, _, _⟩ := R.at_ _ _ _ hJ
    obtain ⟨⟨dx, e1⟩, _⟩ := id M0
    refine ⟨_, rfl, m, C, dx, _, _, rfl, e1, MT.cl, MT.a8, fs_made _, _, rfl, _, _, rfl, rfl, ?_⟩
    have hlast : M.fresh.s.made = M.s.made := by rw [hm0]; simp
    refine ⟨fun n σ H' => ∃ (k : Nat) (M' : MM), (n : Int) = most - k ∧ σ = [some (.ref m), some (.int most), some (.int (M.fresh.s.made + most))] ∧ J k M' H', ⟨most.toNat, 0, _, by omega, rfl, hJ⟩, ?_⟩
    rintro n σ H2 ⟨k, M', hn, rfl, hJ2⟩
    obtain ⟨M2, hm2, hf2, hk2⟩ := R.at_ _ _ _ hJ2
    obtain ⟨⟨dx2, e2⟩, _⟩ := id M2
    have rest : (M'.s.ended = false → ¬ (k : Int) < most) → (tRet (tIf (tB (tFld K (tVar 0) "ended")) (tTup (tCons (tC (.str "none")) tNil)) (tTup (tCons (tC (.str "over")) tNil)))) D1 [some (.ref m), some (.int most), some (.int (M.fresh.s.made + most))] H2 := by
      intro hk
      refine ⟨_, rfl, m, C, dx2, _, _, rfl, e2, MT.cl, MT.a10, fs_ended _, _, rfl, ite2 (fun z => ?_) (fun z => ?_)⟩
      · refine ⟨sz, fun t ht => ?_⟩
        rw [hD]
        exact R.none_ _ _ _ hJ2 z t ht
      · refine ⟨sz, fun t ht => ?_⟩
        rw [hD]
        have z' : M'.s.ended = false := Bool.eq_false_iff.mpr z
        exact R.over _ _ _ hJ2 z' (by have := hk z'; omega) t ht
    refine ⟨_, rfl, m, C, dx2, _, _, rfl, e2, MT.cl, MT.a10, fs_ended _, _, rfl, ?_⟩
    cases he : M'.s.ended with
    | true => exact iteF (iteF (rest (fun z => absurd (he.symm.trans z) (by decide))))
    | false =>
      refine iteT ?_
      refine ⟨_, rfl, m, C, dx2, _, _, rfl, e2, MT.cl, MT.a8, fs_made _, _, rfl, _, _, rfl, rfl, _, rfl, ?_⟩
      by_cases hlt : (k : Int) < most
      · have hd : decide (M'.s.made < M.fresh.s.made + most) = true := decide_eq_true (by omega)
        rw [hd]
        refine iteT ⟨fun σ' H' => ∃ M3, σ' = [some (.ref m), some (.int most), some (.int (M.fresh.s.made + most))] ∧ J (k + 1) M3 H', fun σ' H' ⟨M3, e3, j3⟩ => ⟨n - 1, by omega, k + 1, M3, by omega, e3, j3⟩, ?_⟩
        refine ⟨_, rfl, m, dx2, _, rfl, e2, no_move _, ?_⟩
        unfold tNil
        refine R.turn _ _ _ hJ2 he hlt _ fun v H3 M3 hM3 h3 => ?_
        obtain ⟨⟨dx3, e3⟩, _⟩ := id hM3
        refine ⟨_, rfl, m, C, dx3, _, _, rfl, e3, MT.cl, MT.a9, fs_found _, _, rfl, ?_⟩
        rcases h3 with ⟨hf, hq⟩ | ⟨hf, hj⟩
        · rw [hf]
          refine iteT ⟨_, rfl, m, C, dx3, _, _, rfl, e3, MT.cl, MT.a4, fs_at _, _, rfl, m, C, dx3, _, _, rfl, e3, MT.cl, MT.a5, fs_groups _, sz, fun t ht => ?_⟩
          show D1.rt _ _
          rw [hD]
          exact hq t ht
        · rw [hf]
          exact iteF ⟨M3, rfl, hj⟩
      · have hd : decide (M'.s.made < M.fresh.s.made + most) = false := decide_eq_false (by omega)
        rw [hd]
        exact iteF (rest (fun _ => hlt))
  obtain ⟨⟨dx, e1⟩, _⟩ := id hM
  have fr : ∀ H', MAt C H' m M.fresh → Gro [m, M.s.choices] H H' → J 0 M.fresh H' := R.start
  unfold MM.fresh at fr
  refine ⟨_, rfl, m, C, dx, _, _, rfl, e1, MT.cl, MT.a9, fs_found _, _, rfl, ite2 (fun z => ?_) (fun z => ?_)⟩
  · rw [if_pos z] at fr
    refine ⟨_, rfl, m, C, dx, _, rfl, e1, MT.cl, MT.a9, fs_few _, ?_⟩
    rw [pf_found]
    have M1 := hM.put (s' := { M.s with found := false }) e1 rfl
    have g1 : Gro [m] H (upd H m (.ins C dx ({ M.s with found := false } : MS).fs)) := Gro.ins (by simp) e1 _
    refine ⟨_, rfl, m, dx, _, rfl, upd_same, no_go_back _, m, _, rfl, M1, hz, fun H2 M2 g2 => ⟨⟨rfl, ?_⟩, rfl⟩⟩
    have := fr H2 M2 ((g1.mono (by simp)).trans g2)
    unfold MM.fresh
    rw [if_pos z]
    exact this
  · rw [if_neg z] at fr
    refine ⟨⟨rfl, ?_⟩, rfl⟩
    unfold MM.fresh
    rw [if_neg z]
    exact fr H hM Gro.refl
end
end Seek

set_option maxRecDepth 100000
set_option maxHeartbeats 4000000
namespace Seek
open PySem PySem.Spec PyProof.Rows L2
/-! ### the numbers of the groups that rows close -/
def Rw.close : Rw → Option Int
  | .tup [.str x, .int k] => if x = "close" then some k else none
  | _ => none
def closes (rs : List Rw) : List Int := rs.filterMap Rw.close
/-- how many groups there are -/
def cntR (rs : List Rw) : Int := if closes rs = [] then 0 else mxL (closes rs)
/-- what a row is, for the machine's making -/
def Rw.tame : Rw → Prop
  | .pat _ => True
  | .tup xs => ∃ (x : Str) (r : List V), xs = .str x :: r ∧ (x = "close" → ∃ k, r = [.int k])
theorem pat_close (h : Hd) : decide (V.str h.word = V.str "close") = false := by
  rw [h.word_wd]
  cases h.wd <;> decide +kernel
def ms0 (ra : Addr) (t : Str) (i : Int) (g : V) (c : Addr) : MM := ⟨{ rows := .ref ra, text := t, row := 0, place := i, groups := g, held := .non, choices := c, made := 0, found := false, ended := false }, []⟩
section
variable {P : Program} {w : World} {K : PySem.W.Frag} {mg : Str → Option Value} {base : Heap} {f C : Addr} {fd : FuncData}
def spInit (C : Addr) : Sp := fun vs H Q _ => ∃ (m dx ra : Addr) (t : Str) (i : Int) (ys : List V) (rs : List Rw), vs = [.ref m, .ref ra, .str t, .int i] ∧ H m = some (.ins C dx []) ∧ H ra = some (.tup ys) ∧ Paired (RowAt H) ys rs ∧ ys.length ≤ 1000000 ∧ (∀ r ∈ rs, r.tame) ∧ 0 ≤ cntR rs ∧ cntR rs ≤ 1000 ∧
  ∀ (c g : Addr) (H' : Hp), H c = none → MAt C H' m (ms0 ra t i (.ref g) c) → H' g = some (.tup (List.replicate (cntR rs).toNat .non)) → Gro [m] H H' → Q .non H'
theorem rows_close {H : Hp} {v : V} {r : Rw} (h : RowAt H v r) (ht : r.tame) : ∃ (a : Addr) (x : Str) (xs : List V), v = .ref a ∧ H a = some (.tup (.str x :: xs)) ∧ ((decide (V.str x = V.str "close") = false ∧ r.close = none) ∨ (decide (V.str x = V.str "close") = true ∧ ∃ k, xs = [.int k] ∧ r.close = some k)) := by
  cases r with
  | pat hd =>
    obtain ⟨a, kv, rfl, l, _⟩ := h
    obtain ⟨xs, e⟩ := l.head
    exact ⟨a, _, xs, rfl, e, .inl ⟨pat_close hd, rfl⟩⟩
  | tup ys =>
    obtain ⟨a, rfl, e⟩ := h
    obtain ⟨x, xs, rfl, hc⟩ := ht
    refine ⟨a, x, xs, rfl, e, ?_⟩
    by_cases hx : x = "close"
    · obtain ⟨k, rfl⟩ := hc hx
      exact .inr ⟨decide_eq_true (by rw [hx]), k, rfl, by show (if x = "close" then some k else none) = some k; rw [if_pos hx]⟩
    · refine .inl ⟨decide_eq_false (fun z => hx (by injection z)), ?_⟩
      unfold Rw.close
      split
      · rename_i heq
        injection heq with heq
        injection heq with h1 h2
        injection h1 with h1
        subst h1
        rw [if_neg hx]
      · rfl
theorem Gro.obj {H : Hp} {m C dx : Addr} {fs fs' : List (Str × V)} (h : H m = some (.ins C dx fs)) : Gro [m] H (upd H m (.ins C dx fs')) := Gro.ins (by simp) h _
abbrev s_Machine___init__ : Stmt := inClass (top 35) 0
theorem sc_Machine___init__ : FnScope ["self", "rows", "text", "at"] ["self", "rows", "text", "at"] (defScope s_Machine___init__) := ⟨rfl, rfl, rfl, by decide +kernel, rfl, by decide +kernel, by decide +kernel⟩
theorem ok_init (T : Blt mg) (MT : Txt K mg C) (F : Fun K "__init__" "Machine.__init__" s_Machine___init__ f fd) : FnOk P w K mg base CX0 1 f fd ["self", "rows", "text", "at"] (spInit C) := by
  refine F.ok sc_Machine___init__ (fun vs H Q E h => ?_) (fun cdv A outer s H vs Q E hr h => ?_)
  · obtain ⟨m, dx, ra, t, i, ys, rs, rfl, _⟩ := h
    rfl
  obtain ⟨m, dx, ra, t, i, ys, rs, rfl, h0, hra, hp, hz, htm, hc0, hc1, q⟩ := h
  refine ⟨_, (pss_cons (ps_fld (pv 0) (pv 1) rfl)
    (pss_cons (ps_fld (pv 0) (pv 2) rfl)
    (pss_cons (ps_fld (pv 0) pe_int rfl)
    (pss_cons (ps_fld (pv 0) (pv 3) rfl)
    (pss_cons (ps_fld (pv 0) (pe_op op_repT (pe_tup (pa_cons pe_non pa_nil)) (pe_maxD rfl rfl T.b_max (pa_cons (pe_lcomp rfl (show CScope _ ["self", "rows", "text", "at"] (defScope s_Machine___init__) _ from ⟨rfl, by decide +kernel, rfl, by decide +kernel, by decide +kernel, by decide +kernel, by decide +kernel⟩) (pi_tup (pv 1)) (fun _ _ _ _ => (pts_one (pt_cmpR op_eq (pe_ix (r := rIxT K) ix_tup (pv 0) pe_int (fun _ _ => rfl)) pe_str (nomark _)))) (fun _ _ _ _ => (pe_ix (r := rIxT K) ix_tup (pv 0) pe_int (fun _ _ => rfl)))) pa_nil) (pk_cons pe_int pk_nil))) rfl)
    (pss_cons (ps_fld (pv 0) pe_non rfl)
    (pss_cons (ps_fld (pv 0) (pe_lst pa_nil) rfl)
    (pss_cons (ps_fld (pv 0) pe_int rfl)
    (pss_cons (ps_fld (pv 0) pe_bl rfl)
    (pss_one (ps_fld (pv 0) pe_bl rfl))))))))))), ?_⟩
  have hl := Paired.length hp
  -- rows, text, row, at
  refine ⟨_, rfl, _, rfl, m, C, dx, _, rfl, h0, MT.cl, MT.a1, by simp, ?_⟩
  have g1 : Gro [m] H (upd H m (.ins C dx (putF "rows" (.ref ra) []))) := Gro.obj h0
  have e1 : (upd H m (.ins C dx (putF "rows" (.ref ra) []))) m = some (.ins C dx [("rows", .ref ra)]) := upd_same
  generalize upd H m (.ins C dx (putF "rows" (.ref ra) [])) = H1 at *
  refine ⟨_, rfl, _, rfl, m, C, dx, _, rfl, e1, MT.cl, MT.a2, by simp, ?_⟩
  have g2 : Gro [m] H1 (upd H1 m (.ins C dx (putF "text" (.str t) [("rows", .ref ra)]))) := Gro.obj e1
  have e2 : (upd H1 m (.ins C dx (putF "text" (.str t) [("rows", .ref ra)]))) m = some (.ins C dx [("rows", .ref ra), ("text", .str t)]) := by rw [upd_same, pf_neg (by decide +kernel), pf_nil]
  generalize upd H1 m (.ins C dx (putF "text" (.str t) [("rows", .ref ra)])) = H2 at *
  refine ⟨_, rfl, m, C, dx, _, rfl, e2, MT.cl, MT.a3, by simp, ?_⟩
  have g3 : Gro [m] H2 (upd H2 m (.ins C dx (putF "row" (.int 0) [("rows", .ref ra), ("text", .str t)]))) := Gro.obj e2
  have e3 : (upd H2 m (.ins C dx (putF "row" (.int 0) [("rows", .ref ra), ("text", .str t)]))) m = some (.ins C dx [("rows", .ref ra), ("text", .str t), ("row", .int 0)]) := by rw [upd_same, pf_neg (by decide +kernel), pf_neg (by decide +kernel), pf_nil]
  generalize upd H2 m (.ins C dx (putF "row" (.int 0) [("rows", .ref ra), ("text", .str t)])) = H3 at *
  refine ⟨_, rfl, _, rfl, m, C, dx, _, rfl, e3, MT.cl, MT.a4, by simp, ?_⟩
  have g4 : Gro [m] H3 (upd H3 m (.ins C dx (putF "at" (.int i) [("rows", .ref ra), ("text", .str t), ("row", .int 0)]))) := Gro.obj e3
  have e4 : (upd H3 m (.ins C dx (putF "at" (.int i) [("rows", .ref ra), ("text", .str t), ("row", .int 0)]))) m = some (.ins C dx [("rows", .ref ra), ("text", .str t), ("row", .int 0), ("at", .int i)]) := by rw [upd_same, pf_neg (by decide +kernel), pf_neg (by decide +kernel), pf_neg (by decide +kernel), pf_nil]
  generalize upd H3 m (.ins C dx (putF "at" (.int i) [("rows", .ref ra), ("text", .str t), ("row", .int 0)])) = H4 at *
  have g14 := ((g1.trans g2).trans g3).trans g4
  -- groups
  refine ⟨sz, fun t1 ht1 => ?_⟩
  have g5 : Gro [m] H4 (upd H4 t1 (.tup [.non])) := Gro.new ht1 _
  have f5 : (upd H4 t1 (.tup [.non])) t1 = some (.tup [.non]) := upd_same
  have e5 : (upd H4 t1 (.tup [.non])) m = some (.ins C dx [("rows", .ref ra), ("text", .str t), ("row", .int 0), ("at", .int i)]) := by rw [upd_ne (ne_of_none e4 ht1)]; exact e4
  generalize upd H4 t1 (.tup [.non]) = H5 at *
  have g15 := g14.trans g5
  have hra5 := g15.tups _ _ hra
  have hp5 := rows_mono g15.tups hp
  refine ⟨_, rfl, ra, rfl, ⟨ys, SqT.of hra5⟩, ?_⟩
  refine lc_gen (n := ys.length) (fun j zs H' => H' = H5 ∧ zs = (closes (rs.take j)).map V.int ∧ zs.length ≤ j) ⟨rfl, rfl, Nat.le_refl _⟩ (big hz) (fun j zs H' ⟨_, _, h⟩ => h) (fun j zs H' hj ⟨e, _⟩ => by rw [e]; exact ⟨ys, ys[j], SqT.of hra5, by simp [hj]⟩) (fun zs H' ⟨e, _⟩ => by rw [e]; exact ⟨ys, SqT.of hra5, Nat.le_refl _⟩) ?_ ?_
  · rintro j zs H' x H'' hj ⟨rfl, rfl, hzl⟩ ⟨rfl, hx⟩
    have hx' := hx ys (SqT.of hra5)
    obtain ⟨r, hri, hr'⟩ := paired_get hp5 hx'
    obtain ⟨a, wd, xs, rfl, ha, hcl⟩ := rows_close hr' (htm r (List.mem_of_getElem? hri))
    have snoc : closes (rs.take (j + 1)) = closes (rs.take j) ++ r.close.toList := by
      unfold closes
      rw [take_snoc hri, List.filterMap_append]
      congr 1
    refine ⟨_, rfl, a, _, _, _, rfl, rfl, SqT.of ha, at0, rfl, _, rfl, ?_⟩
    rcases hcl with ⟨h1, h2⟩ | ⟨h1, k, rfl, h2⟩
    · rw [h1, if_neg (by decide)]
      refine ⟨rfl, ?_, by omega⟩
      rw [snoc, h2]
      simp
    · rw [h1, if_pos rfl]
      refine ⟨_, rfl, a, _, _, _, rfl, rfl, SqT.of ha, rfl, rfl, ?_, by simp at hzl ⊢; omega⟩
      rw [snoc, h2]
      simp
  · rintro zs H' ⟨rfl, rfl, _⟩ l6 hl6
    rw [hl, List.take_length]
    have g6 : Gro [m] H' (upd H' l6 (.lst ((closes rs).map V.int))) := Gro.new hl6 _
    refine ⟨l6, closes rs, .int 0, rfl, rfl, SqL.of upd_same, ?_⟩
    have ev : (if closes rs = [] then V.int 0 else V.int (mxL (closes rs))) = V.int (cntR rs) := by unfold cntR; split <;> rfl
    rw [ev]
    have f6 := g6.tups _ _ f5
    have e6 : (upd H' l6 (.lst ((closes rs).map V.int))) m = some (.ins C dx [("rows", .ref ra), ("text", .str t), ("row", .int 0), ("at", .int i)]) := by rw [upd_ne (ne_of_none e5 hl6)]; exact e5
    generalize upd H' l6 (.lst ((closes rs).map V.int)) = H6 at *
    have g16 := g15.trans g6
    have fin : ∀ (g : Addr) (H7 : Hp), H7 g = some (.tup (List.replicate (cntR rs).toNat .non)) → H7 m = some (.ins C dx [("rows", .ref ra), ("text", .str t), ("row", .int 0), ("at", .int i)]) → Gro [m] H H7 →
        (tVar 0) [some (.ref m), some (.ref ra), some (.str t), some (.int i)] H7 (fun x H2 => ∃ a C dx fs, x = .ref a ∧ H2 a = some (.ins C dx fs) ∧ Cls K C ∧ NoAttr K C "groups" ∧ fs.length < 1000 ∧
          (tSeq (sFld K (tVar 0) (tC .non) "held") (tSeq (sFld K (tVar 0) (tLst tNil) "choices") (tSeq (sFld K (tVar 0) (tC (.int 0)) "made") (tSeq (sFld K (tVar 0) (tC (.bl false)) "found") (sFld K (tVar 0) (tC (.bl false)) "ended"))))) { nx := fun _ H' => Q .non H', rt := Q } [some (.ref m), some (.ref ra), some (.str t), some (.int i)] (upd H2 a (.ins C dx (putF "groups" (.ref g) fs)))) := by
      intro g H7 hg e7 g17
      refine ⟨_, rfl, m, C, dx, _, rfl, e7, MT.cl, MT.a5, by simp, ?_⟩
      have g8 : Gro [m] H7 (upd H7 m (.ins C dx (putF "groups" (.ref g) [("rows", .ref ra), ("text", .str t), ("row", .int 0), ("at", .int i)]))) := Gro.obj e7
      have e8 : (upd H7 m (.ins C dx (putF "groups" (.ref g) [("rows", .ref ra), ("text", .str t), ("row", .int 0), ("at", .int i)]))) m = some (.ins C dx [("rows", .ref ra), ("text", .str t), ("row", .int 0), ("at", .int i), ("groups", .ref g)]) := by
        rw [upd_same, pf_neg (by decide +kernel), pf_neg (by decide +kernel), pf_neg (by decide +kernel), pf_neg (by decide +kernel), pf_nil]
      generalize upd H7 m (.ins C dx (putF "groups" (.ref g) [("rows", .ref ra), ("text", .str t), ("row", .int 0), ("at", .int i)])) = H8 at *
      refine ⟨_, rfl, m, C, dx, _, rfl, e8, MT.cl, MT.a6, by simp, ?_⟩
      have g9 : Gro [m] H8 (upd H8 m (.ins C dx (putF "held" .non [("rows", .ref ra), ("text", .str t), ("row", .int 0), ("at", .int i), ("groups", .ref g)]))) := Gro.obj e8
      have e9 : (upd H8 m (.ins C dx (putF "held" .non [("rows", .ref ra), ("text", .str t), ("row", .int 0), ("at", .int i), ("groups", .ref g)]))) m = some (.ins C dx [("rows", .ref ra), ("text", .str t), ("row", .int 0), ("at", .int i), ("groups", .ref g), ("held", .non)]) := by
        rw [upd_same, pf_neg (by decide +kernel), pf_neg (by decide +kernel), pf_neg (by decide +kernel), pf_neg (by decide +kernel), pf_neg (by decide +kernel), pf_nil]
      generalize upd H8 m (.ins C dx (putF "held" .non [("rows", .ref ra), ("text", .str t), ("row", .int 0), ("at", .int i), ("groups", .ref g)])) = H9 at *
      refine ⟨sz, fun c hc => ?_⟩
      have gA : Gro [m] H9 (upd H9 c (.lst [])) := Gro.new hc _
      have fA : (upd H9 c (.lst [])) c = some (.lst []) := upd_same
      have mc : m ≠ c := ne_of_none e9 hc
      have eA : (upd H9 c (.lst [])) m = some (.ins C dx [("rows", .ref ra), ("text", .str t), ("row", .int 0), ("at", .int i), ("groups", .ref g), ("held", .non)]) := by rw [upd_ne mc]; exact e9
      generalize upd H9 c (.lst []) = HA at *
      refine ⟨_, rfl, m, C, dx, _, rfl, eA, MT.cl, MT.a7, by simp, ?_⟩
      have gB : Gro [m] HA (upd HA m (.ins C dx (putF "choices" (.ref c) [("rows", .ref ra), ("text", .str t), ("row", .int 0), ("at", .int i), ("groups", .ref g), ("held", .non)]))) := Gro.obj eA
      have eB : (upd HA m (.ins C dx (putF "choices" (.ref c) [("rows", .ref ra), ("text", .str t), ("row", .int 0), ("at", .int i), ("groups", .ref g), ("held", .non)]))) m = some (.ins C dx [("rows", .ref ra), ("text", .str t), ("row", .int 0), ("at", .int i), ("groups", .ref g), ("held", .non), ("choices", .ref c)]) := by
        rw [upd_same, pf_neg (by decide +kernel), pf_neg (by decide +kernel), pf_neg (by decide +kernel), pf_neg (by decide +kernel), pf_neg (by decide +kernel), pf_neg (by decide +kernel), pf_nil]
      generalize upd HA m (.ins C dx (putF "choices" (.ref c) [("rows", .ref ra), ("text", .str t), ("row", .int 0), ("at", .int i), ("groups", .ref g), ("held", .non)])) = HB at *
      refine ⟨_, rfl, m, C, dx, _, rfl, eB, MT.cl, MT.a8, by simp, ?_⟩
      have gC : Gro [m] HB (upd HB m (.ins C dx (putF "made" (.int 0) [("rows", .ref ra), ("text", .str t), ("row", .int 0), ("at", .int i), ("groups", .ref g), ("held", .non), ("choices", .ref c)]))) := Gro.obj eB
      have eC : (upd HB m (.ins C dx (putF "made" (.int 0) [("rows", .ref ra), ("text", .str t), ("row", .int 0), ("at", .int i), ("groups", .ref g), ("held", .non), ("choices", .ref c)]))) m = some (.ins C dx [("rows", .ref ra), ("text", .str t), ("row", .int 0), ("at", .int i), ("groups", .ref g), ("held", .non), ("choices", .ref c), ("made", .int 0)]) := by
        rw [upd_same, pf_neg (by decide +kernel), pf_neg (by decide +kernel), pf_neg (by decide +kernel), pf_neg (by decide +kernel), pf_neg (by decide +kernel), pf_neg (by decide +kernel), pf_neg (by decide +kernel), pf_nil]
      generalize upd HB m (.ins C dx (putF "made" (.int 0) [("rows", .ref ra), ("text", .str t), ("row", .int 0), ("at", .int i), ("groups", .ref g), ("held", .non), ("choices", .ref c)])) = HC at *
      refine ⟨_, rfl, m, C, dx, _, rfl, eC, MT.cl, MT.a9, by simp, ?_⟩
      have gD : Gro [m] HC (upd HC m (.ins C dx (putF "found" (.bl false) [("rows", .ref ra), ("text", .str t), ("row", .int 0), ("at", .int i), ("groups", .ref g), ("held", .non), ("choices", .ref c), ("made", .int 0)]))) := Gro.obj eC
      have eD : (upd HC m (.ins C dx (putF "found" (.bl false) [("rows", .ref ra), ("text", .str t), ("row", .int 0), ("at", .int i), ("groups", .ref g), ("held", .non), ("choices", .ref c), ("made", .int 0)]))) m = some (.ins C dx [("rows", .ref ra), ("text", .str t), ("row", .int 0), ("at", .int i), ("groups", .ref g), ("held", .non), ("choices", .ref c), ("made", .int 0), ("found", .bl false)]) := by
        rw [upd_same, pf_neg (by decide +kernel), pf_neg (by decide +kernel), pf_neg (by decide +kernel), pf_neg (by decide +kernel), pf_neg (by decide +kernel), pf_neg (by decide +kernel), pf_neg (by decide +kernel), pf_neg (by decide +kernel), pf_nil]
      generalize upd HC m (.ins C dx (putF "found" (.bl false) [("rows", .ref ra), ("text", .str t), ("row", .int 0), ("at", .int i), ("groups", .ref g), ("held", .non), ("choices", .ref c), ("made", .int 0)])) = HD at *
      refine ⟨_, rfl, m, C, dx, _, rfl, eD, MT.cl, MT.a10, by simp, ?_⟩
      have gE : Gro [m] HD (upd HD m (.ins C dx (putF "ended" (.bl false) [("rows", .ref ra), ("text", .str t), ("row", .int 0), ("at", .int i), ("groups", .ref g), ("held", .non), ("choices", .ref c), ("made", .int 0), ("found", .bl false)]))) := Gro.obj eD
      have eE : (upd HD m (.ins C dx (putF "ended" (.bl false) [("rows", .ref ra), ("text", .str t), ("row", .int 0), ("at", .int i), ("groups", .ref g), ("held", .non), ("choices", .ref c), ("made", .int 0), ("found", .bl false)]))) m = some (.ins C dx (ms0 ra t i (.ref g) c).s.fs) := by
        rw [upd_same, pf_neg (by decide +kernel), pf_neg (by decide +kernel), pf_neg (by decide +kernel), pf_neg (by decide +kernel), pf_neg (by decide +kernel), pf_neg (by decide +kernel), pf_neg (by decide +kernel), pf_neg (by decide +kernel), pf_neg (by decide +kernel), pf_nil]
        rfl
      have gAE := ((gB.trans gC).trans gD).trans gE
      have fE := gAE.keep c _ fA (by simpa using Ne.symm mc)
      have gg := (((g17.trans g8).trans g9).trans gA).trans gAE
      have hnc : H c = none := by
        cases hh : H c with
        | none => rfl
        | some o =>
          exfalso
          have := ((g17.trans g8).trans g9).keep c o hh (by simpa using Ne.symm mc)
          rw [hc] at this
          cases this
      exact q c g _ hnc ⟨⟨dx, eE⟩, [], fE, .nil⟩ (gAE.tups _ _ (gA.tups _ _ (g9.tups _ _ (g8.tups _ _ hg)))) gg
    refine ⟨t1, cntR rs, [.non], rfl, rfl, f6, hc0, by simp; omega, hc1, fun hk1 => ?_, fun _ _ p hp' => ?_, by simp⟩
    · exact fin t1 H6 (by rw [f6, hk1]; rfl) e6 g16
    · refine fin p _ ?_ (by rw [upd_ne (ne_of_none e6 hp')]; exact e6) (g16.tup hp')
      rw [upd_same]
      congr 2
      induction (cntR rs).toNat with
      | zero => rfl
      | succ n ih => rw [List.replicate_succ, List.flatten_cons, ih]; rfl
end
end Seek

set_option maxRecDepth 100000
set_option maxHeartbeats 4000000
namespace Seek
open PySem PySem.Spec PyProof.Rows L2
/-! ### rows whose doing makes nothing new but choices -/
inductive Ez where
  | pat (h : Hd) | try_ (z : Int) | go (z : Int) | found
def Ez.rw : Ez → Rw
  | .pat h => .pat h | .try_ z => .tup [.str "try", .int z] | .go z => .tup [.str "go", .int z] | .found => .tup [.str "found"]
def Ez.word : Ez → Str
  | .pat h => h.word | .try_ _ => "try" | .go _ => "go" | .found => "found"
def Ez.ok : Ez → Prop
  | .pat h => h.one = true ∨ h = .beg ∨ h = .fin
  | _ => True
def MM.push (z : Int) (M : MM) : MM := ⟨M.s, M.cs ++ [(z, M.s.place, M.s.groups, M.s.held)]⟩
def MM.goTo (z : Int) (M : MM) : MM := ⟨{ M.s with row := z }, M.cs⟩
def actH : Hd → MM → MM
  | .beg => MM.doBegin
  | .fin => MM.doEnd
  | h => MM.doSign h
def Ez.act : Ez → MM → MM
  | .pat h => actH h
  | .try_ z => MM.push z
  | .go z => MM.goTo z
  | .found => MM.doFound
theorem paired_get' {α β : Type} {F : α → β → Prop} : ∀ {xs : List α} {ys : List β} {i : Nat} {y : β}, Paired F xs ys → ys[i]? = some y → ∃ x, xs[i]? = some x ∧ F x y
  | _, _, _, _, .nil, h => by simp at h
  | _, _, 0, _, .cons r _, h => by
    simp only [List.getElem?_cons_zero, Option.some.injEq] at h
    subst h
    exact ⟨_, rfl, r⟩
  | _, _, i + 1, _, .cons _ t, h => by
    rw [List.getElem?_cons_succ] at h
    obtain ⟨x, e, q⟩ := paired_get' t h
    exact ⟨x, by rw [List.getElem?_cons_succ]; exact e, q⟩
theorem actH_one {h : Hd} (e : h.one = true) : actH h = MM.doSign h := by cases h <;> first | rfl | exact absurd e (by simp [Hd.one])
section
variable {P : Program} {w : World} {K : PySem.W.Frag} {mg : Str → Option Value} {base : Heap} {f C : Addr} {fd : FuncData}
abbrev rowE (e : Ez) : Hp → Addr → Prop := fun H a => RowAt H (.ref a) e.rw
abbrev s_do_try : Stmt := top 19
theorem sc_do_try : FnScope ["machine", "row"] ["machine", "row"] (defScope s_do_try) := ⟨rfl, rfl, rfl, by decide +kernel, rfl, by decide +kernel, by decide +kernel⟩
theorem ok_do_try {z : Int} (MT : Txt K mg C) (F : Fun K "do_try" "do_try" s_do_try f fd) : FnOk P w K mg base CX0 1 f fd ["machine", "row"] (spRow C preT (rowE (.try_ z)) (MM.push z)) := by
  refine F.ok sc_do_try (fun vs H Q E h => ?_) (fun cdv A outer s H vs Q E hr h => ?_)
  · obtain ⟨m, a, M, rfl, _⟩ := h
    rfl
  obtain ⟨m, a, M, rfl, hM, hz, _, ⟨a', e, ha⟩, q⟩ := h
  cases e
  refine ⟨_, (pss_one (ps_expr (pe_bm PySem.F.plainAttrs_list PySem.F.slot_list_append PySem.F.type_list_append mt_append (pe_fld (pv 0) rfl) (pa_cons (pe_tup (pa_cons (pe_ix ix_tup (pv 1) pe_int (fun _ _ => rfl)) (pa_cons (pe_fld (pv 0) rfl) (pa_cons (pe_fld (pv 0) rfl) (pa_cons (pe_fld (pv 0) rfl) pa_nil))))) pa_nil)))), ?_⟩
  have hne := hM.ne
  obtain ⟨⟨dx, e1⟩, vs, hv, hp⟩ := id hM
  have hl := Paired.length hp
  refine ⟨_, rfl, m, C, dx, _, _, rfl, e1, MT.cl, MT.a7, fs_choices _, .inl ⟨rfl, _, SqL.of hv⟩, _, rfl, a, _, _, _, rfl, rfl, SqT.of ha, rfl, _, rfl, m, C, dx, _, _, rfl, e1, MT.cl, MT.a4, fs_at _, _, rfl, m, C, dx, _, _, rfl, e1, MT.cl, MT.a5, fs_groups _, _, rfl, m, C, dx, _, _, rfl, e1, MT.cl, MT.a6, fs_held _, sz, fun t ht => ?_⟩
  refine ⟨M.s.choices, vs, _, rfl, rfl, app_r hv ht, big (by omega), ?_⟩
  have g1 : Gro [M.s.choices] H _ := app_g (zs := vs ++ [V.ref t]) (o := .tup [.int z, .int M.s.place, M.s.groups, M.s.held]) hv ht
  refine q _ ⟨⟨dx, ?_⟩, vs ++ [.ref t], upd_same, ?_⟩ (g1.mono (by simp))
  · rw [upd_ne hne, upd_ne (ne_of_none e1 ht)]
    exact e1
  · exact (Paired.mapP hp fun _ _ q => q.mono g1.tups).snoc ⟨t, rfl, app_t hv ht⟩
abbrev s_do_go : Stmt := top 20
theorem sc_do_go : FnScope ["machine", "row"] ["machine", "row"] (defScope s_do_go) := ⟨rfl, rfl, rfl, by decide +kernel, rfl, by decide +kernel, by decide +kernel⟩
theorem ok_do_go {z : Int} (MT : Txt K mg C) (F : Fun K "do_go" "do_go" s_do_go f fd) : FnOk P w K mg base CX0 1 f fd ["machine", "row"] (spRow C preT (rowE (.go z)) (MM.goTo z)) := by
  refine F.ok sc_do_go (fun vs H Q E h => ?_) (fun cdv A outer s H vs Q E hr h => ?_)
  · obtain ⟨m, a, M, rfl, _⟩ := h
    rfl
  obtain ⟨m, a, M, rfl, hM, hz, _, ⟨a', e, ha⟩, q⟩ := h
  cases e
  refine ⟨_, (pss_one (ps_fld (pv 0) (pe_ix ix_tup (pv 1) pe_int (fun _ _ => rfl)) rfl)), ?_⟩
  obtain ⟨⟨dx, e1⟩, _⟩ := id hM
  refine ⟨_, rfl, a, _, _, _, rfl, rfl, SqT.of ha, rfl, _, rfl, m, C, dx, _, rfl, e1, MT.cl, MT.a3, fs_few _, ?_⟩
  rw [pf_row]
  exact q _ (hM.put (s' := { M.s with row := z }) e1 rfl) (Gro.ins (by simp) e1 _)
/-! ### moves -/
def stp (es : List Ez) (M : MM) : MM := (es.getD M.s.row.toNat .found).act M.next
def its (es : List Ez) : Nat → MM → MM
  | 0, M => M
  | k + 1, M => stp es (its es k M)
theorem its_add (es : List Ez) (a : Nat) : ∀ (b : Nat) (M : MM), its es (a + b) M = its es b (its es a M)
  | 0, M => rfl
  | b + 1, M => by
    show stp es (its es (a + b) M) = stp es (its es b (its es a M))
    rw [its_add es a b M]
/-- what no move changes -/
def MM.sameB (M M' : MM) : Prop := M'.s.rows = M.s.rows ∧ M'.s.text = M.s.text ∧ M'.s.choices = M.s.choices
theorem back_same (M : MM) : M.sameB M.back ∧ M.back.s.made = M.s.made ∧ M.back.s.found = M.s.found := by
  unfold MM.back
  split <;> exact ⟨⟨rfl, rfl, rfl⟩, rfl, rfl⟩
theorem act_same (e : Ez) (M : MM) : M.sameB (e.act M) ∧ (e.act M).s.made = M.s.made := by
  have b := back_same M
  have s0 : ∀ h, M.sameB (MM.doSign h M) ∧ (MM.doSign h M).s.made = M.s.made := fun h => by
    unfold MM.doSign
    split
    · exact ⟨⟨rfl, rfl, rfl⟩, rfl⟩
    · exact ⟨b.1, b.2.1⟩
  cases e with
  | try_ z => exact ⟨⟨rfl, rfl, rfl⟩, rfl⟩
  | go z => exact ⟨⟨rfl, rfl, rfl⟩, rfl⟩
  | found => exact ⟨⟨rfl, rfl, rfl⟩, rfl⟩
  | pat h =>
    cases h with
    | beg =>
      show M.sameB (MM.doBegin M) ∧ (MM.doBegin M).s.made = M.s.made
      unfold MM.doBegin
      split
      · exact ⟨⟨rfl, rfl, rfl⟩, rfl⟩
      · exact ⟨b.1, b.2.1⟩
    | fin =>
      show M.sameB (MM.doEnd M) ∧ (MM.doEnd M).s.made = M.s.made
      unfold MM.doEnd
      split
      · exact ⟨⟨rfl, rfl, rfl⟩, rfl⟩
      · exact ⟨b.1, b.2.1⟩
    | _ => exact s0 _
theorem stp_same (es : List Ez) (M : MM) : M.sameB (stp es M) ∧ (stp es M).s.made = M.s.made + 1 := act_same _ M.next
theorem its_same (es : List Ez) (M : MM) : ∀ k, M.sameB (its es k M) ∧ (its es k M).s.made = M.s.made + k
  | 0 => ⟨⟨rfl, rfl, rfl⟩, by simp [its]⟩
  | k + 1 => by
    obtain ⟨⟨h1, h2, h3⟩, h4⟩ := its_same es M k
    obtain ⟨⟨g1, g2, g3⟩, g4⟩ := stp_same es (its es k M)
    refine ⟨⟨g1.trans h1, g2.trans h2, g3.trans h3⟩, ?_⟩
    show (stp es (its es k M)).s.made = _
    rw [g4, h4]
    omega
theorem fresh_same (M : MM) : M.sameB M.fresh ∧ M.fresh.s.made = M.s.made ∧ M.fresh.s.found = false := by
  unfold MM.fresh
  split
  · exact back_same ⟨{ M.s with found := false }, M.cs⟩
  · exact ⟨⟨rfl, rfl, rfl⟩, rfl, by rename_i h; exact Bool.eq_false_iff.mpr h⟩
/-- a machine that makes a move -/
structure Live (es : List Ez) (M : MM) : Prop where
  en : M.s.ended = false
  fo : M.s.found = false
  r0 : 0 ≤ M.s.row
  r1 : M.s.row < es.length
  p0 : 0 ≤ M.s.place
  tx : M.s.text.length ≤ 1000
  cs : M.cs.length ≤ 1000000
/-- the doings -/
structure Does (P : Program) (w : World) (K : PySem.W.Frag) (mg : Str → Option Value) (base : Heap) (kk : Nat) (ds : List (Key × V)) (C : Addr) : Prop where
  all : ∀ e : Ez, e.ok → Tells P w K mg base kk ds e.word (spRow C preT (rowE e) e.act)
theorem rowE_head {H : Hp} {a : Addr} {e : Ez} (h : rowE e H a) : ∃ r, H a = some (.tup (.str e.word :: r)) := by
  cases e with
  | pat hd =>
    obtain ⟨a', kv, e', l, _⟩ := h
    cases e'
    exact l.head
  | try_ z => obtain ⟨a', e', h⟩ := h; cases e'; exact ⟨_, h⟩
  | go z => obtain ⟨a', e', h⟩ := h; cases e'; exact ⟨_, h⟩
  | found => obtain ⟨a', e', h⟩ := h; cases e'; exact ⟨_, h⟩
theorem rowAt_ref {H : Hp} {v : V} {r : Rw} (h : RowAt H v r) : ∃ a, v = .ref a := by
  cases r with
  | pat hd => obtain ⟨a, kv, e, _⟩ := h; exact ⟨a, e⟩
  | tup xs => obtain ⟨a, e, _⟩ := h; exact ⟨a, e⟩
/-- what comes of asking: behind k moves -/
def Told (C : Addr) (Q : VK) (H : Hp) (m c : Addr) (k : Nat) (most : Int) (M : MM) : Prop :=
  (M.s.found = true ∧ 1 ≤ k ∧ ∀ (H' : Hp) (t : Addr), MAt C H' m M → Gro [m, c] H H' → H' t = some (.tup [.str "way", .int M.s.place, M.s.groups]) → Q (.ref t) H') ∨
  (M.s.found = false ∧ M.s.ended = true ∧ ∀ (H' : Hp) (t : Addr), MAt C H' m M → Gro [m, c] H H' → H' t = some (.tup [.str "none"]) → Q (.ref t) H') ∨
  (M.s.found = false ∧ M.s.ended = false ∧ (k : Int) = most ∧ ∀ (H' : Hp) (t : Addr), MAt C H' m M → Gro [m, c] H H' → H' t = some (.tup [.str "over"]) → Q (.ref t) H')
def spWayE (C : Addr) : Sp := fun vs H Q _ => ∃ (m ra : Addr) (most : Int) (M : MM) (es : List Ez) (ys : List V) (k : Nat), vs = [.ref m, .int most] ∧ MAt C H m M ∧ 1 ≤ most ∧ M.cs.length ≤ 1000000 ∧ M.s.rows = .ref ra ∧ H ra = some (.tup ys) ∧ Paired (RowAt H) ys (es.map Ez.rw) ∧ (∀ e ∈ es, e.ok) ∧ (k : Int) ≤ most ∧
  (∀ j, j < k → Live es (its es j M.fresh)) ∧ Told C Q H m M.s.choices k most (its es k M.fresh)
theorem way_ez {kk : Nat} {ds : List (Key × V)} (D : Does P w K mg base kk ds C) : ∀ vs H Q E, spWayE C vs H Q E → spWay P w K mg base kk ds C vs H Q E := by
  rintro vs H Q E ⟨m, ra, most, M, es, ys, k, rfl, hM, h1, hz, hrows, hra, hp, hok, hk, hlive, told⟩
  have fs := fresh_same M
  refine ⟨m, most, M, fun j M' H' => j ≤ k ∧ M' = its es j M.fresh ∧ MAt C H' m M' ∧ Gro [m, M.s.choices] H H' ∧ M'.s.found = false, rfl, hM, h1, hz, ⟨?_, ?_, ?_, ?_, ?_⟩⟩
  · intro H' hM' g
    exact ⟨Nat.zero_le _, rfl, hM', g, fs.2.2⟩
  · rintro j M' H' ⟨hj, rfl, hM', g, hf⟩
    refine ⟨hM', ?_, hf, by omega⟩
    rw [(its_same es M.fresh j).2, fs.2.1]
  · rintro j M' H' ⟨hj, rfl, hM', g, hf⟩ he t ht
    have hjk : j = k := by
      by_cases hlt : j < k
      · have := (hlive j hlt).en; rw [he] at this; cases this
      · omega
    subst hjk
    rcases told with ⟨z, _⟩ | ⟨_, _, q⟩ | ⟨_, z, _⟩
    · rw [hf] at z; cases z
    · exact q _ t (hM'.new ht) (g.tup ht) upd_same
    · rw [he] at z; cases z
  · rintro j M' H' ⟨hj, rfl, hM', g, hf⟩ he hjm t ht
    have hjk : j = k := by omega
    subst hjk
    rcases told with ⟨z, _⟩ | ⟨_, z, _⟩ | ⟨_, _, _, q⟩
    · rw [hf] at z; cases z
    · rw [he] at z; cases z
    · exact q _ t (hM'.new ht) (g.tup ht) upd_same
  · rintro j M' H' ⟨hj, rfl, hM', g, hf⟩ he hjm Q' hQ
    have hjk : j < k := by
      by_cases hlt : j < k
      · exact hlt
      · have hjk : j = k := by omega
        subst hjk
        rcases told with ⟨z, _⟩ | ⟨_, z, _⟩ | ⟨_, _, z, _⟩
        · rw [hf] at z; cases z
        · rw [he] at z; cases z
        · omega
    have L := hlive j hjk
    have sm := its_same es M.fresh j
    have hlt : (its es j M.fresh).s.row.toNat < es.length := by have := L.r0; have := L.r1; omega
    have hge : (es.map Ez.rw)[(its es j M.fresh).s.row.toNat]? = some (es.getD (its es j M.fresh).s.row.toNat .found).rw := by
      rw [List.getElem?_map, List.getD_eq_getElem?_getD, List.getElem?_eq_getElem hlt]
      rfl
    have hmem : es.getD (its es j M.fresh).s.row.toNat .found ∈ es := by
      rw [List.getD_eq_getElem?_getD, List.getElem?_eq_getElem hlt]
      exact List.getElem_mem hlt
    obtain ⟨v, hv, hrow⟩ := paired_get' hp hge
    have hrow' := hrow.mono g.tups
    obtain ⟨a, rfl⟩ := rowAt_ref hrow
    obtain ⟨r, ha⟩ := rowE_head (e := es.getD (its es j M.fresh).s.row.toNat .found) hrow'
    have hat : atI ys (its es j M.fresh).s.row = some (.ref a) := by
      have := atI_nat hv
      rw [Int.toNat_of_nonneg L.r0] at this
      exact this
    refine ⟨m, ra, a, ys, _, r, _, _, rfl, hM', by rw [sm.1.1, fs.1.1, hrows], g.tups _ _ hra, hat, ha, D.all _ (hok _ hmem), fun H1 hM1 g1 => ?_⟩
    refine ⟨m, a, _, rfl, hM1, L.cs, ⟨L.p0, L.tx⟩, hrow'.mono g1.tups, fun H2 hM2 g2 => ?_⟩
    have hc : (its es j M.fresh).next.s.choices = M.s.choices := by show (its es j M.fresh).s.choices = _; rw [sm.1.2.2, fs.1.2.2]
    rw [hc] at g2
    have gg := g.trans ((g1.mono (by simp)).trans g2)
    refine hQ _ H2 _ hM2 ?_
    have e2 : (es.getD (its es j M.fresh).s.row.toNat .found).act (its es j M.fresh).next = its es (j + 1) M.fresh := rfl
    rw [e2] at hM2 ⊢
    cases hf2 : (its es (j + 1) M.fresh).s.found with
    | false => exact .inr ⟨rfl, by omega, rfl, hM2, gg, rfl⟩
    | true =>
      have hjk2 : j + 1 = k := by
        by_cases hlt : j + 1 < k
        · have := (hlive (j + 1) hlt).fo; rw [hf2] at this; cases this
        · omega
      rw [← hjk2] at told
      refine .inl ⟨rfl, fun t ht => ?_⟩
      rcases told with ⟨_, _, q⟩ | ⟨z, _⟩ | ⟨z, _⟩
      · exact q _ t (hM2.new ht) (gg.tup ht) upd_same
      · rw [hf2] at z; cases z
      · rw [hf2] at z; cases z
end
end Seek

set_option maxRecDepth 100000
set_option maxHeartbeats 4000000
namespace Seek
open PySem PySem.Spec PyProof.Rows L2
section
variable {K : PySem.W.Frag} {mg : Str → Option Value} {h : Heap}
/-- a method as the class has it -/
def MDef (K : PySem.W.Frag) (C : Addr) (m qual : Str) (st : Stmt) (ps : List Str) : Prop := ∃ f fd, Fun K m qual st f fd ∧ Meth K C m f ∧ Binds K fd ps []
theorem mdef_mk {C f : Addr} {m qual : Str} {st : Stmt} {ps : List Str} {oc : Value} {od an : Option Addr} {osl : Array (Option Value)} {kV doc pm cdv ct : Value} (a : PySem.W.findIn K (.ref C) m = some (some (.ref f))) (i : PySem.W.isFn K (.ref f) = true)
    (l : K.lookup f = some ⟨oc, od, .func (PySem.W.fnOf m qual (defArgs st) (defBody st) (defScope st) .none kV doc pm an cdv ct), osl⟩) (c : PySem.W.codeIn K cdv qual = true) (k : PySem.W.keepIn K (.ref f) = true)
    (hb : ∀ (kV doc pm : Value) (an : Option Addr) (cdv ct : Value) (us : List Value), us.length = ps.length → bindArgs (PySem.W.fnOf m qual (defArgs st) (defBody st) (defScope st) .none kV doc pm an cdv ct) ⟨us, []⟩ = pure (ps.zip us)) : MDef K C m qual st ps :=
  ⟨f, _, fun_mk (st := st) l c k, ⟨a, i, k⟩, (fun_mk (st := st) l c k).binds hb⟩
theorem txt_mk {C : Addr} (pg : PySem.W.plainGet K C Str.empty = true) (hd : PySem.W.hasDictIn K C = true) (po : PySem.W.plainOver K C = true) (sa : PySem.W.findIn K (.ref C) "__setattr__" = some (some (.builtin "object.__setattr__")))
    (a1 : PySem.W.findIn K (.ref C) "rows" = some none) (a2 : PySem.W.findIn K (.ref C) "text" = some none) (a3 : PySem.W.findIn K (.ref C) "row" = some none) (a4 : PySem.W.findIn K (.ref C) "at" = some none) (a5 : PySem.W.findIn K (.ref C) "groups" = some none) (a6 : PySem.W.findIn K (.ref C) "held" = some none)
    (a7 : PySem.W.findIn K (.ref C) "choices" = some none) (a8 : PySem.W.findIn K (.ref C) "made" = some none) (a9 : PySem.W.findIn K (.ref C) "found" = some none) (a10 : PySem.W.findIn K (.ref C) "ended" = some none) : Txt K mg C := ⟨⟨pg, hd, po, sa⟩, a1, a2, a3, a4, a5, a6, a7, a8, a9, a10⟩
structure MachDefs (K : PySem.W.Frag) (mg : Str → Option Value) (C : Addr) : Prop where
  mg_ : mg "Machine" = some (.ref C)
  tx : Txt K mg C
  mks : PySem.W.makesIn K C = true
  kc : PySem.W.keepIn K (.ref C) = true
  init : MDef K C "__init__" "Machine.__init__" s_Machine___init__ ["self", "rows", "text", "at"]
  way : MDef K C "way" "Machine.way" s_Machine_way ["self", "most"]
  moves : MDef K C "moves" "Machine.moves" s_Machine_moves ["self"]
  move : MDef K C "move" "Machine.move" s_Machine_move ["self"]
  enter : MDef K C "enter" "Machine.enter" s_Machine_enter ["self", "state"]
  go_back : MDef K C "go_back" "Machine.go_back" s_Machine_go_back ["self"]
/-- a doing of a row's word -/
def Dn (K : PySem.W.Frag) (ds : List (Key × V)) (wd x : Str) (st : Stmt) (ps : List Str) : Prop := ∃ f fd, valV ds (Sum.inr wd) = some (.ref f) ∧ Fun K x x st f fd ∧ Binds K fd ps []
theorem dn_mk {ds : List (Key × V)} {wd x : Str} {st : Stmt} {ps : List Str} {f : Addr} {oc : Value} {od an : Option Addr} {osl : Array (Option Value)} {kV doc pm cdv ct : Value} (v : valV ds (Sum.inr wd) = some (.ref f))
    (l : K.lookup f = some ⟨oc, od, .func (PySem.W.fnOf x x (defArgs st) (defBody st) (defScope st) .none kV doc pm an cdv ct), osl⟩) (c : PySem.W.codeIn K cdv x = true) (k : PySem.W.keepIn K (.ref f) = true)
    (hb : ∀ (kV doc pm : Value) (an : Option Addr) (cdv ct : Value) (us : List Value), us.length = ps.length → bindArgs (PySem.W.fnOf x x (defArgs st) (defBody st) (defScope st) .none kV doc pm an cdv ct) ⟨us, []⟩ = pure (ps.zip us)) : Dn K ds wd x st ps :=
  ⟨f, _, v, fun_mk (st := st) l c k, (fun_mk (st := st) l c k).binds hb⟩
theorem Dn.tells {P : Program} {w : World} {base : Heap} {k : Nat} {ds : List (Key × V)} {wd x : Str} {st : Stmt} {ps : List Str} {sp : Sp} (D : Dn K ds wd x st ps) (h : ∀ f fd, Fun K x x st f fd → FnOk P w K mg base CX0 k f fd ps sp) : Tells P w K mg base k ds wd sp := by
  obtain ⟨f, fd, v, F, b⟩ := D
  exact ⟨f, fd, ps, v, h f fd F, F.kp, b⟩
theorem dent_ref {w : World} {h : Int} {x : Str} {t : Tok} {a : Addr} (e : h = PyData.keyHash w.params x) : DEnt w ⟨h, .str x t, .ref a⟩ (.inr x, .ref a) := ⟨keyIs_str x t, e, rfl⟩
structure Doings (K : PySem.W.Frag) (ds : List (Key × V)) : Prop where
  sign : Dn K ds "sign" "do_sign" s_do_sign ["machine", "row"]
  any : Dn K ds "any" "do_sign" s_do_sign ["machine", "row"]
  inn : Dn K ds "in" "do_sign" s_do_sign ["machine", "row"]
  out : Dn K ds "out" "do_sign" s_do_sign ["machine", "row"]
  beg : Dn K ds "begin" "do_begin" s_do_begin ["machine", "row"]
  fin : Dn K ds "end" "do_end" s_do_end ["machine", "row"]
  try_ : Dn K ds "try" "do_try" s_do_try ["machine", "row"]
  go : Dn K ds "go" "do_go" s_do_go ["machine", "row"]
  found : Dn K ds "found" "do_found" s_do_found ["machine", "row"]
end
section
variable {P : Program} {w : World} {K : PySem.W.Frag} {mg : Str → Option Value} {base : Heap} {C : Addr}
theorem MDef.own {m qual : Str} {st : Stmt} {ps : List Str} {k : Nat} {sp : Sp} (D : MDef K C m qual st ps) (h : ∀ f fd, Fun K m qual st f fd → FnOk P w K mg base CX0 k f fd ps sp) : OwnM P w K mg base k C m ps sp := by
  obtain ⟨f, fd, F, M, b⟩ := D
  exact ⟨f, fd, h f fd F, M, b⟩
theorem does_of {ds : List (Key × V)} (T : Blt mg) (MD : MachDefs K mg C) (DD : Doings K ds) (p1 : Def K mg "takes_sign" s_takes_sign ["row", "text", "at"]) (p2 : Def K mg "lies_in" s_lies_in ["runs", "sign"]) : Does P w K mg base 3 ds C := by
  have li : Own P w K mg base 1 "lies_in" ["runs", "sign"] spLies := p2.own fun _ _ F => ok_lies_in F
  have ta : Own P w K mg base 2 "takes_sign" ["row", "text", "at"] spTakes := p1.own fun _ _ F => ok_takes_sign T li F
  have en : OwnM P w K mg base 1 C "enter" ["self", "state"] (spEnter C) := MD.enter.own fun _ _ F => ok_enter MD.tx F
  have gb : OwnM P w K mg base 2 C "go_back" ["self"] (spBack C) := MD.go_back.own fun _ _ F => ok_go_back T MD.tx en F
  have fu : ∀ vs H Q E, spRow C preT (rowE .found) (Ez.act .found) vs H Q E → spRow C (fun _ => True) rowF MM.doFound vs H Q E := by
    rintro vs H Q E ⟨m, a, M, rfl, hM, hz, _, ⟨a', e', ha⟩, q⟩
    cases e'
    exact ⟨m, a, M, rfl, hM, hz, trivial, ha, q⟩
  refine ⟨fun e he => ?_⟩
  have sg : ∀ h : Hd, h.one = true → ∀ f fd, Fun K "do_sign" "do_sign" s_do_sign f fd → FnOk P w K mg base CX0 3 f fd ["machine", "row"] (spRow C preT (rowE (.pat h)) (Ez.act (.pat h))) := fun h h1 f fd F => by
    have := ok_do_sign (P := P) (w := w) (base := base) h1 MD.tx ta gb F
    rw [← actH_one h1] at this
    exact this
  cases e with
  | pat h =>
    cases h with
    | sign x => exact DD.sign.tells (sg (.sign x) rfl)
    | any => exact DD.any.tells (sg .any rfl)
    | inn x => exact DD.inn.tells (sg (.inn x) rfl)
    | out x => exact DD.out.tells (sg (.out x) rfl)
    | beg => exact DD.beg.tells fun _ _ F => ok_do_begin MD.tx gb F
    | fin => exact DD.fin.tells fun _ _ F => ok_do_end T MD.tx gb F
    | _ => exact absurd he (by simp [Ez.ok, Hd.one])
  | try_ z => exact DD.try_.tells fun _ _ F => (ok_do_try MD.tx F).mono (by decide)
  | go z => exact DD.go.tells fun _ _ F => (ok_do_go MD.tx F).mono (by decide)
  | found => exact DD.found.tells fun _ _ F => ((ok_do_found MD.tx F).mono (by decide)).imp fu
theorem own_init (T : Blt mg) (MD : MachDefs K mg C) : OwnC P w K mg base 1 C "Machine" ["self", "rows", "text", "at"] (spInit C) := by
  obtain ⟨f, fd, F, M, b⟩ := MD.init
  exact ⟨f, fd, ok_init T MD.tx F, ⟨MD.mks, M.at_, M.fn, MD.kc⟩, MD.mg_, b⟩
theorem own_moves (MD : MachDefs K mg C) : OwnM P w K mg base 1 C "moves" ["self"] (spMoves C) := MD.moves.own fun _ _ F => ok_moves MD.tx F
theorem own_way {dn : Addr} {ds : List (Key × V)} (T : Blt mg) (MD : MachDefs K mg C) (c_DOINGS : mg "DOINGS" = some (.ref dn)) (hDN : DcK K w dn ds) (DD : Doings K ds) (p1 : Def K mg "takes_sign" s_takes_sign ["row", "text", "at"]) (p2 : Def K mg "lies_in" s_lies_in ["runs", "sign"]) : OwnM P w K mg base 6 C "way" ["self", "most"] (spWayE C) := by
  have en : OwnM P w K mg base 1 C "enter" ["self", "state"] (spEnter C) := MD.enter.own fun _ _ F => ok_enter MD.tx F
  have gb : OwnM P w K mg base 2 C "go_back" ["self"] (spBack C) := MD.go_back.own fun _ _ F => ok_go_back T MD.tx en F
  have mv : OwnM P w K mg base (3 + 1) C "move" ["self"] (spMove P w K mg base 3 ds C) := MD.move.own fun _ _ F => ok_move MD.tx c_DOINGS hDN F
  exact MD.way.own fun _ _ F => (ok_way (kk := 3) MD.tx mv gb F).imp (way_ez (does_of T MD DD p1 p2))
end
end Seek

set_option maxRecDepth 100000
set_option maxHeartbeats 4000000
namespace Seek
open PySem PySem.Spec PyProof.Rows L2
theorem join_len : ∀ xs : List Str, (Txt.join "" xs).length = (xs.map (·.length)).sum := by
  have fold : ∀ (xs : List Str) (acc : Array Nat), (xs.foldl (fun a p => a ++ ("" : Str).cps ++ p.cps) acc).size = acc.size + (xs.map (·.length)).sum := by
    intro xs
    induction xs with
    | nil => intro acc; simp
    | cons x xs ih =>
      intro acc
      rw [List.foldl_cons, ih, Array.size_append, Array.size_append, List.map_cons, List.sum_cons]
      show acc.size + 0 + x.length + _ = _
      omega
  intro xs
  cases xs with
  | nil => rfl
  | cons x xs =>
    show (xs.foldl (fun a p => a ++ ("" : Str).cps ++ p.cps) x.cps).size = _
    rw [fold, List.map_cons, List.sum_cons]
    rfl
theorem ones_sum : ∀ {xs : List Str}, (∀ x ∈ xs, x.length = 1) → (xs.map (·.length)).sum = xs.length
  | [], _ => rfl
  | x :: xs, h => by
    rw [List.map_cons, List.sum_cons, ones_sum (fun y hy => h y (by simp [hy])), h x (by simp), List.length_cons]
    omega
section
variable {P : Program} {w : World} {K : PySem.W.Frag} {mg : Str → Option Value} {base : Heap} {f C : Addr} {fd : FuncData}
def spText : Sp := fun vs H Q _ => ∃ (b l : Addr) (n : Int), vs = [.ref b, .ref l, .int n] ∧ BoxAt H b ∧ LetAt H l ∧ 0 ≤ n ∧ n ≤ 1000 ∧ ∀ (t : Str) (H' : Hp), (t.length : Int) = n → BoxAt H' b → Gro [b] H H' → Q (.str t) H'
abbrev s_l_text : Stmt := top 40
theorem sc_l_text : FnScope ["_law_box", "_law_letters_here", "_law_size"] ["_law_box", "_law_letters_here", "_law_size"] (defScope s_l_text) := ⟨rfl, rfl, rfl, by decide +kernel, rfl, by decide +kernel, by decide +kernel⟩
theorem ok_text (T : Blt mg) (O_l_take : Own P w K mg base 1 "_law_take" ["_law_box", "_law_many"] spTake) (F : Fun K "_law_text" "_law_text" s_l_text f fd) : FnOk P w K mg base CX0 2 f fd ["_law_box", "_law_letters_here", "_law_size"] spText := by
  refine F.ok sc_l_text (fun vs H Q E h => ?_) (fun cdv A outer s H vs Q E hr h => ?_)
  · obtain ⟨b, l, n, rfl, _⟩ := h
    rfl
  obtain ⟨b, l, n, rfl, hb, hl, h0, h1, q⟩ := h
  have bl : b ≠ l := hb.ne_let hl
  have lS : l ∉ [b] := by simpa using Ne.symm bl
  refine ⟨_, (pss_one (ps_ret (pe_bm PySem.F.plainAttrs_str PySem.F.slot_str_join PySem.F.type_str_join mt_join pe_str (pa_cons (pe_lcomp rfl (show CScope _ ["_law_box", "_law_letters_here", "_law_size"] (defScope s_l_text) _ from ⟨rfl, by decide +kernel, rfl, by decide +kernel, by decide +kernel, by decide +kernel, by decide +kernel⟩) (pi_range1 rfl T.b_range (pa_cons (pv 2) pa_nil)) (fun _ _ _ _ => pts_nil) (fun _ _ _ _ => (pe_ix (r := rIxL K) ix_list (pv 2) (pe_own (O_l_take.mono (by omega)) hr rfl (pa_cons (pv 1) (pa_cons pe_int pa_nil))) (fun _ _ => rfl)))) pa_nil)))), ?_⟩
  refine ⟨rfl, _, rfl, _, rfl, by omega, by omega, ?_⟩
  refine lc_range (n := n.toNat) (fun i ys H' => (∃ xs : List Str, ys = xs.map V.str ∧ xs.length = i ∧ ∀ x ∈ xs, x.length = 1) ∧ BoxAt H' b ∧ Gro [b] H H') ⟨⟨[], rfl, rfl, by simp⟩, hb, Gro.refl⟩ (small1000 (by omega)) (fun i ys H' ⟨⟨xs, e1, e2, _⟩, _⟩ => by rw [e1, List.length_map, e2]; exact Nat.le_refl _) ?_ ?_
  · rintro i ys H1 hi ⟨⟨xs, rfl, e2, e3⟩, hb1, g1⟩
    refine ⟨_, rfl, _, rfl, b, 3, rfl, hb1, by decide, by decide, fun r H2 h20 h21 hb2 g2 => ?_⟩
    refine letS ((hl.gro g1 lS).gro g2 lS) h20 h21 fun s hs => ⟨⟨xs ++ [s], by simp, by simp [e2], fun x hx => ?_⟩, hb2, g1.trans g2⟩
    rcases List.mem_append.mp hx with z | z
    · exact e3 x z
    · rw [List.mem_singleton.mp z]; exact hs
  · rintro ys H1 ⟨⟨xs, rfl, e2, e3⟩, hb1, g1⟩ a ha
    have hs := ones_sum e3
    have e0 : ("" : Str).length = 0 := rfl
    refine ⟨_, a, xs, rfl, rfl, SqL.of upd_same, by rw [hs, e0]; omega, ?_⟩
    exact q _ _ (by rw [join_len, hs]; omega) (hb1.new ha) (g1.tup ha)
end
end Seek

set_option maxRecDepth 100000
set_option maxHeartbeats 4000000
namespace Seek
open PySem PySem.Spec PyProof.Rows L2
section
variable {P : Program} {w : World} {K : PySem.W.Frag} {mg : Str → Option Value} {base : Heap} {f C : Addr} {fd : FuncData}
/-- a leaf that takes one sign, or begin, or end -/
def spLeaf1 : Sp := fun vs H Q _ => ∃ (b l c : Addr) (p : Int), vs = [.ref b, .ref l, .ref c] ∧ BoxAt H b ∧ LetAt H l ∧ H c = some (.lst [.int 0, .int p]) ∧ b ≠ c ∧ ∀ (v : V) (h : Hd) (H' : Hp), BoxAt H' b → PatAt H' 1 v (.node h []) → (Ez.pat h).ok → Gro [b] H H' → Q v H'
theorem ok_leaf1 (T : Blt mg) (O_l_take : Own P w K mg base 1 "_law_take" ["_law_box", "_law_many"] spTake) (O_l_runs : Own P w K mg base 2 "_law_runs" ["_law_box", "_law_letters_here"] spRuns) (F : Fun K "_law_leaf" "_law_leaf" s_l_leaf f fd) :
    FnOk P w K mg base CX0 3 f fd ["_law_box", "_law_letters_here", "_law_count"] spLeaf1 := by
  refine F.ok sc_l_leaf (fun vs H Q E h => ?_) (fun cdv A outer s H vs Q E hr h => ?_)
  · obtain ⟨b, l, c, p, rfl, _⟩ := h
    rfl
  obtain ⟨b, l, c, cp, rfl, hb, hl, hc, bc, q⟩ := h
  refine ⟨_, (pss_cons (ps_set (i := 3) sc_l_leaf.nd rfl (by first | exact Or.inl rfl | exact Or.inr rfl) (pe_own (O_l_take.mono (by omega)) hr rfl (pa_cons (pv 0) (pa_cons pe_int pa_nil))))
    (pss_cons (ps_if (pt_cmpR op_lt (pv 3) pe_int (nomark _)) (pss_one (ps_ret (pe_tup (pa_cons pe_str (pa_cons (pe_ix ix_list (pv 1) (pe_own (O_l_take.mono (by omega)) hr rfl (pa_cons (pv 0) (pa_cons pe_int pa_nil))) (fun _ _ => rfl)) pa_nil))))) pss_nil)
    (pss_cons (ps_if (pt_cmpR op_eq (pv 3) pe_int (nomark _)) (pss_one (ps_ret (pe_tup (pa_cons pe_str pa_nil)))) pss_nil)
    (pss_cons (ps_if (pt_cmpR op_lt (pv 3) pe_int (nomark _)) (pss_one (ps_ret (pe_tup (pa_cons (pe_ix ix_list (pe_lst (pa_cons pe_str (pa_cons pe_str pa_nil))) (pe_op op_sub (pv 3) pe_int) (fun _ _ => rfl)) (pa_cons (pe_own (O_l_runs.mono (by omega)) hr rfl (pa_cons (pv 0) (pa_cons (pv 1) pa_nil))) pa_nil))))) pss_nil)
    (pss_cons (ps_if (PW.pt (pw_or (pt_cmpR op_eq (pv 3) pe_int (nomark _)) (pw_or (pt_cmpR op_eq (pe_ix ix_list (pv 2) pe_int (fun _ _ => rfl)) pe_int (nomark _)) (pw_or1 (pt_cmpR op_eq (pe_ix ix_list (pv 2) pe_int (fun _ _ => rfl)) pe_int (nomark _)))))) (pss_one (ps_ret (pe_tup (pa_cons (pe_ix ix_list (pe_lst (pa_cons pe_str (pa_cons pe_str pa_nil))) (pe_own (O_l_take.mono (by omega)) hr rfl (pa_cons (pv 0) (pa_cons pe_int pa_nil))) (fun _ _ => rfl)) pa_nil)))) pss_nil)
    (pss_one (ps_ret (pe_tup (pa_cons pe_str (pa_cons (pe_op op_add pe_int (pe_own (O_l_take.mono (by omega)) hr rfl (pa_cons (pv 0) (pa_cons (pe_ix ix_list (pv 2) pe_int (fun _ _ => rfl)) pa_nil)))) pa_nil)))))))))), ?_⟩
  have bl : b ≠ l := hb.ne_let hl
  have lS : l ∉ [b] := by simpa using Ne.symm bl
  have cS : c ∉ [b] := by simpa using Ne.symm bc
  refine ⟨_, rfl, b, 8, rfl, hb, by decide, by decide, fun k H1 h0 h1 hb1 g1 => ?_⟩
  have l1 := hl.gro g1 lS
  have hcl := g1.keep _ _ hc cS
  refine ⟨_, rfl, _, _, rfl, rfl, _, rfl, ite2 (fun _ => ?_) (fun k3 => ?_)⟩
  · refine ⟨_, rfl, _, rfl, b, 3, rfl, hb1, by decide, by decide, fun r H2 h20 h21 hb2 g2 => ?_⟩
    refine letS (l1.gro g2 lS) h20 h21 fun s hs => ⟨sz, fun p hp => ?_⟩
    exact q _ (.sign s) _ (hb2.new hp) ⟨p, [], rfl, ⟨rfl, hs, upd_same⟩, .nil⟩ (.inl rfl) ((g1.trans g2).tup hp)
  refine ⟨_, rfl, rfl, _, rfl, ite2 (fun _ => ?_) (fun k4 => ?_)⟩
  · exact ⟨sz, fun p hp => q _ .any _ (hb1.new hp) ⟨p, [], rfl, ⟨rfl, upd_same⟩, .nil⟩ (.inl rfl) (g1.tup hp)⟩
  refine ⟨_, rfl, _, _, rfl, rfl, _, rfl, ite2 (fun k6 => ?_) (fun k6 => ?_)⟩
  · refine ⟨sz, fun a ha => ⟨_, rfl, _, _, rfl, rfl, ?_⟩⟩
    have hk3 : ¬ k < 3 := fun z => k3 (decide_eq_true z)
    have hk4 : ¬ k = 3 := fun z => k4 (decide_eq_true (by rw [z]))
    have hk6 : k < 6 := of_decide_eq_true k6
    have e45 : k = 4 ∨ k = 5 := by omega
    have run : ∀ (word : Str) (hd : List (Str × Str) → Hd), (∀ rs, (hd rs).one = true) → (∀ H' p r rs, H' p = some (.tup [.str word, .ref r]) → RunsAt H' r rs → Lay H' p (hd rs) []) → ∀ H2 : Hp, H2 = upd H1 a (.lst [.str "in", .str "out"]) →
        (tCall spRuns [] E0 (tCons (tVar 0) (tCons (tVar 1) tNil))) [some (.ref b), some (.ref l), some (.ref c), some (.int k)] H2 (fun x H3 => (tNil) [some (.ref b), some (.ref l), some (.ref c), some (.int k)] H3 fun xs H4 => (V.str word :: x :: xs).length ≤ sizeLine ∧ ∀ p, H4 p = none → Q (.ref p) (upd H4 p (.tup (V.str word :: x :: xs)))) := by
      rintro word hd one lay H2 rfl
      refine ⟨_, rfl, _, rfl, b, l, rfl, hb1.new ha, l1.new ha, fun r rs H3 hb3 hr3 _ _ g3 => ⟨sz, fun p hp => ?_⟩⟩
      exact q _ (hd rs) _ (hb3.new hp) ⟨p, [], rfl, lay _ _ _ _ upd_same (hr3.mono (Gro.new (S := []) hp _).tups), .nil⟩ (.inl (one rs)) (((g1.tup ha).trans g3).tup hp)
    rcases e45 with rfl | rfl
    · exact ⟨a, _, _, _, rfl, rfl, SqL.of upd_same, rfl, run "in" .inn (fun _ => rfl) (fun H' p r rs e h => ⟨rfl, r, e, h⟩) _ rfl⟩
    · exact ⟨a, _, _, _, rfl, rfl, SqL.of upd_same, rfl, run "out" .out (fun _ => rfl) (fun H' p r rs e h => ⟨rfl, r, e, h⟩) _ rfl⟩
  have bare : (tTup (tCons (tOp (rIxL K) (tLst (tCons (tC (.str "begin")) (tCons (tC (.str "end")) tNil))) (tCall spTake [] E0 (tCons (tVar 0) (tCons (tC (.int 2)) tNil)))) tNil)) [some (.ref b), some (.ref l), some (.ref c), some (.int k)] H1 Q := by
    refine ⟨sz, fun a ha => ⟨_, rfl, b, 2, rfl, hb1.new ha, by decide, by decide, fun r H2 h20 h21 hb2 g2 => ?_⟩⟩
    have ha2 : H2 a = some (.lst [.str "begin", .str "end"]) := g2.keep a _ upd_same (by simpa using Ne.symm (ne_of_none hb1.choose_spec.1 ha))
    have e01 : r = 0 ∨ r = 1 := by omega
    rcases e01 with rfl | rfl
    · exact ⟨a, _, _, _, rfl, rfl, SqL.of ha2, rfl, sz, fun p hp => q _ .beg _ (hb2.new hp) ⟨p, [], rfl, ⟨rfl, upd_same⟩, .nil⟩ (.inr (.inl rfl)) (((g1.tup ha).trans g2).tup hp)⟩
    · exact ⟨a, _, _, _, rfl, rfl, SqL.of ha2, rfl, sz, fun p hp => q _ .fin _ (hb2.new hp) ⟨p, [], rfl, ⟨rfl, upd_same⟩, .nil⟩ (.inr (.inr rfl)) (((g1.tup ha).trans g2).tup hp)⟩
  refine ⟨_, rfl, rfl, _, rfl, ite2 (fun _ => iteT bare) (fun _ => ?_)⟩
  exact ⟨_, rfl, c, _, _, _, rfl, rfl, SqL.of hcl, rfl, rfl, _, rfl, ite2 (fun _ => iteT bare) (fun c0 => absurd (decide_eq_true rfl) c0)⟩
end
end Seek

set_option maxRecDepth 100000
set_option maxHeartbeats 4000000
namespace Seek
open PySem PySem.Spec PyProof.Rows L2
/-- whether the leaf stands there -/
def there (h : Hd) (t : Str) (i : Int) : Bool := match h with
  | .beg => decide (i = 0)
  | .fin => decide (i = t.length)
  | h => takesAt h t i
theorem cps_one {x : Str} (h : x.length = 1) : x.cps.toList = [x.cps.getD 0 0] := by
  obtain ⟨a⟩ := x
  have : a.size = 1 := h
  match a, this with
  | ⟨[c]⟩, _ => rfl
theorem le_one {x y : Str} (hx : x.length = 1) (hy : y.length = 1) : (!decide (y.cps.toList < x.cps.toList)) = decide (((x.cps.getD 0 0 : Nat) : Int) ≤ ((y.cps.getD 0 0 : Nat) : Int)) := by
  rw [cps_one hx, cps_one hy]
  generalize x.cps.getD 0 0 = m
  generalize y.cps.getD 0 0 = n
  have : ([n] < [m]) ↔ n < m := by
    constructor
    · intro h
      cases h with
      | rel h => exact h
      | cons h => cases h
    · exact fun h => .rel h
  rw [Bool.eq_iff_iff]
  simp only [Bool.not_eq_true', decide_eq_false_iff_not, decide_eq_true_eq, this]
  omega
theorem chr_len (t : Str) (i : Nat) : (chr t i).length = 1 := rfl
theorem dec_int0 {i j : Int} : decide (V.int i = V.int j) = decide (i = j) := by
  rw [Bool.eq_iff_iff]
  simp
abbrev rOrd : List V → Hp → VK → Prop := fun xs H Q => ∃ x, xs = [.str x] ∧ x.length = 1 ∧ Q (.int (x.cps.getD 0 0 : Nat)) H
/-- the runs in which a sign lies -/
theorem lies_lc {K : PySem.W.Frag} {H : Hp} {σ : L2.St} {r : Addr} {rs : List (Str × Str)} {c : Str} {ts : TE} {Fin : List V → Hp → Prop} (hr : RunsAt H r rs) (hc : c.length = 1) (hts : ∀ (x : V) (Q : VK), Q (.str c) H → ts (some x :: σ) H Q)
    (fin : ∀ zs : List V, (!zs.isEmpty) = liesIn rs c → Fin zs H) :
    LCW (Itt K r) σ (tAnd (tTest (tOp (rI0 fun i j => V.bl (decide (i ≤ j))) (tCB rOrd (tCons (tOp (rIxT K) (tVar 0) (tC (.int 0))) tNil)) (tCB rOrd (tCons ts tNil))))
      (tTest (tOp (rI0 fun i j => V.bl (decide (i ≤ j))) (tCB rOrd (tCons ts tNil)) (tCB rOrd (tCons (tOp (rIxT K) (tVar 0) (tC (.int 1))) tNil))))) (tVar 0) Fin H := by
  obtain ⟨vs, hv, hp, hz⟩ := hr
  have hl := Paired.length hp
  refine lc_gen (n := vs.length) (fun j zs H' => H' = H ∧ (!zs.isEmpty) = liesIn (rs.take j) c ∧ zs.length ≤ j) ⟨rfl, rfl, Nat.le_refl _⟩ (small1000 (by omega)) (fun j zs H' ⟨_, _, h⟩ => h) (fun j zs H' hj ⟨e, _⟩ => by rw [e]; exact ⟨vs, vs[j], SqT.of hv, by simp [hj]⟩) (fun zs H' ⟨e, _⟩ => by rw [e]; exact ⟨vs, SqT.of hv, Nat.le_refl _⟩) ?_ ?_
  · rintro j zs H' x H'' hj ⟨rfl, hzs, hzl⟩ ⟨rfl, hx⟩
    have hx' := hx vs (SqT.of hv)
    obtain ⟨p, hpi, h1, h2, a, rfl, ha⟩ := paired_get hp hx'
    have snoc : liesIn (rs.take (j + 1)) c = (liesIn (rs.take j) c || (!decide (c.cps.toList < p.1.cps.toList) && !decide (p.2.cps.toList < c.cps.toList))) := by
      unfold liesIn
      rw [take_snoc hpi, List.any_append]
      simp
    refine ⟨_, rfl, a, _, _, _, rfl, rfl, SqT.of ha, at0, p.1, rfl, h1, ?_⟩
    refine hts _ _ ⟨c, rfl, hc, _, _, rfl, rfl, _, rfl, ?_⟩
    rw [le_one h1 hc] at snoc
    rw [le_one hc h2] at snoc
    refine ite2 (fun z => ?_) (fun z => ?_)
    · refine hts _ _ ⟨c, rfl, hc, ?_⟩
      refine ⟨_, rfl, a, _, _, _, rfl, rfl, SqT.of ha, rfl, p.2, rfl, h2, _, _, rfl, rfl, _, rfl, ?_⟩
      refine ite2 (fun z2 => ?_) (fun z2 => ?_)
      · refine ⟨_, rfl, rfl, ?_, by simp; omega⟩
        rw [snoc, z, z2]
        simp
      · refine ⟨rfl, ?_, by omega⟩
        rw [snoc, hzs, Bool.eq_false_iff.mpr z2]
        simp
    · refine iteF ⟨rfl, ?_, by omega⟩
      rw [snoc, hzs, Bool.eq_false_iff.mpr z]
      simp
  · rintro zs H' ⟨rfl, hzs, _⟩
    rw [hl, List.take_length] at hzs
    exact fin zs hzs
section
variable {P : Program} {w : World} {K : PySem.W.Frag} {mg : Str → Option Value} {base : Heap} {f C : Addr} {fd : FuncData}
def spThere : Sp := fun vs H Q _ => ∃ (a : Addr) (h : Hd) (t : Str) (i : Int), vs = [.ref a, .str t, .int i] ∧ PatAt H 1 (.ref a) (.node h []) ∧ (Ez.pat h).ok ∧ 0 ≤ i ∧ i ≤ t.length ∧ t.length ≤ 1000 ∧ ∀ H', Gro [] H H' → Q (.bl (there h t i)) H'
abbrev s_l_is_there : Stmt := top 47
theorem sc_l_is_there : FnScope ["_law_p", "_law_text_here", "_law_at", "_law_lies"] ["_law_p", "_law_text_here", "_law_at"] (defScope s_l_is_there) := ⟨rfl, rfl, rfl, by decide +kernel, rfl, by decide +kernel, by decide +kernel⟩
theorem ok_there (T : Blt mg) (F : Fun K "_law_is_there" "_law_is_there" s_l_is_there f fd) : FnOk P w K mg base CX0 1 f fd ["_law_p", "_law_text_here", "_law_at"] spThere := by
  refine F.ok sc_l_is_there (fun vs H Q E h => ?_) (fun cdv A outer s H vs Q E hr h => ?_)
  · obtain ⟨a, h, t, i, rfl, _⟩ := h
    rfl
  obtain ⟨a, h, t, i, rfl, hp, hok, h0, hi, ht, q⟩ := h
  refine ⟨_, (pss_cons (ps_if (PW.pt (pw_or (pt_cmpR op_eq (pe_ix ix_tup (pv 0) pe_int (fun _ _ => rfl)) pe_str (nomark _)) (pw_or1 (pt_cmpR op_eq (pe_ix ix_tup (pv 0) pe_int (fun _ _ => rfl)) pe_str (nomark _))))) (pss_one (ps_ret (pe_cmpR op_eq (pv 2) (pe_ix ix_list (pe_lst (pa_cons pe_int (pa_cons (pe_callB call_len_str rfl T.b_len PyProof.Rows.Boot.«len» (pa_cons (pv 1) pa_nil)) pa_nil))) (pe_callTy call_int1 rfl T.b_int PyProof.Rows.Boot.«int» (pa_cons (pe_cmpR op_eq (pe_ix ix_tup (pv 0) pe_int (fun _ _ => rfl)) pe_str (nomark _)) pa_nil)) (fun _ _ => rfl)) (nomark _)))) pss_nil)
    (pss_cons (ps_if (pt_cmpR op_eq (pv 2) (pe_callB call_len_str rfl T.b_len PyProof.Rows.Boot.«len» (pa_cons (pv 1) pa_nil)) (nomark _)) (pss_one (ps_ret pe_bl)) pss_nil)
    (pss_cons (ps_if (PW.pt (pw_or (pt_cmpR op_eq (pe_ix ix_tup (pv 0) pe_int (fun _ _ => rfl)) pe_str (nomark _)) (pw_or1 (pt_cmpR op_eq (pe_ix ix_tup (pv 0) pe_int (fun _ _ => rfl)) pe_str (nomark _))))) (pss_one (ps_ret (pe_or (pe_cmpR op_eq (pe_ix ix_tup (pv 0) pe_int (fun _ _ => rfl)) pe_str (nomark _)) (pe_one (pe_cmpR op_eq (pe_ix ix_tup (pv 0) pe_int (fun _ _ => rfl)) (pe_ix ix_str (pv 1) (pv 2) (fun _ _ => rfl)) (nomark _)))))) pss_nil)
    (pss_cons (ps_setLC (i := 3) sc_l_is_there.nd rfl rfl rfl (show CScope _ ["_law_p", "_law_text_here", "_law_at", "_law_lies"] (defScope s_l_is_there) _ from ⟨rfl, by decide +kernel, rfl, by decide +kernel, by decide +kernel, by decide +kernel, by decide +kernel⟩) (pi_tup (pe_ix ix_tup (pv 0) pe_int (fun _ _ => rfl))) (fun _ _ _ _ => (pts_one (PW.pt (pw_and (pt_cmpR op_le (pe_callB call_ord rfl T.b_ord PyProof.Rows.Boot.«ord» (pa_cons (pe_ix (r := rIxT K) ix_tup (pv 0) pe_int (fun _ _ => rfl)) pa_nil)) (pe_callB call_ord rfl T.b_ord PyProof.Rows.Boot.«ord» (pa_cons (pe_ix ix_str (pv 2) (pv 3) (fun _ _ => rfl)) pa_nil)) (nomark _)) (pw_and1 (pt_cmpR op_le (pe_callB call_ord rfl T.b_ord PyProof.Rows.Boot.«ord» (pa_cons (pe_ix ix_str (pv 2) (pv 3) (fun _ _ => rfl)) pa_nil)) (pe_callB call_ord rfl T.b_ord PyProof.Rows.Boot.«ord» (pa_cons (pe_ix (r := rIxT K) ix_tup (pv 0) pe_int (fun _ _ => rfl)) pa_nil)) (nomark _))))))) (fun _ _ _ _ => (pv 0)) rfl)
    (pss_one (ps_ret (pe_cmpR op_eq (pe_cmpR (op_neNil hr.units0) (pv 3) (pe_lst pa_nil) (nomark _)) (pe_cmpR op_eq (pe_ix ix_tup (pv 0) pe_int (fun _ _ => rfl)) pe_str (nomark _)) (nomark _)))))))), ?_⟩
  obtain ⟨a', kv, e, lay, hk⟩ := hp
  cases e
  cases hk
  obtain ⟨r0, ea⟩ := lay.head
  refine ⟨_, rfl, a, _, _, _, rfl, rfl, SqT.of ea, at0, rfl, _, rfl, ?_⟩
  cases h with
  | beg =>
    refine ite_yes (show isw "begin" "begin" = true by decide +kernel) (iteT ?_)
    refine ⟨_, rfl, _, rfl, t, rfl, small ht, sz, fun l hl => ?_⟩
    refine ⟨_, rfl, a, _, _, _, rfl, rfl, SqT.of (Gro.new (S := []) hl _ |>.tups _ _ ea), at0, rfl, .inr ⟨_, rfl, ?_⟩⟩
    rw [show decide (V.str (Hd.word .beg) = V.str "end") = false by decide +kernel]
    refine ⟨l, _, _, _, rfl, rfl, SqL.of upd_same, rfl, rfl, ?_⟩
    rw [dec_int0]
    exact q _ (Gro.new hl _)
  | fin =>
    refine ite_no (show ¬ isw "end" "begin" = true by decide +kernel) ?_
    refine ⟨_, rfl, a, _, _, _, rfl, rfl, SqT.of ea, at0, rfl, _, rfl, ite_yes (show isw "end" "end" = true by decide +kernel) ?_⟩
    refine ⟨_, rfl, _, rfl, t, rfl, small ht, sz, fun l hl => ?_⟩
    refine ⟨_, rfl, a, _, _, _, rfl, rfl, SqT.of (Gro.new (S := []) hl _ |>.tups _ _ ea), at0, rfl, .inr ⟨_, rfl, ?_⟩⟩
    rw [show decide (V.str (Hd.word .fin) = V.str "end") = true by decide +kernel]
    refine ⟨l, _, _, _, rfl, rfl, SqL.of upd_same, rfl, rfl, ?_⟩
    rw [dec_int0]
    exact q _ (Gro.new hl _)
  | sign x =>
    refine ite_no (show ¬ isw "sign" "begin" = true by decide +kernel) ?_
    refine ⟨_, rfl, a, _, _, _, rfl, rfl, SqT.of ea, at0, rfl, _, rfl, ite_no (show ¬ isw "sign" "end" = true by decide +kernel) ?_⟩
    refine ⟨_, rfl, _, rfl, t, rfl, small ht, rfl, _, rfl, ite2 (fun z => ?_) (fun z => ?_)⟩
    · have hn : takesAt (.sign x) t i = false := by
        have : V.int i = V.int ((t.length : Nat) : Int) := of_decide_eq_true z
        injection this with this
        unfold takesAt
        rw [if_neg (by omega)]
      have q' := q H Gro.refl
      rw [show there (.sign x) t i = false from hn] at q'
      exact q'
    have hlt : i < t.length := by
      have : ¬ i = ((t.length : Nat) : Int) := fun e => z (decide_eq_true (by rw [e]))
      omega
    have hc := chr_at h0 hlt
    have ev : there (.sign x) t i = Hd.eats (.sign x) (chr t i.toNat) := by show takesAt (.sign x) t i = _; unfold takesAt; rw [if_pos hlt]
    refine ⟨_, rfl, a, _, _, _, rfl, rfl, SqT.of ea, at0, rfl, _, rfl, ite_no (show ¬ isw "sign" "any" = true by decide +kernel) ?_⟩
    refine ⟨_, rfl, a, _, _, _, rfl, rfl, SqT.of ea, at0, rfl, _, rfl, ite_yes (show isw "sign" "sign" = true by decide +kernel) ?_⟩
    refine ⟨_, rfl, a, _, _, _, rfl, rfl, SqT.of ea, at0, rfl, _, rfl, ite_no (show ¬ isw "sign" "any" = true by decide +kernel) ?_⟩
    refine ⟨_, rfl, a, _, _, _, rfl, rfl, SqT.of lay.2.2, rfl, _, rfl, _, rfl, t, i, _, rfl, rfl, small ht, hc, rfl, ?_⟩
    have q' := q H Gro.refl
    rw [ev] at q'
    exact q'
  | any =>
    refine ite_no (show ¬ isw "any" "begin" = true by decide +kernel) ?_
    refine ⟨_, rfl, a, _, _, _, rfl, rfl, SqT.of ea, at0, rfl, _, rfl, ite_no (show ¬ isw "any" "end" = true by decide +kernel) ?_⟩
    refine ⟨_, rfl, _, rfl, t, rfl, small ht, rfl, _, rfl, ite2 (fun z => ?_) (fun z => ?_)⟩
    · have hn : takesAt .any t i = false := by
        have : V.int i = V.int ((t.length : Nat) : Int) := of_decide_eq_true z
        injection this with this
        unfold takesAt
        rw [if_neg (by omega)]
      have q' := q H Gro.refl
      rw [show there .any t i = false from hn] at q'
      exact q'
    have hlt : i < t.length := by
      have : ¬ i = ((t.length : Nat) : Int) := fun e => z (decide_eq_true (by rw [e]))
      omega
    have hc := chr_at h0 hlt
    have ev : there .any t i = Hd.eats .any (chr t i.toNat) := by show takesAt .any t i = _; unfold takesAt; rw [if_pos hlt]
    refine ⟨_, rfl, a, _, _, _, rfl, rfl, SqT.of ea, at0, rfl, _, rfl, ite_yes (show isw "any" "any" = true by decide +kernel) (iteT ?_)⟩
    refine ⟨_, rfl, a, _, _, _, rfl, rfl, SqT.of ea, at0, rfl, _, rfl, ite_yes (show isw "any" "any" = true by decide +kernel) ?_⟩
    have q' := q H Gro.refl
    rw [ev] at q'
    exact q'
  | inn rs =>
    refine ite_no (show ¬ isw "in" "begin" = true by decide +kernel) ?_
    refine ⟨_, rfl, a, _, _, _, rfl, rfl, SqT.of ea, at0, rfl, _, rfl, ite_no (show ¬ isw "in" "end" = true by decide +kernel) ?_⟩
    refine ⟨_, rfl, _, rfl, t, rfl, small ht, rfl, _, rfl, ite2 (fun z => ?_) (fun z => ?_)⟩
    · have hn : takesAt (.inn rs) t i = false := by
        have : V.int i = V.int ((t.length : Nat) : Int) := of_decide_eq_true z
        injection this with this
        unfold takesAt
        rw [if_neg (by omega)]
      have q' := q H Gro.refl
      rw [show there (.inn rs) t i = false from hn] at q'
      exact q'
    have hlt : i < t.length := by
      have : ¬ i = ((t.length : Nat) : Int) := fun e => z (decide_eq_true (by rw [e]))
      omega
    have hc := chr_at h0 hlt
    have ev : there (.inn rs) t i = Hd.eats (.inn rs) (chr t i.toNat) := by show takesAt (.inn rs) t i = _; unfold takesAt; rw [if_pos hlt]
    obtain ⟨_, r, e, hr'⟩ := lay
    refine ⟨_, rfl, a, _, _, _, rfl, rfl, SqT.of e, at0, rfl, _, rfl, ite_no (show ¬ isw "in" "any" = true by decide +kernel) ?_⟩
    refine ⟨_, rfl, a, _, _, _, rfl, rfl, SqT.of e, at0, rfl, _, rfl, ite_no (show ¬ isw "in" "sign" = true by decide +kernel) ?_⟩
    refine ⟨_, rfl, a, _, _, _, rfl, rfl, SqT.of e, rfl, r, rfl, ?_⟩
    obtain ⟨vs, hv, hp, hz⟩ := id hr'
    refine ⟨⟨vs, SqT.of hv⟩, ?_⟩
    refine lies_lc (K := K) hr' (chr_len t i.toNat) (fun x Q' q' => ⟨_, rfl, _, rfl, t, i, _, rfl, rfl, small ht, hc, q'⟩) (fun zs hzs l hl2 => ?_)
    refine ⟨_, rfl, sz, fun l2 hl3 => ?_⟩
    have g2 : Gro [] H (upd (upd H l (.lst zs)) l2 (.lst [])) := (Gro.new hl2 _).tup hl3
    refine ⟨l, l2, zs, rfl, rfl, SqL.of (by rw [upd_ne (ne_of_none upd_same hl3)]; exact upd_same), SqL.of upd_same, ?_⟩
    refine ⟨_, rfl, a, _, _, _, rfl, rfl, SqT.of (g2.tups _ _ e), at0, rfl, rfl, ?_⟩
    have q' := q _ g2
    rw [ev] at q'
    have e2 : decide (V.str "in" = V.str "in") = true := by decide +kernel
    rw [e2, hzs]
    show Q (.bl (decide (V.bl (liesIn rs (chr t i.toNat)) = V.bl true))) _
    have q2 : Q (.bl (liesIn rs (chr t i.toNat))) (upd (upd H l (.lst zs)) l2 (.lst [])) := q'
    cases hb : liesIn rs (chr t i.toNat) <;> rw [hb] at q2 <;> exact q2
  | out rs =>
    refine ite_no (show ¬ isw "out" "begin" = true by decide +kernel) ?_
    refine ⟨_, rfl, a, _, _, _, rfl, rfl, SqT.of ea, at0, rfl, _, rfl, ite_no (show ¬ isw "out" "end" = true by decide +kernel) ?_⟩
    refine ⟨_, rfl, _, rfl, t, rfl, small ht, rfl, _, rfl, ite2 (fun z => ?_) (fun z => ?_)⟩
    · have hn : takesAt (.out rs) t i = false := by
        have : V.int i = V.int ((t.length : Nat) : Int) := of_decide_eq_true z
        injection this with this
        unfold takesAt
        rw [if_neg (by omega)]
      have q' := q H Gro.refl
      rw [show there (.out rs) t i = false from hn] at q'
      exact q'
    have hlt : i < t.length := by
      have : ¬ i = ((t.length : Nat) : Int) := fun e => z (decide_eq_true (by rw [e]))
      omega
    have hc := chr_at h0 hlt
    have ev : there (.out rs) t i = Hd.eats (.out rs) (chr t i.toNat) := by show takesAt (.out rs) t i = _; unfold takesAt; rw [if_pos hlt]
    obtain ⟨_, r, e, hr'⟩ := lay
    refine ⟨_, rfl, a, _, _, _, rfl, rfl, SqT.of e, at0, rfl, _, rfl, ite_no (show ¬ isw "out" "any" = true by decide +kernel) ?_⟩
    refine ⟨_, rfl, a, _, _, _, rfl, rfl, SqT.of e, at0, rfl, _, rfl, ite_no (show ¬ isw "out" "sign" = true by decide +kernel) ?_⟩
    refine ⟨_, rfl, a, _, _, _, rfl, rfl, SqT.of e, rfl, r, rfl, ?_⟩
    obtain ⟨vs, hv, hp, hz⟩ := id hr'
    refine ⟨⟨vs, SqT.of hv⟩, ?_⟩
    refine lies_lc (K := K) hr' (chr_len t i.toNat) (fun x Q' q' => ⟨_, rfl, _, rfl, t, i, _, rfl, rfl, small ht, hc, q'⟩) (fun zs hzs l hl2 => ?_)
    refine ⟨_, rfl, sz, fun l2 hl3 => ?_⟩
    have g2 : Gro [] H (upd (upd H l (.lst zs)) l2 (.lst [])) := (Gro.new hl2 _).tup hl3
    refine ⟨l, l2, zs, rfl, rfl, SqL.of (by rw [upd_ne (ne_of_none upd_same hl3)]; exact upd_same), SqL.of upd_same, ?_⟩
    refine ⟨_, rfl, a, _, _, _, rfl, rfl, SqT.of (g2.tups _ _ e), at0, rfl, rfl, ?_⟩
    have q' := q _ g2
    rw [ev] at q'
    have e2 : decide (V.str "out" = V.str "in") = false := by decide +kernel
    rw [e2, hzs]
    show Q (.bl (decide (V.bl (liesIn rs (chr t i.toNat)) = V.bl false))) _
    have q2 : Q (.bl (!liesIn rs (chr t i.toNat))) (upd (upd H l (.lst zs)) l2 (.lst [])) := q'
    cases hb : liesIn rs (chr t i.toNat) <;> rw [hb] at q2 <;> exact q2
  | _ => exact absurd hok (by simp [Ez.ok, Hd.one])
/-! ### the machine of one leaf -/
abbrev ezs (h : Hd) : List Ez := [.pat h, .found]
def far (h : Hd) : Int := if h.one = true then 1 else 0
def ms1 (h : Hd) (ra : Addr) (t : Str) (i : Int) (g : V) (c : Addr) : MM := ⟨{ rows := .ref ra, text := t, row := 1, place := i + far h, groups := g, held := .non, choices := c, made := 1, found := false, ended := false }, []⟩
def ms2 (h : Hd) (ra : Addr) (t : Str) (i : Int) (g : V) (c : Addr) : MM := ⟨{ rows := .ref ra, text := t, row := 2, place := i + far h, groups := g, held := .non, choices := c, made := 2, found := true, ended := false }, []⟩
def ms9 (ra : Addr) (t : Str) (i : Int) (g : V) (c : Addr) : MM := ⟨{ rows := .ref ra, text := t, row := 1, place := i, groups := g, held := .non, choices := c, made := 1, found := false, ended := true }, []⟩
theorem act_there {h : Hd} {ra c : Addr} {t : Str} {i : Int} {g : V} (hok : (Ez.pat h).ok) : its (ezs h) 1 (ms0 ra t i g c) = if there h t i = true then ms1 h ra t i g c else ms9 ra t i g c := by
  show actH h (ms0 ra t i g c).next = _
  have bk : (ms0 ra t i g c).next.back = ms9 ra t i g c := rfl
  cases hh : h with
  | beg =>
    show MM.doBegin (ms0 ra t i g c).next = if decide (i = 0) = true then _ else _
    unfold MM.doBegin
    by_cases e : i = 0
    · rw [if_pos (show (ms0 ra t i g c).next.s.place = 0 from e), if_pos (decide_eq_true e)]
      unfold ms1
      rw [show far .beg = 0 from rfl, Int.add_zero]
      rfl
    · rw [if_neg (show ¬ (ms0 ra t i g c).next.s.place = 0 from e), if_neg (by simpa using e), bk]
  | fin =>
    show MM.doEnd (ms0 ra t i g c).next = if decide (i = t.length) = true then _ else _
    unfold MM.doEnd
    by_cases e : i = t.length
    · rw [if_pos (show (ms0 ra t i g c).next.s.place = ((ms0 ra t i g c).next.s.text.length : Nat) from e), if_pos (decide_eq_true e)]
      unfold ms1
      rw [show far .fin = 0 from rfl, Int.add_zero]
      rfl
    · rw [if_neg (show ¬ (ms0 ra t i g c).next.s.place = ((ms0 ra t i g c).next.s.text.length : Nat) from e), if_neg (by simpa using e), bk]
  | sign x =>
    show (if takesAt (.sign x) t i = true then _ else _) = if takesAt (.sign x) t i = true then _ else _
    split
    · rfl
    · rfl
  | any =>
    show (if takesAt .any t i = true then _ else _) = if takesAt .any t i = true then _ else _
    split
    · rfl
    · rfl
  | inn x =>
    show (if takesAt (.inn x) t i = true then _ else _) = if takesAt (.inn x) t i = true then _ else _
    split
    · rfl
    · rfl
  | out x =>
    show (if takesAt (.out x) t i = true then _ else _) = if takesAt (.out x) t i = true then _ else _
    split
    · rfl
    · rfl
  | _ => rw [hh] at hok; exact absurd hok (by simp [Ez.ok, Hd.one])
end
end Seek

set_option maxRecDepth 100000
set_option maxHeartbeats 4000000
namespace Seek
open PySem PySem.Spec PyProof.Rows L2
section
variable {P : Program} {w : World} {K : PySem.W.Frag} {mg : Str → Option Value} {base : Heap} {f C : Addr} {fd : FuncData}
def spLaw (K : PySem.W.Frag) : Sp := fun vs H Q _ => ∃ (a : Addr) (ns : List Int), vs = [.ref a] ∧ SqL K H a (ns.map V.int) ∧ ns.length ≤ 63 ∧ ∀ H', Q (.bl true) H'
def cut5 : TS := fun D σ H => (∀ H', D.rt (.bl true) H') ∧ ∃ (s : Option V) (b l : Addr) (v : V) (h : Hd) (n : Int), σ = [s, some (.ref b), some (.ref l), some v, some (.int n), none, none, none, none, none] ∧ BoxAt H b ∧ LetAt H l ∧ PatAt H 1 v (.node h []) ∧ (Ez.pat h).ok ∧ 0 ≤ n ∧ n ≤ 200
def cut8 : TS := fun D σ H => (∀ H', D.rt (.bl true) H') ∧ ∃ (s n l : Option V) (b : Addr) (v : V) (h : Hd) (t : Str) (i : Int), σ = [s, some (.ref b), l, some v, n, some (.str t), some (.int i), none, none, none] ∧ BoxAt H b ∧ PatAt H 1 v (.node h []) ∧ (Ez.pat h).ok ∧ t.length ≤ 1000 ∧ 0 ≤ i ∧ i ≤ t.length
def cut14 (C : Addr) : TS := fun D σ H => (∀ H', D.rt (.bl true) H') ∧ ∃ (s n l b v t' i' : Option V) (h : Hd) (t : Str) (i most : Int) (m ra d e c g : Addr) (ys : List V) (M : MM), σ = [s, b, l, v, n, t', i', some (.int most), some (.ref m), some (.ref d)] ∧ MAt C H m M ∧ H ra = some (.tup ys) ∧ Paired (RowAt H) ys ((ezs h).map Ez.rw) ∧ (Ez.pat h).ok ∧
  there h t i = true ∧ t.length ≤ 1000 ∧ 0 ≤ i ∧ i ≤ t.length ∧ ((M = ms0 ra t i (.ref g) c ∧ 2 ≤ most) ∨ (M = ms1 h ra t i (.ref g) c ∧ most = 1)) ∧ H g = some (.tup []) ∧ H d = some (.tup [.str "way", .int (i + far h), .ref e]) ∧ H e = some (.tup [])
theorem far0 {h : Hd} (hok : (Ez.pat h).ok) : (if (if true = true then !inV (.str h.word) [.str "begin", .str "end"] else inV (.str h.word) [.str "begin", .str "end"]) = true then 1 else 0 : Int) = far h := by
  cases h <;> first | rfl | exact absurd hok (by simp [Ez.ok, Hd.one])
theorem far_nn (h : Hd) : 0 ≤ far h := by unfold far; split <;> decide
theorem live0 {h : Hd} {ra c : Addr} {t : Str} {i : Int} {g : V} (ht : t.length ≤ 1000) (hi : 0 ≤ i) : Live (ezs h) (ms0 ra t i g c) := ⟨rfl, rfl, by show (0 : Int) ≤ 0; decide, by show (0 : Int) < 2; decide, hi, ht, Nat.zero_le _⟩
theorem live1 {h : Hd} {ra c : Addr} {t : Str} {i : Int} {g : V} (ht : t.length ≤ 1000) (hi : 0 ≤ i) : Live (ezs h) (ms1 h ra t i g c) := ⟨rfl, rfl, by show (0 : Int) ≤ 1; decide, by show (1 : Int) < 2; decide, by have := far_nn h; show 0 ≤ i + far h; omega, ht, Nat.zero_le _⟩
theorem to2 {h : Hd} {ra c : Addr} {t : Str} {i : Int} {g : V} : its (ezs h) 1 (ms1 h ra t i g c) = ms2 h ra t i g c := rfl
theorem fr0 {ra c : Addr} {t : Str} {i : Int} {g : V} : (ms0 ra t i g c).fresh = ms0 ra t i g c := rfl
theorem fr1 {h : Hd} {ra c : Addr} {t : Str} {i : Int} {g : V} : (ms1 h ra t i g c).fresh = ms1 h ra t i g c := rfl
theorem ok_leafy {h : Hd} (hok : (Ez.pat h).ok) : h.wd.leaf = true := by
  cases h <;> first | rfl | exact absurd hok (by simp [Ez.ok, Hd.one])
theorem same_int {H : Hp} {n : Nat} {i j : Int} (e : i = j) : SameAt H (n + 1) (.int i) (.int j) := .inl ⟨by rw [e], rfl⟩
theorem same_str {H : Hp} {n : Nat} {i : Str} : SameAt H (n + 1) (.str i) (.str i) := .inl ⟨rfl, rfl⟩
theorem same_1 {H : Hp} {n : Nat} {a b : Addr} {x : Str} (ha : H a = some (.tup [.str x])) (hb : H b = some (.tup [.str x])) : SameAt H (n + 2) (.ref a) (.ref b) := .inr ⟨a, b, _, _, rfl, rfl, ha, hb, by simp, .cons same_str .nil⟩
theorem same_way {H : Hp} {n : Nat} {a b c d : Addr} {x : Str} {i : Int} (ha : H a = some (.tup [.str x, .int i, .ref c])) (hb : H b = some (.tup [.str x, .int i, .ref d])) (hc : H c = some (.tup [])) (hd : H d = some (.tup [])) : SameAt H (n + 3) (.ref a) (.ref b) :=
  .inr ⟨a, b, _, _, rfl, rfl, ha, hb, by simp, .cons same_str (.cons (same_int rfl) (.cons (.inr ⟨c, d, _, _, rfl, rfl, hc, hd, by decide, .nil⟩) .nil))⟩
abbrev s_law : Stmt := top 48
theorem sc_law : FnScope ["_law_script", "_law_box", "_law_letters_here", "_law_p", "_law_size", "_law_text_here", "_law_at", "_law_most", "_law_machine", "_law_due"] ["_law_script"] (defScope s_law) := ⟨rfl, rfl, rfl, by decide +kernel, rfl, by decide +kernel, by decide +kernel⟩
theorem ok_law (T : Blt mg) (MT : Txt K mg C) (O_l_letters : Own P w K mg base 2 "_law_letters" ["_law_box"] spLetters) (O_l_take : Own P w K mg base 1 "_law_take" ["_law_box", "_law_many"] spTake) (O_l_leaf : Own P w K mg base 3 "_law_leaf" ["_law_box", "_law_letters_here", "_law_count"] spLeaf1) (O_l_text : Own P w K mg base 2 "_law_text" ["_law_box", "_law_letters_here", "_law_size"] spText) (O_l_alike : Own P w K mg base 7 "_law_alike" ["_law_found", "_law_due"] (spAlk 5)) (O_coded : Own P w K mg base 4 "coded" ["pattern"] spCodedF)
    (O_l_is_there : Own P w K mg base 1 "_law_is_there" ["_law_p", "_law_text_here", "_law_at"] spThere) (O_Machine : OwnC P w K mg base 1 C "Machine" ["self", "rows", "text", "at"] (spInit C)) (O_Machine_moves : OwnM P w K mg base 1 C "moves" ["self"] (spMoves C)) (O_Machine_way : OwnM P w K mg base 6 C "way" ["self", "most"] (spWayE C))
    (F : Fun K "law" "law" s_law f fd) : FnOk P w K mg base CX0 40 f fd ["_law_script"] (spLaw K) := by
  refine F.ok sc_law (fun vs H Q E h => ?_) (fun cdv A outer s H vs Q E hr h => ?_)
  · obtain ⟨a, ns, rfl, _⟩ := h
    rfl
  obtain ⟨a, ns, rfl, hS, h63, q⟩ := h
  refine ⟨_, (pss_cons (ps_set (i := 1) sc_law.nd rfl (by first | exact Or.inl rfl | exact Or.inr rfl) (pe_callTy call_list_of rfl T.b_list PyProof.Rows.Boot.«list» (pa_cons (pv 0) pa_nil)))
    (pss_cons (ps_set (i := 2) sc_law.nd rfl (by first | exact Or.inl rfl | exact Or.inr rfl) (pe_own (O_l_letters.mono (by omega)) hr rfl (pa_cons (pv 1) pa_nil)))
    (pss_cons (ps_set (i := 3) sc_law.nd rfl (by first | exact Or.inl rfl | exact Or.inr rfl) (pe_own (O_l_leaf.mono (by omega)) hr rfl (pa_cons (pv 1) (pa_cons (pv 2) (pa_cons (pe_lst (pa_cons pe_int (pa_cons pe_int pa_nil))) pa_nil)))))
    (pss_cons (ps_set (i := 4) sc_law.nd rfl (by first | exact Or.inl rfl | exact Or.inr rfl) (pe_own (O_l_take.mono (by omega)) hr rfl (pa_cons (pv 1) (pa_cons pe_int pa_nil))))
    (pss_cons (ps_if (pt_cmpR op_eq (pe_own (O_l_take.mono (by omega)) hr rfl (pa_cons (pv 1) (pa_cons pe_int pa_nil))) pe_int (nomark _)) (pss_one (ps_set (i := 4) sc_law.nd rfl (by first | exact Or.inl rfl | exact Or.inr rfl) (pe_own (O_l_take.mono (by omega)) hr rfl (pa_cons (pv 1) (pa_cons pe_int pa_nil))))) pss_nil)
    (pss_cut cut5 (pss_cons (ps_set (i := 5) sc_law.nd rfl (by first | exact Or.inl rfl | exact Or.inr rfl) (pe_own (O_l_text.mono (by omega)) hr rfl (pa_cons (pv 1) (pa_cons (pv 2) (pa_cons (pv 4) pa_nil)))))
    (pss_cons (ps_set (i := 6) sc_law.nd rfl (by first | exact Or.inl rfl | exact Or.inr rfl) (pe_own (O_l_take.mono (by omega)) hr rfl (pa_cons (pv 1) (pa_cons (pe_op op_add (pv 4) pe_int) pa_nil))))
    (pss_cons (ps_if (pt_cmpR op_eq (pe_own (O_l_take.mono (by omega)) hr rfl (pa_cons (pv 1) (pa_cons pe_int pa_nil))) pe_int (nomark _)) (pss_one (ps_set (i := 6) sc_law.nd rfl (by first | exact Or.inl rfl | exact Or.inr rfl) (pv 4))) pss_nil)
    (pss_cut cut8 (pss_cons (ps_set (i := 7) sc_law.nd rfl (by first | exact Or.inl rfl | exact Or.inr rfl) (pe_op op_add pe_int (pe_own (O_l_take.mono (by omega)) hr rfl (pa_cons (pv 1) (pa_cons pe_int pa_nil)))))
    (pss_cons (ps_set (i := 8) sc_law.nd rfl (by first | exact Or.inl rfl | exact Or.inr rfl) (pe_ownc (O_Machine.mono (by omega)) hr rfl (pa_cons (pe_own (O_coded.mono (by omega)) hr rfl (pa_cons (pv 3) pa_nil)) (pa_cons (pv 5) (pa_cons (pv 6) pa_nil)))))
    (pss_cons (ps_if (pt_not (pt_val (pe_own (O_l_alike.mono (by omega)) hr rfl (pa_cons (pe_ownm0 (O_Machine_moves.mono (by omega)) MT.cl hr (pv 8)) (pa_cons pe_int pa_nil))))) (pss_one (ps_ret pe_bl)) pss_nil)
    (pss_cons (ps_if (pt_not (pt_val (pe_own (O_l_is_there.mono (by omega)) hr rfl (pa_cons (pv 3) (pa_cons (pv 5) (pa_cons (pv 6) pa_nil)))))) (pss_one (ps_ret (pe_and (pe_own (O_l_alike.mono (by omega)) hr rfl (pa_cons (pe_ownm (O_Machine_way.mono (by omega)) MT.cl hr (pv 8) (pa_cons (pv 7) pa_nil)) (pa_cons (pe_tup (pa_cons pe_str pa_nil)) pa_nil))) (pe_one (pe_own (O_l_alike.mono (by omega)) hr rfl (pa_cons (pe_ownm0 (O_Machine_moves.mono (by omega)) MT.cl hr (pv 8)) (pa_cons pe_int pa_nil))))))) pss_nil)
    (pss_cons (ps_set (i := 9) sc_law.nd rfl (by first | exact Or.inl rfl | exact Or.inr rfl) (pe_tup (pa_cons pe_str (pa_cons (pe_op op_add (pv 6) (pe_callTy call_int1 rfl T.b_int PyProof.Rows.Boot.«int» (pa_cons (pe_cmpR op_notIn_seq (pe_ix ix_tup (pv 3) pe_int (fun _ _ => rfl)) (pe_tup (pa_cons pe_str (pa_cons pe_str pa_nil))) (by with_unfolding_all rfl)) pa_nil))) (pa_cons (pe_tup pa_nil) pa_nil)))))
    (pss_cons (ps_if (pt_cmpR op_eq (pv 7) pe_int (nomark _)) (pss_one (ps_if (PW.pt (pw_or (pt_not (pt_val (pe_own (O_l_alike.mono (by omega)) hr rfl (pa_cons (pe_ownm (O_Machine_way.mono (by omega)) MT.cl hr (pv 8) (pa_cons pe_int pa_nil)) (pa_cons (pe_tup (pa_cons pe_str pa_nil)) pa_nil))))) (pw_or1 (pt_not (pt_val (pe_own (O_l_alike.mono (by omega)) hr rfl (pa_cons (pe_ownm0 (O_Machine_moves.mono (by omega)) MT.cl hr (pv 8)) (pa_cons pe_int pa_nil)))))))) (pss_one (ps_ret pe_bl)) pss_nil)) pss_nil)
    (pss_cut (cut14 C) (pss_cons (ps_if (PW.pt (pw_or (pt_not (pt_val (pe_own (O_l_alike.mono (by omega)) hr rfl (pa_cons (pe_ownm (O_Machine_way.mono (by omega)) MT.cl hr (pv 8) (pa_cons (pv 7) pa_nil)) (pa_cons (pv 9) pa_nil))))) (pw_or1 (pt_not (pt_val (pe_own (O_l_alike.mono (by omega)) hr rfl (pa_cons (pe_ownm0 (O_Machine_moves.mono (by omega)) MT.cl hr (pv 8)) (pa_cons pe_int pa_nil)))))))) (pss_one (ps_ret pe_bl)) pss_nil)
    (pss_one (ps_ret (pe_and (pe_own (O_l_alike.mono (by omega)) hr rfl (pa_cons (pe_ownm (O_Machine_way.mono (by omega)) MT.cl hr (pv 8) (pa_cons (pv 7) pa_nil)) (pa_cons (pe_tup (pa_cons pe_str pa_nil)) pa_nil))) (pe_one (pe_own (O_l_alike.mono (by omega)) hr rfl (pa_cons (pe_ownm0 (O_Machine_moves.mono (by omega)) MT.cl hr (pv 8)) (pa_cons pe_int pa_nil)))))))) (fun D1 σ1 H1 hcut => ?cut14)))))))) (fun D1 σ1 H1 hcut => ?cut8))))) (fun D1 σ1 H1 hcut => ?cut5))))))), ?_⟩
  case cut5 =>
    obtain ⟨hq, s, b, l, v, h, n, rfl, hb, hl, hp, hok, h0, h1⟩ := hcut
    have bl : b ≠ l := hb.ne_let hl
    have lS : l ∉ [b] := by simpa using Ne.symm bl
    refine ⟨_, rfl, _, rfl, _, rfl, b, l, n, rfl, hb, hl, h0, by omega, fun t H2 ht hb2 g2 => ?_⟩
    refine ⟨_, rfl, _, rfl, _, _, rfl, rfl, b, n + 1, rfl, hb2, by omega, by omega, fun i H3 hi0 hi1 hb3 g3 => ?_⟩
    have hp3 := hp.mono fun c d h => g3.tups _ _ (g2.tups _ _ h)
    refine ⟨_, rfl, b, 4, rfl, hb3, by decide, by decide, fun r H4 _ _ hb4 g4 => ⟨rfl, _, rfl, ite2 (fun _ => ?_) (fun _ => ?_)⟩⟩
    · exact ⟨_, rfl, hq, s, _, _, b, v, h, t, n, rfl, hb4, hp3.mono g4.tups, hok, by omega, h0, by omega⟩
    · exact ⟨hq, s, _, _, b, v, h, t, i, rfl, hb4, hp3.mono g4.tups, hok, by omega, hi0, by omega⟩
  case cut8 =>
    obtain ⟨hq, s, n, l, b, v, h, t, i, rfl, hb, hp, hok, ht, hi0, hi1⟩ := hcut
    refine ⟨_, rfl, b, 4, rfl, hb, by decide, by decide, fun k H2 hk0 hk1 hb2 g2 => ⟨_, _, rfl, rfl, ?_⟩⟩
    have hp2 := hp.mono g2.tups
    have hlf := ok_leafy hok
    refine ⟨_, rfl, v, [h], rfl, .inl ⟨h, rfl, hp2, hlf⟩, fun ra ys H3 hra hys0 g3 => ?_⟩
    have hys : Paired (RowAt H3) ys ((ezs h).map Ez.rw) := hys0
    have hyl := Paired.length hys
    refine ⟨_, rfl, _, rfl, fun m dx hm hdx hne => ?_⟩
    have g4 : Gro [] H3 (upd (upd H3 dx (.own m)) m (.ins C dx [])) := (Gro.new hdx _).trans (Gro.new (by rw [upd_ne (Ne.symm hne)]; exact hm) _)
    have e4 : (upd (upd H3 dx (.own m)) m (.ins C dx [])) m = some (.ins C dx []) := upd_same
    generalize upd (upd H3 dx (.own m)) m (.ins C dx []) = H4 at *
    refine ⟨m, dx, ra, t, i, ys, _, rfl, e4, g4.tups _ _ hra, rows_mono g4.tups hys, by rw [hyl]; simp, ?_, by show (0 : Int) ≤ 0; decide, by show (0 : Int) ≤ 1000; decide, fun c g H5 _ hM5 hg5 g5 => ⟨rfl, ?_⟩⟩
    · intro r hr
      rcases List.mem_cons.mp hr with rfl | hr
      · trivial
      · rw [List.mem_singleton.mp hr]
        exact ⟨_, _, rfl, fun z => absurd z (by decide +kernel)⟩
    have hg5' : H5 g = some (.tup []) := hg5
    have t5 : ∀ c d, H3 c = some (.tup d) → H5 c = some (.tup d) := fun c d h => g5.tups _ _ (g4.tups _ _ h)
    have hra5 := t5 _ _ hra
    have hys5 := rows_mono t5 hys
    have hp5 := hp2.mono fun c d h => t5 _ _ (g3.tups _ _ h)
    obtain ⟨⟨dx5, e5⟩, _⟩ := id hM5
    refine ⟨_, rfl, m, dx5, _, rfl, e5, no_moves _, m, _, rfl, hM5, _, _, rfl, same_int rfl, _, rfl, ite_no (by decide) ?_⟩
    obtain ⟨a, kv, rfl, lay, hk⟩ := id hp5
    refine ⟨_, rfl, _, rfl, _, rfl, a, h, t, i, rfl, hp5, hok, hi0, hi1, ht, fun H6 g6 => ?_⟩
    have hM6 := hM5.gro g6 (by simp) (by simp)
    obtain ⟨⟨dx6, e6⟩, _⟩ := id hM6
    have hg6 := g6.tups _ _ hg5'
    have hra6 := g6.tups _ _ hra5
    have hys6 := rows_mono g6.tups hys5
    have oks : ∀ e ∈ ezs h, e.ok := fun e he => by
      rcases List.mem_cons.mp he with rfl | he
      · exact hok
      · rw [List.mem_singleton.mp he]; trivial
    have st := act_there (ra := ra) (c := c) (t := t) (i := i) (g := V.ref g) hok
    refine ⟨_, rfl, ite2 (fun z => ?_) (fun z => ?_)⟩
    · have hth : there h t i = false := by simpa using z
      rw [if_neg (by rw [hth]; decide)] at st
      refine ⟨_, rfl, m, dx6, _, rfl, e6, no_way _, _, rfl, m, ra, 1 + k, _, ezs h, ys, 1, rfl, hM6, by omega, Nat.zero_le _, rfl, hra6, hys6, oks, by omega, fun j hj => ?_, ?_⟩
      · rw [show j = 0 by omega]
        exact live0 ht hi0
      · rw [fr0, st]
        refine .inr (.inl ⟨rfl, rfl, fun H7 t7 hM7 g7 ht7 => ⟨sz, fun t8 ht8 => ?_⟩⟩)
        have hM8 := hM7.new (o := .tup [.str "none"]) ht8
        have e8 := (Gro.new (S := []) ht8 (.tup [.str "none"])).tups _ _ ht7
        obtain ⟨⟨dx8, f8⟩, _⟩ := id hM8
        refine ⟨_, _, rfl, same_1 e8 upd_same, _, rfl, ite_yes (by decide) ?_⟩
        exact ⟨_, rfl, m, dx8, _, rfl, f8, no_moves _, m, _, rfl, hM8, _, _, rfl, same_int rfl, hq _⟩
    have hth : there h t i = true := by simpa using z
    rw [if_pos hth] at st
    have hp6 := hp5.mono g6.tups
    obtain ⟨a', kv, e', lay, hk⟩ := id hp6
    cases e'
    obtain ⟨r0, ea⟩ := lay.head
    refine ⟨_, rfl, _, rfl, a, _, _, _, rfl, rfl, SqT.of ea, at0, sz, fun t7 ht7 => ⟨t7, _, rfl, .inr (SqT.of upd_same), rfl, rfl, .inr ⟨_, rfl, _, _, rfl, rfl, sz, fun t8 ht8 => ⟨sz, fun t9 ht9 => ?_⟩⟩⟩⟩
    rw [far0 hok]
    have gA : Gro [] H6 (upd (upd (upd H6 t7 (.tup [.str "begin", .str "end"])) t8 (.tup [])) t9 (.tup [.str "way", .int (i + far h), .ref t8])) := ((Gro.new ht7 _).tup ht8).tup ht9
    have eA : (upd (upd (upd H6 t7 (.tup [.str "begin", .str "end"])) t8 (.tup [])) t9 (.tup [.str "way", .int (i + far h), .ref t8])) t9 = some (.tup [.str "way", .int (i + far h), .ref t8]) := upd_same
    have fA : (upd (upd (upd H6 t7 (.tup [.str "begin", .str "end"])) t8 (.tup [])) t9 (.tup [.str "way", .int (i + far h), .ref t8])) t8 = some (.tup []) := by rw [upd_ne (ne_of_none upd_same ht9)]; exact upd_same
    generalize upd (upd (upd H6 t7 (.tup [.str "begin", .str "end"])) t8 (.tup [])) t9 (.tup [.str "way", .int (i + far h), .ref t8]) = HA at *
    have hMA := hM6.gro gA (by simp) (by simp)
    obtain ⟨⟨dxA, oA⟩, _⟩ := id hMA
    have hgA := gA.tups _ _ hg6
    have hraA := gA.tups _ _ hra6
    have hysA := rows_mono gA.tups hys6
    refine ⟨_, rfl, rfl, _, rfl, ite2 (fun z1 => ?_) (fun z1 => ?_)⟩
    · have hk1 : 1 + k = 1 := by
        have : V.int (1 + k) = V.int 1 := of_decide_eq_true z1
        injection this
      refine ⟨_, rfl, m, dxA, _, rfl, oA, no_way _, m, ra, 1, _, ezs h, ys, 1, rfl, hMA, by decide, Nat.zero_le _, rfl, hraA, hysA, oks, by decide, fun j hj => ?_, ?_⟩
      · rw [show j = 0 by omega]
        exact live0 ht hi0
      · rw [fr0, st]
        refine .inr (.inr ⟨rfl, rfl, rfl, fun HB tB hMB gB htB => ⟨sz, fun tC htC => ?_⟩⟩)
        have gC := Gro.new (S := []) htC (.tup [.str "over"])
        have hMC := hMB.new (o := .tup [.str "over"]) htC
        have eC := gC.tups _ _ htB
        obtain ⟨⟨dxC, fC⟩, _⟩ := id hMC
        refine ⟨_, _, rfl, same_1 eC upd_same, _, rfl, ite_no (by decide) ?_⟩
        refine ⟨_, rfl, m, dxC, _, rfl, fC, no_moves _, m, _, rfl, hMC, _, _, rfl, same_int rfl, _, rfl, ite_no (by decide) ?_⟩
        have tt : ∀ c d, HA c = some (.tup d) → (upd HB tC (.tup [.str "over"])) c = some (.tup d) := fun c d h => gC.tups _ _ (gB.tups _ _ h)
        exact ⟨hq, _, _, _, _, _, _, _, h, t, i, 1 + k, m, ra, t9, t8, c, g, ys, _, rfl, hMC, tt _ _ hraA, rows_mono tt hysA, hok, hth, ht, hi0, hi1, .inr ⟨rfl, hk1⟩, tt _ _ hgA, tt _ _ eA, tt _ _ fA⟩
    · have hk1 : ¬ 1 + k = 1 := fun e => z1 (decide_eq_true (congrArg V.int e))
      exact ⟨hq, _, _, _, _, _, _, _, h, t, i, 1 + k, m, ra, t9, t8, c, g, ys, _, rfl, hMA, hraA, hysA, hok, hth, ht, hi0, hi1, .inl ⟨rfl, by omega⟩, hgA, eA, fA⟩
  case cut14 =>
    obtain ⟨hq, s, n, l, b, v, t', i', h, t, i, most, m, ra, d, e, c, g, ys, M, rfl, hM, hra, hys, hok, hth, ht, hi0, hi1, hcase, hg, hd, he⟩ := hcut
    have oks : ∀ e ∈ ezs h, e.ok := fun e he => by
      rcases List.mem_cons.mp he with rfl | he
      · exact hok
      · rw [List.mem_singleton.mp he]; trivial
    have st := act_there (ra := ra) (c := c) (t := t) (i := i) (g := V.ref g) hok
    rw [if_pos hth] at st
    obtain ⟨⟨dx, e1⟩, _⟩ := id hM
    have key : ∃ k : Nat, 1 ≤ k ∧ (k : Int) ≤ most ∧ M.cs.length ≤ 1000000 ∧ M.s.rows = .ref ra ∧ M.s.choices = c ∧ (∀ j, j < k → Live (ezs h) (its (ezs h) j M.fresh)) ∧ its (ezs h) k M.fresh = ms2 h ra t i (.ref g) c := by
      rcases hcase with ⟨rfl, h2⟩ | ⟨rfl, h2⟩
      · refine ⟨2, by decide, by omega, Nat.zero_le _, rfl, rfl, fun j hj => ?_, ?_⟩
        · rw [fr0]
          rcases (show j = 0 ∨ j = 1 by omega) with rfl | rfl
          · exact live0 ht hi0
          · rw [st]; exact live1 ht hi0
        · rw [fr0, its_add _ 1 1, st, to2]
      · refine ⟨1, by decide, by omega, Nat.zero_le _, rfl, rfl, fun j hj => ?_, ?_⟩
        · rw [fr1, show j = 0 by omega]; exact live1 ht hi0
        · rw [fr1, to2]
    obtain ⟨k, hk1, hkm, hcs, hrows, hch, hlive, hlast⟩ := key
    have hm1 : 1 ≤ most := by omega
    refine ⟨_, rfl, m, dx, _, rfl, e1, no_way _, _, rfl, m, ra, most, M, ezs h, ys, k, rfl, hM, hm1, hcs, hrows, hra, hys, oks, hkm, hlive, ?_⟩
    rw [hlast]
    refine .inl ⟨rfl, hk1, fun H2 t2 hM2 g2 ht2 => ?_⟩
    obtain ⟨⟨dx2, e2⟩, _⟩ := id hM2
    refine ⟨_, rfl, _, _, rfl, same_way ht2 (g2.tups _ _ hd) (g2.tups _ _ hg) (g2.tups _ _ he), _, rfl, ite_no (by decide) ?_⟩
    refine ⟨_, rfl, m, dx2, _, rfl, e2, no_moves _, m, _, rfl, hM2, _, _, rfl, same_int rfl, _, rfl, ite_no (by decide) ?_⟩
    refine ⟨_, rfl, m, dx2, _, rfl, e2, no_way _, _, rfl, m, ra, most, _, ezs h, ys, 0, rfl, hM2, hm1, Nat.zero_le _, rfl, g2.tups _ _ hra, rows_mono g2.tups hys, oks, by omega, fun j hj => absurd hj (by omega), ?_⟩
    refine .inr (.inl ⟨rfl, rfl, fun H3 t3 hM3 g3 ht3 => ⟨sz, fun t4 ht4 => ?_⟩⟩)
    have hM4 := hM3.new (o := .tup [.str "none"]) ht4
    have e4 := (Gro.new (S := []) ht4 (.tup [.str "none"])).tups _ _ ht3
    obtain ⟨⟨dx4, f4⟩, _⟩ := id hM4
    refine ⟨_, _, rfl, same_1 e4 upd_same, _, rfl, ite_yes (by decide) ?_⟩
    exact ⟨_, rfl, m, dx4, _, rfl, f4, no_moves _, m, _, rfl, hM4, _, _, rfl, same_int rfl, hq _⟩
  refine ⟨_, rfl, a, _, rfl, .inl hS, fun b hb => ?_⟩
  refine ⟨_, rfl, b, rfl, ⟨ns, upd_same, h63⟩, fun l H1 hb1 hl1 g1 => ?_⟩
  have bl : b ≠ l := hb1.ne_let hl1
  have lS : l ∉ [b] := by simpa using Ne.symm bl
  refine ⟨_, rfl, _, rfl, sz, fun c hc => ?_⟩
  refine ⟨b, l, c, 1, rfl, hb1.new hc, hl1.new hc, upd_same, ne_of_none hb1.choose_spec.1 hc, fun v h H2 hb2 hp2 hok g2 => ?_⟩
  have l2 : LetAt H2 l := (hl1.new hc).gro g2 lS
  refine ⟨_, rfl, b, 9, rfl, hb2, by decide, by decide, fun n H3 hn0 hn1 hb3 g3 => ?_⟩
  refine ⟨_, rfl, b, 4, rfl, hb3, by decide, by decide, fun r H4 _ _ hb4 g4 => ⟨rfl, _, rfl, ite2 (fun _ => ?_) (fun _ => ?_)⟩⟩
  · refine ⟨_, rfl, b, 200, rfl, hb4, by decide, by decide, fun n' H5 hn0' hn1' hb5 g5 => ?_⟩
    have g25 := (g3.trans g4).trans g5
    exact ⟨q, _, b, l, v, h, n', rfl, hb5, l2.gro g25 lS, hp2.mono g25.tups, hok, hn0', by omega⟩
  · have g24 := g3.trans g4
    exact ⟨q, _, b, l, v, h, n, rfl, hb4, l2.gro g24 lS, hp2.mono g24.tups, hok, hn0, by omega⟩
end
end Seek

set_option maxRecDepth 100000
set_option maxHeartbeats 4000000
namespace Seek
open PySem PySem.Spec PyProof.Rows L2
section
variable {K : PySem.W.Frag} {mg : Str → Option Value} {h : Heap}
theorem def_mk {x : Str} {st : Stmt} {ps : List Str} {f : Addr} {oc : Value} {od an : Option Addr} {osl : Array (Option Value)} {kV doc pm cdv ct : Value} (X : K.In h) (G : h.Ns mainGlobals mg) (a : PySem.W.nsIn K mainGlobals x = some (some (.ref f)))
    (l : K.lookup f = some ⟨oc, od, .func (PySem.W.fnOf x x (defArgs st) (defBody st) (defScope st) .none kV doc pm an cdv ct), osl⟩) (c : PySem.W.codeIn K cdv x = true) (k : PySem.W.keepIn K (.ref f) = true)
    (hb : ∀ (kV doc pm : Value) (an : Option Addr) (cdv ct : Value) (us : List Value), us.length = ps.length → bindArgs (PySem.W.fnOf x x (defArgs st) (defBody st) (defScope st) .none kV doc pm an cdv ct) ⟨us, []⟩ = pure (ps.zip us)) : Def K mg x st ps :=
  ⟨f, _, fun_mk (st := st) l c k, PySem.W.mg_of X G a, (fun_mk (st := st) l c k).binds hb⟩
theorem const_mk7 {x : Str} {pl : Addr} {od : Option Addr} {n : Nat} {sl : Array (Option Value)} {x1 x2 x3 x4 x5 x6 x7 : Str} {t1 t2 t3 t4 t5 t6 t7 : Tok} (X : K.In h) (G : h.Ns mainGlobals mg) (a : PySem.W.nsIn K mainGlobals x = some (some (.ref pl))) (l : K.lookup pl = some ⟨.type "tuple", od, .seq #[.str x1 t1, .str x2 t2, .str x3 t3, .str x4 t4, .str x5 t5, .str x6 t6, .str x7 t7] n, sl⟩) :
    ∃ pl, mg x = some (.ref pl) ∧ ∀ H, SqT K H pl [.str x1, .str x2, .str x3, .str x4, .str x5, .str x6, .str x7] := ⟨pl, PySem.W.mg_of X G a, fun H => .inr ⟨_, _, n, l, rfl, rfl, sz, (.cons ⟨_, rfl⟩ (.cons ⟨_, rfl⟩ (.cons ⟨_, rfl⟩ (.cons ⟨_, rfl⟩ (.cons ⟨_, rfl⟩ (.cons ⟨_, rfl⟩ (.cons ⟨_, rfl⟩ .nil)))))))⟩⟩
theorem own_rec {P : Program} {w : World} {base : Heap} {x : Str} {st : Stmt} {ps : List Str} {sp : Nat → Sp} (D : Def K mg x st ps) (no : ∀ vs H Q E, ¬ sp 0 vs H Q E) (step : ∀ n f fd, Own P w K mg base (2 + n) x ps (sp n) → Fun K x x st f fd → FnOk P w K mg base CX0 (2 + n + 1) f fd ps (sp (n + 1))) :
    ∀ n, Own P w K mg base (2 + n) x ps (sp n)
  | 0 => D.own fun f fd F => FnOk.never no
  | n + 1 => D.own fun f fd F => step n f fd (own_rec D no step n) F
theorem top_mk {l : PySem.W.OpenLaw} {w : World} {fa f : Addr} {oc : Value} {od an : Option Addr} {osl : Array (Option Value)} {kV doc pm cdv ct : Value} (X : K.In h) (G : h.Ns mainGlobals mg) (hfa : mg "law" = some (.ref fa)) (a : PySem.W.nsIn K mainGlobals "law" = some (some (.ref f)))
    (lk : K.lookup f = some ⟨oc, od, .func (PySem.W.fnOf "law" "law" (defArgs s_law) (defBody s_law) (defScope s_law) .none kV doc pm an cdv ct), osl⟩) (c : PySem.W.codeIn K cdv "law" = true) (k : PySem.W.keepIn K (.ref f) = true)
    (rest : ∀ (base : Heap) (f : Addr) (fd : FuncData), Fun K "law" "law" s_law f fd → FnOk l.prog w K mg base CX0 40 f fd ["_law_script"] (spLaw K)) :
    ∃ fd : FuncData, (∀ (s : Shared) (v : Value), BindsTo s fd ⟨[v], []⟩ [("_law_script", v)]) ∧ ∀ base : Heap, K.In base → base.Ns mainGlobals mg → FnOk l.prog w K mg base CX0 40 fa fd ["_law_script"] (spLaw K) := by
  have e := hfa.symm.trans (PySem.W.mg_of X G a)
  cases e
  exact ⟨PySem.W.fnOf "law" "law" (defArgs s_law) (defBody s_law) (defScope s_law) .none kV doc pm an cdv ct, fun s v => .of_eq rfl, fun base _ _ => rest base _ _ (fun_mk (st := s_law) lk c k)⟩
theorem law_of {P : Program} {w : World} {it C dn : Addr} {ds : List (Key × V)} (T : Blt mg) (c_ITSELF : mg "ITSELF" = some (.ref it)) (hIT : ∀ H, SqT K H it itself)
    (p0 : Def K mg "coded" s_coded ["pattern"]) (p1 : Def K mg "put" s_put ["rows", "pattern"]) (p3 : Def K mg "put_or" s_put_or ["rows", "branches"]) (p4 : Def K mg "put_times" s_put_times ["rows", "low", "high", "how", "part"]) (p5 : Def K mg "put_have" s_put_have ["rows", "number", "yes", "no"]) (p6 : Def K mg "put_look" s_put_look ["rows", "kind", "part"])
    (p7 : Def K mg "takes_sign" s_takes_sign ["row", "text", "at"]) (p8 : Def K mg "lies_in" s_lies_in ["runs", "sign"]) (MD : MachDefs K mg C) (c_DOINGS : mg "DOINGS" = some (.ref dn)) (hDN : DcK K w dn ds) (DD : Doings K ds)
    (e1 : Def K mg "_law_take" s_l_take ["_law_box", "_law_many"]) (e2 : Def K mg "_law_sign" s_l_sign ["_law_cell"]) (e3 : Def K mg "_law_letters" s_l_letters ["_law_box"]) (e4 : Def K mg "_law_runs" s_l_runs ["_law_box", "_law_letters_here"]) (e5 : Def K mg "_law_leaf" s_l_leaf ["_law_box", "_law_letters_here", "_law_count"]) (e6 : Def K mg "_law_text" s_l_text ["_law_box", "_law_letters_here", "_law_size"]) (e7 : Def K mg "_law_is_there" s_l_is_there ["_law_p", "_law_text_here", "_law_at"])
    (d7 : Def K mg "_law_alike" s_l_alike ["_law_found", "_law_due"]) (base : Heap) (f : Addr) (fd : FuncData) (F : Fun K "law" "law" s_law f fd) : FnOk P w K mg base CX0 40 f fd ["_law_script"] (spLaw K) := by
  have noA : ∀ vs H Q E, ¬ spAlk 0 vs H Q E := fun vs H Q E ⟨x, y, _, hp, _⟩ => hp.elim
  have al := own_rec (P := P) (w := w) (base := base) (sp := spAlk) d7 noA (fun n f fd O F => ok_alk T O F) 5
  have co := own_codedF (P := P) (w := w) (base := base) T c_ITSELF hIT p0 p1 p3 p4 p5 p6
  have ta : Own P w K mg base 1 "_law_take" ["_law_box", "_law_many"] spTake := e1.own fun _ _ F => ok_take F
  have si : Own P w K mg base 1 "_law_sign" ["_law_cell"] spSign := e2.own fun _ _ F => ok_sign F
  have le : Own P w K mg base 2 "_law_letters" ["_law_box"] spLetters := e3.own fun _ _ F => ok_letters T ta si F
  have ru : Own P w K mg base 2 "_law_runs" ["_law_box", "_law_letters_here"] spRuns := e4.own fun _ _ F => ok_runs T ta F
  have lf : Own P w K mg base 3 "_law_leaf" ["_law_box", "_law_letters_here", "_law_count"] spLeaf1 := e5.own fun _ _ F => ok_leaf1 T ta ru F
  have tx : Own P w K mg base 2 "_law_text" ["_law_box", "_law_letters_here", "_law_size"] spText := e6.own fun _ _ F => ok_text T ta F
  have th : Own P w K mg base 1 "_law_is_there" ["_law_p", "_law_text_here", "_law_at"] spThere := e7.own fun _ _ F => ok_there T F
  exact ok_law T MD.tx le ta lf tx al co th (own_init T MD) (own_moves MD) (own_way T MD c_DOINGS hDN DD p7 p8) F
end
theorem walk {l : PySem.W.OpenLaw} {q : Program} {loose : List Str} {XP : (Str → Option Value) → Heap → Prop} {YP : World → Heap → Prop} {d : DefRec} {K : Params → PySem.W.Frag} (hn : l.most = some 63) (hdf : d.params.defaults = [])
    (hY : ∀ (w : World) (h : Heap), YP w h → (K w.params).In h)
    (F : ∀ (w : World) (mg : Str → Option Value) (fa : Addr) (h : Heap), (K w.params).In h → h.Ns mainGlobals mg → mg d.name = some (.ref fa) →
      ∃ fd : FuncData, (∀ (s : Shared) (u : Value), BindsTo s fd ⟨[u], []⟩ [("_law_script", u)]) ∧ ∀ base : Heap, (K w.params).In base → base.Ns mainGlobals mg → FnOk l.prog w (K w.params) mg base CX0 40 fa fd ["_law_script"] (spLaw (K w.params))) :
    PySem.W.WalkO q loose XP YP l.row.toRowW d [] (fun f vs => PySem.call f vs) :=
  L2.walk_of (n := 63) (k := 40) (x := "_law_script") (CX := fun _ => CX0) (sp := fun w => spLaw (K w.params)) hn (by decide) hdf ⟨rfl, by decide, by decide⟩ hY F (fun _ _ a ns hl _ hS => ⟨a, ns, rfl, hS, hl, fun _ => rfl⟩) fun _ _ _ _ _ z => z
end Seek
def PySem.W.Fast.tw9062352217761903081 : Nat := 0
theorem PySem.W.Fast.te9062352217761903081 : True := trivial
open PySem PySem.W PyProof.Rows
set_option maxRecDepth 100000 in
set_option maxHeartbeats 0 in
theorem PySem.Challenge.cw_seek_k07_one_sign_holds : PySem.Challenge.rw_seek_k07_one_sign.Holds := by
  w_on; o_law; k_head; (case hw => w_witness2)
  k_fill
  refine Seek.walk (l := PySem.Challenge.rw_seek_k07_one_sign) rfl rfl (fun w h Y => PySem.W.kIn_of Y) ?F
  case F =>
    intro w mg fa h KX G hmg
    have z : ∀ {x : Str} {K : PySem.W.Frag}, K.In h → PySem.W.nsIn K mainGlobals x = some none → mg x = none := fun X e => PySem.W.mg_none_of X G e
    have T : Seek.Blt mg := by
      refine' ⟨z KX ?b1, z KX ?b2, z KX ?b3, z KX ?b4, z KX ?b5, z KX ?b6, z KX ?b7, z KX ?b8, z KX ?b9, z KX ?b10, z KX ?b11, z KX ?b12, z KX ?b13⟩
      (case b1 => k_is); (case b2 => k_is); (case b3 => k_is); (case b4 => k_is); (case b5 => k_is); (case b6 => k_is); (case b7 => k_is); (case b8 => k_is); (case b9 => k_is); (case b10 => k_is); (case b11 => k_is); (case b12 => k_is); (case b13 => k_is)
    have mc : ∃ C, Seek.MachDefs (L2.KOf KX) mg C := by
      dsimp only [L2.KOf]
      exact (by
      refine' ⟨_, ⟨PySem.W.mg_of KX G ?aC, Seek.txt_mk ?pg ?hd ?po ?sa ?na1 ?na2 ?na3 ?na4 ?na5 ?na6 ?na7 ?na8 ?na9 ?na10, ?mk, ?kc, Seek.mdef_mk (m := "__init__") (qual := "Machine.__init__") (st := Seek.s_Machine___init__) (ps := ["self", "rows", "text", "at"]) ?m0a ?m0i ?m0l ?m0c ?m0k (fun _ _ _ _ _ _ us hl => match us, hl with | [_, _, _, _], _ => rfl), Seek.mdef_mk (m := "way") (qual := "Machine.way") (st := Seek.s_Machine_way) (ps := ["self", "most"]) ?m1a ?m1i ?m1l ?m1c ?m1k (fun _ _ _ _ _ _ us hl => match us, hl with | [_, _], _ => rfl), Seek.mdef_mk (m := "moves") (qual := "Machine.moves") (st := Seek.s_Machine_moves) (ps := ["self"]) ?m2a ?m2i ?m2l ?m2c ?m2k (fun _ _ _ _ _ _ us hl => match us, hl with | [_], _ => rfl), Seek.mdef_mk (m := "move") (qual := "Machine.move") (st := Seek.s_Machine_move) (ps := ["self"]) ?m3a ?m3i ?m3l ?m3c ?m3k (fun _ _ _ _ _ _ us hl => match us, hl with | [_], _ => rfl), Seek.mdef_mk (m := "enter") (qual := "Machine.enter") (st := Seek.s_Machine_enter) (ps := ["self", "state"]) ?m4a ?m4i ?m4l ?m4c ?m4k (fun _ _ _ _ _ _ us hl => match us, hl with | [_, _], _ => rfl), Seek.mdef_mk (m := "go_back") (qual := "Machine.go_back") (st := Seek.s_Machine_go_back) (ps := ["self"]) ?m5a ?m5i ?m5l ?m5c ?m5k (fun _ _ _ _ _ _ us hl => match us, hl with | [_], _ => rfl)⟩⟩
      (case aC => k_is); (case pg => k_is); (case hd => k_is); (case po => k_is); (case sa => k_is); (case na1 => k_is); (case na2 => k_is); (case na3 => k_is); (case na4 => k_is); (case na5 => k_is); (case na6 => k_is); (case na7 => k_is); (case na8 => k_is); (case na9 => k_is); (case na10 => k_is); (case mk => k_is); (case kc => k_is); (case m0a => k_is); (case m0i => k_is); (case m0l => k_is); (case m0c => k_is); (case m0k => k_is); (case m1a => k_is); (case m1i => k_is); (case m1l => k_is); (case m1c => k_is); (case m1k => k_is); (case m2a => k_is); (case m2i => k_is); (case m2l => k_is); (case m2c => k_is); (case m2k => k_is); (case m3a => k_is); (case m3i => k_is); (case m3l => k_is); (case m3c => k_is); (case m3k => k_is); (case m4a => k_is); (case m4i => k_is); (case m4l => k_is); (case m4c => k_is); (case m4k => k_is); (case m5a => k_is); (case m5i => k_is); (case m5l => k_is); (case m5c => k_is); (case m5k => k_is))
    have dc : ∃ dn ds, mg "DOINGS" = some (.ref dn) ∧ L2.DcK (L2.KOf KX) w dn ds ∧ Seek.Doings (L2.KOf KX) ds := by
      dsimp only [L2.KOf]
      exact (by
      refine' ⟨_, _, PySem.W.mg_of KX G ?da, L2.dcK_of ?dl ?dd ?dp ?dn, ?dq⟩
      (case da => k_is); (case dl => k_is); (case dd => decide); (case dp => exact .cons (Seek.dent_ref rfl) (.cons (Seek.dent_ref rfl) (.cons (Seek.dent_ref rfl) (.cons (Seek.dent_ref rfl) (.cons (Seek.dent_ref rfl) (.cons (Seek.dent_ref rfl) (.cons (Seek.dent_ref rfl) (.cons (Seek.dent_ref rfl) (.cons (Seek.dent_ref rfl) (.cons (Seek.dent_ref rfl) (.cons (Seek.dent_ref rfl) (.cons (Seek.dent_ref rfl) (.cons (Seek.dent_ref rfl) (.cons (Seek.dent_ref rfl) (.cons (Seek.dent_ref rfl) (.cons (Seek.dent_ref rfl) (.cons (Seek.dent_ref rfl) (.cons (Seek.dent_ref rfl) (.cons (Seek.dent_ref rfl) (.cons (Seek.dent_ref rfl) (.cons (Seek.dent_ref rfl) (.cons (Seek.dent_ref rfl) (.cons (Seek.dent_ref rfl) (.nil)))))))))))))))))))))))); (case dn => decide +kernel)
      refine' ⟨?w1, ?w2, ?w3, ?w4, ?w5, ?w6, ?w7, ?w8, ?w9⟩
      (case w1 => refine' Seek.dn_mk (x := "do_sign") (st := Seek.s_do_sign) (ps := ["machine", "row"]) ?v ?l ?c ?k (fun _ _ _ _ _ _ us hl => match us, hl with | [_, _], _ => rfl); (case v => with_unfolding_all rfl); (case l => k_is); (case c => k_is); (case k => k_is))
      (case w2 => refine' Seek.dn_mk (x := "do_sign") (st := Seek.s_do_sign) (ps := ["machine", "row"]) ?v ?l ?c ?k (fun _ _ _ _ _ _ us hl => match us, hl with | [_, _], _ => rfl); (case v => with_unfolding_all rfl); (case l => k_is); (case c => k_is); (case k => k_is))
      (case w3 => refine' Seek.dn_mk (x := "do_sign") (st := Seek.s_do_sign) (ps := ["machine", "row"]) ?v ?l ?c ?k (fun _ _ _ _ _ _ us hl => match us, hl with | [_, _], _ => rfl); (case v => with_unfolding_all rfl); (case l => k_is); (case c => k_is); (case k => k_is))
      (case w4 => refine' Seek.dn_mk (x := "do_sign") (st := Seek.s_do_sign) (ps := ["machine", "row"]) ?v ?l ?c ?k (fun _ _ _ _ _ _ us hl => match us, hl with | [_, _], _ => rfl); (case v => with_unfolding_all rfl); (case l => k_is); (case c => k_is); (case k => k_is))
      (case w5 => refine' Seek.dn_mk (x := "do_begin") (st := Seek.s_do_begin) (ps := ["machine", "row"]) ?v ?l ?c ?k (fun _ _ _ _ _ _ us hl => match us, hl with | [_, _], _ => rfl); (case v => with_unfolding_all rfl); (case l => k_is); (case c => k_is); (case k => k_is))
      (case w6 => refine' Seek.dn_mk (x := "do_end") (st := Seek.s_do_end) (ps := ["machine", "row"]) ?v ?l ?c ?k (fun _ _ _ _ _ _ us hl => match us, hl with | [_, _], _ => rfl); (case v => with_unfolding_all rfl); (case l => k_is); (case c => k_is); (case k => k_is))
      (case w7 => refine' Seek.dn_mk (x := "do_try") (st := Seek.s_do_try) (ps := ["machine", "row"]) ?v ?l ?c ?k (fun _ _ _ _ _ _ us hl => match us, hl with | [_, _], _ => rfl); (case v => with_unfolding_all rfl); (case l => k_is); (case c => k_is); (case k => k_is))
      (case w8 => refine' Seek.dn_mk (x := "do_go") (st := Seek.s_do_go) (ps := ["machine", "row"]) ?v ?l ?c ?k (fun _ _ _ _ _ _ us hl => match us, hl with | [_, _], _ => rfl); (case v => with_unfolding_all rfl); (case l => k_is); (case c => k_is); (case k => k_is))
      (case w9 => refine' Seek.dn_mk (x := "do_found") (st := Seek.s_do_found) (ps := ["machine", "row"]) ?v ?l ?c ?k (fun _ _ _ _ _ _ us hl => match us, hl with | [_, _], _ => rfl); (case v => with_unfolding_all rfl); (case l => k_is); (case c => k_is); (case k => k_is)))
    have p0 := (by
      refine' Seek.def_mk (x := "coded") (st := Seek.s_coded) (ps := ["pattern"]) KX G ?a ?l ?c ?k (fun _ _ _ _ _ _ us hl => match us, hl with | [_], _ => rfl)
      (case a => k_is); (case l => k_is); (case c => k_is); (case k => k_is))
    have p1 := (by
      refine' Seek.def_mk (x := "put") (st := Seek.s_put) (ps := ["rows", "pattern"]) KX G ?a ?l ?c ?k (fun _ _ _ _ _ _ us hl => match us, hl with | [_, _], _ => rfl)
      (case a => k_is); (case l => k_is); (case c => k_is); (case k => k_is))
    have p3 := (by
      refine' Seek.def_mk (x := "put_or") (st := Seek.s_put_or) (ps := ["rows", "branches"]) KX G ?a ?l ?c ?k (fun _ _ _ _ _ _ us hl => match us, hl with | [_, _], _ => rfl)
      (case a => k_is); (case l => k_is); (case c => k_is); (case k => k_is))
    have p4 := (by
      refine' Seek.def_mk (x := "put_times") (st := Seek.s_put_times) (ps := ["rows", "low", "high", "how", "part"]) KX G ?a ?l ?c ?k (fun _ _ _ _ _ _ us hl => match us, hl with | [_, _, _, _, _], _ => rfl)
      (case a => k_is); (case l => k_is); (case c => k_is); (case k => k_is))
    have p5 := (by
      refine' Seek.def_mk (x := "put_have") (st := Seek.s_put_have) (ps := ["rows", "number", "yes", "no"]) KX G ?a ?l ?c ?k (fun _ _ _ _ _ _ us hl => match us, hl with | [_, _, _, _], _ => rfl)
      (case a => k_is); (case l => k_is); (case c => k_is); (case k => k_is))
    have p6 := (by
      refine' Seek.def_mk (x := "put_look") (st := Seek.s_put_look) (ps := ["rows", "kind", "part"]) KX G ?a ?l ?c ?k (fun _ _ _ _ _ _ us hl => match us, hl with | [_, _, _], _ => rfl)
      (case a => k_is); (case l => k_is); (case c => k_is); (case k => k_is))
    have p7 := (by
      refine' Seek.def_mk (x := "takes_sign") (st := Seek.s_takes_sign) (ps := ["row", "text", "at"]) KX G ?a ?l ?c ?k (fun _ _ _ _ _ _ us hl => match us, hl with | [_, _, _], _ => rfl)
      (case a => k_is); (case l => k_is); (case c => k_is); (case k => k_is))
    have p8 := (by
      refine' Seek.def_mk (x := "lies_in") (st := Seek.s_lies_in) (ps := ["runs", "sign"]) KX G ?a ?l ?c ?k (fun _ _ _ _ _ _ us hl => match us, hl with | [_, _], _ => rfl)
      (case a => k_is); (case l => k_is); (case c => k_is); (case k => k_is))
    have d7 := (by
      refine' Seek.def_mk (x := "_law_alike") (st := Seek.s_l_alike) (ps := ["_law_found", "_law_due"]) KX G ?a ?l ?c ?k (fun _ _ _ _ _ _ us hl => match us, hl with | [_, _], _ => rfl)
      (case a => k_is); (case l => k_is); (case c => k_is); (case k => k_is))
    have e1 := (by
      refine' Seek.def_mk (x := "_law_take") (st := Seek.s_l_take) (ps := ["_law_box", "_law_many"]) KX G ?a ?l ?c ?k (fun _ _ _ _ _ _ us hl => match us, hl with | [_, _], _ => rfl)
      (case a => k_is); (case l => k_is); (case c => k_is); (case k => k_is))
    have e2 := (by
      refine' Seek.def_mk (x := "_law_sign") (st := Seek.s_l_sign) (ps := ["_law_cell"]) KX G ?a ?l ?c ?k (fun _ _ _ _ _ _ us hl => match us, hl with | [_], _ => rfl)
      (case a => k_is); (case l => k_is); (case c => k_is); (case k => k_is))
    have e3 := (by
      refine' Seek.def_mk (x := "_law_letters") (st := Seek.s_l_letters) (ps := ["_law_box"]) KX G ?a ?l ?c ?k (fun _ _ _ _ _ _ us hl => match us, hl with | [_], _ => rfl)
      (case a => k_is); (case l => k_is); (case c => k_is); (case k => k_is))
    have e4 := (by
      refine' Seek.def_mk (x := "_law_runs") (st := Seek.s_l_runs) (ps := ["_law_box", "_law_letters_here"]) KX G ?a ?l ?c ?k (fun _ _ _ _ _ _ us hl => match us, hl with | [_, _], _ => rfl)
      (case a => k_is); (case l => k_is); (case c => k_is); (case k => k_is))
    have e5 := (by
      refine' Seek.def_mk (x := "_law_leaf") (st := Seek.s_l_leaf) (ps := ["_law_box", "_law_letters_here", "_law_count"]) KX G ?a ?l ?c ?k (fun _ _ _ _ _ _ us hl => match us, hl with | [_, _, _], _ => rfl)
      (case a => k_is); (case l => k_is); (case c => k_is); (case k => k_is))
    have e6 := (by
      refine' Seek.def_mk (x := "_law_text") (st := Seek.s_l_text) (ps := ["_law_box", "_law_letters_here", "_law_size"]) KX G ?a ?l ?c ?k (fun _ _ _ _ _ _ us hl => match us, hl with | [_, _, _], _ => rfl)
      (case a => k_is); (case l => k_is); (case c => k_is); (case k => k_is))
    have e7 := (by
      refine' Seek.def_mk (x := "_law_is_there") (st := Seek.s_l_is_there) (ps := ["_law_p", "_law_text_here", "_law_at"]) KX G ?a ?l ?c ?k (fun _ _ _ _ _ _ us hl => match us, hl with | [_, _, _], _ => rfl)
      (case a => k_is); (case l => k_is); (case c => k_is); (case k => k_is))
    have c1 : ∃ pl, mg "ITSELF" = some (.ref pl) ∧ ∀ H, L2.SqT (L2.KOf KX) H pl Seek.itself := by
      dsimp only [L2.KOf]
      refine' Seek.const_mk7 KX G ?a ?l
      (case a => k_is); (case l => k_is)
    obtain ⟨it, hit, hIT⟩ := c1
    obtain ⟨C, MD⟩ := mc
    obtain ⟨dn, ds, hdn, hDN, DD⟩ := dc
    refine' Seek.top_mk KX G hmg ?a ?l ?c ?k (Seek.law_of T hit hIT p0 p1 p3 p4 p5 p6 p7 p8 MD hdn hDN DD e1 e2 e3 e4 e5 e6 e7 d7)
    (case a => k_is); (case l => k_is); (case c => k_is); (case k => k_is)

