import PyProof.Rows.All
import Wide.All
import OpenK.AllK
import Wide.FinOn
import Lean
import PyProof.EqAt
import PyProof.EqKinds
import PyProof.TupleCall
import PyProof.StrLawsIdx
import PySem.Challenge.RW_seek_k19_whole_spans_hold
set_option Elab.async false
set_option linter.all false
set_option maxRecDepth 100000
/-! THE HAND LAYER, for ints, bools, texts, own classes, LISTS and tuples (index, slices, in, append, pop ..), calls, loops. Paste it whole ahead of your own text; what your proof does not reach may be deleted. -/
namespace L2
open PySem PySem.Spec PyProof.Rows

/-- a key: an int or a str -/
abbrev Key := Sum Int Str
def keyIs : Key → Value → Bool
  | .inl k, v => Value.isInt k v
  | .inr x, v => Value.isStrOf x v
def keyH (w : World) : Key → Int
  | .inl k => hashInt k
  | .inr x => hashStr w x
theorem keyIs_shape : ∀ {k : Key} {v : Value}, keyIs k v = true → (∃ i t, k = Sum.inl i ∧ v = Value.int i t) ∨ (∃ x t, k = Sum.inr x ∧ v = Value.str x t)
  | .inl i, v, h => by
    obtain ⟨t, e⟩ := Value.isInt_shape (k := i) (v := v) h
    exact .inl ⟨i, t, rfl, e⟩
  | .inr x, v, h => by
    obtain ⟨t, e⟩ := Value.isStrOf_shape (x := x) (v := v) h
    exact .inr ⟨x, t, rfl, e⟩
theorem key_ll (a b : Int) : decide ((Sum.inl a : Key) = Sum.inl b) = (a == b) := by
  by_cases e : a = b
  · subst e; simp
  · have h : ¬ (Sum.inl a : Key) = Sum.inl b := fun q => e (Sum.inl.inj q)
    rw [decide_eq_false h]
    exact (beq_eq_false_iff_ne.mpr e).symm
theorem key_rr (a b : Str) : decide ((Sum.inr a : Key) = Sum.inr b) = decide (a = b) := by
  by_cases e : a = b
  · subst e; simp
  · have h : ¬ (Sum.inr a : Key) = Sum.inr b := fun q => e (Sum.inr.inj q)
    rw [decide_eq_false h, decide_eq_false e]
theorem key_lr (a : Int) (b : Str) : decide ((Sum.inl a : Key) = Sum.inr b) = false := decide_eq_false (fun q => nomatch q)
theorem key_rl (a : Str) (b : Int) : decide ((Sum.inr a : Key) = Sum.inl b) = false := decide_eq_false (fun q => nomatch q)

def mixKind (prog : Program) (w : World) : PySem.KeyKind prog w Key where
  is := keyIs
  hash := keyH w
  inj := fun v a b ha hb => by
    rcases keyIs_shape ha with ⟨i, t, rfl, rfl⟩ | ⟨x, t, rfl, rfl⟩
    · rcases keyIs_shape hb with ⟨j, u, rfl, e⟩ | ⟨y, u, rfl, e⟩
      · injection e with e1 _; rw [e1]
      · exact nomatch e
    · rcases keyIs_shape hb with ⟨j, u, rfl, e⟩ | ⟨y, u, rfl, e⟩
      · exact nomatch e
      · injection e with e1 _; rw [e1]
  byValue := fun k v h => by
    rcases keyIs_shape h with ⟨i, t, rfl, rfl⟩ | ⟨x, t, rfl, rfl⟩ <;> rfl
  pyHash := fun hv h => by
    rcases keyIs_shape hv with ⟨i, t, rfl, rfl⟩ | ⟨x, t, rfl, rfl⟩
    · exact wpAny_pyHash_int h
    · exact wpAny_pyHash_str h
  eqBool := fun hu hv h => by
    rcases keyIs_shape hu with ⟨i, t, rfl, rfl⟩ | ⟨x, t, rfl, rfl⟩
    · rcases keyIs_shape hv with ⟨j, u, rfl, rfl⟩ | ⟨y, u, rfl, rfl⟩
      · rw [key_ll] at h; exact wpAny_eqBool_int h
      · rw [key_lr] at h; exact SeqAt.EqAt.int_str i t y u _ _ _ _ h
    · rcases keyIs_shape hv with ⟨j, u, rfl, rfl⟩ | ⟨y, u, rfl, rfl⟩
      · rw [key_rl] at h; exact SeqAt.EqAt.str_int x t j u _ _ _ _ h
      · rw [key_rr] at h; exact wpAny_eqBool_str h
  «strs» := fun k x t v h => by
    rcases keyIs_shape h with ⟨i, u, rfl, e⟩ | ⟨y, u, rfl, e⟩
    · exact nomatch e
    · injection e with e1 _
      subst e1
      cases v <;> rfl

end L2

namespace L2
open PySem PySem.Spec PyProof.Rows

/-- a value, without the heap -/
inductive V where
  | non | bl (b : Bool) | int (i : Int) | str (x : Str) | byt (b : Array UInt8) | flt (b : UInt64) | ref (a : Addr) | ty (n : String)
  deriving DecidableEq

def RelV : V → Value → Prop
  | .non, u => u = Value.none
  | .bl b, u => u = Value.bool b
  | .int i, u => ∃ t, u = Value.int i t
  | .str x, u => ∃ t, u = Value.str x t
  | .byt b, u => ∃ t, u = Value.bytes b t
  | .flt b, u => ∃ t, u = Value.float b t
  | .ref a, u => u = Value.ref a
  | .ty n, u => u = Value.type n

abbrev Vals : List V → List Value → Prop := Paired RelV
theorem Vals.length {xs : List V} {us : List Value} (r : Vals xs us) : xs.length = us.length := Paired.length r
theorem Vals.get : ∀ {xs : List V} {us : List Value} {i : Nat} {x : V}, Vals xs us → xs[i]? = some x → ∃ u, us[i]? = some u ∧ RelV x u
  | _, _, _, _, .nil, e => by simp at e
  | _, _, 0, _, .cons r _, e => by simp at e; subst e; exact ⟨_, rfl, r⟩
  | _, _, i + 1, x, .cons _ t, e => by
    obtain ⟨u, h1, h2⟩ := Vals.get (i := i) (x := x) t (by simpa using e)
    exact ⟨u, by simpa using h1, h2⟩
theorem Vals.set {x : V} {u : Value} (r : RelV x u) : ∀ {xs : List V} {us : List Value} (i : Nat), Vals xs us → Vals (xs.set i x) (us.set i u)
  | _, _, _, .nil => .nil
  | _, _, 0, .cons _ t => .cons r t
  | _, _, i + 1, .cons q t => .cons q (Vals.set r i t)
theorem Vals.append : ∀ {xs ys : List V} {us ws : List Value}, Vals xs us → Vals ys ws → Vals (xs ++ ys) (us ++ ws)
  | _, _, _, _, .nil, s => s
  | _, _, _, _, .cons r t, s => .cons r (Vals.append t s)
theorem Vals.take : ∀ {xs : List V} {us : List Value} (n : Nat), Vals xs us → Vals (xs.take n) (us.take n)
  | _, _, 0, _ => .nil
  | _, _, _ + 1, .nil => .nil
  | _, _, n + 1, .cons r t => .cons r (Vals.take n t)
theorem Vals.drop : ∀ {xs : List V} {us : List Value} (n : Nat), Vals xs us → Vals (xs.drop n) (us.drop n)
  | _, _, 0, r => r
  | _, _, _ + 1, .nil => .nil
  | _, _, n + 1, .cons _ t => Vals.drop n t
def RelO : Option V → Option Value → Prop
  | some v, some u => RelV v u
  | none, none => True
  | _, _ => False
def KV {κ : Type} : List (κ × V) → List (κ × Value) → Prop := Paired fun (p : κ × V) (q : κ × Value) => p.1 = q.1 ∧ RelV p.2 q.2

/-- a key of a dict (00_mix): an int or a text -/
def kV : Key → V
  | .inl i => .int i
  | .inr x => .str x

/-- what stands at a tracked address -/
inductive HO where
  /-- a list -/
  | lst (xs : List V)
  /-- a tuple (never changes) -/
  | tup (xs : List V)
  /-- a dict whose keys are ints and texts; one whose keys are tuples of ints and texts (the empty one is both) -/
  | dK (kvs : List (Key × V)) | dT (kvs : List (List Key × V))
  /-- a set of ints: its members, its size -/
  | set (S : Int → Bool) (n : Nat)
  /-- an instance of the class at C, its dict at dx, its attributes -/
  | ins (C dx : Addr) (fs : List (Str × V))
  /-- the dict of the instance at x -/
  | own (x : Addr)
  /-- the dict of an exception -/
  | xd (fs : List (Str × V))
  /-- a bound method, f of x -/
  | met (f x : Addr)
  /-- a range object lo, lo + 1, .. below hi -/
  | rng (lo hi : Int)
  /-- a thing that is known to the object (the script; a dict while a loop walks it): read, never written while it is so -/
  | frz (o : Obj) (u : HO)
  /-- a code object's table -/
  | tbl (ps : Array Value)
  /-- any other thing, by what is true of its one object (a def of one's own: SetO a S n := HO.ext fun h => ..) -/
  | ext (φ : Heap → Prop)

abbrev Hp := Addr → Option HO
def upd (H : Hp) (a : Addr) (o : HO) : Hp := fun b => if b = a then some o else H b
theorem upd_same {H : Hp} {a : Addr} {o : HO} : upd H a o a = some o := by unfold upd; rw [if_pos rfl]
theorem upd_ne {H : Hp} {a b : Addr} {o : HO} (h : b ≠ a) : upd H a o b = H b := by unfold upd; rw [if_neg h]
/-- two objects of different content stand apart -/
theorem ne_of {H : Hp} {a b : Addr} {o u : HO} (h : H a = some o) (h' : H b = some u) (d : o ≠ u) : a ≠ b := by
  intro e; subst e; rw [h] at h'; exact d (Option.some.inj h')
theorem ne_of_none {H : Hp} {a b : Addr} {o : HO} (h : H a = some o) (h' : H b = none) : a ≠ b := by
  intro e; subst e; rw [h] at h'; cases h'

section
variable (P : Program) (w : World)
def ObjOk (H : Hp) (h : Heap) (a : Addr) : HO → Prop
  | .lst xs => xs.length ≤ sizeLine ∧ ∃ (its : List Value) (n : Nat), Vals xs its ∧ h.get? a = some { cls := .type "list", data := .seq its.toArray n }
  | .tup xs => xs.length ≤ sizeLine ∧ ∃ its : List Value, Vals xs its ∧ IsTup h a its.toArray
  | .dK kvs => kvs.length ≤ sizeLine ∧ (a == sysModules) = false ∧ ∃ vs, KV kvs vs ∧ h.DictOf (mixKind P w) a vs
  | .dT kvs => kvs.length ≤ sizeLine ∧ (a == sysModules) = false ∧ ∃ xs : List (List Key × Addr × Value),
      Paired (fun (p : List Key × V) (q : List Key × Addr × Value) => p.1 = q.1 ∧ H q.2.1 = some (.tup (p.1.map kV)) ∧ RelV p.2 q.2.2) kvs xs ∧
      ∃ o es ep, h.get? a = some o ∧ o.ExactDict ∧ o.data = .dict es ep ∧ es.toList = xs.map (entryOfKey (tupleKind (mixKind P w))) ∧ (xs.map (·.1)).Nodup
  | .set S n => h.SetOf (intKind P w) a S n
  | .ins C dx fs => H dx = some (.own a) ∧ fs.length ≤ 1000 ∧ dx ≠ a ∧ h.get? a = some (PySem.W.instObj C dx) ∧
      ∃ mA, h.Ns1 dx mA ∧ (∀ f, RelO (fs.lookup f) (mA f)) ∧ PySem.Within mA (fs.map (·.1))
  | .own _ => ∃ o, h.get? a = some o
  | .xd fs => ∃ mA, h.Ns1 a mA ∧ ∀ f, RelO (fs.lookup f) (mA f)
  | .rng lo hi => ∃ t u v, h.get? a = some { cls := .type "range", data := .fields #[.int lo t, .int hi u, .int 1 v] }
  | .frz o u => h.get? a = some o ∧ ObjOk H h a u
  | .tbl ps => h.get? a = some { cls := .none, data := .fields ps }
  | .met f x => h.get? a = some (PySem.W.methodObj (.ref f) (.ref x))
  | .ext φ => φ h ∧ (∃ o, h.get? a = some o) ∧ ∀ h1 h2 : Heap, φ h1 → (∀ o, h1.get? a = some o → h2.get? a = some o) → φ h2
/-- the abstract heap is held -/
def HOk (H : Hp) (h : Heap) : Prop := ∀ a o, H a = some o → ObjOk P w H h a o
end

section
variable {P : Program} {w : World} {H H' : Hp} {h h' : Heap} {a : Addr} {o : HO}
theorem ObjOk.lt (x : ObjOk P w H h a o) : a < h.objs.size := by
  cases o with
  | lst xs => obtain ⟨_, _, _, _, e⟩ := x; exact Heap.lt_size e
  | tup xs => obtain ⟨_, _, _, p⟩ := x; exact p.lt
  | dK kvs => obtain ⟨_, _, _, _, o, _, _, e, _⟩ := x; exact Heap.lt_size e
  | dT kvs => obtain ⟨_, _, _, _, o, _, _, e, _⟩ := x; exact Heap.lt_size e
  | set S n => obtain ⟨o, _, _, _, e, _⟩ := x; exact Heap.lt_size e
  | ins C dx fs => obtain ⟨_, _, _, e, _⟩ := x; exact Heap.lt_size e
  | own y => obtain ⟨_, e⟩ := x; exact Heap.lt_size e
  | xd fs => obtain ⟨_, ⟨_, _, _, e, _⟩, _⟩ := x; exact Heap.lt_size e
  | rng lo hi => obtain ⟨_, _, _, e⟩ := x; exact Heap.lt_size e
  | frz ob u => obtain ⟨e, _⟩ := x; exact Heap.lt_size e
  | tbl ps => exact Heap.lt_size (show h.get? a = some _ from x)
  | met f y => exact Heap.lt_size (show h.get? a = some _ from x)
  | ext φ => obtain ⟨_, ⟨_, e⟩, _⟩ := x; exact Heap.lt_size e
theorem Paired.mapP {α β : Type} {F G : α → β → Prop} : ∀ {l₁ : List α} {l₂ : List β}, Paired F l₁ l₂ → (∀ a b, F a b → G a b) → Paired G l₁ l₂
  | _, _, .nil, _ => .nil
  | _, _, .cons r t, f => .cons (f _ _ r) (Paired.mapP t f)
/-- what an object's description leans on: its own object, its own dict, the tuples -/
theorem ObjOk.stay (x : ObjOk P w H h a o) (k : ∀ b u, (b = a ∨ H b = some (.own a)) → h.get? b = some u → h'.get? b = some u)
    (ho : ∀ b, H b = some (.own a) → H' b = some (.own a)) (ht : ∀ b xs, H b = some (.tup xs) → H' b = some (.tup xs)) : ObjOk P w H' h' a o := by
  induction o with
  | lst xs => obtain ⟨z, its, n, r, e⟩ := x; exact ⟨z, its, n, r, k _ _ (.inl rfl) e⟩
  | tup xs => obtain ⟨z, its, r, ob, e, c⟩ := x; exact ⟨z, its, r, ob, k _ _ (.inl rfl) e, c⟩
  | dK kvs => obtain ⟨z, y, vs, r, ob, es, ep, e, c⟩ := x; exact ⟨z, y, vs, r, ob, es, ep, k _ _ (.inl rfl) e, c⟩
  | dT kvs =>
    obtain ⟨z, y, xs, r, ob, es, ep, e, c⟩ := x
    exact ⟨z, y, xs, Paired.mapP r fun p q z => ⟨z.1, ht _ _ z.2.1, z.2.2⟩, ob, es, ep, k _ _ (.inl rfl) e, c⟩
  | set S n => obtain ⟨ob, es, ep, t, e, c⟩ := x; exact ⟨ob, es, ep, t, k _ _ (.inl rfl) e, c⟩
  | ins C dx fs =>
    obtain ⟨d, z, ne, e, mA, ⟨od, es, ep, e2, c⟩, r⟩ := x
    exact ⟨ho _ d, z, ne, k _ _ (.inl rfl) e, mA, ⟨od, es, ep, k _ _ (.inr d) e2, c⟩, r⟩
  | own y => obtain ⟨ob, e⟩ := x; exact ⟨ob, k _ _ (.inl rfl) e⟩
  | xd fs => obtain ⟨mA, ⟨od, es, ep, e, c⟩, r⟩ := x; exact ⟨mA, ⟨od, es, ep, k _ _ (.inl rfl) e, c⟩, r⟩
  | rng lo hi => obtain ⟨t, u, v, e⟩ := x; exact ⟨t, u, v, k _ _ (.inl rfl) e⟩
  | frz ob u ih => obtain ⟨e, q⟩ := x; exact ⟨k _ _ (.inl rfl) e, ih q⟩
  | tbl ps =>
    have e : h.get? a = some { cls := .none, data := .fields ps } := x
    show h'.get? a = some { cls := .none, data := .fields ps }
    exact k a _ (.inl rfl) e
  | met f y =>
    have e : h.get? a = some (PySem.W.methodObj (.ref f) (.ref y)) := x
    show h'.get? a = some (PySem.W.methodObj (.ref f) (.ref y))
    exact k a _ (.inl rfl) e
  | ext φ => obtain ⟨p, ⟨o, e⟩, st⟩ := x; exact ⟨st _ _ p fun o q => k _ _ (.inl rfl) q, ⟨o, k _ _ (.inl rfl) e⟩, st⟩
theorem HOk.lt (x : HOk P w H h) (e : H a = some o) : a < h.objs.size := (x a o e).lt
theorem HOk.fresh (x : HOk P w H h) (e : h.objs.size ≤ a) : H a = none := by
  cases q : H a with
  | none => rfl
  | some u => exact absurd (Nat.lt_of_lt_of_le (x.lt q) e) (Nat.lt_irrefl _)
/-- every object of the heap is kept -/
theorem HOk.kept (x : HOk P w H h) (k : ∀ b u, h.get? b = some u → h'.get? b = some u) : HOk P w H h' := fun a o e =>
  (x a o e).stay (fun b u _ q => k b u q) (fun _ q => q) fun _ _ q => q
/-- a new object is laid and tracked -/
theorem HOk.laid (x : HOk P w H h) (k : ∀ b u, h.get? b = some u → h'.get? b = some u) (hp : h.objs.size ≤ a) (new : ObjOk P w (upd H a o) h' a o) : HOk P w (upd H a o) h' := fun b u e => by
  have hn := x.fresh hp
  by_cases hb : b = a
  · subst hb; rw [upd_same] at e; cases e; exact new
  · rw [upd_ne hb] at e
    exact (x b u e).stay (fun c v _ q => k c v q) (fun c q => by rw [upd_ne (ne_of_none q hn)]; exact q) fun c xs q => by rw [upd_ne (ne_of_none q hn)]; exact q
end

/-- what may be read as u: it is u, or a known u -/
def Rd (H : Hp) (a : Addr) (u : HO) : Prop := H a = some u ∨ ∃ o, H a = some (.frz o u)
theorem Rd.ok {P : Program} {w : World} {H : Hp} {h : Heap} {a : Addr} {u : HO} (r : Rd H a u) (x : HOk P w H h) : ObjOk P w H h a u := by
  rcases r with r | ⟨o, r⟩
  · exact x a u r
  · obtain ⟨_, q⟩ := x a _ r
    exact q
/-- what may be written -/
def Mut : Option HO → Prop
  | some (.lst _) => True
  | some (.dK _) => True
  | some (.dT _) => True
  | some (.set _ _) => True
  | some (.ins _ _ _) => True
  | some (.ext _) => True
  | _ => False
section
variable {P : Program} {w : World} {H : Hp} {h h' : Heap} {x e : Addr} {o' : HO}
/-- the object at e is changed: x itself, or the dict of the instance x -/
theorem HOk.write (ok : HOk P w H h) (mu : Mut (H x)) (he : e = x ∨ H e = some (.own x)) (k : ∀ b u, b ≠ e → h.get? b = some u → h'.get? b = some u) (heo : ∃ u, h'.get? e = some u)
    (new : ObjOk P w (upd H x o') h' x o') : HOk P w (upd H x o') h' := fun b u q => by
  have nown : ∀ c y, H c = some (.own y) → c ≠ x := fun c y r z => by subst z; rw [r] at mu; exact mu
  have ntup : ∀ c xs, H c = some (.tup xs) → c ≠ x := fun c xs r z => by subst z; rw [r] at mu; exact mu
  by_cases hb : b = x
  · subst hb; rw [upd_same] at q; cases q; exact new
  · rw [upd_ne hb] at q
    by_cases hbe : b = e
    · have q' : H b = some (.own x) := by
        rcases he with z | z
        · exact absurd (hbe.trans z) hb
        · rw [hbe]; exact z
      rw [q] at q'; cases q'
      obtain ⟨v, hv⟩ := heo
      exact ⟨v, by rw [hbe]; exact hv⟩
    · refine (ok b u q).stay (fun c v hc r => k c v ?_ r) (fun c r => by rw [upd_ne (nown c b r)]; exact r) fun c xs r => by rw [upd_ne (ntup c xs r)]; exact r
      rcases hc with rfl | hc
      · exact hbe
      · rintro rfl
        rcases he with z | z
        · exact nown c b hc z
        · rw [hc] at z; cases z; exact hb rfl
end

/-! ### kept unless tracked; of the frames at fs (the callers') the slots may change (an exception that passes writes there); of the records at ex (iterators) nothing is said -/
structure Un (fs ex : List Addr) (H H' : Hp) (h h' : Heap) : Prop where
  keep : ∀ b o, h.get? b = some o → H b = none → b ∉ fs → b ∉ ex → h'.get? b = some o
  slot : ∀ b o, h.get? b = some o → H b = none → b ∈ fs → b ∉ ex → ∃ sl, h'.get? b = some { o with slots := sl }
  free : ∀ b o, h.get? b = some o → H b = none → b ∉ ex → H' b = none
  there : ∀ b o, h.get? b = some o → b ∉ ex → ∃ o', h'.get? b = some o'
  tups : ∀ b xs, H b = some (.tup xs) → H' b = some (.tup xs)
  frzs : ∀ b o u, H b = some (.frz o u) → H' b = some (.frz o u)
  tbls : ∀ b ps, H b = some (.tbl ps) → ∃ more, H' b = some (.tbl (ps ++ more))
section
variable {fs fs' ex ex' : List Addr} {H H1 H2 : Hp} {h h1 h2 h' : Heap} {a x e : Addr} {o : HO}
theorem Un.any (u : Un fs ex H H1 h h1) {b : Addr} {ob : Obj} (q : h.get? b = some ob) (n : H b = none) (hx : b ∉ ex) : ∃ sl, h1.get? b = some { ob with slots := sl } := by
  by_cases hb : b ∈ fs
  · exact u.slot b ob q n hb hx
  · exact ⟨ob.slots, u.keep b ob q n hb hx⟩
theorem Un.kept (k : ∀ b u, h.get? b = some u → h'.get? b = some u) : Un fs ex H H h h' :=
  ⟨fun b ob q _ _ _ => k b ob q, fun b ob q _ _ _ => ⟨ob.slots, k b ob q⟩, fun _ _ _ n _ => n, fun b ob q _ => ⟨ob, k b ob q⟩, fun _ _ q => q, fun _ _ _ q => q, fun _ ps q => ⟨#[], by rw [q]; simp⟩⟩
theorem Un.refl : Un fs ex H H h h := Un.kept fun _ _ q => q
theorem Un.laid (k : ∀ b u, h.get? b = some u → h'.get? b = some u) (hp : h.objs.size ≤ a) (hn : H a = none) : Un fs ex H (upd H a o) h h' where
  keep := fun b u q _ _ _ => k b u q
  slot := fun b u q _ _ _ => ⟨u.slots, k b u q⟩
  free := fun b u q n _ => by rw [upd_ne (Nat.ne_of_lt (Nat.lt_of_lt_of_le (Heap.lt_size q) hp))]; exact n
  there := fun b u q _ => ⟨u, k b u q⟩
  tups := fun b xs q => by rw [upd_ne (ne_of_none q hn)]; exact q
  frzs := fun b u xs q => by rw [upd_ne (ne_of_none q hn)]; exact q
  tbls := fun b ps q => ⟨#[], by rw [upd_ne (ne_of_none q hn), q]; simp⟩
theorem Un.write (mu : Mut (H x)) (he : e = x ∨ H e = some (.own x)) (k : ∀ b u, b ≠ e → h.get? b = some u → h'.get? b = some u) (heo : ∃ u, h'.get? e = some u) : Un fs ex H (upd H x o) h h' := by
  have hx : ∀ b, H b = none → b ≠ x := fun b n z => by subst z; rw [n] at mu; exact mu
  have hb : ∀ b, H b = none → b ≠ e := fun b n z => by
    subst z
    rcases he with r | r
    · exact hx b n r
    · rw [n] at r; cases r
  have hm : ∀ b u, H b = some u → ¬ Mut (some u) → b ≠ x := fun b u q nm z => by subst z; rw [q] at mu; exact nm mu
  refine ⟨fun b u q n _ _ => k b u (hb b n) q, fun b u q n _ _ => ⟨u.slots, k b u (hb b n) q⟩, fun b u q n _ => by rw [upd_ne (hx b n)]; exact n, fun b u q _ => ?_,
    fun b xs q => by rw [upd_ne (hm b _ q fun z => z)]; exact q, fun b u xs q => by rw [upd_ne (hm b _ q fun z => z)]; exact q, fun b ps q => ⟨#[], by rw [upd_ne (hm b _ q fun z => z), q]; simp⟩⟩
  by_cases hbe : b = e
  · subst hbe; exact heo
  · exact ⟨u, k b u hbe q⟩
end

/-! ### the heap without what is tracked -/
def trk (h : Heap) (H : Hp) : List Addr := (List.range h.objs.size).filter fun a => (H a).isSome
def hidT (h : Heap) (H : Hp) : Heap := PySem.W.hideAll h (trk h H)
theorem hidT_size (h : Heap) (H : Hp) : (hidT h H).objs.size = h.objs.size := PySem.W.hideAll_size _ _
theorem hidT_get {h : Heap} {H : Hp} {b : Addr} {o : Obj} (e : h.get? b = some o) (n : H b = none) : (hidT h H).get? b = some o :=
  PySem.W.hideAll_get _ e fun hm => by
    have q : (H b).isSome = true := (List.mem_filter.mp hm).2
    rw [n] at q; simp at q
theorem of_hidT {h : Heap} {H : Hp} {b : Addr} {o : Obj} (e : (hidT h H).get? b = some o) : h.get? b = some o ∧ H b = none := by
  have e' : h.get? b = some o := PySem.W.of_hideAll (trk h H) e
  refine ⟨e', ?_⟩
  cases q : H b with
  | none => rfl
  | some x =>
    have hm : b ∈ trk h H := List.mem_filter.mpr ⟨List.mem_range.mpr (Heap.lt_size e'), by simp [q]⟩
    have z : (hidT h H).get? b = none := PySem.W.hideAll_none (trk h H) hm
    rw [z] at e; cases e

/-! ### OpenK's ledger, filled with every new object but one -/
def allNews (g h : Heap) (L : Addr) : List (Addr × Obj) := (List.range h.objs.size).filterMap fun a => if a = L ∨ (g.get? a).isSome = true then none else (h.get? a).map fun o => (a, o)
def rest (g h : Heap) (L d : Addr) : List (Addr × Obj) := (allNews g h L).filter fun p => decide (p.1 ≠ d)
end L2

namespace L2
open PySem PySem.Spec PyProof.Rows

/-- the module's facts, over the base: the heap at the law's entry without what is tracked there -/
structure Mod (K : PySem.W.Frag) (mg : Str → Option Value) (base : Heap) : Prop where
  kin : K.In base
  glob : base.Ns mainGlobals mg
  blt : ∃ mb, base.Ns builtinsNs mb ∧ ∀ x : Str, x ≠ "__name__" → mb x = bootBuiltins x
  nolimit : base.NoLimit

/-- the context: a def's body (or a comprehension's block) running. base: fixed through the whole law; s₀, H₀: the entry; outer: the frames whose slots others may change (a def's callers); stack: all frames that run;
   ex: iterators that were made ahead of the entry and are walked here (a comprehension's); fn: the names whose cells were made at the entry (a def: all; a comprehension's block: its own); calm: not within an except suite; pn: pins that every state bears; xe: what is wanted of an exception that leaves the code -/
structure Cx where
  prog : Program
  w : World
  K : PySem.W.Frag
  mg : Str → Option Value
  base : Heap
  A : Around
  N : List Str
  s₀ : Shared
  H₀ : Hp
  env : Env
  outer : List Env
  stack : List Env
  ex : List Addr
  fn : Str → Bool
  calm : Bool
  pn : List (Addr × Obj)
  xe : Value → Shared → Prop
/-- the callers' frames -/
def frs (l : List Env) : List Addr := l.filterMap (·.frame)
abbrev Cx.fs (X : Cx) : List Addr := frs X.outer

def Vis (sc : Scope) (x : Str) : Prop := sc.names.lookup x = some .local ∨ sc.names.lookup x = some .cell ∨ sc.names.lookup x = some .free
def Loc (sc : Scope) (x : Str) : Prop := sc.names.lookup x = some .local ∨ sc.names.lookup x = some .cell
def Look (env : Env) (h : Heap) (m : Str → Option Value) (x : Str) (u : Value) : Prop :=
  (env.kindOf x = some .local ∧ m x = some u) ∨ ((env.kindOf x = some .cell ∨ env.kindOf x = some .free) ∧ ∃ c, env.cells.lookup x = some c ∧ h.IsCell c (some u))

structure Cx.Ok (X : Cx) : Prop where
  mod : Mod X.K X.mg X.base
  kind : X.env.scope.kind = .function
  glob : X.env.globals = mainGlobals
  blt : X.env.builtins = builtinsNs
  above : X.s₀.heap.objs.size ≤ X.env.locals
  inj : ∀ x y c, X.env.cells.lookup x = some c → X.env.cells.lookup y = some c → x = y
  has : ∀ x, (X.env.kindOf x = some .cell ∨ X.env.kindOf x = some .free) → ∃ c, X.env.cells.lookup x = some c
  cab : ∀ x c, X.fn x = true → X.env.cells.lookup x = some c → X.s₀.heap.objs.size ≤ c
  hd : X.calm = true → X.A.handled = none
  frames : X.A.frames = some X.stack
  stk : X.stack = X.outer ∨ (X.stack = X.env :: X.outer ∧ X.env.frame = some X.env.locals)
  exf : ∀ b ∈ X.ex, b ≠ X.env.locals ∧ ∀ x c, X.env.cells.lookup x = some c → c ≠ b
  bs : ∀ b o, X.base.get? b = some o → X.s₀.heap.get? b = some o ∧ X.H₀ b = none
  bsz : X.base.objs.size ≤ X.s₀.heap.objs.size
  noex : ∀ b o, X.base.get? b = some o → b ∉ X.ex
  exfs : ∀ b ∈ X.ex, b ∉ X.fs
  funs : X.s₀.heap.FunFrames X.base X.outer
  frf : ∀ b ∈ X.fs, X.H₀ b = none

structure Inv (X : Cx) (pins : List (Addr × Obj)) (σ : List (Option V)) (H : Hp) (s : Shared) : Prop where
  ok : X.Ok
  os : s.os = X.s₀.os
  bare : AllBare s.gens
  base : Un X.fs X.ex X.H₀ H X.s₀.heap s.heap
  loc : ∃ m, s.heap.Ns X.env.locals m ∧ ∀ (i : Nat) (x : Str) (v : V), X.N[i]? = some x → σ[i]? = some (some v) → Vis X.env.scope x → ∃ u, RelV v u ∧ Look X.env s.heap m x u
  cell : ∀ x c, X.env.cells.lookup x = some c → ∃ v, s.heap.IsCell c v
  free : H X.env.locals = none
  freeC : ∀ x c, X.env.cells.lookup x = some c → H c = none
  pin : ∀ p ∈ X.pn ++ pins, s.heap.get? p.1 = some p.2 ∧ H p.1 = none ∧ p.1 ≠ X.env.locals ∧ p.1 ∉ X.fs ∧ ∀ v, p.2.data ≠ .cell v
  hok : HOk X.prog X.w H s.heap
  len : σ.length = X.N.length

section
variable {X : Cx} {pins : List (Addr × Obj)} {σ : List (Option V)} {H H' : Hp} {s : Shared} {h' : Heap}

theorem Cx.Ok.nofr (ok : X.Ok) {b : Addr} {o : Obj} (e : X.base.get? b = some o) : b ∉ X.fs := fun hb => by
  have := (ok.funs.mem hb).1
  rw [e] at this; cases this
theorem Inv.bs (I : Inv X pins σ H s) : ∀ b o, X.base.get? b = some o → s.heap.get? b = some o ∧ H b = none := fun b o e =>
  ⟨I.base.keep b o (I.ok.bs b o e).1 (I.ok.bs b o e).2 (I.ok.nofr e) (I.ok.noex b o e), I.base.free b o (I.ok.bs b o e).1 (I.ok.bs b o e).2 (I.ok.noex b o e)⟩
theorem Inv.bk (I : Inv X pins σ H s) : ∀ b o, X.base.get? b = some o → s.heap.get? b = some o := fun b o e => (I.bs b o e).1
theorem Inv.mod (I : Inv X pins σ H s) : Mod X.K X.mg X.base := I.ok.mod
theorem Inv.kIn (I : Inv X pins σ H s) : X.K.In s.heap := I.ok.mod.kin.keeps I.bk
theorem Inv.lt (I : Inv X pins σ H s) : X.env.locals < s.heap.objs.size := let ⟨_, hn, _⟩ := I.loc; hn.lt
theorem Inv.sz (I : Inv X pins σ H s) : X.s₀.heap.objs.size ≤ s.heap.objs.size := Nat.le_trans I.ok.above (Nat.le_of_lt I.lt)
theorem Inv.nofs (I : Inv X pins σ H s) {a : Addr} (h : s.heap.objs.size ≤ a) : a ∉ X.fs := fun hb => by
  obtain ⟨_, o, ho, _⟩ := I.ok.funs.mem hb
  exact absurd (Nat.lt_of_lt_of_le (Heap.lt_size ho) (Nat.le_trans I.sz h)) (Nat.lt_irrefl _)
theorem Inv.cne (I : Inv X pins σ H s) : ∀ x c, X.env.cells.lookup x = some c → c ≠ X.env.locals := fun x c e z => by
  obtain ⟨v, o, ho, hd⟩ := I.cell x c e
  obtain ⟨m, ⟨o', es, ep, ho', hd', _⟩, _⟩ := I.loc
  rw [z, ho'] at ho; cases ho; rw [hd'] at hd; cases hd
theorem Inv.funs (I : Inv X pins σ H s) : s.heap.FunFrames X.base X.outer := by
  have all : ∀ (l : List Env), (∀ b ∈ frs l, b ∈ X.fs) → X.s₀.heap.FunFrames X.base l → s.heap.FunFrames X.base l := by
    intro l
    induction l with
    | nil => intro _ _; trivial
    | cons env r ih =>
      intro hs hl
      obtain ⟨hk, ⟨L, o, hf, hn, ho, hd⟩, hr⟩ := hl
      have hL : L ∈ X.fs := hs L (by unfold frs; rw [List.filterMap_cons, hf]; exact List.mem_cons_self)
      obtain ⟨sl, e⟩ := I.base.slot L o ho (I.ok.frf L hL) hL fun z => I.ok.exfs L z hL
      exact ⟨hk, ⟨L, _, hf, hn, e, hd⟩, ih (fun b hb => hs b (by unfold frs; rw [List.filterMap_cons, hf]; exact List.mem_cons_of_mem _ hb)) hr⟩
  exact all X.outer (fun _ hb => hb) I.ok.funs

/-- the frames that run, for a call -/
theorem Inv.stack (I : Inv X pins σ H s) : s.heap.FunFrames X.base X.stack := by
  rcases I.ok.stk with e | ⟨e, hf⟩
  · rw [e]; exact I.funs
  · rw [e]
    obtain ⟨m, hn, _⟩ := I.loc
    refine .cons (by rw [I.ok.kind]; decide) hf hn ?_ I.funs
    exact Heap.get?_none_of_le (Nat.le_trans I.ok.bsz I.ok.above)
theorem Inv.stkSub (I : Inv X pins σ H s) : ∀ b ∈ frs X.stack, b ∈ X.env.locals :: X.fs := fun b hb => by
  rcases I.ok.stk with e | ⟨e, hf⟩
  · rw [e] at hb; exact List.mem_cons_of_mem _ hb
  · rw [e] at hb
    unfold frs at hb
    rw [List.filterMap_cons, hf] at hb
    exact hb
theorem Inv.stkFree (I : Inv X pins σ H s) : ∀ b ∈ frs X.stack, H b = none := fun b hb => by
  rcases List.mem_cons.mp (I.stkSub b hb) with e | hb
  · rw [e]; exact I.free
  · obtain ⟨_, o, ho, _⟩ := I.ok.funs.mem hb
    exact I.base.free b o ho (I.ok.frf b hb) fun z => I.ok.exfs b z hb

/-- THE STEP: the untracked objects but the frame and the records at ch are kept (the callers' frames up to slots), the frame's map is kept, the new abstract heap is held -/
theorem Inv.step {g' : Array GenState} {t' : Nat} {d' : Drawn} {ch : List Addr} (I : Inv X pins σ H s)
    (hch : ∀ b ∈ ch, (b ∈ X.ex ∨ X.s₀.heap.objs.size ≤ b) ∧ b ≠ X.env.locals ∧ (∀ x c, X.env.cells.lookup x = some c → c ≠ b) ∧ ∀ p ∈ X.pn ++ pins, p.1 ≠ b)
    (keep : ∀ b o, b ≠ X.env.locals → b ∉ X.fs → b ∉ ch → s.heap.get? b = some o → H b = none → h'.get? b = some o)
    (slot : ∀ b o, b ≠ X.env.locals → b ∈ X.fs → b ∉ ch → s.heap.get? b = some o → H b = none → ∃ sl, h'.get? b = some { o with slots := sl }) (free : ∀ b o, b ∉ ch → s.heap.get? b = some o → H b = none → H' b = none)
    (there : ∀ b o, b ∉ ch → s.heap.get? b = some o → ∃ o', h'.get? b = some o')
    (tups : ∀ b xs, H b = some (.tup xs) → H' b = some (.tup xs)) (frzs : ∀ b o u, H b = some (.frz o u) → H' b = some (.frz o u)) (tbls : ∀ b ps, H b = some (.tbl ps) → ∃ more, H' b = some (.tbl (ps ++ more)))
    (ns : ∀ m, s.heap.Ns X.env.locals m → h'.Ns X.env.locals m) (hok : HOk X.prog X.w H' h') (hg : AllBare g') :
    Inv X pins σ H' { s with heap := h', gens := g', drawn := d', toks := t' } := by
  have neL : ∀ b o, X.s₀.heap.get? b = some o → b ≠ X.env.locals := fun b o e => Nat.ne_of_lt (Nat.lt_of_lt_of_le (Heap.lt_size e) I.ok.above)
  have neC : ∀ b o, X.s₀.heap.get? b = some o → b ∉ X.ex → b ∉ ch := fun b o e hx hb => by
    rcases (hch b hb).1 with z | z
    · exact hx z
    · exact absurd (Nat.lt_of_lt_of_le (Heap.lt_size e) z) (Nat.lt_irrefl _)
  have cellK : ∀ x c, X.env.cells.lookup x = some c → ∀ v, s.heap.IsCell c v → h'.IsCell c v := fun x c e v ⟨o, ho, hd⟩ => by
    have nch : c ∉ ch := fun z => (hch c z).2.2.1 x c e rfl
    by_cases hc : c ∈ X.fs
    · obtain ⟨sl, q⟩ := slot c o (I.cne x c e) hc nch ho (I.freeC x c e)
      exact ⟨_, q, hd⟩
    · exact ⟨o, keep c o (I.cne x c e) hc nch ho (I.freeC x c e), hd⟩
  refine ⟨I.ok, I.os, hg, ⟨fun b o e n hb hx => ?_, fun b o e n hb hx => ?_, fun b o e n hx => ?_, fun b o e hx => ?_, fun b xs e => tups b xs (I.base.tups b xs e), fun b o xs e => frzs b o xs (I.base.frzs b o xs e), fun b ps e => ?_⟩, ?_, fun x c e => ?_, ?_, fun x c e => ?_, fun p hp => ?_, hok, I.len⟩
  · exact keep b o (neL b o e) hb (neC b o e hx) (I.base.keep b o e n hb hx) (I.base.free b o e n hx)
  · obtain ⟨sl, e1⟩ := I.base.slot b o e n hb hx
    obtain ⟨sl', e2⟩ := slot b _ (neL b o e) hb (neC b o e hx) e1 (I.base.free b o e n hx)
    exact ⟨sl', e2⟩
  · obtain ⟨o', e1⟩ := I.base.there b o e hx
    exact free b o' (neC b o e hx) e1 (I.base.free b o e n hx)
  · obtain ⟨o', e1⟩ := I.base.there b o e hx
    exact there b o' (neC b o e hx) e1
  · obtain ⟨m1, e1⟩ := I.base.tbls b ps e
    obtain ⟨m2, e2⟩ := tbls b _ e1
    exact ⟨m1 ++ m2, by rw [e2, Array.append_assoc]⟩
  · obtain ⟨m, hn, hl⟩ := I.loc
    refine ⟨m, ns m hn, fun i x v e1 e2 e3 => ?_⟩
    obtain ⟨u, r, l⟩ := hl i x v e1 e2 e3
    refine ⟨u, r, ?_⟩
    rcases l with l | ⟨k, c, e, z⟩
    · exact .inl l
    · exact .inr ⟨k, c, e, cellK x c e _ z⟩
  · obtain ⟨v, z⟩ := I.cell x c e
    exact ⟨v, cellK x c e v z⟩
  · obtain ⟨m, ⟨o, _, _, ho, _⟩, _⟩ := I.loc
    exact free _ o (fun z => (hch _ z).2.1 rfl) ho I.free
  · obtain ⟨v, o, ho, hd⟩ := I.cell x c e
    exact free c o (fun z => (hch c z).2.2.1 x c e rfl) ho (I.freeC x c e)
  · obtain ⟨e, n, ne, nf, d⟩ := I.pin p hp
    have nch : p.1 ∉ ch := fun z => (hch p.1 z).2.2.2 p hp rfl
    exact ⟨keep p.1 p.2 ne nf nch e n, free p.1 p.2 nch e n, ne, nf, d⟩
/-- .. where the frame's own object is kept too -/
theorem Inv.un {t' : Nat} (I : Inv X pins σ H s) (u : Un X.fs [] H H' s.heap h') (hok : HOk X.prog X.w H' h') : Inv X pins σ H' { s with heap := h', toks := t' } := by
  obtain ⟨m, ⟨o, es, ep, ho, r⟩, _⟩ := id I.loc
  obtain ⟨sl, hL⟩ := u.any ho I.free (by simp)
  exact I.step (g' := s.gens) (d' := s.drawn) (ch := []) (fun _ z => nomatch z) (fun b o _ hb _ e n => u.keep b o e n hb (by simp)) (fun b o _ hb _ e n => u.slot b o e n hb (by simp)) (fun b o _ e n => u.free b o e n (by simp)) (fun b o _ e => u.there b o e (by simp)) u.tups u.frzs u.tbls (fun m' hm => by
    obtain ⟨o', es', ep', ho', r'⟩ := hm
    rw [ho] at ho'; cases ho'
    exact ⟨_, es', ep', hL, r'⟩) hok I.bare
/-- behind a call (or a comprehension's block): the slots of this frame may have changed too, the records at ch may have turned -/
theorem Inv.call {g' : Array GenState} {t' : Nat} {d' : Drawn} {ch : List Addr} (I : Inv X pins σ H s) (u : Un (frs X.stack) ch H H' s.heap h') (hok : HOk X.prog X.w H' h') (hg : AllBare g')
    (hch : ∀ b ∈ ch, (b ∈ X.ex ∨ X.s₀.heap.objs.size ≤ b) ∧ b ≠ X.env.locals ∧ (∀ x c, X.env.cells.lookup x = some c → c ≠ b) ∧ ∀ p ∈ X.pn ++ pins, p.1 ≠ b) :
    Inv X pins σ H' { s with heap := h', gens := g', drawn := d', toks := t' } := by
  obtain ⟨m, ⟨o, es, ep, ho, r⟩, _⟩ := id I.loc
  obtain ⟨sl, hL⟩ := u.any ho I.free fun z => (hch _ z).2.1 rfl
  exact I.step (ch := ch) hch (fun b o hL hb hc e n => u.keep b o e n (fun z => (List.mem_cons.mp (I.stkSub b z)).elim hL hb) hc) (fun b o _ _ hc e n => u.any e n hc) (fun b o hc e n => u.free b o e n hc) (fun b o hc e => u.there b o e hc) u.tups u.frzs u.tbls (fun m' hm => by
    obtain ⟨o', es', ep', ho', r'⟩ := hm
    rw [ho] at ho'; cases ho'
    exact ⟨_, es', ep', hL, r'⟩) hok hg
/-- an untracked record of ours (an iterator) has turned -/
theorem Inv.turned {t' : Nat} {it : Addr} (I : Inv X pins σ H s) (k : ∀ b o, b ≠ it → s.heap.get? b = some o → h'.get? b = some o) (hn : H it = none) (hL : it ≠ X.env.locals)
    (h1 : it ∈ X.ex ∨ X.s₀.heap.objs.size ≤ it) (h2 : ∀ x c, X.env.cells.lookup x = some c → c ≠ it) (h3 : ∀ p ∈ X.pn ++ pins, p.1 ≠ it) : Inv X pins σ H { s with heap := h', toks := t' } := by
  have nit : ∀ b u, H b = some u → b ≠ it := fun b u e z => by rw [z, hn] at e; cases e
  refine I.step (g' := s.gens) (d' := s.drawn) (ch := [it]) (fun b hb => ?_) (fun b o _ _ hc e _ => k b o (fun z => hc (by simp [z])) e) (fun b o _ _ hc e _ => ⟨o.slots, k b o (fun z => hc (by simp [z])) e⟩) (fun _ _ _ _ n => n)
    (fun b o hc e => ⟨o, k b o (fun z => hc (by simp [z])) e⟩) (fun _ _ e => e) (fun _ _ _ e => e) (fun b ps e => ⟨#[], by rw [e]; simp⟩) (fun m hm => ?_) (fun b u e => ?_) I.bare
  · have e : b = it := by simpa using hb
    subst e
    exact ⟨h1, hL, h2, h3⟩
  · obtain ⟨o, es, ep, ho, r⟩ := hm
    exact ⟨o, es, ep, k _ o (Ne.symm hL) ho, r⟩
  · refine (I.hok b u e).stay (fun c v hc q => k c v ?_ q) (fun _ q => q) fun _ _ q => q
    rcases hc with z | z
    · rw [z]; exact nit b u e
    · exact nit c _ z
theorem Inv.tok (I : Inv X pins σ H s) (t : Nat) : Inv X pins σ H { s with toks := t } := I.un (h' := s.heap) (t' := t) Un.refl I.hok
/-- all objects kept -/
theorem Inv.kept {t' : Nat} (I : Inv X pins σ H s) (k : ∀ b u, s.heap.get? b = some u → h'.get? b = some u) : Inv X pins σ H { s with heap := h', toks := t' } := I.un (Un.kept k) (I.hok.kept k)
/-- a new object laid and tracked -/
theorem Inv.laid {a : Addr} {o : HO} {t' : Nat} (I : Inv X pins σ H s) (k : ∀ b u, s.heap.get? b = some u → h'.get? b = some u) (hp : s.heap.objs.size ≤ a) (new : ObjOk X.prog X.w (upd H a o) h' a o) :
    Inv X pins σ (upd H a o) { s with heap := h', toks := t' } := I.un (Un.laid k hp (I.hok.fresh hp)) (I.hok.laid k hp new)
/-- an object written -/
theorem Inv.write {x e : Addr} {o : HO} {t' : Nat} (I : Inv X pins σ H s) (mu : Mut (H x)) (he : e = x ∨ H e = some (.own x)) (k : ∀ b u, b ≠ e → s.heap.get? b = some u → h'.get? b = some u) (heo : ∃ u, h'.get? e = some u)
    (new : ObjOk X.prog X.w (upd H x o) h' x o) : Inv X pins σ (upd H x o) { s with heap := h', toks := t' } := I.un (Un.write mu he k heo) (I.hok.write mu he k heo new)
theorem Inv.pins_of {pins' : List (Addr × Obj)} (I : Inv X pins σ H s) (h : ∀ p ∈ pins', s.heap.get? p.1 = some p.2 ∧ H p.1 = none ∧ p.1 ≠ X.env.locals ∧ p.1 ∉ X.fs ∧ ∀ v, p.2.data ≠ .cell v) : Inv X pins' σ H s :=
  ⟨I.ok, I.os, I.bare, I.base, I.loc, I.cell, I.free, I.freeC, fun p hp => (List.mem_append.mp hp).elim (fun z => I.pin p (List.mem_append_left _ z)) (h p), I.hok, I.len⟩

theorem nodup_ix {N : List Str} (hN : N.Nodup) {i j : Nat} {x : Str} (a : N[i]? = some x) (b : N[j]? = some x) : i = j := by
  obtain ⟨h1, e1⟩ := List.getElem?_eq_some_iff.mp a
  obtain ⟨h2, e2⟩ := List.getElem?_eq_some_iff.mp b
  exact (List.getElem_inj hN).mp (e1.trans e2.symm)

/-- a name is stored; what changed -/
theorem store_ok2 {M : Model} {A : Around} {E : Value → Shared → Prop} {i : Nat} {x : Str} {v : V} {u : Value} {Q : Unit → Shared → Prop} (I : Inv X pins σ H s) (hN : X.N.Nodup) (hi : X.N[i]? = some x) (hx : Loc X.env.scope x) (r : RelV v u)
    (h : ∀ s', Inv X pins (σ.set i (some v)) H s' → (∃ a, Heap.SameBut a s.heap s'.heap ∧ (a = X.env.locals ∨ X.env.cells.lookup x = some a)) → Q () s') (hf : X.fn x = true ∨ X.env.scope.names.lookup x = some .local := by first | exact .inl rfl | exact .inr rfl | assumption) : wpAny M A (storeName X.env x u) Q E s := by
  obtain ⟨m, hn, hl⟩ := id I.loc
  have hcls : (X.env.scope.kind == .class || (X.env.scope.kind == .module && X.env.locals != X.env.globals)) = false := by rw [I.ok.kind]; rfl
  have hiσ : i < σ.length := by rw [I.len]; exact (List.getElem?_eq_some_iff.mp hi).1
  have cne := I.cne
  have tracked : ∀ {a : Addr} {h' : Heap}, (∃ o, s.heap.get? a = some o ∧ H a = none) → Heap.SameBut a s.heap h' → HOk X.prog X.w H h' := fun {a h'} ha hs b ob e => by
    obtain ⟨_, _, hfree⟩ := ha
    refine (I.hok b ob e).stay (fun c w' hc q => (hs.2 c ?_).trans q) (fun _ q => q) fun _ _ q => q
    rintro rfl
    rcases hc with rfl | hc
    · rw [hfree] at e; cases e
    · rw [hfree] at hc; cases hc
  rcases hx with hk | hk
  · refine wpAny_storeName_local hk hn (fun h' hn' hs => ?_) hcls
    obtain ⟨oL, _, _, hoL, _⟩ := id hn
    refine h _ ⟨I.ok, I.os, I.bare, ⟨fun b o e n hb hx => ?_, fun b o e n hb hx => ?_, I.base.free, fun b o e hx => ?_, I.base.tups, I.base.frzs, I.base.tbls⟩, ⟨_, hn', fun j y v' e1 e2 e3 => ?_⟩, fun y c e => ?_, I.free, I.freeC, fun p hp => ?_, tracked ⟨oL, hoL, I.free⟩ hs, by simpa using I.len⟩ ⟨_, hs, .inl rfl⟩
    · exact (hs.2 b (Nat.ne_of_lt (Nat.lt_of_lt_of_le (Heap.lt_size e) I.ok.above))).trans (I.base.keep b o e n hb hx)
    · obtain ⟨sl, e1⟩ := I.base.slot b o e n hb hx
      exact ⟨sl, (hs.2 b (Nat.ne_of_lt (Nat.lt_of_lt_of_le (Heap.lt_size e) I.ok.above))).trans e1⟩
    · obtain ⟨o', e1⟩ := I.base.there b o e hx
      exact ⟨o', (hs.2 b (Nat.ne_of_lt (Nat.lt_of_lt_of_le (Heap.lt_size e) I.ok.above))).trans e1⟩
    · by_cases hj : j = i
      · subst hj
        rw [hi] at e1; cases e1
        rw [List.getElem?_set_self hiσ] at e2
        cases e2
        exact ⟨u, r, .inl ⟨hk, by simp⟩⟩
      · rw [List.getElem?_set_ne (Ne.symm hj)] at e2
        obtain ⟨u', r', q⟩ := hl j y v' e1 e2 e3
        refine ⟨u', r', ?_⟩
        rcases q with ⟨k, e⟩ | ⟨k, c, e, z⟩
        · refine .inl ⟨k, ?_⟩
          have : y ≠ x := fun e => hj (nodup_ix hN e1 (e ▸ hi))
          simp [this, e]
        · exact .inr ⟨k, c, e, z.sameBut hs (cne y c e)⟩
    · obtain ⟨w', z⟩ := I.cell y c e
      exact ⟨w', z.sameBut hs (cne y c e)⟩
    · obtain ⟨e, n, ne, nf, d⟩ := I.pin p hp
      exact ⟨(hs.2 p.1 ne).trans e, n, ne, nf, d⟩
  · have hfn : X.fn x = true := by
      rcases hf with z | z
      · exact z
      · rw [z] at hk; cases hk
    obtain ⟨c, hc⟩ := I.ok.has x (.inl hk)
    obtain ⟨w', z⟩ := I.cell x c hc
    refine wpAny_storeName_cell I.ok.kind hk hc z (fun h' hc' hs => ?_)
    obtain ⟨oc, hoc, hocd⟩ := id z
    refine h { s with heap := h' } ⟨I.ok, I.os, I.bare, ⟨fun b o e n hb hx => ?_, fun b o e n hb hx => ?_, I.base.free, fun b o e hx => ?_, I.base.tups, I.base.frzs, I.base.tbls⟩, ⟨m, hn.sameBut hs (Ne.symm (cne x c hc)), fun j y v' e1 e2 e3 => ?_⟩, fun y c' e => ?_, I.free, I.freeC, fun p hp => ?_, tracked ⟨oc, hoc, I.freeC x c hc⟩ hs, by simpa using I.len⟩ ⟨c, hs, .inr hc⟩
    · exact (hs.2 b (Nat.ne_of_lt (Nat.lt_of_lt_of_le (Heap.lt_size e) (I.ok.cab x c hfn hc)))).trans (I.base.keep b o e n hb hx)
    · obtain ⟨sl, e1⟩ := I.base.slot b o e n hb hx
      exact ⟨sl, (hs.2 b (Nat.ne_of_lt (Nat.lt_of_lt_of_le (Heap.lt_size e) (I.ok.cab x c hfn hc)))).trans e1⟩
    · obtain ⟨o', e1⟩ := I.base.there b o e hx
      exact ⟨o', (hs.2 b (Nat.ne_of_lt (Nat.lt_of_lt_of_le (Heap.lt_size e) (I.ok.cab x c hfn hc)))).trans e1⟩
    · by_cases hj : j = i
      · subst hj
        rw [hi] at e1; cases e1
        rw [List.getElem?_set_self hiσ] at e2
        cases e2
        exact ⟨u, r, .inr ⟨.inl hk, c, hc, hc'⟩⟩
      · rw [List.getElem?_set_ne (Ne.symm hj)] at e2
        obtain ⟨u', r', q⟩ := hl j y v' e1 e2 e3
        refine ⟨u', r', ?_⟩
        rcases q with q | ⟨k, c', e, z'⟩
        · exact .inl q
        · refine .inr ⟨k, c', e, z'.sameBut hs ?_⟩
          rintro rfl
          exact hj (nodup_ix hN e1 (I.ok.inj _ _ _ e hc ▸ hi))
    · by_cases hcc : c' = c
      · subst hcc; exact ⟨_, hc'⟩
      · obtain ⟨w2, z2⟩ := I.cell y c' e
        exact ⟨w2, z2.sameBut hs hcc⟩
    · obtain ⟨e, n, ne, nf, d⟩ := I.pin p hp
      refine ⟨(hs.2 p.1 ?_).trans e, n, ne, nf, d⟩
      intro q
      rw [q, hoc] at e
      have q' : oc = p.2 := Option.some.inj e
      exact d w' (by rw [← q']; exact hocd)
theorem store_ok {M : Model} {A : Around} {E : Value → Shared → Prop} {i : Nat} {x : Str} {v : V} {u : Value} {Q : Unit → Shared → Prop} (I : Inv X pins σ H s) (hN : X.N.Nodup) (hi : X.N[i]? = some x) (hx : Loc X.env.scope x) (r : RelV v u)
    (h : ∀ s', Inv X pins (σ.set i (some v)) H s' → Q () s') (hf : X.fn x = true ∨ X.env.scope.names.lookup x = some .local := by first | exact .inl rfl | exact .inr rfl | assumption) : wpAny M A (storeName X.env x u) Q E s :=
  store_ok2 I hN hi hx r (fun s' I' _ => h s' I') hf
/-- behind a call or a block, the state as it is -/
theorem Inv.call' {s' : Shared} {ch : List Addr} (I : Inv X pins σ H s) (ho : s'.os = s.os) (u : Un (frs X.stack) ch H H' s.heap s'.heap) (hok : HOk X.prog X.w H' s'.heap) (hg : AllBare s'.gens)
    (hch : ∀ b ∈ ch, (b ∈ X.ex ∨ X.s₀.heap.objs.size ≤ b) ∧ b ≠ X.env.locals ∧ (∀ x c, X.env.cells.lookup x = some c → c ≠ b) ∧ ∀ p ∈ X.pn ++ pins, p.1 ≠ b) : Inv X pins σ H' s' := by
  obtain ⟨h', g', d', t', o'⟩ := s'
  have e : o' = s.os := ho
  subst e
  exact I.call (g' := g') (t' := t') (d' := d') u hok hg hch
end

/-! ### the judgements -/
/-- an exception: its class, its own dict's address (where it has one), the abstract heap behind it -/
abbrev XK := Value → Option Addr → Hp → Prop
abbrev St := List (Option V)
abbrev VK := V → Hp → Prop
/-- an expression's reading; a test's; an argument list's -/
abbrev TE := St → Hp → VK → Prop
abbrev TT := St → Hp → (Bool → Hp → Prop) → Prop
abbrev TA := St → Hp → (List V → Hp → Prop) → Prop
/-- what is wanted behind a statement -/
structure Ends where
  nx : St → Hp → Prop
  rt : VK
  bk : St → Hp → Prop := fun _ _ => False
  ct : St → Hp → Prop := fun _ _ => False
abbrev TS := Ends → St → Hp → Prop

def EP (X : Cx) (pins : List (Addr × Obj)) (σ : St) (Q : VK) (u : Value) (s' : Shared) : Prop := ∃ v H', Inv X pins σ H' s' ∧ RelV v u ∧ Q v H'
def TP (X : Cx) (pins : List (Addr × Obj)) (σ : St) (Q : Bool → Hp → Prop) (b : Bool) (s' : Shared) : Prop := ∃ H', Inv X pins σ H' s' ∧ Q b H'
def AP (X : Cx) (pins : List (Addr × Obj)) (σ : St) (Q : List V → Hp → Prop) (us : List Value) (s' : Shared) : Prop := ∃ vs H', Inv X pins σ H' s' ∧ Vals vs us ∧ Q vs H'
def SP (X : Cx) (pins : List (Addr × Obj)) (D : Ends) (f : Flow) (s' : Shared) : Prop :=
  match f with
  | .next => ∃ σ' H', Inv X pins σ' H' s' ∧ D.nx σ' H'
  | .brk => ∃ σ' H', Inv X pins σ' H' s' ∧ D.bk σ' H'
  | .cont => ∃ σ' H', Inv X pins σ' H' s' ∧ D.ct σ' H'
  | .ret u => ∃ v σ' H', Inv X pins σ' H' s' ∧ RelV v u ∧ D.rt v H'

def PE (X : Cx) (e : Expr) (t : TE) : Prop :=
  ∀ (pins : List (Addr × Obj)) (s : Shared) (σ : St) (H : Hp) (Q : VK), Inv X pins σ H s → t σ H Q → wpAny (model X.prog X.w) X.A (eval e X.env) (EP X pins σ Q) X.xe s
def PT (X : Cx) (e : Expr) (t : TT) : Prop :=
  ∀ (pins : List (Addr × Obj)) (s : Shared) (σ : St) (H : Hp) (Q : Bool → Hp → Prop), Inv X pins σ H s → t σ H Q → wpAny (model X.prog X.w) X.A (isTrue e X.env (eval e X.env)) (TP X pins σ Q) X.xe s
/-- a test whatever its 'whole' is (and, or) -/
def PW (X : Cx) (e : Expr) (t : TT) : Prop :=
  ∀ (whole : Sem Value) (pins : List (Addr × Obj)) (s : Shared) (σ : St) (H : Hp) (Q : Bool → Hp → Prop), Inv X pins σ H s → t σ H Q → wpAny (model X.prog X.w) X.A (isTrue e X.env whole) (TP X pins σ Q) X.xe s
theorem PW.pt {X : Cx} {e : Expr} {t : TT} (h : PW X e t) : PT X e t := h _
/-- an argument list (no star), from the left -/
def PA (X : Cx) (es : List Expr) (t : TA) : Prop :=
  ∀ (pos : Pos) (pins : List (Addr × Obj)) (s : Shared) (σ : St) (H : Hp) (Q : List V → Hp → Prop), Inv X pins σ H s → t σ H Q → wpAny (model X.prog X.w) X.A (spliced (backTo pos (starEach es X.env))) (AP X pins σ Q) X.xe s
def PS (X : Cx) (st : Stmt) (t : TS) : Prop :=
  ∀ (pins : List (Addr × Obj)) (s : Shared) (σ : St) (H : Hp) (D : Ends), Inv X pins σ H s → t D σ H → wpAny (model X.prog X.w) X.A (exec st X.env) (SP X pins D) X.xe s
def PSs (X : Cx) (st : List Stmt) (t : TS) : Prop :=
  ∀ (pins : List (Addr × Obj)) (s : Shared) (σ : St) (H : Hp) (D : Ends), Inv X pins σ H s → t D σ H → wpAny (model X.prog X.w) X.A (execs st X.env) (SP X pins D) X.xe s
/-- weaken the end -/
theorem thn {α : Type} {t : Sem α} {Q Q' : α → Shared → Prop} {M : Model} {A : Around} {E : Value → Shared → Prop} {s : Shared} (h : wpAny M A t Q E s) (hQ : ∀ a s, Q a s → Q' a s) : wpAny M A t Q' E s := wpAny_mono h hQ fun _ _ x => x
end L2

namespace L2
open PySem PySem.Spec PyProof.Rows
section
variable {X : Cx}

/-- two expressions in a row -/
theorem bin {a b : Expr} {ta tb : TE} (ha : PE X a ta) (hb : PE X b tb) {pins : List (Addr × Obj)} {s : Shared} {σ : St} {H : Hp} {R : V → V → Hp → Prop} (I : Inv X pins σ H s) (h : ta σ H fun x H1 => tb σ H1 fun y H2 => R x y H2)
    {α : Type} {Q : α → Shared → Prop} {f : Value → Value → Sem α}
    (hf : ∀ v u s2 x y H2, Inv X pins σ H2 s2 → RelV x v → RelV y u → R x y H2 → wpAny (model X.prog X.w) X.A (f v u) Q X.xe s2) :
    wpAny (model X.prog X.w) X.A (eval a X.env) (fun v s₁ => wpAny (model X.prog X.w) X.A (eval b X.env) (fun u s₂ => wpAny (model X.prog X.w) X.A (f v u) Q X.xe s₂) X.xe s₁) X.xe s := by
  refine thn (ha pins s σ H _ I h) fun v s1 ⟨x, H1, I1, r1, q1⟩ => ?_
  refine thn (hb pins s1 σ H1 _ I1 q1) fun u s2 ⟨y, H2, I2, r2, q2⟩ => ?_
  exact hf v u s2 x y H2 I2 r1 r2 q2

/-! ### names and constants -/
def tVar (i : Nat) : TE := fun σ H Q => ∃ v, σ[i]? = some (some v) ∧ Q v H
def tC (v : V) : TE := fun _ H Q => Q v H
theorem pe_var {i : Nat} {x : Str} {pos : Pos} (hN : X.N[i]? = some x) (hv : Vis X.env.scope x) (hd : (x == ("__debug__" : Str)) = false := by decide) (hcd : (x == ("__classdict__" : Str)) = false := by decide) : PE X (.Name x pos) (tVar i) := by
  intro pins s σ H Q I h
  obtain ⟨v, e, h⟩ := h
  obtain ⟨m, hn, hl⟩ := I.loc
  obtain ⟨u, r, l⟩ := hl i x v hN e hv
  have fin : EP X pins σ Q u s := ⟨v, H, I, r, h⟩
  rcases l with ⟨hk, hm⟩ | ⟨hk, c, hc, hcell⟩
  · exact wpAny_Name (wpAny_loadName_local I.ok.kind hk hn hm fin) hd
  · rcases hk with hk | hk
    · exact wpAny_Name (wpAny_loadName_cell I.ok.kind hk hc hcell fin) hd
    · exact wpAny_Name (wpAny_loadName_free I.ok.kind hk hc hcell fin hcd) hd
theorem pe_int {i j pos} : PE X (.Constant (.int i) j pos) (tC (.int i)) := fun _ _ _ H _ I h => wpAny_Constant_int ⟨.int i, H, I.tok _, ⟨_, rfl⟩, h⟩
theorem pe_bl {b j pos} : PE X (.Constant (.bool b) j pos) (tC (.bl b)) := fun _ _ _ H _ I h => Constant_bool ⟨.bl b, H, I, rfl, h⟩
theorem pe_non {j pos} : PE X (.Constant .none j pos) (tC .non) := fun _ _ _ H _ I h => Constant_none ⟨.non, H, I, rfl, h⟩
theorem pe_str {x j pos} : PE X (.Constant (.str x) j pos) (tC (.str x)) := fun _ _ _ H _ I h => Calls.Constant_str ⟨.str x, H, I.tok _, ⟨_, rfl⟩, h⟩

/-- a global name of the def -/
def Gl (X : Cx) (x : Str) : Prop := X.env.kindOf x = some .globalImplicit
theorem ld_glob {E : Value → Shared → Prop} {pins : List (Addr × Obj)} {s : Shared} {σ : St} {H : Hp} {x : Str} {u : Value} {pos : Pos} {Q : Value → Shared → Prop} (I : Inv X pins σ H s) (hg : Gl X x) (hm : X.mg x = some u) (h : Q u s)
    (hd : (x == ("__debug__" : Str)) = false := by decide) : wpAny (model X.prog X.w) X.A (eval (.Name x pos) X.env) Q E s :=
  Calls.Name_function_global I.ok.kind hg (Calls.loadGlobal_global (by rw [I.ok.glob]; exact I.mod.glob.keeps I.bk) hm h) hd
theorem ld_blt {E : Value → Shared → Prop} {pins : List (Addr × Obj)} {s : Shared} {σ : St} {H : Hp} {x : Str} {u : Value} {pos : Pos} {Q : Value → Shared → Prop} (I : Inv X pins σ H s) (hg : Gl X x) (hm : X.mg x = none) (hv : bootBuiltins x = some u) (h : Q u s)
    (hn : x ≠ "__name__" := by decide) (hd : (x == ("__debug__" : Str)) = false := by decide) : wpAny (model X.prog X.w) X.A (eval (.Name x pos) X.env) Q E s := by
  obtain ⟨mb, h1, h2⟩ := I.mod.blt
  exact Calls.Name_function_global I.ok.kind hg (Calls.loadGlobal_builtin (by rw [I.ok.glob]; exact I.mod.glob.keeps I.bk) hm (by rw [I.ok.blt]; exact h1.keeps I.bk) ((h2 x hn).trans hv) h) hd
/-- a module's constant, a class, a function, as a value -/
theorem pe_glob {x : Str} {v : V} {u : Value} {pos : Pos} (hg : Gl X x) (hm : X.mg x = some u) (r : RelV v u) (hd : (x == ("__debug__" : Str)) = false := by decide) : PE X (.Name x pos) (tC v) :=
  fun _ _ _ H _ I h => ld_glob I hg hm ⟨v, H, I, r, h⟩ hd
theorem pe_bltn {x : Str} {v : V} {u : Value} {pos : Pos} (hg : Gl X x) (hm : X.mg x = none) (hv : bootBuiltins x = some u) (r : RelV v u) (hn : x ≠ "__name__" := by decide) (hd : (x == ("__debug__" : Str)) = false := by decide) : PE X (.Name x pos) (tC v) :=
  fun _ _ _ H _ I h => ld_blt I hg hm hv ⟨v, H, I, r, h⟩ hn hd

/-! ### arithmetic -/
variable {a b : Expr} {ta tb : TE} {pos : Pos}
/-! ### comparisons -/
def PC (X : Cx) (op : CmpOp) (a b : Expr) (t : TE) : Prop :=
  ∀ (pins : List (Addr × Obj)) (s : Shared) (σ : St) (H : Hp) (Q : VK), Inv X pins σ H s → t σ H Q →
    wpAny (model X.prog X.w) X.A (eval a X.env) (fun v s₁ => wpAny (model X.prog X.w) X.A (eval b X.env) (fun u s₂ => wpAny (model X.prog X.w) X.A (compareOp op v u) (EP X pins σ Q) X.xe s₂) X.xe s₁) X.xe s
theorem nobehind (b : Expr) {op : CmpOp} (h : op ≠ .In) (h2 : op ≠ .NotIn) : behindInMarks op b = false := by
  have e1 : (op == CmpOp.In) = false := by cases op <;> first | rfl | exact absurd rfl h
  have e2 : (op == CmpOp.NotIn) = false := by cases op <;> first | rfl | exact absurd rfl h2
  cases b <;> simp [behindInMarks, e1, e2]
/-- is None -/
def tIsN (ta : TE) : TE := fun σ H Q => ta σ H fun x H1 => Q (.bl (decide (x = .non))) H1
def tNotN (ta : TE) : TE := fun σ H Q => ta σ H fun x H1 => Q (.bl (!decide (x = .non))) H1
theorem RelV.none_iff {x : V} {v : Value} (r : RelV x v) : (v == Value.none) = decide (x = .non) := by
  cases x with
  | non => cases r; rfl
  | bl _ => cases r; rfl
  | int _ => obtain ⟨t, rfl⟩ := r; rfl
  | str _ => obtain ⟨t, rfl⟩ := r; rfl
  | byt _ => obtain ⟨t, rfl⟩ := r; rfl
  | flt _ => obtain ⟨t, rfl⟩ := r; rfl
  | ref _ => cases r; rfl
  | ty _ => cases r; rfl
theorem pc_isN {j pos'} (ha : PE X a ta) : PC X .Is a (.Constant .none j pos') (tIsN ta) := by
  intro pins s σ H Q I h
  refine thn (ha pins s σ H _ I h) fun v s1 ⟨x, H1, I1, r1, q1⟩ => ?_
  exact Constant_none (is_none_gen ⟨.bl _, H1, I1, by rw [r1.none_iff]; rfl, q1⟩)
theorem pc_notN {j pos'} (ha : PE X a ta) : PC X .IsNot a (.Constant .none j pos') (tNotN ta) := by
  intro pins s σ H Q I h
  refine thn (ha pins s σ H _ I h) fun v s1 ⟨x, H1, I1, r1, q1⟩ => ?_
  exact Constant_none (isnot_none_gen ⟨.bl _, H1, I1, by rw [r1.none_iff]; rfl, q1⟩)
/-- a comparison as a value, as a test -/
def tB (t : TE) : TT := fun σ H Q => t σ H fun x H1 => ∃ c, x = .bl c ∧ Q c H1
theorem pe_cmp {op : CmpOp} {t : TE} (h : PC X op a b t) (h1 : behindInMarks op b = false := by first | exact nobehind _ (by decide) (by decide) | rfl) : PE X (.Compare a [op] [b] pos) t := fun pins s σ H Q I hw => wpAny_Compare1 (h pins s σ H Q I hw) h1
theorem pt_cmp {op : CmpOp} {t : TE} (h : PC X op a b t) (h1 : behindInMarks op b = false := by first | exact nobehind _ (by decide) (by decide) | rfl) : PT X (.Compare a [op] [b] pos) (tB t) := by
  intro pins s σ H Q I hw
  refine wpAny_isTrue_Compare1 (thn (h pins s σ H _ I hw) fun v s1 h1 => thn h1 fun u s2 h2 => thn h2 fun c s3 ⟨x, H1, I1, r1, q1⟩ => ?_) h1
  obtain ⟨d, rfl, q⟩ := q1
  cases r1
  exact wpAny_truthy_bool ⟨H1, I1, q⟩
/-- an expression whose value is a bool, as a test -/
theorem pt_val {e : Expr} {t : TE} (h : PE X e t) (he : ∀ whole, isTrue e X.env whole = (do let v ← whole; standAt e.pos; holding [v] (truthy v)) := by intro _; rfl) : PT X e (tB t) := by
  intro pins s σ H Q I hw
  refine isTrue_plain (thn (h pins s σ H _ I hw) fun v s1 ⟨x, H1, I1, r1, q1⟩ => ?_) (he _)
  obtain ⟨d, rfl, q⟩ := q1
  cases r1
  exact wpAny_truthy_bool ⟨H1, I1, q⟩

/-! ### and, or, not -/
variable {tA tB' : TT} {rest : List Expr}
def tAnd (t u : TT) : TT := fun σ H Q => t σ H fun c H1 => if c = true then u σ H1 Q else Q false H1
def tOr (t u : TT) : TT := fun σ H Q => t σ H fun c H1 => if c = true then Q true H1 else u σ H1 Q
def tNot (t : TT) : TT := fun σ H Q => t σ H fun c H1 => Q (!c) H1
theorem pw_and1 (ha : PT X a tA) : PW X (.BoolOp .And [a] pos) tA := by
  intro wh pins s σ H Q I h
  refine isTrue_and (thn (ha pins s σ H Q I h) fun c s1 e => ?_)
  cases c with
  | true => exact isTrue_and_nil e
  | false => exact e
theorem pw_or1 (ha : PT X a tA) : PW X (.BoolOp .Or [a] pos) tA := by
  intro wh pins s σ H Q I h
  refine isTrue_or (thn (ha pins s σ H Q I h) fun c s1 e => ?_)
  cases c with
  | false => exact isTrue_or_nil e
  | true => exact e
theorem pw_and (ha : PT X a tA) (hb : PW X (.BoolOp .And (b :: rest) pos) tB') : PW X (.BoolOp .And (a :: b :: rest) pos) (tAnd tA tB') := by
  intro wh pins s σ H Q I h
  refine isTrue_and (thn (ha pins s σ H _ I h) fun c s1 ⟨H1, I1, q1⟩ => ?_)
  cases c with
  | true => exact hb wh pins s1 σ H1 Q I1 q1
  | false => exact ⟨H1, I1, q1⟩
theorem pw_or (ha : PT X a tA) (hb : PW X (.BoolOp .Or (b :: rest) pos) tB') : PW X (.BoolOp .Or (a :: b :: rest) pos) (tOr tA tB') := by
  intro wh pins s σ H Q I h
  refine isTrue_or (thn (ha pins s σ H _ I h) fun c s1 ⟨H1, I1, q1⟩ => ?_)
  cases c with
  | true => exact ⟨H1, I1, q1⟩
  | false => exact hb wh pins s1 σ H1 Q I1 q1
theorem pt_not (ha : PT X a tA) : PT X (.UnaryOp .Not a pos) (tNot tA) := by
  intro pins s σ H Q I h
  exact isTrue_not (ha pins s σ H (fun c H1 => Q (!c) H1) I h)
def tOrV (ta tb : TE) : TE := fun σ H Q => ta σ H fun x H1 => ∃ c, x = .bl c ∧ if c = true then Q (.bl true) H1 else tb σ H1 Q
theorem pe_one {op} {t : TE} (h : PE X a t) : PE X (.BoolOp op [a] pos) t := fun pins s σ H Q I hw => BoolOp_one (h pins s σ H Q I hw)
theorem pe_or (ha : PE X a ta) (hb : PE X (.BoolOp .Or (b :: rest) pos) tb) : PE X (.BoolOp .Or (a :: b :: rest) pos) (tOrV ta tb) := by
  intro pins s σ H Q I h
  refine BoolOp_or (thn (ha pins s σ H _ I h) fun v s1 ⟨x, H1, I1, r1, q1⟩ => ?_)
  obtain ⟨c, rfl, q1⟩ := q1
  cases r1
  refine wpAny_truthy_bool ?_
  cases c with
  | false => exact hb pins s1 σ H1 Q I1 q1
  | true => exact ⟨.bl true, H1, I1, rfl, q1⟩
/-- a if t else b -/
def tIf (t : TT) (ta tb : TE) : TE := fun σ H Q => t σ H fun c H1 => if c = true then ta σ H1 Q else tb σ H1 Q
theorem pe_ifExp {c : Expr} (hc : PT X c tA) (ha : PE X a ta) (hb : PE X b tb) : PE X (.IfExp c a b pos) (tIf tA ta tb) := by
  intro pins s σ H Q I h
  refine wpAny_IfExp (thn (hc pins s σ H _ I h) fun d s1 ⟨H1, I1, q1⟩ => ?_)
  cases d with
  | true => exact ha pins s1 σ H1 Q I1 q1
  | false => exact hb pins s1 σ H1 Q I1 q1
end
end L2

namespace L2
open PySem PySem.Spec PyProof.Rows

/-! ### a list, a tuple that is read: tracked, frozen, or an object of the module -/
def SqL (K : PySem.W.Frag) (H : Hp) (a : Addr) (xs : List V) : Prop :=
  Rd H a (.lst xs) ∨
    ∃ (o : Obj) (its : Array Value) (n : Nat), K.lookup a = some o ∧ o.cls = .type "list" ∧ o.dict = none ∧ o.data = .seq its n ∧ its.size ≤ sizeLine ∧ Vals xs its.toList
def SqT (K : PySem.W.Frag) (H : Hp) (a : Addr) (xs : List V) : Prop :=
  Rd H a (.tup xs) ∨
    ∃ (o : Obj) (its : Array Value) (n : Nat), K.lookup a = some o ∧ o.cls = .type "tuple" ∧ o.data = .seq its n ∧ its.size ≤ sizeLine ∧ Vals xs its.toList
def absV : Value → Option V
  | .none => some .non
  | .bool b => some (.bl b)
  | .int i _ => some (.int i)
  | .str x _ => some (.str x)
  | .bytes b _ => some (.byt b)
  | .float b _ => some (.flt b)
  | .ref a => some (.ref a)
  | .type n => some (.ty n)
  | _ => none
theorem RelV.abs {x : V} {u : Value} (r : RelV x u) : absV u = some x := by
  cases x with
  | non => cases r; rfl
  | bl _ => cases r; rfl
  | int _ => obtain ⟨t, rfl⟩ := r; rfl
  | str _ => obtain ⟨t, rfl⟩ := r; rfl
  | byt _ => obtain ⟨t, rfl⟩ := r; rfl
  | flt _ => obtain ⟨t, rfl⟩ := r; rfl
  | ref _ => cases r; rfl
  | ty _ => cases r; rfl
theorem RelV.inj {x y : V} {u : Value} (r : RelV x u) (q : RelV y u) : x = y := Option.some.inj (r.abs.symm.trans q.abs)
theorem Vals.inj : ∀ {xs ys : List V} {us : List Value}, Vals xs us → Vals ys us → xs = ys
  | _, _, _, .nil, .nil => rfl
  | _, _, _, .cons r t, .cons r' t' => by rw [r.inj r', Vals.inj t t']
section
variable {X : Cx} {pins : List (Addr × Obj)} {σ : St} {H : Hp} {s : Shared} {a : Addr} {xs ys : List V}
theorem SqL.of {K : PySem.W.Frag} (h : H a = some (.lst xs)) : SqL K H a xs := .inl (.inl h)
theorem SqT.of {K : PySem.W.Frag} (h : H a = some (.tup xs)) : SqT K H a xs := .inl (.inl h)
theorem Inv.list (I : Inv X pins σ H s) (h : SqL X.K H a xs) : ∃ its : List Value, Vals xs its ∧ PlainL s.heap a its.toArray ∧ xs.length ≤ sizeLine := by
  rcases h with h | ⟨o, its, n, hk, hc, hd, hs, hz, r⟩
  · obtain ⟨z, its, n, r, e⟩ := h.ok I.hok
    exact ⟨its, r, ⟨_, n, e, rfl, rfl, rfl⟩, z⟩
  · refine ⟨its.toList, r, ⟨o, n, I.kIn a o hk, hc, hd, by simpa using hs⟩, ?_⟩
    have e := r.length
    simp only [Array.length_toList] at e
    omega
theorem Inv.tuple (I : Inv X pins σ H s) (h : SqT X.K H a xs) : ∃ its : List Value, Vals xs its ∧ IsTup s.heap a its.toArray ∧ xs.length ≤ sizeLine := by
  rcases h with h | ⟨o, its, n, hk, hc, hs, hz, r⟩
  · obtain ⟨z, its, r, p⟩ := h.ok I.hok
    exact ⟨its, r, p, z⟩
  · refine ⟨its.toList, r, ⟨o, I.kIn a o hk, hc, n, by simpa using hs⟩, ?_⟩
    have e := r.length
    simp only [Array.length_toList] at e
    omega
theorem Inv.list_inj (I : Inv X pins σ H s) (h : SqL X.K H a xs) (h' : SqL X.K H a ys) : xs = ys := by
  obtain ⟨its, r, ⟨o, n, e, _, _, d⟩, _⟩ := I.list h
  obtain ⟨its', r', ⟨o', n', e', _, _, d'⟩, _⟩ := I.list h'
  rw [e] at e'; cases e'
  rw [d] at d'
  injection d' with d1 _
  have : its = its' := by simpa using congrArg Array.toList d1
  subst this
  exact r.inj r'
theorem Inv.tuple_inj (I : Inv X pins σ H s) (h : SqT X.K H a xs) (h' : SqT X.K H a ys) : xs = ys := by
  obtain ⟨its, r, ⟨o, e, _, n, d⟩, _⟩ := I.tuple h
  obtain ⟨its', r', ⟨o', e', _, n', d'⟩, _⟩ := I.tuple h'
  rw [e] at e'; cases e'
  rw [d] at d'
  injection d' with d1 _
  have : its = its' := by simpa using congrArg Array.toList d1
  subst this
  exact r.inj r'
end

/-! ### another wish about exceptions -/
abbrev Cx.wish (X : Cx) (E : Value → Shared → Prop) : Cx := { X with xe := E }
/-- no exception leaves -/
abbrev Cx.nox (X : Cx) : Cx := X.wish fun _ _ => False
theorem Cx.Ok.wish {X : Cx} (ok : X.Ok) (E : Value → Shared → Prop) : (X.wish E).Ok :=
  ⟨ok.mod, ok.kind, ok.glob, ok.blt, ok.above, ok.inj, ok.has, ok.cab, ok.hd, ok.frames, ok.stk, ok.exf, ok.bs, ok.bsz, ok.noex, ok.exfs, ok.funs, ok.frf⟩
theorem Cx.Ok.unwish {X : Cx} {E : Value → Shared → Prop} (ok : (X.wish E).Ok) : X.Ok :=
  ⟨ok.mod, ok.kind, ok.glob, ok.blt, ok.above, ok.inj, ok.has, ok.cab, ok.hd, ok.frames, ok.stk, ok.exf, ok.bs, ok.bsz, ok.noex, ok.exfs, ok.funs, ok.frf⟩
section
variable {X : Cx} {pins : List (Addr × Obj)} {σ : St} {H : Hp} {s : Shared} {E : Value → Shared → Prop}
theorem Inv.wish (I : Inv X pins σ H s) (E : Value → Shared → Prop) : Inv (X.wish E) pins σ H s := ⟨I.ok.wish E, I.os, I.bare, I.base, I.loc, I.cell, I.free, I.freeC, I.pin, I.hok, I.len⟩
theorem Inv.unwish (I : Inv (X.wish E) pins σ H s) : Inv X pins σ H s := ⟨I.ok.unwish, I.os, I.bare, I.base, I.loc, I.cell, I.free, I.freeC, I.pin, I.hok, I.len⟩
theorem SP.unwish {D : Ends} {f : Flow} {s' : Shared} (h : SP (X.wish E) pins D f s') : SP X pins D f s' := by
  cases f with
  | next => obtain ⟨σ', H', I, q⟩ := h; exact ⟨σ', H', I.unwish, q⟩
  | brk => obtain ⟨σ', H', I, q⟩ := h; exact ⟨σ', H', I.unwish, q⟩
  | cont => obtain ⟨σ', H', I, q⟩ := h; exact ⟨σ', H', I.unwish, q⟩
  | ret u => obtain ⟨v, σ', H', I, r, q⟩ := h; exact ⟨v, σ', H', I.unwish, r, q⟩
theorem PSs.nox {st : List Stmt} {t : TS} (h : PSs X.nox st t) : PSs X st t := fun pins s σ H D I hw =>
  wpAny_mono (h pins s σ H D (I.wish _) hw) (fun _ _ q => q.unwish) fun _ _ z => False.elim z
end

/-! ### blocks and small statements -/
section
variable {X : Cx} {st : Stmt} {rest : List Stmt} {t u : TS} {e : Expr} {te : TE} {pos : Pos}
def tNext : TS := fun D σ H => D.nx σ H
def tSeq (t u : TS) : TS := fun D σ H => t { D with nx := u D } σ H
theorem pss_nil : PSs X [] tNext := fun _ _ σ H _ I h => wpAny_execs_nil ⟨σ, H, I, h⟩
theorem pss_cons (h1 : PS X st t) (h2 : PSs X rest u) : PSs X (st :: rest) (tSeq t u) := by
  intro pins s σ H D I h
  refine wpAny_execs_cons (thn (h1 pins s σ H { D with nx := u D } I h) fun f s1 q => ?_)
  cases f with
  | next =>
    obtain ⟨σ', H', I', q⟩ := q
    exact h2 pins s1 σ' H' D I' q
  | ret v => exact q
  | brk => exact q
  | cont => exact q
theorem pss_one (h1 : PS X st t) : PSs X [st] t := by
  intro pins s σ H D I h
  refine wpAny_execs_cons (thn (h1 pins s σ H D I h) fun f s1 q => ?_)
  cases f with
  | next => exact wpAny_execs_nil q
  | ret v => exact q
  | brk => exact q
  | cont => exact q
/-- in a def's body nothing is shown -/
theorem Inv.quiet {pins : List (Addr × Obj)} {σ : St} {H : Hp} {s : Shared} (I : Inv X pins σ H s) : interactive X.env = false := by simp [interactive, I.ok.kind]
/-- an expression whose value is dropped -/
def tDrop (te : TE) : TS := fun D σ H => te σ H fun _ H1 => D.nx σ H1
theorem ps_expr (he : PE X e te) (hs : swapsWith e none pos.line X.env = pure false := by rfl) : PS X (.Expr e pos) (tDrop te) := by
  intro pins s σ H D I h
  exact wpAny_Expr_any (thn (he pins s σ H _ I h) fun v s1 ⟨x, H1, I1, r1, q1⟩ => ⟨σ, H1, I1, q1⟩) I.quiet hs
def tRet (te : TE) : TS := fun D σ H => te σ H D.rt
theorem ps_ret (he : PE X e te) : PS X (.Return (some e) pos) (tRet te) := by
  intro pins s σ H D I h
  exact wpAny_Return_some (thn (he pins s σ H _ I h) fun v s1 ⟨x, H1, I1, r1, q1⟩ => ⟨x, σ, H1, I1, r1, q1⟩)
def tIfS (c : TT) (t u : TS) : TS := fun D σ H => c σ H fun b H1 => if b = true then t D σ H1 else u D σ H1
theorem ps_if {c : Expr} {a b : List Stmt} {tc : TT} (hc : PT X c tc) (ha : PSs X a t) (hb : PSs X b u) : PS X (.If c a b pos) (tIfS tc t u) := by
  intro pins s σ H D I h
  refine wpAny_If (thn (hc pins s σ H _ I h) fun d s1 ⟨H1, I1, q1⟩ => ?_)
  cases d with
  | true => exact ha pins s1 σ H1 D I1 q1
  | false => exact hb pins s1 σ H1 D I1 q1
end

/-! ### targets -/
abbrev TG := V → St → Hp → (St → Hp → Prop) → Prop
def PG (X : Cx) (target : Expr) (t : TG) : Prop :=
  ∀ (pins : List (Addr × Obj)) (s : Shared) (σ : St) (H : Hp) (v : V) (u : Value) (Q : St → Hp → Prop), Inv X pins σ H s → RelV v u → t v σ H Q →
    wpAny (model X.prog X.w) X.A (assign target X.env u) (fun _ s' => ∃ σ' H', Inv X pins σ' H' s' ∧ Q σ' H') X.xe s
/-- o[i] = v, by values -/
abbrev TSet := V → V → V → Hp → (Hp → Prop) → Prop
def PSet (X : Cx) (t : TSet) : Prop :=
  ∀ (pins : List (Addr × Obj)) (s : Shared) (σ : St) (H : Hp) (o i v : V) (ov iv u : Value) (Q : Hp → Prop), Inv X pins σ H s → RelV o ov → RelV i iv → RelV v u → t o i v H Q →
    wpAny (model X.prog X.w) X.A (setItem ov iv u) (fun _ s' => ∃ H', Inv X pins σ H' s' ∧ Q H') X.xe s
section
variable {X : Cx} {pos : Pos}
def gName (i : Nat) : TG := fun v σ H Q => Q (σ.set i (some v)) H
theorem pg_name {i : Nat} {x : Str} (hN : X.N.Nodup) (hi : X.N[i]? = some x) (hx : Loc X.env.scope x) (hf : X.fn x = true ∨ X.env.scope.names.lookup x = some .local := by first | exact .inl rfl | exact .inr rfl | assumption) : PG X (.Name x pos) (gName i) := by
  intro pins s σ H v u Q I r h
  exact wpAny_assign_Name (store_ok I hN hi hx r (fun s' I' => ⟨_, H, I', h⟩) hf)
/-- o[i] = .. -/
def gSub (to ti : TE) (t : TSet) : TG := fun v σ H Q => to σ H fun o H1 => ti σ H1 fun i H2 => t o i v H2 fun H3 => Q σ H3
theorem pg_sub {o i : Expr} {to ti : TE} {t : TSet} (ho : PE X o to) (hi : PE X i ti) (hs : PSet X t)
    (ha : ∀ v, assign (.Subscript o i pos) X.env v = (do
      let ov ← holding [v] (eval o X.env)
      let iv ← holding [v, ov] (eval i X.env)
      standAt pos
      holding [v, ov, iv] (setItem ov iv v)
      release [v, ov, iv] []) := by intro _; rfl) : PG X (.Subscript o i pos) (gSub to ti t) := by
  intro pins s σ H v u Q I r h
  rw [ha]
  refine wpAny_bind (wpAny_holding (thn (ho pins s σ H _ I h) fun ov s1 ⟨x, H1, I1, r1, q1⟩ => ?_))
  refine wpAny_bind (wpAny_holding (thn (hi pins s1 σ H1 _ I1 q1) fun iv s2 ⟨y, H2, I2, r2, q2⟩ => ?_))
  refine wpAny_bind (wpAny_standAt (wpAny_bind (wpAny_holding (thn (hs pins s2 σ H2 x y v ov iv u _ I2 r1 r2 r q2) fun _ s3 ⟨H3, I3, q3⟩ => ?_))))
  exact wpAny_release ⟨σ, H3, I3, q3⟩
/-- target = value -/
def tAsg (te : TE) (g : TG) : TS := fun D σ H => te σ H fun x H1 => g x σ H1 D.nx
theorem ps_asg {tg e : Expr} {te : TE} {g : TG} (he : PE X e te) (hg : PG X tg g) (hs : swapsWithSole [tg] e pos.line X.env = pure false := by rfl) (hw : swappedStores [tg] e X.env = pure none := by rfl)
    (h1 : (assignEach [tg] X.env).map (·.2) = [assign tg X.env] := by rfl) : PS X (.Assign [tg] e pos) (tAsg te g) := by
  intro pins s σ H D I h
  refine wpAny_Assign_stores (thn (he pins s σ H _ I h) fun v s1 ⟨x, H1, I1, r1, q1⟩ => ?_) hs hw
  rw [h1]
  exact thn (hg pins s1 σ H1 x v _ I1 r1 q1) fun _ s2 q => q
/-- name = value -/
theorem ps_set {i : Nat} {x : Str} {e : Expr} {te : TE} {pos' : Pos} (hN : X.N.Nodup) (hi : X.N[i]? = some x) (hx : Loc X.env.scope x) (he : PE X e te) (hs : swapsWith e (some (.Name x pos')) pos.line X.env = pure false := by rfl) (hf : X.fn x = true ∨ X.env.scope.names.lookup x = some .local := by first | exact .inl rfl | exact .inr rfl | assumption) :
    PS X (.Assign [.Name x pos'] e pos) (tAsg te (gName i)) := by
  intro pins s σ H D I h
  refine wpAny_Assign_Name (thn (he pins s σ H _ I h) fun v s1 ⟨y, H1, I1, r1, q1⟩ => ?_) hs
  exact store_ok I1 hN hi hx r1 (fun s2 I2 => ⟨_, H1, I2, q1⟩) hf
end

/-! ### while -/
section
variable {X : Cx} {pos : Pos}
end

/-! ### what a loop or a comprehension walks -/
/-- at turn i: it yields x (the heap may grow), or it stops -/
structure It where
  go : Nat → Hp → Prop
  yld : Nat → Hp → V → Hp → Prop
  stop : Nat → Hp → Prop
/-- the iterator's own objects may turn: they are not the frame's, not pinned, younger than the entry (or a comprehension's own) -/
def FpOk (X : Cx) (pins : List (Addr × Obj)) (H : Hp) (b : Addr) : Prop :=
  H b = none ∧ b ≠ X.env.locals ∧ b ∉ X.fs ∧ (b ∈ X.ex ∨ X.s₀.heap.objs.size ≤ b) ∧ (∀ x c, X.env.cells.lookup x = some c → c ≠ b) ∧ ∀ p ∈ X.pn ++ pins, p.1 ≠ b
theorem Inv.fpOk {X : Cx} {pins : List (Addr × Obj)} {σ : St} {H H' : Hp} {s : Shared} {b : Addr} (I : Inv X pins σ H s) (hb : s.heap.objs.size ≤ b) (hn : H' b = none) : FpOk X pins H' b := by
  refine ⟨hn, Nat.ne_of_gt (Nat.lt_of_lt_of_le I.lt hb), I.nofs hb, .inr (Nat.le_trans I.sz hb), fun x c e z => ?_, fun p hp z => ?_⟩
  · obtain ⟨v, q⟩ := I.cell x c e
    exact absurd (Nat.lt_of_lt_of_le q.lt (by rw [z]; exact hb)) (Nat.lt_irrefl _)
  · exact absurd (Nat.lt_of_lt_of_le (Heap.lt_size (I.pin p hp).1) (by rw [z]; exact hb)) (Nat.lt_irrefl _)
structure Turn (P : Program) (w : World) (K : PySem.W.Frag) (tg : Expr) (J : It) (fp : List Addr) (it : Addr) (tn : Nat → Heap → Prop) : Prop where
  mem : it ∈ fp
  obj : ∀ i h, tn i h → ∀ b ∈ fp, ∃ o, h.get? b = some o ∧ ∀ v, o.data ≠ .cell v
  keep : ∀ i h h', tn i h → (∀ b ∈ fp, ∀ o, h.get? b = some o → h'.get? b = some o) → tn i h'
  item : ∀ (X : Cx), X.prog = P → X.w = w → X.K = K → X.calm = true → ∀ (i : Nat) (pins : List (Addr × Obj)) (s : Shared) (σ : St) (H : Hp) (E : Value → Shared → Prop), Inv X pins σ H s → (∀ b ∈ fp, FpOk X pins H b) → tn i s.heap → J.go i H →
    wpAny (model P w) X.A (pyNext (.ref it)) (fun r s1 => ∃ u, r = some u ∧
      wpAny (model P w) X.A (letOwnedTupleGo tg (.ref it) u) (fun _ s2 => ∃ x H', Inv X pins σ H' s2 ∧ RelV x u ∧ J.yld i H x H' ∧ tn (i + 1) s2.heap ∧ ∀ b ∈ fp, H' b = none) E s1) E s
  done : ∀ (X : Cx), X.prog = P → X.w = w → X.K = K → X.calm = true → ∀ (i : Nat) (pins : List (Addr × Obj)) (s : Shared) (σ : St) (H : Hp) (E : Value → Shared → Prop), Inv X pins σ H s → (∀ b ∈ fp, FpOk X pins H b) → tn i s.heap → J.stop i H →
    wpAny (model P w) X.A (pyNext (.ref it)) (fun r s1 => r = none ∧ Inv X pins σ H s1) E s
  self : ∀ (A : Around) (i : Nat) (s : Shared) (Q : Value → Shared → Prop) (E : Value → Shared → Prop), tn i s.heap → Q (.ref it) s → wpAny (model P w) A (pyIter (.ref it)) Q E s
abbrev TI := St → Hp → (It → Hp → Prop) → Prop
/-- an iterator has come -/
def PIE (X : Cx) (pins : List (Addr × Obj)) (σ : St) (tg : Expr) (R : It → Hp → Prop) (itv : Value) (s2 : Shared) : Prop :=
  ∃ (it : Addr) (fp : List Addr) (tn : Nat → Heap → Prop) (J : It) (H' : Hp), itv = .ref it ∧ Inv X pins σ H' s2 ∧ Turn X.prog X.w X.K tg J fp it tn ∧ tn 0 s2.heap ∧ (∀ b ∈ fp, FpOk X pins H' b) ∧ R J H'
def PI (X : Cx) (tg iter : Expr) (wi : TI) : Prop :=
  ∀ (pins : List (Addr × Obj)) (s : Shared) (σ : St) (H : Hp) (R : It → Hp → Prop), Inv X pins σ H s → wi σ H R →
    wpAny (model X.prog X.w) X.A (eval iter X.env) (fun v s1 => wpAny (model X.prog X.w) X.A (pyIter v) (PIE X pins σ tg R) X.xe s1) X.xe s

/-- the step ahead of the store is nothing for an iterator that keeps no tuple -/
theorem go_of {M : Model} {A : Around} {E : Value → Shared → Prop} {s : Shared} {tg : Expr} {it : Addr} {u : Value} {o : Obj} {n : String} {vs : Array Value} {Q : Unit → Shared → Prop} (ho : s.heap.get? it = some o) (hc : o.cls = .type n) (hd : o.data = .fields vs)
    (hn : ["enumerate", "zip", "dict_itemiterator", "dict_reverseitemiterator", "odict_iterator", "itertools.zip_longest", "itertools.pairwise"].contains n = false) (hQ : Q () s) : wpAny M A (letOwnedTupleGo tg (.ref it) u) Q E s := by
  unfold letOwnedTupleGo
  cases tg <;> first
    | exact wpAny_pure hQ
    | (cases u <;> first
        | exact wpAny_pure hQ
        | (refine wpAny_bind (wpAny_load ho ?_)
           rw [hc, hd]
           show wpAny M A (if (["enumerate", "zip", "dict_itemiterator", "dict_reverseitemiterator", "odict_iterator", "itertools.zip_longest", "itertools.pairwise"].contains n && vs[0]? == some (rawInt _)) = true then _ else _) Q E s
           rw [if_neg (by intro h; rw [hn, Bool.false_and] at h; cases h)]
           exact wpAny_pure hQ))

/-- the list at a, as it stands at each turn (a loop may append to it) -/
def Itl (K : PySem.W.Frag) (a : Addr) : It :=
  ⟨fun i H => ∃ xs x, SqL K H a xs ∧ xs[i]? = some x, fun i H x H' => H' = H ∧ ∀ xs, SqL K H a xs → xs[i]? = some x, fun i H => ∃ xs, SqL K H a xs ∧ xs.length ≤ i⟩
def Itt (K : PySem.W.Frag) (a : Addr) : It :=
  ⟨fun i H => ∃ xs x, SqT K H a xs ∧ xs[i]? = some x, fun i H x H' => H' = H ∧ ∀ xs, SqT K H a xs → xs[i]? = some x, fun i H => ∃ xs, SqT K H a xs ∧ xs.length ≤ i⟩
/-- lo, lo + 1, .. (n of them) -/
def Itr (lo : Int) (n : Nat) : It := ⟨fun i _ => i < n, fun i H x H' => H' = H ∧ x = .int (lo + i), fun i _ => n ≤ i⟩
theorem turn_list {P : Program} {w : World} {K : PySem.W.Frag} {tg : Expr} (a it : Addr) : Turn P w K tg (Itl K a) [it] it (fun i h => h.IsListIter it a i) where
  mem := by simp
  obj := fun i h st b hb => by
    have e : b = it := by simpa using hb
    subst e
    obtain ⟨o, e, c, d⟩ := st
    exact ⟨o, e, fun v z => by rw [d] at z; cases z⟩
  keep := fun i h h' st k => st.at fun o e => k it (by simp) o e
  item := by
    intro X hP hw hK hc i pins s σ H E I hf st hg
    subst hP hw hK
    obtain ⟨xs, x, hq, hx⟩ := hg
    obtain ⟨its, rv, p, hz⟩ := I.list hq
    obtain ⟨u, hu, ru⟩ := rv.get hx
    obtain ⟨f0, f1, f2, f3, f4, f5⟩ := hf it (by simp)
    refine wpAny_pyNext_list_item st p.isList (x := u) (by simpa using hu) fun h' st' sb => ?_
    have I1 : Inv X pins σ H { s with heap := h' } := I.turned (t' := s.toks) (fun b o hb e => (sb.2 b hb).trans e) f0 f1 f3 f4 f5
    obtain ⟨o, e, c, d⟩ := id st'
    exact ⟨u, rfl, go_of (s := { s with heap := h' }) e c d (by decide) ⟨x, H, I1, ru, ⟨rfl, fun ys hy => by rw [I.list_inj hy hq]; exact hx⟩, st', fun b hb => (hf b hb).1⟩⟩
  done := by
    intro X hP hw hK hc i pins s σ H E I hf st hg
    subst hP hw hK
    obtain ⟨xs, hq, hx⟩ := hg
    obtain ⟨its, rv, p, hz⟩ := I.list hq
    obtain ⟨f0, f1, f2, f3, f4, f5⟩ := hf it (by simp)
    have hl := rv.length
    exact wpAny_pyNext_list_end (I.ok.hd hc) st p.isList (by simp; omega) fun h' eb => ⟨rfl, I.turned (t' := s.toks) (fun b o hb e => eb b o hb e) f0 f1 f3 f4 f5⟩
  self := fun _ _ _ _ _ st h => wpAny_pyIter_listiter st h
theorem turn_tuple {P : Program} {w : World} {K : PySem.W.Frag} {tg : Expr} (a it : Addr) : Turn P w K tg (Itt K a) [it] it (fun i h => h.IsTupleIter it a i) where
  mem := by simp
  obj := fun i h st b hb => by
    have e : b = it := by simpa using hb
    subst e
    obtain ⟨o, e, c, d⟩ := st
    exact ⟨o, e, fun v z => by rw [d] at z; cases z⟩
  keep := fun i h h' st k => st.at fun o e => k it (by simp) o e
  item := by
    intro X hP hw hK hc i pins s σ H E I hf st hg
    subst hP hw hK
    obtain ⟨xs, x, hq, hx⟩ := hg
    obtain ⟨its, rv, p, hz⟩ := I.tuple hq
    obtain ⟨u, hu, ru⟩ := rv.get hx
    obtain ⟨f0, f1, f2, f3, f4, f5⟩ := hf it (by simp)
    refine wpAny_pyNext_tuple_item st (show s.heap.IsTuple a its.toArray from p) (x := u) (by simpa using hu) fun h' st' sb => ?_
    have I1 : Inv X pins σ H { s with heap := h' } := I.turned (t' := s.toks) (fun b o hb e => (sb.2 b hb).trans e) f0 f1 f3 f4 f5
    obtain ⟨o, e, c, d⟩ := id st'
    exact ⟨u, rfl, go_of (s := { s with heap := h' }) e c d (by decide) ⟨x, H, I1, ru, ⟨rfl, fun ys hy => by rw [I.tuple_inj hy hq]; exact hx⟩, st', fun b hb => (hf b hb).1⟩⟩
  done := by
    intro X hP hw hK hc i pins s σ H E I hf st hg
    subst hP hw hK
    obtain ⟨xs, hq, hx⟩ := hg
    obtain ⟨its, rv, p, hz⟩ := I.tuple hq
    obtain ⟨f0, f1, f2, f3, f4, f5⟩ := hf it (by simp)
    have hl := rv.length
    exact wpAny_pyNext_tuple_end (I.ok.hd hc) st (show s.heap.IsTuple a its.toArray from p) (by simp; omega) fun h' eb => ⟨rfl, I.turned (t' := s.toks) (fun b o hb e => eb b o hb e) f0 f1 f3 f4 f5⟩
  self := fun _ _ _ _ _ st h => wpAny_pyIter_tupleiter st h
theorem turn_range {P : Program} {w : World} {K : PySem.W.Frag} {tg : Expr} (it : Addr) (lo : Int) (n : Nat) : Turn P w K tg (Itr lo n) [it] it (fun i h => IsRangeIter h it (lo + (i : Nat) * 1) ((n : Int) - (i : Nat)) 1) where
  mem := by simp
  obj := fun i h st b hb => by
    have e : b = it := by simpa using hb
    subst e
    exact ⟨_, st, fun v z => by
      have z' : Data.fields _ = Data.cell v := z
      cases z'⟩
  keep := fun i h h' st k => k it (by simp) _ st
  item := by
    intro X hP hw hK hc i pins s σ H E I hf st hg
    subst hP hw hK
    obtain ⟨f0, f1, f2, f3, f4, f5⟩ := hf it (by simp)
    have W := Walks.range (prog := X.prog) (w := X.w) (I.ok.hd hc) it lo 1 n
    refine W.item i s _ _ hg st fun v h' tk hv st' kk => ?_
    obtain ⟨t, rfl⟩ := hv
    have I1 : Inv X pins σ H { s with heap := h', toks := tk } := I.turned (fun b o hb e => kk b o (by simpa using hb) e) f0 f1 f3 f4 f5
    refine ⟨_, rfl, go_of (s := { s with heap := h', toks := tk }) (n := "range_iterator") st' rfl rfl (by decide) ⟨.int (lo + i), H, I1, ⟨t, ?_⟩, ⟨rfl, rfl⟩, st', fun b hb => (hf b hb).1⟩⟩
    rw [Int.mul_one]
  done := by
    intro X hP hw hK hc i pins s σ H E I hf st hg
    subst hP hw hK
    obtain ⟨f0, f1, f2, f3, f4, f5⟩ := hf it (by simp)
    exact wpAny_pyNext_range_end (I.ok.hd hc) st (by have : n ≤ i := hg; omega) fun h' eb => ⟨rfl, I.turned (t' := s.toks) (fun b o hb e => eb b o hb e) f0 f1 f3 f4 f5⟩
  self := fun _ _ _ _ _ st h => wpAny_pyIter_rangeiter st h
end L2

namespace L2
open PySem PySem.Spec PyProof.Rows
section
variable {X : Cx} {tg : Expr}
def iList (K : PySem.W.Frag) (tl : TE) : TI := fun σ H R => tl σ H fun x H1 => ∃ a, x = .ref a ∧ (∃ xs, SqL K H1 a xs) ∧ R (Itl K a) H1
def iTup (K : PySem.W.Frag) (tl : TE) : TI := fun σ H R => tl σ H fun x H1 => ∃ a, x = .ref a ∧ (∃ xs, SqT K H1 a xs) ∧ R (Itt K a) H1
theorem pi_list {l : Expr} {tl : TE} (hl : PE X l tl) : PI X tg l (iList X.K tl) := by
  intro pins s σ H R I h
  refine thn (hl pins s σ H _ I h) fun v s1 ⟨x, H1, I1, r1, q1⟩ => ?_
  obtain ⟨a, e, ⟨xs, hq⟩, q⟩ := q1
  subst e
  cases r1
  obtain ⟨its, rv, p, hz⟩ := I1.list hq
  refine wpAny_pyIter_list p.isList ?_
  refine ⟨s1.heap.objs.size, [s1.heap.objs.size], _, _, H1, rfl, I1.kept (t' := s1.toks) fun b o e => Heap.get?_push_of_some _ e, turn_list a _, ⟨_, Heap.get?_push_size _ rfl, rfl, rfl⟩, fun b hb => ?_, q⟩
  have e : b = s1.heap.objs.size := by simpa using hb
  subst e
  exact I1.fpOk (Nat.le_refl _) (I1.hok.fresh (Nat.le_refl _))
theorem pi_tup {l : Expr} {tl : TE} (hl : PE X l tl) : PI X tg l (iTup X.K tl) := by
  intro pins s σ H R I h
  refine thn (hl pins s σ H _ I h) fun v s1 ⟨x, H1, I1, r1, q1⟩ => ?_
  obtain ⟨a, e, ⟨xs, hq⟩, q⟩ := q1
  subst e
  cases r1
  obtain ⟨its, rv, p, hz⟩ := I1.tuple hq
  refine wpAny_pyIter_tuple (show s1.heap.IsTuple a its.toArray from p) ?_
  refine ⟨s1.heap.objs.size, [s1.heap.objs.size], _, _, H1, rfl, I1.kept (t' := s1.toks) fun b o e => Heap.get?_push_of_some _ e, turn_tuple a _, ⟨_, Heap.get?_push_size _ rfl, rfl, rfl⟩, fun b hb => ?_, q⟩
  have e : b = s1.heap.objs.size := by simpa using hb
  subst e
  exact I1.fpOk (Nat.le_refl _) (I1.hok.fresh (Nat.le_refl _))
/-- a range object just made, walked -/
theorem range_it {pins : List (Addr × Obj)} {σ : St} {H : Hp} {s : Shared} {R : It → Hp → Prop} {E : Value → Shared → Prop} {lo hi : Int} {t u v : Tok} {tk : Nat} (I : Inv X pins σ H s) (h1 : -(2 ^ 62) ≤ lo) (h2 : lo < 2 ^ 62) (h3 : -(2 ^ 62) ≤ hi) (h4 : hi < 2 ^ 62)
    (q : R (Itr lo (hi - lo).toNat) H) : wpAny (model X.prog X.w) X.A (pyIter (.ref s.heap.objs.size)) (PIE X pins σ tg R) E { s with heap := s.heap.push { cls := .type "range", data := .fields #[.int lo t, .int hi u, .int 1 v] }, toks := tk } := by
  refine wpAny_pyIter_range (IsRange.new ..) (small_one h1 h2 h3 h4) ?_
  have I1 : Inv X pins σ H { s with heap := s.heap.push { cls := .type "range", data := .fields #[.int lo t, .int hi u, .int 1 v] }, toks := tk } := I.kept fun b o e => Heap.get?_push_of_some _ e
  refine ⟨(s.heap.push { cls := .type "range", data := .fields #[.int lo t, .int hi u, .int 1 v] }).objs.size, [(s.heap.push { cls := .type "range", data := .fields #[.int lo t, .int hi u, .int 1 v] }).objs.size], _, _, H, rfl,
    I1.kept (t' := tk) fun b o e => Heap.get?_push_of_some _ e, turn_range _ lo (hi - lo).toNat, ?_, fun b hb => ?_, q⟩
  · have e1 : lo + ((0 : Nat) : Int) * 1 = lo := by simp
    have e2 : (((hi - lo).toNat : Nat) : Int) - ((0 : Nat) : Int) = Builtin.Range.rangeSize lo hi 1 := by rw [rangeSize_one]; split <;> omega
    show IsRangeIter _ _ (lo + ((0 : Nat) : Int) * 1) ((((hi - lo).toNat : Nat) : Int) - ((0 : Nat) : Int)) 1
    rw [e1, e2]
    exact Heap.get?_push_size _ rfl
  · have e : b = (s.heap.push { cls := .type "range", data := .fields #[.int lo t, .int hi u, .int 1 v] }).objs.size := by simpa using hb
    subst e
    exact I1.fpOk (Nat.le_refl _) (I1.hok.fresh (Nat.le_refl _))
def iRng1 (ta : TA) : TI := fun σ H R => ta σ H fun vs H1 => ∃ j : Int, vs = [.int j] ∧ -(2 ^ 62) ≤ j ∧ j < 2 ^ 62 ∧ R (Itr 0 j.toNat) H1
theorem pi_range1 {a : Expr} {ta : TA} {p pos : Pos} (hg : Gl X "range") (hm : X.mg "range" = none) (ha : PA X [a] ta) (hs : starEach [a] X.env = [(false, eval a X.env)] := by rfl) : PI X tg (.Call (.Name "range" p) [a] [] pos) (iRng1 ta) := by
  intro pins s σ H R I h
  refine Call_ (ld_blt I hg hm boot_range (PyProof.Rows.callWith_type1 (thn (ha pos pins s σ H _ I h) fun us s1 ⟨vs, H1, I1, r1, q1⟩ => ?_) hs rfl))
  obtain ⟨j, e, q1, q2, q⟩ := q1
  subst e
  cases r1 with
  | cons r rr =>
    cases rr
    obtain ⟨t, rfl⟩ := r
    exact call_range_1 (range_it I1 (by omega) (by omega) q1 q2 (by simpa using q))
/-! ### for -/
/-- W: the invariant by the turn and a measure; N: what the body is to reach -/
def tFor (wi : TI) (g : TG) (tb : TS) : TS := fun D σ H => wi σ H fun J H1 => ∃ W : Nat → Nat → St → Hp → Prop, (∃ m, W 0 m σ H1) ∧ ∀ i m σ H, W i m σ H →
  (J.stop i H ∧ D.nx σ H) ∨ (J.go i H ∧ ∃ N : St → Hp → Prop, (∀ σ' H', N σ' H' → ∃ m', m' < m ∧ W (i + 1) m' σ' H') ∧ ∀ x H', J.yld i H x H' → g x σ H' fun σ2 H2 => tb { D with nx := N, ct := N, bk := D.nx } σ2 H2)
/-- the records at fp as they stand -/
def pinsAt (fp : List Addr) (h : Heap) : List (Addr × Obj) := fp.filterMap fun b => (h.get? b).map fun o => (b, o)
theorem mem_pinsAt {fp : List Addr} {h : Heap} {b : Addr} {o : Obj} (hb : b ∈ fp) (e : h.get? b = some o) : (b, o) ∈ pinsAt fp h := List.mem_filterMap.mpr ⟨b, hb, by rw [e]; rfl⟩
theorem of_pinsAt {fp : List Addr} {h : Heap} {p : Addr × Obj} (hp : p ∈ pinsAt fp h) : p.1 ∈ fp ∧ h.get? p.1 = some p.2 := by
  obtain ⟨b, hb, e⟩ := List.mem_filterMap.mp hp
  cases q : h.get? b with
  | none => rw [q] at e; cases e
  | some o =>
    rw [q] at e
    have e' : (b, o) = p := Option.some.inj e
    subst e'
    exact ⟨hb, q⟩
theorem Inv.pinned {pins : List (Addr × Obj)} {σ : St} {H : Hp} {s : Shared} {fp : List Addr} (I : Inv X pins σ H s) (hf : ∀ b ∈ fp, FpOk X pins H b) (ho : ∀ b ∈ fp, ∃ o, s.heap.get? b = some o ∧ ∀ v, o.data ≠ .cell v) : Inv X (pins ++ pinsAt fp s.heap) σ H s :=
  I.pins_of fun p hp => (List.mem_append.mp hp).elim (fun z => I.pin p (List.mem_append_right _ z)) fun z => by
    obtain ⟨hb, e⟩ := of_pinsAt z
    obtain ⟨f0, f1, f2, _⟩ := hf p.1 hb
    obtain ⟨o, e', d⟩ := ho p.1 hb
    rw [e] at e'; cases e'
    exact ⟨e, f0, f1, f2, d⟩
theorem Inv.unpinned {pins pl : List (Addr × Obj)} {σ : St} {H : Hp} {s : Shared} (I : Inv X (pins ++ pl) σ H s) : Inv X pins σ H s := I.pins_of fun p hp => I.pin p (List.mem_append_right _ (List.mem_append_left _ hp))
theorem ps_for {iter : Expr} {body : List Stmt} {wi : TI} {g : TG} {tb : TS} {pos : Pos} (hp : PassesOwn (model X.prog X.w) X.A X.env X.xe) (hc : X.calm = true) (hi : PI X tg iter wi) (hg : PG X tg g) (hb : PSs X body tb)
    (hs : ∀ x, foldedSetIterable iter X.env x = pure x := by intro _; rfl) : PS X (.For tg iter body [] pos) (tFor wi g tb) := by
  intro pins s σ H D I h
  refine wpAny_For (thn (hi pins s σ H _ I h) fun v s1 h1 => thn h1 fun itv s2 h2 => ?_) hs
  obtain ⟨it, fp, tn, J, H2, e, I2, T, st2, f2, W, ⟨m0, w0⟩, turn⟩ := h2
  subst e
  -- what stays true of the iterator's objects through the loop
  have stat : ∀ {H' : Hp}, (∀ b ∈ fp, H' b = none) → ∀ b ∈ fp, FpOk X pins H' b := fun hn b hb => ⟨hn b hb, (f2 b hb).2⟩
  refine codeAny_forLoop_any (fun n s' => ∃ i σ' H', Inv X pins σ' H' s' ∧ tn i s'.heap ∧ (∀ b ∈ fp, H' b = none) ∧ W i n σ' H') ?_ m0 ⟨0, σ, H2, I2, st2, fun b hb => (f2 b hb).1, w0⟩
  rintro n s3 ⟨i, σ3, H3, I3, st3, fr3, w3⟩
  rcases turn i n σ3 H3 w3 with ⟨stop, qn⟩ | ⟨go, N, hN, step⟩
  · refine wpAny_passesOwn hp (thn (T.done X rfl rfl rfl hc i pins s3 σ3 H3 X.xe I3 (stat fr3) st3 stop) fun r s4 ⟨hr, I4⟩ => ?_)
    subst hr
    exact wpAny_execs_nil ⟨σ3, H3, I4, qn⟩
  · refine wpAny_passesOwn hp (thn (T.item X rfl rfl rfl hc i pins s3 σ3 H3 X.xe I3 (stat fr3) st3 go) fun r s4 ⟨u, hr, h4⟩ => ?_)
    subst hr
    refine wpAny_passesOwn hp (thn h4 fun _ s5 ⟨x, H5, I5, r5, y5, st5, fr5⟩ => ?_)
    have I5' := I5.pinned (stat fr5) (T.obj _ _ st5)
    refine wpAny_passesOwn hp (thn (hg _ s5 σ3 H5 x u _ I5' r5 (step x H5 y5)) fun _ s6 ⟨σ6, H6, I6, q6⟩ => ?_)
    refine wpAny_passesOwn hp (thn (hb _ s6 σ6 H6 _ I6 q6) fun f s7 q7 => ?_)
    have again : ∀ {σ7 : St} {H7 : Hp}, Inv X (pins ++ pinsAt fp s5.heap) σ7 H7 s7 → N σ7 H7 → ∃ m, m < n ∧ ∃ i σ' H', Inv X pins σ' H' s7 ∧ tn i s7.heap ∧ (∀ b ∈ fp, H' b = none) ∧ W i m σ' H' := fun {σ7 H7} I7 n7 => by
      obtain ⟨m', hm, w7⟩ := hN σ7 H7 n7
      refine ⟨m', hm, i + 1, σ7, H7, I7.unpinned, T.keep _ _ _ st5 fun b hb o e => (I7.pin (b, o) (List.mem_append_right _ (List.mem_append_right _ (mem_pinsAt hb e)))).1, fun b hb => ?_, w7⟩
      obtain ⟨o, e, d⟩ := T.obj _ _ st5 b hb
      exact (I7.pin (b, o) (List.mem_append_right _ (List.mem_append_right _ (mem_pinsAt hb e)))).2.1
    cases f with
    | next => obtain ⟨σ7, H7, I7, n7⟩ := q7; exact again I7 n7
    | cont => obtain ⟨σ7, H7, I7, n7⟩ := q7; exact again I7 n7
    | brk => obtain ⟨σ7, H7, I7, q7⟩ := q7; exact ⟨σ7, H7, I7.unpinned, q7⟩
    | ret v => obtain ⟨x7, σ7, H7, I7, r7, q7⟩ := q7; exact ⟨x7, σ7, H7, I7.unpinned, r7, q7⟩
end

/-! ### the forms one uses -/
/-- over a list that the body leaves as it is -/
theorem for_list {K : PySem.W.Frag} {a : Addr} {xs : List V} {g : TG} {tb : TS} {D : Ends} {σ : St} {H : Hp} (Pv : Nat → St → Hp → Prop) (h0 : Pv 0 σ H) (hl : ∀ i σ H, i ≤ xs.length → Pv i σ H → SqL K H a xs)
    (hs : ∀ i x σ H, xs[i]? = some x → Pv i σ H → g x σ H fun σ2 H2 => tb { D with nx := Pv (i + 1), ct := Pv (i + 1), bk := D.nx } σ2 H2) (hd : ∀ σ H, Pv xs.length σ H → D.nx σ H) :
    ∃ W : Nat → Nat → St → Hp → Prop, (∃ m, W 0 m σ H) ∧ ∀ i m σ H, W i m σ H →
      ((Itl K a).stop i H ∧ D.nx σ H) ∨ ((Itl K a).go i H ∧ ∃ N : St → Hp → Prop, (∀ σ' H', N σ' H' → ∃ m', m' < m ∧ W (i + 1) m' σ' H') ∧ ∀ x H', (Itl K a).yld i H x H' → g x σ H' fun σ2 H2 => tb { D with nx := N, ct := N, bk := D.nx } σ2 H2) := by
  refine ⟨fun i m σ H => m = xs.length - i ∧ i ≤ xs.length ∧ Pv i σ H, ⟨xs.length, by simp, Nat.zero_le _, h0⟩, ?_⟩
  rintro i m σ H ⟨rfl, hi, p⟩
  have q := hl i σ H hi p
  by_cases hlt : i < xs.length
  · refine .inr ⟨⟨xs, xs[i], q, by simp [hlt]⟩, Pv (i + 1), fun σ' H' p' => ⟨xs.length - (i + 1), by omega, rfl, hlt, p'⟩, fun x H' y => ?_⟩
    obtain ⟨e, y⟩ := y
    subst e
    exact hs i x σ _ (y xs q) p
  · have e : i = xs.length := by omega
    subst e
    exact .inl ⟨⟨xs, q, Nat.le_refl _⟩, hd σ H p⟩
theorem for_tup {K : PySem.W.Frag} {a : Addr} {xs : List V} {g : TG} {tb : TS} {D : Ends} {σ : St} {H : Hp} (Pv : Nat → St → Hp → Prop) (h0 : Pv 0 σ H) (hl : ∀ i σ H, i ≤ xs.length → Pv i σ H → SqT K H a xs)
    (hs : ∀ i x σ H, xs[i]? = some x → Pv i σ H → g x σ H fun σ2 H2 => tb { D with nx := Pv (i + 1), ct := Pv (i + 1), bk := D.nx } σ2 H2) (hd : ∀ σ H, Pv xs.length σ H → D.nx σ H) :
    ∃ W : Nat → Nat → St → Hp → Prop, (∃ m, W 0 m σ H) ∧ ∀ i m σ H, W i m σ H →
      ((Itt K a).stop i H ∧ D.nx σ H) ∨ ((Itt K a).go i H ∧ ∃ N : St → Hp → Prop, (∀ σ' H', N σ' H' → ∃ m', m' < m ∧ W (i + 1) m' σ' H') ∧ ∀ x H', (Itt K a).yld i H x H' → g x σ H' fun σ2 H2 => tb { D with nx := N, ct := N, bk := D.nx } σ2 H2) := by
  refine ⟨fun i m σ H => m = xs.length - i ∧ i ≤ xs.length ∧ Pv i σ H, ⟨xs.length, by simp, Nat.zero_le _, h0⟩, ?_⟩
  rintro i m σ H ⟨rfl, hi, p⟩
  have q := hl i σ H hi p
  by_cases hlt : i < xs.length
  · refine .inr ⟨⟨xs, xs[i], q, by simp [hlt]⟩, Pv (i + 1), fun σ' H' p' => ⟨xs.length - (i + 1), by omega, rfl, hlt, p'⟩, fun x H' y => ?_⟩
    obtain ⟨e, y⟩ := y
    subst e
    exact hs i x σ _ (y xs q) p
  · have e : i = xs.length := by omega
    subst e
    exact .inl ⟨⟨xs, q, Nat.le_refl _⟩, hd σ H p⟩
theorem for_range {lo : Int} {n : Nat} {g : TG} {tb : TS} {D : Ends} {σ : St} {H : Hp} (Pv : Nat → St → Hp → Prop) (h0 : Pv 0 σ H)
    (hs : ∀ i σ H, i < n → Pv i σ H → g (.int (lo + i)) σ H fun σ2 H2 => tb { D with nx := Pv (i + 1), ct := Pv (i + 1), bk := D.nx } σ2 H2) (hd : ∀ σ H, Pv n σ H → D.nx σ H) :
    ∃ W : Nat → Nat → St → Hp → Prop, (∃ m, W 0 m σ H) ∧ ∀ i m σ H, W i m σ H →
      ((Itr lo n).stop i H ∧ D.nx σ H) ∨ ((Itr lo n).go i H ∧ ∃ N : St → Hp → Prop, (∀ σ' H', N σ' H' → ∃ m', m' < m ∧ W (i + 1) m' σ' H') ∧ ∀ x H', (Itr lo n).yld i H x H' → g x σ H' fun σ2 H2 => tb { D with nx := N, ct := N, bk := D.nx } σ2 H2) := by
  refine ⟨fun i m σ H => m = n - i ∧ i ≤ n ∧ Pv i σ H, ⟨n, by simp, Nat.zero_le _, h0⟩, ?_⟩
  rintro i m σ H ⟨rfl, hi, p⟩
  by_cases hlt : i < n
  · refine .inr ⟨hlt, Pv (i + 1), fun σ' H' p' => ⟨n - (i + 1), by omega, rfl, hlt, p'⟩, fun x H' y => ?_⟩
    obtain ⟨e, y⟩ := y
    subst e y
    exact hs i σ _ hlt p
  · have e : i = n := by omega
    subst e
    exact .inl ⟨Nat.le_refl _, hd σ H p⟩
end L2

namespace L2
open PySem PySem.Spec PyProof.Rows

abbrev R2 := V → V → Hp → VK → Prop
/-- a two-place operation on values: f is binaryOp op, inplaceOp op or compareOp op -/
def OpR (X : Cx) (f : Value → Value → Sem Value) (r : R2) : Prop :=
  ∀ (pins : List (Addr × Obj)) (s : Shared) (σ : St) (H : Hp) (x y : V) (v u : Value) (Q : VK), Inv X pins σ H s → RelV x v → RelV y u → r x y H Q →
    wpAny (model X.prog X.w) X.A (f v u) (EP X pins σ Q) X.xe s
/-- a one-place operation -/
def UnR (X : Cx) (f : Value → Sem Value) (r : V → Hp → VK → Prop) : Prop :=
  ∀ (pins : List (Addr × Obj)) (s : Shared) (σ : St) (H : Hp) (x : V) (v : Value) (Q : VK), Inv X pins σ H s → RelV x v → r x H Q →
    wpAny (model X.prog X.w) X.A (f v) (EP X pins σ Q) X.xe s
/-- a call of a value that is known (a builtin, a type) with values -/
def CallR (X : Cx) (f : Value) (r : List V → Hp → VK → Prop) : Prop :=
  ∀ (pins : List (Addr × Obj)) (s : Shared) (σ : St) (H : Hp) (xs : List V) (us : List Value) (Q : VK), Inv X pins σ H s → Vals xs us → r xs H Q →
    wpAny (model X.prog X.w) X.A (call f us) (EP X pins σ Q) X.xe s
def tOp (r : R2) (ta tb : TE) : TE := fun σ H Q => ta σ H fun x H1 => tb σ H1 fun y H2 => r x y H2 Q
def tUn (r : V → Hp → VK → Prop) (ta : TE) : TE := fun σ H Q => ta σ H fun x H1 => r x H1 Q
/-- ints in, under C, and a value out -/
def rI (C : Int → Int → Prop) (g : Int → Int → V) : R2 := fun x y H Q => ∃ i j, x = .int i ∧ y = .int j ∧ C i j ∧ Q (g i j) H
def rI0 (g : Int → Int → V) : R2 := fun x y H Q => ∃ i j, x = .int i ∧ y = .int j ∧ Q (g i j) H
def rU (g : Int → V) : V → Hp → VK → Prop := fun x H Q => ∃ i, x = .int i ∧ Q (g i) H

section
variable {X : Cx} {a b c : Expr} {ta tb tc : TE} {pos : Pos}

theorem binT (ha : PE X a ta) (hb : PE X b tb) {pins : List (Addr × Obj)} {s : Shared} {σ : St} {H : Hp} {R : V → V → Hp → Prop} (I : Inv X pins σ H s)
    (h : ta σ H fun x H1 => tb σ H1 fun y H2 => R x y H2) {Q : Value → Shared → Prop} {f : Value → Value → Sem Value}
    (hf : ∀ v u s2 x y H2, Inv X pins σ H2 s2 → RelV x v → RelV y u → R x y H2 → wpAny (model X.prog X.w) X.A (f v u) Q X.xe s2) :
    wpAny (model X.prog X.w) X.A (eval a X.env) (fun v s₁ => wpAny (model X.prog X.w) X.A (eval b X.env) (fun u s₂ => wpAny (model X.prog X.w) X.A (f v u) Q X.xe s₂) X.xe s₁) X.xe s := by
  refine thn (ha pins s σ H _ I h) fun v s1 ⟨x, H1, I1, r1, q1⟩ => ?_
  refine thn (hb pins s1 σ H1 _ I1 q1) fun u s2 ⟨y, H2, I2, r2, q2⟩ => ?_
  exact hf v u s2 x y H2 I2 r1 r2 q2

theorem pe_op {op : Operator} {r : R2} (ho : OpR X (binaryOp op) r) (ha : PE X a ta) (hb : PE X b tb) : PE X (.BinOp a op b pos) (tOp r ta tb) := by
  intro pins s σ H Q I h
  exact wpAny_BinOp (binT ha hb I h fun v u s2 x y H2 I2 rx ry q => ho pins s2 σ H2 x y v u Q I2 rx ry q)
theorem pe_un {op : UnaryOp} {r : V → Hp → VK → Prop} (ho : UnR X (unaryOp op) r) (ha : PE X a ta) : PE X (.UnaryOp op a pos) (tUn r ta) := by
  intro pins s σ H Q I h
  exact UnaryOp_ (thn (ha pins s σ H _ I h) fun v s1 ⟨x, H1, I1, r1, q1⟩ => ho pins s1 σ H1 x v Q I1 r1 q1)
/-! ### ints -/
theorem opI {f : Value → Value → Sem Value} {C : Int → Int → Prop} {g : Int → Int → Int}
    (rule : ∀ (i j : Int) (t u : Tok) (s : Shared) (Q : Value → Shared → Prop) (E : Value → Shared → Prop), C i j → Q (.int (g i j) s.toks) { s with toks := s.toks + 1 } → wpAny (model X.prog X.w) X.A (f (.int i t) (.int j u)) Q E s) :
    OpR X f (rI C fun i j => .int (g i j)) := by
  intro pins s σ H x y v u Q I rx ry h
  obtain ⟨i, j, rfl, rfl, hc, q⟩ := h
  obtain ⟨t, rfl⟩ := rx
  obtain ⟨t', rfl⟩ := ry
  exact rule i j t t' s _ _ hc ⟨.int (g i j), H, I.tok _, ⟨_, rfl⟩, q⟩
theorem opI0 {f : Value → Value → Sem Value} {g : Int → Int → Int}
    (rule : ∀ (i j : Int) (t u : Tok) (s : Shared) (Q : Value → Shared → Prop) (E : Value → Shared → Prop), Q (.int (g i j) s.toks) { s with toks := s.toks + 1 } → wpAny (model X.prog X.w) X.A (f (.int i t) (.int j u)) Q E s) :
    OpR X f (rI0 fun i j => .int (g i j)) := by
  intro pins s σ H x y v u Q I rx ry h
  obtain ⟨i, j, rfl, rfl, q⟩ := h
  obtain ⟨t, rfl⟩ := rx
  obtain ⟨t', rfl⟩ := ry
  exact rule i j t t' s _ _ ⟨.int (g i j), H, I.tok _, ⟨_, rfl⟩, q⟩
theorem opB0 {f : Value → Value → Sem Value} {g : Int → Int → Bool}
    (rule : ∀ (i j : Int) (t u : Tok) (s : Shared) (Q : Value → Shared → Prop) (E : Value → Shared → Prop), Q (.bool (g i j)) s → wpAny (model X.prog X.w) X.A (f (.int i t) (.int j u)) Q E s) :
    OpR X f (rI0 fun i j => .bl (g i j)) := by
  intro pins s σ H x y v u Q I rx ry h
  obtain ⟨i, j, rfl, rfl, q⟩ := h
  obtain ⟨t, rfl⟩ := rx
  obtain ⟨t', rfl⟩ := ry
  exact rule i j t t' s _ _ ⟨.bl (g i j), H, I, rfl, q⟩

def CDiv (i j : Int) : Prop := 0 < j ∧ j < 1073741824
def CMul (i j : Int) : Prop := (-(2 ^ 64) < i ∧ i < 2 ^ 64) ∨ (-(2 ^ 64) < j ∧ j < 2 ^ 64)
theorem CMul.ok {i j : Int} (h : CMul i j) : IntMulOk i j := by
  rcases h with ⟨h1, h2⟩ | ⟨h1, h2⟩
  · exact .of_left (intBits_le_64 h1 h2)
  · exact .of_right (intBits_le_64 h1 h2)
theorem op_add : OpR X (binaryOp .Add) (rI0 fun i j => .int (i + j)) := opI0 fun _ _ _ _ _ _ _ q => add_int q
theorem op_sub : OpR X (binaryOp .Sub) (rI0 fun i j => .int (i - j)) := opI0 fun _ _ _ _ _ _ _ q => sub_int q
theorem op_mul : OpR X (binaryOp .Mult) (rI CMul fun i j => .int (i * j)) := opI fun _ _ _ _ _ _ _ hc q => mul_int q hc.ok
/-- // by a positive divisor -/
theorem op_fdiv : OpR X (binaryOp .FloorDiv) (rI CDiv fun i j => .int (i / j)) := opI fun i j _ _ _ _ _ hc q => by
  have h1 : (0 : Int) < j := hc.1
  have h2 : j < 1073741824 := hc.2
  exact floordiv_int (by omega) (by rw [Int.fdiv_eq_ediv_of_nonneg i (by omega)]; exact q) (.inl (PyProof.noPylong_small (by omega)))
/-- % by a positive divisor of any size -/
theorem op_mod : OpR X (binaryOp .Mod) (rI (fun _ j => 0 < j) fun i j => .int (i % j)) := opI fun i j _ _ _ _ _ hc q => by
  have h1 : (0 : Int) < j := hc
  exact mod_int' (by omega) (by rw [Int.fmod_eq_emod_of_nonneg i (by omega)]; exact q)
theorem unI {f : Value → Sem Value} {g : Int → Int}
    (rule : ∀ (i : Int) (t : Tok) (s : Shared) (Q : Value → Shared → Prop) (E : Value → Shared → Prop), Q (.int (g i) s.toks) { s with toks := s.toks + 1 } → wpAny (model X.prog X.w) X.A (f (.int i t)) Q E s) :
    UnR X f (rU fun i => .int (g i)) := by
  intro pins s σ H x v Q I rx h
  obtain ⟨i, rfl, q⟩ := h
  obtain ⟨t, rfl⟩ := rx
  exact rule i t s _ _ ⟨.int (g i), H, I.tok _, ⟨_, rfl⟩, q⟩
theorem un_neg : UnR X (unaryOp .USub) (rU fun i => .int (-i)) := unI fun _ _ _ _ _ q => neg_int q
/-! ### bools among ints: n += (a < b) -/
end

/-! ### comparisons -/
/-- the scalars that == tells apart as data does -/
def scal : V → V → Bool
  | .non, .non => true | .non, .int _ => true | .int _, .non => true | .non, .bl _ => true | .bl _, .non => true | .non, .str _ => true | .str _, .non => true
  | .int _, .int _ => true | .bl _, .bl _ => true | .str _, .str _ => true | .byt _, .byt _ => true
  | .int _, .str _ => true | .str _, .int _ => true | .bl _, .str _ => true | .str _, .bl _ => true
  | _, _ => false
def rEq : R2 := fun x y H Q => scal x y = true ∧ Q (.bl (decide (x = y))) H
def rNe : R2 := fun x y H Q => scal x y = true ∧ Q (.bl (!decide (x = y))) H

theorem dec_int {i j : Int} : decide (V.int i = V.int j) = (i == j) := by
  rw [Bool.eq_iff_iff]
  simp
theorem dec_bl {i j : Bool} : decide (V.bl i = V.bl j) = (i == j) := by
  rw [Bool.eq_iff_iff]
  simp
theorem dec_str {i j : Str} : decide (V.str i = V.str j) = (i == j) := by
  rw [Bool.eq_iff_iff]
  simp
theorem dec_byt {i j : Array UInt8} : decide (V.byt i = V.byt j) = (i.toList == j.toList) := by
  rw [Bool.eq_iff_iff]
  cases i
  cases j
  simp

section
variable {X : Cx} {a b c : Expr} {ta tb tc : TE} {pos : Pos}
theorem fin_bl {pins : List (Addr × Obj)} {σ : St} {H : Hp} {s : Shared} {Q : VK} {k k' : Bool} (I : Inv X pins σ H s) (q : Q (.bl k) H) (e : k = k') : EP X pins σ Q (.bool k') s := by
  subst e
  exact ⟨.bl k, H, I, rfl, q⟩
theorem op_eq : OpR X (compareOp .Eq) rEq := by
  intro pins s σ H x y v u Q I rx ry h
  obtain ⟨hs, q⟩ := h
  cases x with
  | non =>
    cases rx
    cases y with
    | non => cases ry; exact PySem.EqNone.eq_none_none (fin_bl I q (by simp))
    | bl j => cases ry; exact PySem.EqNone.eq_none_bool (fin_bl I q (by simp))
    | int j => obtain ⟨t', rfl⟩ := ry; exact PySem.EqNone.eq_none_int (fin_bl I q (by simp))
    | str j => obtain ⟨t', rfl⟩ := ry; exact PySem.EqNone.eq_none_str (fin_bl I q (by simp))
    | _ => exact absurd (show false = true from hs) Bool.false_ne_true
  | bl i =>
    cases rx
    cases y with
    | non => cases ry; exact PySem.EqNone.eq_bool_none (fin_bl I q (by simp))
    | bl j => cases ry; exact eq_bool (fin_bl I q dec_bl)
    | str j => obtain ⟨t', rfl⟩ := ry; exact PySem.EqMixed.eq_bool_str (fin_bl I q (by simp))
    | _ => exact absurd (show false = true from hs) Bool.false_ne_true
  | int i =>
    obtain ⟨t, rfl⟩ := rx
    cases y with
    | non => cases ry; exact PySem.EqNone.eq_int_none (fin_bl I q (by simp))
    | int j => obtain ⟨t', rfl⟩ := ry; exact eq_int (fin_bl I q dec_int)
    | str j => obtain ⟨t', rfl⟩ := ry; exact PySem.EqMixed.eq_int_str (fin_bl I q (by simp))
    | _ => exact absurd (show false = true from hs) Bool.false_ne_true
  | str i =>
    obtain ⟨t, rfl⟩ := rx
    cases y with
    | non => cases ry; exact PySem.EqNone.eq_str_none (fin_bl I q (by simp))
    | bl j => cases ry; exact PySem.EqMixed.eq_str_bool (fin_bl I q (by simp))
    | int j => obtain ⟨t', rfl⟩ := ry; exact PySem.EqMixed.eq_str_int (fin_bl I q (by simp))
    | str j => obtain ⟨t', rfl⟩ := ry; exact eq_str (fin_bl I q dec_str)
    | _ => exact absurd (show false = true from hs) Bool.false_ne_true
  | byt i =>
    obtain ⟨t, rfl⟩ := rx
    cases y with
    | byt j => obtain ⟨t', rfl⟩ := ry; exact PySem.W.eq_bytes (fin_bl I q dec_byt)
    | _ => exact absurd (show false = true from hs) Bool.false_ne_true
  | _ => cases y <;> exact absurd (show false = true from hs) Bool.false_ne_true
theorem op_ne : OpR X (compareOp .NotEq) rNe := by
  intro pins s σ H x y v u Q I rx ry h
  obtain ⟨hs, q⟩ := h
  cases x with
  | non =>
    cases rx
    cases y with
    | non => cases ry; exact PySem.EqNone.ne_none_none (fin_bl I q (by simp))
    | bl j => cases ry; exact PySem.EqNone.ne_none_bool (fin_bl I q (by simp))
    | int j => obtain ⟨t', rfl⟩ := ry; exact PySem.EqNone.ne_none_int (fin_bl I q (by simp))
    | str j => obtain ⟨t', rfl⟩ := ry; exact PySem.EqNone.ne_none_str (fin_bl I q (by simp))
    | _ => exact absurd (show false = true from hs) Bool.false_ne_true
  | bl i =>
    cases rx
    cases y with
    | non => cases ry; exact PySem.EqNone.ne_bool_none (fin_bl I q (by simp))
    | bl j => cases ry; exact ne_bool (fin_bl I q (congrArg not dec_bl))
    | str j => obtain ⟨t', rfl⟩ := ry; exact PySem.EqMixed.ne_bool_str (fin_bl I q (by simp))
    | _ => exact absurd (show false = true from hs) Bool.false_ne_true
  | int i =>
    obtain ⟨t, rfl⟩ := rx
    cases y with
    | non => cases ry; exact PySem.EqNone.ne_int_none (fin_bl I q (by simp))
    | int j => obtain ⟨t', rfl⟩ := ry; exact ne_int (fin_bl I q (congrArg not dec_int))
    | str j => obtain ⟨t', rfl⟩ := ry; exact PySem.EqMixed.ne_int_str (fin_bl I q (by simp))
    | _ => exact absurd (show false = true from hs) Bool.false_ne_true
  | str i =>
    obtain ⟨t, rfl⟩ := rx
    cases y with
    | non => cases ry; exact PySem.EqNone.ne_str_none (fin_bl I q (by simp))
    | bl j => cases ry; exact PySem.EqMixed.ne_str_bool (fin_bl I q (by simp))
    | int j => obtain ⟨t', rfl⟩ := ry; exact PySem.EqMixed.ne_str_int (fin_bl I q (by simp))
    | str j => obtain ⟨t', rfl⟩ := ry; exact ne_str (fin_bl I q (congrArg not dec_str))
    | _ => exact absurd (show false = true from hs) Bool.false_ne_true
  | byt i =>
    obtain ⟨t, rfl⟩ := rx
    cases y with
    | byt j => obtain ⟨t', rfl⟩ := ry; exact PySem.W.ne_bytes (fin_bl I q (congrArg not dec_byt))
    | _ => exact absurd (show false = true from hs) Bool.false_ne_true
  | _ => cases y <;> exact absurd (show false = true from hs) Bool.false_ne_true

theorem op_lt : OpR X (compareOp .Lt) (rI0 fun i j => .bl (decide (i < j))) := opB0 fun _ _ _ _ _ _ _ q => lt_int q
theorem op_le : OpR X (compareOp .LtE) (rI0 fun i j => .bl (decide (i ≤ j))) := opB0 fun _ _ _ _ _ _ _ q => le_int q
theorem op_gt : OpR X (compareOp .Gt) (rI0 fun i j => .bl (decide (j < i))) := opB0 fun _ _ _ _ _ _ _ q => gt_int q
theorem nomark (b : Expr) {op : CmpOp} (h : op ≠ .In := by decide) (h2 : op ≠ .NotIn := by decide) : behindInMarks op b = false := by
  have e1 : (op == CmpOp.In) = false := by cases op <;> first | rfl | exact absurd rfl h
  have e2 : (op == CmpOp.NotIn) = false := by cases op <;> first | rfl | exact absurd rfl h2
  cases b <;> simp [behindInMarks, e1, e2]
/-- a comparison as a value; hm: nomark b, or (for in, not in) by with_unfolding_all rfl -/
theorem pe_cmpR {op : CmpOp} {r : R2} (ho : OpR X (compareOp op) r) (ha : PE X a ta) (hb : PE X b tb) (hm : behindInMarks op b = false) : PE X (.Compare a [op] [b] pos) (tOp r ta tb) := by
  intro pins s σ H Q I h
  exact wpAny_Compare1 (binT ha hb I h fun v u s2 x y H2 I2 rx ry q => ho pins s2 σ H2 x y v u Q I2 rx ry q) hm
/-- a reading of a value as a test -/
def tTest (t : TE) : TT := fun σ H Q => t σ H fun x H' => ∃ k, x = .bl k ∧ Q k H'
theorem pt_cmpR {op : CmpOp} {r : R2} (ho : OpR X (compareOp op) r) (ha : PE X a ta) (hb : PE X b tb) (hm : behindInMarks op b = false) : PT X (.Compare a [op] [b] pos) (tTest (tOp r ta tb)) := by
  intro pins s σ H Q I h
  refine wpAny_isTrue_Compare1 (thn (ha pins s σ H _ I h) fun v s1 ⟨x, H1, I1, r1, q1⟩ => thn (hb pins s1 σ H1 _ I1 q1) fun u s2 ⟨y, H2, I2, r2, q2⟩ =>
    thn (ho pins s2 σ H2 x y v u _ I2 r1 r2 q2) fun c s3 ⟨z, H3, I3, r3, k, e, q3⟩ => ?_) hm
  subst e
  cases r3
  exact wpAny_truthy_bool ⟨H3, I3, q3⟩
/-! ### truth -/
theorem line63 : (sizeLine : Nat) < 2 ^ 63 := by rw [sizeLine_eq]; decide
/-! ### strs and bytes -/
theorem op_add_str : OpR X (binaryOp .Add) (fun x y H Q => ∃ i j, x = .str i ∧ y = .str j ∧ i.length + j.length ≤ sizeLine ∧ Q (.str (i ++ j)) H) := by
  intro pins s σ H x y v u Q I rx ry h
  obtain ⟨i, j, rfl, rfl, hz, q⟩ := h
  obtain ⟨t, rfl⟩ := rx
  obtain ⟨t', rfl⟩ := ry
  exact add_str (fun t' tk => ⟨.str (i ++ j), H, I.tok _, ⟨_, rfl⟩, q⟩) hz
/-! ### scalar builtins, by CallR -/
theorem vals1 {x : V} {us : List Value} (r : Vals [x] us) : ∃ u, us = [u] ∧ RelV x u := by
  cases r with
  | cons r1 r2 => cases r2; exact ⟨_, rfl, r1⟩
theorem vals2 {x y : V} {us : List Value} (r : Vals [x, y] us) : ∃ u w', us = [u, w'] ∧ RelV x u ∧ RelV y w' := by
  cases r with
  | cons r1 r2 =>
    cases r2 with
    | cons r3 r4 => cases r4; exact ⟨_, _, rfl, r1, r3⟩
theorem call_max2 (hc : X.calm = true) : CallR X (.builtin "max") (fun xs H Q => ∃ i j, xs = [.int i, .int j] ∧ Q (.int (if j > i then j else i)) H) := by
  intro pins s σ H xs us Q I r h
  obtain ⟨i, j, rfl, q⟩ := h
  obtain ⟨u, w', rfl, ⟨t, rfl⟩, ⟨t', rfl⟩⟩ := vals2 r
  refine max_two_ints (I.ok.hd hc) fun h' tk k => ⟨_, H, I.kept k, ?_, q⟩
  by_cases hj : j > i
  · rw [if_pos hj, if_pos hj]; exact ⟨_, rfl⟩
  · rw [if_neg hj, if_neg hj]; exact ⟨_, rfl⟩
theorem call_int1 : CallR X (.type "int") (fun xs H Q => (∃ i, xs = [.int i] ∧ Q (.int i) H) ∨ ∃ k, xs = [.bl k] ∧ Q (.int (if k then 1 else 0)) H) := by
  intro pins s σ H xs us Q I r h
  rcases h with ⟨i, rfl, q⟩ | ⟨k, rfl, q⟩
  · obtain ⟨u, rfl, t, rfl⟩ := vals1 r
    exact call_int_int ⟨.int i, H, I, ⟨_, rfl⟩, q⟩
  · obtain ⟨u, rfl, r1⟩ := vals1 r
    cases r1
    exact call_int_bool ⟨.int (if k then 1 else 0), H, I.tok _, ⟨_, rfl⟩, q⟩
theorem call_ord : CallR X (.builtin "ord") (fun xs H Q => ∃ x, xs = [.str x] ∧ x.length = 1 ∧ Q (.int (x.cps.getD 0 0 : Nat)) H) := by
  intro pins s σ H xs us Q I r h
  obtain ⟨x, rfl, hz, q⟩ := h
  obtain ⟨u, rfl, t, rfl⟩ := vals1 r
  exact ord_of_one hz ⟨.int _, H, I.tok _, ⟨_, rfl⟩, q⟩
end
end L2

namespace L2
open PySem PySem.Spec PyProof.Rows

/-! ### an instance, its attributes a map -/
structure ObjM (h : Heap) (x dx C : Addr) (mA : Str → Option Value) : Prop where
  obj : h.get? x = some (PySem.W.instObj C dx)
  ns : h.Ns1 dx mA
  ne : dx ≠ x

theorem lookIn_ns {h : Heap} {dx : Addr} {mA : Str → Option Value} (n : h.Ns1 dx mA) : ∃ od, h.get? dx = some od ∧ ∀ name, PySem.W.lookIn name od = some (mA name) := by
  obtain ⟨o, es, ep, ho, hd, hk, _, hm⟩ := n
  refine ⟨o, ho, fun name => ?_⟩
  have e := hm name
  unfold nsFind findBy at e
  rw [← Array.find?_toList] at e
  unfold PySem.W.lookIn
  rw [hd]
  dsimp only
  split
  · rename_i y q
    rw [q] at e
    exact congrArg some e
  · rename_i q
    rw [q] at e
    have a : es.toList.any (·.refKey) = false := by
      rw [List.any_eq_false]
      intro y hy
      obtain ⟨z, t, hkey⟩ := hk y (Array.mem_toList_iff.mp hy)
      simp [DictEntry.refKey, hkey]
    have a' : ¬ es.toList.any (·.refKey) = true := by rw [a]; exact Bool.false_ne_true
    rw [if_neg a']
    exact congrArg some e

theorem ObjM.look {h : Heap} {x dx C : Addr} {mA : Str → Option Value} (I : ObjM h x dx C mA) : ∃ od, PySem.W.InstAt h x (PySem.W.instObj C dx) C (some od) ∧ ∀ name, PySem.W.lookIn name od = some (mA name) :=
  let ⟨od, ho, hl⟩ := lookIn_ns I.ns
  ⟨od, ⟨I.obj, rfl, rfl, ho⟩, hl⟩

section
variable {prog : Program} {w : World} {A : Around} {E : Value → Shared → Prop} {s : Shared} {K : PySem.W.Frag} {x dx C f : Addr} {mA : Str → Option Value} {name : Str} {v : Value}

end

/-! ### the attributes as a list of pairs -/
section
variable {P : Program} {w : World} {H H' : Hp} {h h' : Heap} {a C dx : Addr} {fs fs' : List (Str × V)}
theorem ins_get (hok : HOk P w H h) (e : H a = some (.ins C dx fs)) : ∃ mA, ObjM h a dx C mA ∧ (∀ f, RelO (fs.lookup f) (mA f)) ∧ PySem.Within mA (fs.map (·.1)) ∧ fs.length ≤ 1000 ∧ H dx = some (.own a) := by
  obtain ⟨d, z, ne, ob, mA, n, r, q⟩ := (show ObjOk P w H h a (.ins C dx fs) from hok a _ e)
  exact ⟨mA, ⟨ob, n, ne⟩, r, q, z, d⟩
end

/-! ### what of the text a class must have -/
structure Cls (K : PySem.W.Frag) (C : Addr) : Prop where
  pg : PySem.W.plainGet K C Str.empty = true
  hd : PySem.W.hasDictIn K C = true
  po : PySem.W.plainOver K C = true
  sa : PySem.W.findIn K (.ref C) "__setattr__" = some (some (.builtin "object.__setattr__"))
theorem Cls.get {K : PySem.W.Frag} {C : Addr} (c : Cls K C) (f : Str) : PySem.W.plainGet K C f = true := c.pg
section
variable {X : Cx} {pins : List (Addr × Obj)} {σ : St} {H : Hp} {s : Shared} {a C dx : Addr} {fs : List (Str × V)} {f : Str} {v : V} {A : Around} {E : Value → Shared → Prop}

end

/-! ### readings and rules -/
section
variable {X : Cx} {o e value : Expr} {f : Str} {pos pos' tpos : Pos} {ta tv : TE}
end

/-! ### isinstance -/
section
variable {X : Cx} {pins : List (Addr × Obj)} {σ : St} {H : Hp} {s : Shared} {A : Around} {E : Value → Shared → Prop} {Q : Value → Shared → Prop} {c : Value} {b : Bool}
/-- the type of a value, as the fragment's deciders take it; for an instance its class -/
inductive TyOf (K : PySem.W.Frag) (H : Hp) : V → Value → Prop where
  | non : TyOf K H .non (.type "NoneType")
  | bl (x : Bool) : TyOf K H (.bl x) (.type "bool")
  | int (i : Int) : TyOf K H (.int i) (.type "int")
  | str (x : Str) : TyOf K H (.str x) (.type "str")
  | flt (x : UInt64) : TyOf K H (.flt x) (.type "float")
  | lst {a : Addr} {xs : List V} (e : H a = some (.lst xs)) : TyOf K H (.ref a) (.type "list")
  | frz {a : Addr} {o : Obj} {xs : List V} (e : H a = some (.frz o (.lst xs))) : TyOf K H (.ref a) (.type "list")
  | tup {a : Addr} {xs : List V} (e : H a = some (.tup xs)) : TyOf K H (.ref a) (.type "tuple")
  | dK {a : Addr} {kvs : List (Key × V)} (e : H a = some (.dK kvs)) : TyOf K H (.ref a) (.type "dict")
  | dT {a : Addr} {kvs : List (List Key × V)} (e : H a = some (.dT kvs)) : TyOf K H (.ref a) (.type "dict")
  | ins {a C dx : Addr} {fs : List (Str × V)} (e : H a = some (.ins C dx fs)) (cl : Cls K C) (ha : PySem.W.findIn K (.ref C) "__class__" = some (some (.builtin "object.__class__")))
      (hn : PySem.W.specialIn K (.builtin "object.__class__") "__get__" = some (some (.builtin "getset_descriptor.__get__"))) (htk : PySem.W.takesIn K (.builtin "object.__class__") = some true)
      (hm : PySem.W.mroIn K C (.type "object") = some true) : TyOf K H (.ref a) (.ref C)
/-- isinstance(x, c) for one class c, a built-in or an own one: kitOne's answer -/
theorem isinst_ok {x : V} {u t : Value} (I : Inv X pins σ H s) (rx : RelV x u) (ty : TyOf X.K H x t) (e : PySem.W.kitOne X.K t c = some b) (h : ∀ tk, Q (.bool b) { s with toks := tk }) :
    wpAny (model X.prog X.w) A (call (.builtin "isinstance") [u, c]) Q E s := by
  cases ty with
  | non => cases (show u = Value.none from rx); exact PySem.W.kia_one PySem.W.kitx_none I.kIn True.intro e (fun z => nomatch z) h
  | bl y => cases (show u = Value.bool y from rx); exact PySem.W.kia_one PySem.W.kitx_bool I.kIn True.intro e (fun z => nomatch z) h
  | int i => obtain ⟨t, q⟩ := (show ∃ t, u = Value.int i t from rx); cases q; exact PySem.W.kia_one PySem.W.kitx_int I.kIn True.intro e (fun z => nomatch z) h
  | str y => obtain ⟨t, q⟩ := (show ∃ t, u = Value.str y t from rx); cases q; exact PySem.W.kia_one PySem.W.kitx_str I.kIn True.intro e (fun z => nomatch z) h
  | flt y => obtain ⟨t, q⟩ := (show ∃ t, u = Value.float y t from rx); cases q; exact PySem.W.kia_one PySem.W.kitx_float I.kIn True.intro e (fun z => nomatch z) h
  | @lst a xs ea =>
    cases (show u = Value.ref a from rx)
    obtain ⟨_, _, n, _, h1⟩ := (show ObjOk X.prog X.w H s.heap a (.lst xs) from I.hok a _ ea)
    exact PySem.W.kia_one PySem.W.kitx_list I.kIn ⟨_, h1, rfl⟩ e (fun z => nomatch z) h
  | @frz a ob xs ea =>
    cases (show u = Value.ref a from rx)
    obtain ⟨_, _, _, n, _, h1⟩ := (show ObjOk X.prog X.w H s.heap a (.frz ob (.lst xs)) from I.hok a _ ea)
    exact PySem.W.kia_one PySem.W.kitx_list I.kIn ⟨_, h1, rfl⟩ e (fun z => nomatch z) h
  | @tup a xs ea =>
    cases (show u = Value.ref a from rx)
    obtain ⟨_, _, _, p⟩ := (show ObjOk X.prog X.w H s.heap a (.tup xs) from I.hok a _ ea)
    obtain ⟨o, h1, h2, _⟩ := p
    exact PySem.W.kia_one PySem.W.kitx_tuple I.kIn ⟨o, h1, h2⟩ e (fun z => nomatch z) h
  | @dK a kvs ea =>
    cases (show u = Value.ref a from rx)
    obtain ⟨_, _, vs, _, p⟩ := (show ObjOk X.prog X.w H s.heap a (.dK kvs) from I.hok a _ ea)
    obtain ⟨o, es, ep, h1, h2, _⟩ := p
    exact PySem.W.kia_one PySem.W.kitx_dict I.kIn ⟨o, h1, h2.1⟩ e (fun z => nomatch z) h
  | @dT a kvs ea =>
    cases (show u = Value.ref a from rx)
    obtain ⟨_, _, xs, _, o, es, ep, h1, h2, _⟩ := (show ObjOk X.prog X.w H s.heap a (.dT kvs) from I.hok a _ ea)
    exact PySem.W.kia_one PySem.W.kitx_dict I.kIn ⟨o, h1, h2.1⟩ e (fun z => nomatch z) h
  | @ins a C dx fs ea cl ha hn htk hm =>
    cases (show u = Value.ref a from rx)
    obtain ⟨mA, O, _⟩ := ins_get I.hok ea
    obtain ⟨od, J, _⟩ := O.look
    exact PySem.W.kia_one (PySem.W.kitx_own (cl.get _) cl.hd ha hn htk hm) I.kIn J e (fun z => nomatch z) h
end
end L2

namespace L2
open PySem PySem.Spec PyProof.Rows

/-! ### room -/
structure Room (k : Nat) (A : Around) : Prop where
  hd : A.handled = none
  dp : A.depth + 3 * k + 5 < recursionLimit
  un : A.units + 16 * k + 200 < cLine
theorem Room.mono {j k : Nat} {A : Around} (r : Room k A) (h : j ≤ k) : Room j A := ⟨r.hd, by have := r.dp; omega, by have := r.un; omega⟩
theorem Room.deeper {k : Nat} {A : Around} (r : Room (k + 1) A) (env : Env) : Room k (A.deeper env) :=
  ⟨r.hd, by have := r.dp; show A.depth + 1 + 3 * k + 5 < _; omega, by have := r.un; show A.units + 3 + 16 * k + 200 < _; omega⟩
theorem Room.depth {k : Nat} {A : Around} (r : Room k A) : A.depth < recursionLimit := by have := r.dp; omega
theorem Room.units0 {k : Nat} {A : Around} (r : Room k A) : A.units < cLine := by have := r.un; omega

/-! ### argument lists and displays -/
def tNil : TA := fun _ H Q => Q [] H
def tCons (ta : TE) (tr : TA) : TA := fun σ H Q => ta σ H fun x H1 => tr σ H1 fun xs H2 => Q (x :: xs) H2
section
variable {X : Cx} {e : Expr} {es : List Expr} {te : TE} {t : TA} {pos : Pos}
theorem pa_nil : PA X [] tNil := fun _ _ _ _ H Q I h => Calls.spliced_nil ⟨[], H, I, .nil, h⟩
theorem pa_cons (ha : PE X e te) (hr : PA X es t) (hs : starEach (e :: es) X.env = (false, eval e X.env) :: starEach es X.env := by rfl) : PA X (e :: es) (tCons te t) := by
  intro pos pins s σ H Q I h
  rw [hs]
  show wpAny _ _ (spliced ((false, eval e X.env) :: backTo pos (starEach es X.env))) _ _ s
  refine Calls.spliced_cons (thn (ha pins s σ H _ I h) fun u s1 ⟨x, H1, I1, r1, q1⟩ => ?_)
  exact thn (hr pos pins s1 σ H1 _ I1 q1) fun us s2 ⟨xs, H2, I2, r2, q2⟩ => ⟨x :: xs, H2, I2, .cons r1 r2, q2⟩

/-- a tuple, a list of written items -/
def tTup (t : TA) : TE := fun σ H Q => t σ H fun xs H1 => xs.length ≤ sizeLine ∧ ∀ p, H1 p = none → Q (.ref p) (upd H1 p (.tup xs))
def tLst (t : TA) : TE := fun σ H Q => t σ H fun xs H1 => xs.length ≤ sizeLine ∧ ∀ p, H1 p = none → Q (.ref p) (upd H1 p (.lst xs))
theorem pe_tup {x1} (h : PA X es t) : PE X (.Tuple es x1 pos) (tTup t) := by
  intro pins s σ H Q I hq
  refine wpAny_Tuple_spliced (thn (h pos pins s σ H _ I hq) fun us s1 ⟨xs, H1, I1, r, z, q⟩ => ⟨by rw [← r.length]; exact z, ?_⟩)
  have hf : H1 s1.heap.objs.size = none := I1.hok.fresh (Nat.le_refl _)
  refine ⟨.ref s1.heap.objs.size, upd H1 s1.heap.objs.size (.tup xs), I1.laid (t' := s1.toks) (fun b u e => Heap.get?_push_of_some _ e) (Nat.le_refl _) ?_, rfl, q _ hf⟩
  exact ⟨z, us, r, ⟨_, Heap.get?_push_size _ rfl, rfl, _, rfl⟩⟩
theorem pe_lst (h : PA X es t) : PE X (.List es pos) (tLst t) := by
  intro pins s σ H Q I hq
  refine wpAny_List_spliced (thn (h pos pins s σ H _ I hq) fun us s1 ⟨xs, H1, I1, r, z, q⟩ => ⟨by rw [← r.length]; exact z, ?_⟩)
  have hf : H1 s1.heap.objs.size = none := I1.hok.fresh (Nat.le_refl _)
  refine ⟨.ref s1.heap.objs.size, upd H1 s1.heap.objs.size (.lst xs), I1.laid (t' := s1.toks) (fun b u e => Heap.get?_push_of_some _ e) (Nat.le_refl _) ?_, rfl, q _ hf⟩
  exact ⟨z, us, 0, r, Heap.get?_push_size _ rfl⟩
end

/-! ### what a def promises -/
/-- a def's promise: the bound arguments in the parameters' order, the heap, the wanted end, the wanted exception -/
abbrev Sp := List V → Hp → VK → XK → Prop
/-- how an exception lies behind a call (file 08 gives it): the callers' frames, abstract heap and state ahead of the call, the wish, the exception, the state -/
abbrev CXT := List Env → Hp → Shared → XK → Value → Shared → Prop

/-- the state at a call -/
structure Env0 (P : Program) (w : World) (K : PySem.W.Frag) (mg : Str → Option Value) (base : Heap) (A : Around) (outer : List Env) (s : Shared) (H : Hp) : Prop where
  frames : A.frames = some outer
  mod : Mod K mg base
  bs : ∀ b o, base.get? b = some o → s.heap.get? b = some o ∧ H b = none
  bsz : base.objs.size ≤ s.heap.objs.size
  funs : s.heap.FunFrames base outer
  frf : ∀ b ∈ frs outer, H b = none
  hok : HOk P w H s.heap
  bare : AllBare s.gens
/-- a call's end -/
def CE (outer : List Env) (P : Program) (w : World) (H : Hp) (s : Shared) (Q : VK) (u : Value) (s' : Shared) : Prop :=
  ∃ v H', s'.os = s.os ∧ AllBare s'.gens ∧ Un (frs outer) [] H H' s.heap s'.heap ∧ HOk P w H' s'.heap ∧ RelV v u ∧ Q v H'
def CR (CX : CXT) (outer : List Env) (P : Program) (w : World) (H : Hp) (s : Shared) (Q : VK) (E : XK) (r : Result) (s' : Shared) : Prop :=
  match r with
  | .ok (.ret u) => CE outer P w H s Q u s'
  | .ok _ => False
  | .error e => CX outer H s E e s'
structure FnOk (P : Program) (w : World) (K : PySem.W.Frag) (mg : Str → Option Value) (base : Heap) (CX : CXT) (k : Nat) (f : Addr) (fd : FuncData) (ps : List Str) (sp : Sp) : Prop where
  len : ∀ vs H Q E, sp vs H Q E → vs.length = ps.length
  run : ∀ (A : Around) (outer : List Env) (s : Shared) (H : Hp) (args : Args) (us : List Value) (vs : List V) (Q : VK) (E : XK), Room k A → Env0 P w K mg base A outer s H → BindsTo s fd args (ps.zip us) → Vals vs us → sp vs H Q E →
    codeAny (model P w) A (.call (.ref f) args) (CR CX outer P w H s Q E) s
theorem FnOk.mono {P : Program} {w : World} {K : PySem.W.Frag} {mg : Str → Option Value} {base : Heap} {CX : CXT} {j k : Nat} {f : Addr} {fd : FuncData} {ps : List Str} {sp : Sp} (F : FnOk P w K mg base CX j f fd ps sp) (h : j ≤ k) :
    FnOk P w K mg base CX k f fd ps sp := ⟨F.len, fun A outer s H args us vs Q E hr => F.run A outer s H args us vs Q E (hr.mono h)⟩
section
variable {X : Cx} {pins : List (Addr × Obj)} {σ : St} {H : Hp} {s s' : Shared}
/-- from a body: what a callee wants -/
theorem Inv.env0 (I : Inv X pins σ H s) : Env0 X.prog X.w X.K X.mg X.base X.A X.stack s H :=
  ⟨I.ok.frames, I.ok.mod, I.bs, Nat.le_trans I.ok.bsz I.sz, I.stack, I.stkFree, I.hok, I.bare⟩
/-- behind a call -/
theorem Inv.after {Q : VK} {u : Value} (I : Inv X pins σ H s) (h : CE X.stack X.prog X.w H s Q u s') : EP X pins σ Q u s' := by
  obtain ⟨v, H', os, bare, un, hok, r, q⟩ := h
  obtain ⟨hh, g, d, t, os'⟩ := s'
  obtain rfl : os' = s.os := os
  exact ⟨v, H', I.call (h' := hh) (g' := g) (d' := d) (t' := t) (ch := []) un hok bare (fun b z => absurd z (by simp)), r, q⟩
end

/-! ### calls -/
/-- f(..): the written arguments, then the defaults dvs; E: what is wanted of an exception -/
def tCall (sp : Sp) (dvs : List V) (E : XK) (t : TA) : TE := fun σ H Q => t σ H fun vs H1 => sp (vs ++ dvs) H1 Q E
/-- how the parameters are bound: us the positional arguments, kw the keywords' values by name, ds the defaults that fill up -/
def Binds (K : PySem.W.Frag) (fd : FuncData) (ps : List Str) (ds : List Value) : Prop :=
  ∀ (s : Shared) (us : List Value), K.In s.heap → (us ++ ds).length = ps.length → BindsTo s fd ⟨us, []⟩ (ps.zip (us ++ ds))
/-- every parameter is given -/
theorem Binds.all {K : PySem.W.Frag} {fd : FuncData} {ps : List Str} (h : ∀ us : List Value, us.length = ps.length → bindArgs fd ⟨us, []⟩ = pure (ps.zip us)) : Binds K fd ps [] := fun s us _ hl => by
  rw [List.append_nil] at hl ⊢
  exact .of_eq (h us hl)

/-- an exception of a callee reaches what this body wants of exceptions -/
def Passes (CX : CXT) (X : Cx) (E : XK) : Prop := ∀ (pins : List (Addr × Obj)) (σ : St) (H : Hp) (s : Shared) (e : Value) (s' : Shared), Inv X pins σ H s → CX X.stack H s E e s' → X.xe e s'

section
variable {X : Cx} {CX : CXT} {k : Nat} {f C : Addr} {fd : FuncData} {ps : List Str} {sp : Sp} {dvs : List V} {ds : List Value} {E : XK} {x m : Str} {p pos apos : Pos} {e o : Expr} {es : List Expr} {ta : TE} {t : TA}

/-- the callee runs -/
theorem run_fn {pins : List (Addr × Obj)} {σ : St} {H : Hp} {s : Shared} {Q : VK} {us : List Value} {vs : List V} (F : FnOk X.prog X.w X.K X.mg X.base CX k f fd ps sp) (hr : Room k X.A) (hb : Binds X.K fd ps ds) (hd : Vals dvs ds) (hx : Passes CX X E)
    (I : Inv X pins σ H s) (r : Vals vs us) (h : sp (vs ++ dvs) H Q E) : wpAny (model X.prog X.w) X.A (call (.ref f) us) (EP X pins σ Q) X.xe s := by
  have r2 : Vals (vs ++ dvs) (us ++ ds) := r.append hd
  have hl : (us ++ ds).length = ps.length := by rw [← r2.length]; exact F.len _ _ _ _ h
  refine wpAny_call (codeAny_mono (F.run X.A X.stack s H ⟨us, []⟩ (us ++ ds) (vs ++ dvs) Q E hr I.env0 (hb s us I.kIn hl) r2 h) fun r s' hq => ?_)
  cases r with
  | error e => exact hx pins σ H s e s' I hq
  | ok fl =>
    cases fl with
    | ret u => exact I.after hq
    | next => exact False.elim hq
    | brk => exact False.elim hq
    | cont => exact False.elim hq

theorem pe_call (F : FnOk X.prog X.w X.K X.mg X.base CX k f fd ps sp) (hr : Room k X.A) (hg : Gl X x) (hm : X.mg x = some (.ref f)) (hk : PySem.W.keepIn X.K (.ref f) = true) (hb : Binds X.K fd ps ds) (hd : Vals dvs ds) (hx : Passes CX X E)
    (ha : PA X (e :: es) t) (hdb : (x == ("__debug__" : Str)) = false := by decide) (he : starEach (e :: es) X.env = (false, eval e X.env) :: starEach es X.env := by rfl) (hpl : (backTo pos (starEach es X.env)).any (·.1) = false := by rfl) :
    PE X (.Call (.Name x p) (e :: es) [] pos) (tCall sp dvs E t) := by
  intro pins s σ H Q I h
  refine wpAny_Call_Name_kw (ld_glob I hg hm ?_ hdb)
  refine PySem.W.callWith_K (h₀ := X.base) I.ok.mod.kin hk (thn (ha pos pins s σ H _ I h) fun us s1 ⟨vs, H1, I1, r, q⟩ => ⟨I1.kIn, ?_⟩) he hpl
  exact run_fn F hr hb hd hx I1 r q
end

/-! ### keywords -/
section
variable {X : Cx} {CX : CXT} {k : Nat} {f C : Addr} {fd : FuncData} {ps ks : List Str} {sp : Sp} {E : XK} {x m : Str} {p pos apos kpos : Pos} {e o : Expr} {es : List Expr} {kws : List Keyword} {te ta : TE} {t tk : TA} {nm : Option Str}
variable {g : List Value → List Value → List Value} {gV : List V → List V → List V}
end

/-! ### a def's body keeps its promise -/
/-- names: the parameters first -/
structure FnScope (N P : List Str) (sc : Scope) : Prop where
  kind : sc.kind = .function
  co : sc.isCoroutine = false
  gen : sc.isGenerator = false
  nd : N.Nodup
  pre : N.take P.length = P
  par : ∀ x ∈ P, sc.names.lookup x = some .local ∨ sc.names.lookup x = some .cell
  nofree : ∀ y ∈ sc.names, y.2 ≠ .free

theorem bindL_out {kindOf : Str → Option NameKind} {x : Str} : ∀ {binds : List (Str × Value)} {m : Str → Option Value}, (∀ v, (x, v) ∉ binds) → bindL kindOf binds m x = m x
  | [], _, _ => rfl
  | (n, v) :: r, m, h => by
    unfold bindL
    rw [bindL_out fun w hw => h w (List.mem_cons_of_mem _ hw)]
    split
    · have : x ≠ n := by rintro rfl; exact h v List.mem_cons_self
      simp [this]
    · rfl
theorem bindC_out {kindOf : Str → Option NameKind} {x : Str} : ∀ {binds : List (Str × Value)} {m : Str → Option Value}, (∀ v, (x, v) ∉ binds) → bindC kindOf binds m x = m x
  | [], _, _ => rfl
  | (n, v) :: r, m, h => by
    unfold bindC
    rw [bindC_out fun w hw => h w (List.mem_cons_of_mem _ hw)]
    split
    · rfl
    · have : x ≠ n := by rintro rfl; exact h v List.mem_cons_self
      simp [this]
theorem bindL_get {kindOf : Str → Option NameKind} {x : Str} {v : Value} : ∀ {P : List Str} {vs : List Value} {i : Nat} {m : Str → Option Value}, P.Nodup → P[i]? = some x → vs[i]? = some v → kindOf x = some .local →
    bindL kindOf (P.zip vs) m x = some v
  | [], _, _, _, _, h, _, _ => by simp at h
  | _ :: _, [], _, _, _, _, h, _ => by simp at h
  | p :: P, w :: vs, 0, m, nd, h1, h2, hk => by
    simp at h1 h2; subst h1; subst h2
    show bindL kindOf ((p, w) :: P.zip vs) m p = _
    unfold bindL
    rw [bindL_out fun v hv => (List.nodup_cons.mp nd).1 (List.of_mem_zip hv).1, if_pos hk]
    simp
  | p :: P, w :: vs, i + 1, m, nd, h1, h2, hk => by
    show bindL kindOf ((p, w) :: P.zip vs) m x = _
    unfold bindL
    exact bindL_get (i := i) (List.nodup_cons.mp nd).2 (by simpa using h1) (by simpa using h2) hk
theorem bindC_get {kindOf : Str → Option NameKind} {x : Str} {v : Value} : ∀ {P : List Str} {vs : List Value} {i : Nat} {m : Str → Option Value}, P.Nodup → P[i]? = some x → vs[i]? = some v → kindOf x ≠ some .local →
    bindC kindOf (P.zip vs) m x = some v
  | [], _, _, _, _, h, _, _ => by simp at h
  | _ :: _, [], _, _, _, _, h, _ => by simp at h
  | p :: P, w :: vs, 0, m, nd, h1, h2, hk => by
    simp at h1 h2; subst h1; subst h2
    show bindC kindOf ((p, w) :: P.zip vs) m p = _
    unfold bindC
    rw [bindC_out fun v hv => (List.nodup_cons.mp nd).1 (List.of_mem_zip hv).1, if_neg hk]
    simp
  | p :: P, w :: vs, i + 1, m, nd, h1, h2, hk => by
    show bindC kindOf ((p, w) :: P.zip vs) m x = _
    unfold bindC
    exact bindC_get (i := i) (List.nodup_cons.mp nd).2 (by simpa using h1) (by simpa using h2) hk

/-- the names' values at the entry -/
def start (N : List Str) (vs : List V) : St := vs.map some ++ List.replicate (N.length - vs.length) none

/-- the context of a def's body, at its entry; an exception leaves the frame, then lies as CX says -/
def cxOf (CX : CXT) (P : Program) (w : World) (K : PySem.W.Frag) (mg : Str → Option Value) (base : Heap) (N : List Str) (qual : Str) (scope : Scope) (f : Addr) (cd : Value) (A : Around) (outer : List Env) (s : Shared) (H : Hp) (E : XK) : Cx where
  prog := P
  w := w
  K := K
  mg := mg
  base := base
  A := A.deeper (envOfC qual scope s.heap.objs.size f cd)
  N := N
  s₀ := s
  H₀ := H
  env := envOfC qual scope s.heap.objs.size f cd
  outer := outer
  stack := envOfC qual scope s.heap.objs.size f cd :: outer
  ex := []
  calm := true
  fn := fun _ => true
  pn := []
  xe := fun e s' => wpAny (model P w) (A.deeper (envOfC qual scope s.heap.objs.size f cd)) (leaving (envOfC qual scope s.heap.objs.size f cd) e) (fun _ s'' => CX outer H s E e s'') (fun e' s'' => CX outer H s E e' s'') s'

theorem cell_has {sc : Scope} {n : Nat} {x : Str} (h : sc.names.lookup x = some .cell) : ∃ c, (cellsFrom n sc.names []).lookup x = some c := by
  have q := PySem.W.cellsFrom_some sc.names n [] (.inl h)
  exact Option.isSome_iff_exists.mp q

theorem inv_start {CX : CXT} {P : Program} {w : World} {K : PySem.W.Frag} {mg : Str → Option Value} {base : Heap} {N ps : List Str} {qual : Str} {scope : Scope} {f : Addr} {cd : Value} {A : Around} {outer : List Env} {s s1 : Shared} {H : Hp} {E : XK} {us : List Value} {vs : List V}
    (S : FnScope N ps scope) (hd : A.handled = none) (e0 : Env0 P w K mg base A outer s H) (hl : vs.length = ps.length) (r : Vals vs us)
    (x : InCallC s s.heap.objs.size (bindL (envOfC qual scope s.heap.objs.size f cd).kindOf (ps.zip us) fun _ => none) (cellsFrom (s.heap.objs.size + 1) scope.names []) (bindC (envOfC qual scope s.heap.objs.size f cd).kindOf (ps.zip us) fun _ => none) s1) :
    Inv (cxOf CX P w K mg base N qual scope f cd A outer s H E) [] (start N vs) H s1 := by
  have hpl : ps.length ≤ N.length := by have := congrArg List.length S.pre; rw [List.length_take] at this; omega
  obtain ⟨h1, tk, rfl, hk⟩ := x.done
  have noA : ∀ b : Addr, b ∉ (cxOf CX P w K mg base N qual scope f cd A outer s H E).ex := fun b z => absurd (show b ∈ ([] : List Addr) from z) (by simp)
  refine ⟨⟨e0.mod, S.kind, rfl, rfl, Nat.le_refl _, fun y z c h1 h2 => ?_, fun y hy => ?_, fun y c _ h => ?_, fun _ => hd, Around.frames_deeper e0.frames, .inr ⟨rfl, rfl⟩, fun b z => absurd z (noA b), e0.bs, e0.bsz, fun b _ _ => noA b, fun b z => absurd z (noA b), e0.funs, e0.frf⟩,
    rfl, e0.bare, Un.kept hk, ⟨_, x.toInCall.ns, fun i y v h1 h2 h3 => ?_⟩, fun y c h => ⟨_, x.cell y c h⟩, e0.hok.fresh (Nat.le_refl _), fun y c h => ?_, fun p hp => absurd (show p ∈ ([] : List (Addr × Obj)) from hp) (by simp), e0.hok.kept hk, ?_⟩
  · exact name_of_addr x.apart (PySem.mem_of_lookup h1) (PySem.mem_of_lookup h2)
  · have hy : scope.names.lookup y = some .cell ∨ scope.names.lookup y = some .free := hy
    rcases hy with hy | hy
    · exact cell_has hy
    · exact absurd rfl (S.nofree _ (PySem.mem_of_lookup hy))
  · exact Nat.le_of_lt (x.above y c (PySem.mem_of_lookup h))
  · have hi : i < vs.length := by
      unfold start at h2
      by_cases hi : i < vs.length
      · exact hi
      · rw [List.getElem?_append_right (by simpa using hi)] at h2
        rw [List.getElem?_replicate] at h2
        split at h2 <;> cases h2
    have ha : vs[i]? = some v := by
      unfold start at h2
      rw [List.getElem?_append_left (by simpa using hi), List.getElem?_map] at h2
      cases e : vs[i]? with
      | none => rw [e] at h2; cases h2
      | some a => rw [e] at h2; cases h2; rfl
    obtain ⟨u, hu, rv⟩ := r.get ha
    have hp : ps[i]? = some y := by
      rw [← S.pre, List.getElem?_take_of_lt (by omega)]; exact h1
    have ndP : ps.Nodup := by rw [← S.pre]; exact S.nd.sublist (List.take_sublist _ _)
    refine ⟨u, rv, ?_⟩
    rcases S.par y (List.mem_of_getElem? hp) with k | k
    · exact .inl ⟨k, bindL_get ndP hp hu k⟩
    · obtain ⟨c, e⟩ := cell_has (n := s.heap.objs.size + 1) k
      refine .inr ⟨.inl k, c, e, ?_⟩
      have q := x.cell y c e
      rw [bindC_get ndP hp hu (by show scope.names.lookup y ≠ _; rw [k]; decide)] at q
      exact q
  · exact e0.hok.fresh (Nat.le_of_lt (x.above y c (PySem.mem_of_lookup h)))
  · unfold start
    show _ = N.length
    rw [List.length_append, List.length_map, List.length_replicate]
    omega

/-- THE RULE: a def (or a method) of the text, by its body. The body's reading t is chosen for each entry; it is run at the parameters' values -/
theorem fn_of {CX : CXT} {P : Program} {w : World} {K : PySem.W.Frag} {mg : Str → Option Value} {base : Heap} {k : Nat} {f : Addr} {name qual : Str} {params : Arguments} {body : List Stmt} {scope : Scope} {dV kV doc pm cdv ct oc : Value} {an od : Option Addr}
    {osl : Array (Option Value)} {N ps : List Str} {sp : Sp} (lk : K.lookup f = some ⟨oc, od, .func (PySem.W.fnOf name qual params body scope dV kV doc pm an cdv ct), osl⟩) (hcd : PySem.W.codeIn K cdv qual = true) (S : FnScope N ps scope)
    (len : ∀ vs H Q E, sp vs H Q E → vs.length = ps.length)
    (hbody : ∀ (A : Around) (outer : List Env) (s : Shared) (H : Hp) (vs : List V) (Q : VK) (E : XK), Room k (A.deeper (envOfC qual scope s.heap.objs.size f cdv)) → sp vs H Q E →
      ∃ t, PSs (cxOf CX P w K mg base N qual scope f cdv A outer s H E) body t ∧ t { nx := fun _ H' => Q .non H', rt := Q } (start N vs) H) :
    FnOk P w K mg base CX (k + 1) f (PySem.W.fnOf name qual params body scope dV kV doc pm an cdv ct) ps sp := by
  refine ⟨len, fun A outer s H args us vs Q E hr e0 hb r hsp => ?_⟩
  have hl := len _ _ _ _ hsp
  have KX : K.In s.heap := e0.mod.kin.keeps fun b o e => (e0.bs b o e).1
  have lim : s.heap.NoLimit := e0.mod.nolimit.keeps fun b o e => (e0.bs b o e).1
  have hkind : ∀ y ∈ ps.zip us, scope.names.lookup y.1 = some .local ∨ (scope.names.lookup y.1 = some .cell ∧ ((cellsFrom (s.heap.objs.size + 1) scope.names []).lookup y.1).isSome = true) := fun ⟨n, v⟩ hy => by
    rcases S.par n (List.of_mem_zip hy).1 with q | q
    · exact .inl q
    · exact .inr ⟨q, PySem.W.cellsFrom_some _ _ _ (.inl q)⟩
  refine codeAny_call_function hr.depth (KX _ _ lk) rfl S.co S.gen rfl (PySem.W.codeRec_of KX hcd) (hb _ _ _ _ ?_)
  refine wpAny_newFunctionEnv_cells S.kind hkind fun env he s1 x => ?_
  subst he
  refine ⟨lim.keeps x.toInCall.keep, codeAny_func ?_⟩
  obtain ⟨t, ht, hq⟩ := hbody A outer s H vs Q E (hr.deeper _) hsp
  have I : Inv (cxOf CX P w K mg base N qual scope f cdv A outer s H E) [] (start N vs) H s1 := inv_start S hr.hd e0 hl r x
  refine wpAny_mono (ht [] s1 (start N vs) H _ I hq) (fun fl s' hs => ?_) fun e s' hs => hs
  have fin : ∀ {σ' : St} {H' : Hp} {v : V} {u : Value}, Inv (cxOf CX P w K mg base N qual scope f cdv A outer s H E) [] σ' H' s' → RelV v u → Q v H' → CE outer P w H s Q u s' :=
    fun {σ' H' v u} J rv q => ⟨v, H', J.os, J.bare, J.base, J.hok, rv, q⟩
  cases fl with
  | ret u =>
    obtain ⟨v, σ', H', J, rv, q⟩ := hs
    exact fin J rv q
  | next =>
    obtain ⟨σ', H', J, q⟩ := hs
    exact fin (v := V.non) (u := Value.none) J rfl q
  | brk =>
    obtain ⟨_, _, _, q⟩ := hs
    exact False.elim q
  | cont =>
    obtain ⟨_, _, _, q⟩ := hs
    exact False.elim q
end L2

namespace L2
open PySem PySem.Spec PyProof.Rows
section
variable {X : Cx} {x : Str} {p pos : Pos} {e : Expr} {es : List Expr} {t : TA} {id T : String} {r : List V → Hp → VK → Prop}

def tCB (r : List V → Hp → VK → Prop) (t : TA) : TE := fun σ H Q => t σ H fun vs H1 => r vs H1 Q
/-- f(e, ..), f a built-in function -/
theorem pe_callB (hc : CallR X (.builtin id) r) (hg : Gl X x) (hm : X.mg x = none) (hv : bootBuiltins x = some (.builtin id)) (ha : PA X (e :: es) t) (hn : x ≠ "__name__" := by decide) (hdb : (x == ("__debug__" : Str)) = false := by decide)
    (he : starEach (e :: es) X.env = (false, eval e X.env) :: starEach es X.env := by rfl) (hpl : (backTo pos (starEach es X.env)).any (·.1) = false := by rfl) : PE X (.Call (.Name x p) (e :: es) [] pos) (tCB r t) := by
  intro pins s σ H Q I h
  refine wpAny_Call_Name_kw (ld_blt I hg hm hv ?_ hn hdb)
  exact PyProof.Rows.callWith_builtin1 (thn (ha pos pins s σ H _ I h) fun us s1 ⟨vs, H1, I1, r1, q1⟩ => hc pins s1 σ H1 vs us Q I1 r1 q1) he hpl
/-- T(e, ..), T a built-in type -/
theorem pe_callTy (hc : CallR X (.type T) r) (hg : Gl X x) (hm : X.mg x = none) (hv : bootBuiltins x = some (.type T)) (ha : PA X (e :: es) t) (hn : x ≠ "__name__" := by decide) (hdb : (x == ("__debug__" : Str)) = false := by decide)
    (he : starEach (e :: es) X.env = (false, eval e X.env) :: starEach es X.env := by rfl) (hpl : (backTo pos (starEach es X.env)).any (·.1) = false := by rfl) : PE X (.Call (.Name x p) (e :: es) [] pos) (tCB r t) := by
  intro pins s σ H Q I h
  refine wpAny_Call_Name_kw (ld_blt I hg hm hv ?_ hn hdb)
  exact PyProof.Rows.callWith_type1 (thn (ha pos pins s σ H _ I h) fun us s1 ⟨vs, H1, I1, r1, q1⟩ => hc pins s1 σ H1 vs us Q I1 r1 q1) he hpl
end
end L2

namespace HT
open PySem PyProof.Rows

section
open PySem.SeqAt
open PySem.AutoSeq1 (wpAny_loadPart')
open PySem.MeetsSeq PySem.MeetsSeq2 PySem.MeetsSeq3

end

section
variable {prog : Program} {w : World} {A : Around} {E : Value → Shared → Prop} {s : Shared}

/-- t + u, t not empty -/
theorem cat_tup {t b : Addr} {vs ws : List Value} {Q : Value → Shared → Prop} (ht : IsTup s.heap t vs.toArray) (hb : IsTup s.heap b ws.toArray) (hv : vs ≠ [])
    (h1 : ws = [] → Q (.ref t) s) (h2 : ws ≠ [] → Q (.ref s.heap.objs.size) { s with heap := s.heap.push { cls := .type "tuple", data := .seq (vs ++ ws).toArray } })
    (hsz : vs.length + ws.length ≤ sizeLine) : wpAny (model prog w) A (binaryOp .Add (.ref t) (.ref b)) Q E s := by
  obtain ⟨⟨cls, dd, data, sl⟩, ho, hc, n, hd⟩ := id ht
  obtain ⟨⟨cls2, dd2, data2, sl2⟩, ho2, hc2, n2, hd2⟩ := id hb
  simp only at hc hd hc2 hd2
  subst hc hd hc2 hd2
  have e : vs.toArray ++ ws.toArray = (vs ++ ws).toArray := by simp
  by_cases hw : ws = []
  · exact concat_meets ⟨_, ho, rfl⟩ ⟨_, ho2, rfl⟩ noFill_tuple_add seq_tuple_add PySem.F.slot_tuple_add PySem.F.entry_tuple_add (PySem.F.args_tuple_add_2 _ _)
      (tuple_addW1 t b vs.toArray ws.toArray n n2 dd dd2 sl sl2 (by simpa using hv) (by simp [hw])) ⟨ho, ho2, h1 hw⟩
  · refine concat_meets ⟨_, ho, rfl⟩ ⟨_, ho2, rfl⟩ noFill_tuple_add seq_tuple_add PySem.F.slot_tuple_add PySem.F.entry_tuple_add (PySem.F.args_tuple_add_2 _ _)
      (tuple_addW2 t b vs.toArray ws.toArray n n2 dd dd2 sl sl2 (by simpa using hv) (by simpa using hw) (by rw [List.size_toArray, List.size_toArray]; exact hsz)) ⟨ho, ho2, ?_⟩
    rw [e]
    exact h2 hw

/-! ### t[a:b], not the whole -/
/-- a slice's bound as a place among n (d where it is left out) -/
def sIx (n d : Nat) : Option Int → Nat
  | none => d
  | some v => if v < 0 then (v + (n : Int)).toNat else min v.toNat n
theorem sIx_none (n d : Nat) : sIx n d none = d := rfl
theorem sIx_nat (n d k : Nat) : sIx n d (some (k : Int)) = min k n := by
  show (if (k : Int) < 0 then ((k : Int) + (n : Int)).toNat else min (k : Int).toNat n) = min k n
  rw [if_neg (by omega), Int.toNat_natCast]
theorem sIx_le (n d : Nat) (hd : d ≤ n) (o : Option Int) : sIx n d o ≤ n := by
  cases o with
  | none => exact hd
  | some v =>
    show (if v < 0 then (v + (n : Int)).toNat else min v.toNat n) ≤ n
    by_cases hv : v < 0
    · rw [if_pos hv]; omega
    · rw [if_neg hv]; exact Nat.min_le_right _ _
theorem clip_eq (v : Int) (n d : Nat) : (if v < 0 then max (v + (n : Int)) 0 else min v (n : Int)) = ((sIx n d (some v) : Nat) : Int) := by
  show (if v < 0 then max (v + (n : Int)) 0 else min v (n : Int)) = (((if v < 0 then (v + (n : Int)).toNat else min v.toNat n) : Nat) : Int)
  by_cases hv : v < 0
  · simp only [if_pos hv]; omega
  · simp only [if_neg hv]; omega
theorem adjust_gen (lo hi : Option Int) (n : Nat) : Builtin.Slice.sliceAdjust lo hi 1 (n : Int) = (((sIx n 0 lo : Nat) : Int), ((sIx n n hi : Nat) : Int)) := by
  have h1 : ¬ ((1 : Int) < 0) := by omega
  unfold Builtin.Slice.sliceAdjust
  simp only [h1, if_false]
  refine Prod.ext ?_ ?_
  · cases lo with
    | none => rfl
    | some v => exact clip_eq v n 0
  · cases hi with
    | none => rfl
    | some v => exact clip_eq v n n
theorem places_gen (i j : Nat) : Builtin.Slice.slicePlaces (i : Int) (j : Int) 1 = j - i := by
  unfold Builtin.Slice.slicePlaces
  have h1 : (1 : Int) > 0 := by omega
  simp only [h1, if_true, Int.ediv_one]
  split <;> omega
theorem slicePart_ {v : Value} {o : Option Int} {Q : Option Int → Shared → Prop} (p : IsPart v o) (h : Q o s) : wpAny (model prog w) A (Builtin.Slice.slicePartIndex v) Q E s := by
  cases p with
  | none => exact slicePart_none h
  | int i t => exact slicePart_int h
theorem sliceApplied_gen {sl : Addr} {vl vu : Value} {lo hi : Option Int} {n : Nat} {Q : Int × Int × Nat → Shared → Prop} (hs : s.heap.IsSliceOf sl vl vu .none) (pl : IsPart vl lo) (pu : IsPart vu hi)
    (h : Q (((sIx n 0 lo : Nat) : Int), 1, sIx n n hi - sIx n 0 lo) s) : wpAny (model prog w) A (Builtin.Slice.sliceApplied (.ref sl) (pure (n : Int))) Q E s := by
  obtain ⟨os, hos, hcs, hds⟩ := id hs
  unfold Builtin.Slice.sliceApplied Builtin.Slice.sliceFields
  refine wpAny_bind (wpAny_bind (wpAny_field hos hds (x := vl) rfl (wpAny_bind (wpAny_field hos hds (x := vu) rfl (wpAny_bind (wpAny_field hos hds (x := .none) rfl (wpAny_pure ?_)))))))
  refine wpAny_bind (slicePart_none ?_)
  show wpAny _ _ (if ((1 : Int) == 0) = true then _ else _) _ _ s
  rw [if_neg (by decide)]
  refine wpAny_bind (slicePart_ pl (wpAny_bind (slicePart_ pu (wpAny_bind (wpAny_pure ?_)))))
  show wpAny _ _ (match Builtin.Slice.sliceAdjust lo hi 1 (n : Int) with | (lo, hi) => pure (lo, (1 : Int), Builtin.Slice.slicePlaces lo hi 1)) _ _ s
  rw [adjust_gen lo hi n]
  show wpAny _ _ (pure (((sIx n 0 lo : Nat) : Int), (1 : Int), Builtin.Slice.slicePlaces ((sIx n 0 lo : Nat) : Int) ((sIx n n hi : Nat) : Int) 1)) _ _ s
  rw [places_gen]
  exact wpAny_pure h
theorem pick_gen (xs : Array Value) (i k : Nat) : ((List.range k).filterMap fun (m : Nat) => xs[((i : Int) + (m : Int) * 1).toNat]?).toArray = ((xs.toList.drop i).take k).toArray := by
  have e : (fun (m : Nat) => xs[((i : Int) + (m : Int) * 1).toNat]?) = fun m => xs[i + m]? := by
    funext m
    have : ((i : Int) + (m : Int) * 1).toNat = i + m := by omega
    rw [this]
  rw [e]
  have := pick_run xs i k
  rw [List.filterMap_map] at this
  have e2 : ((fun x => xs[x]?) ∘ fun x => i + x) = fun m => xs[i + m]? := rfl
  rw [e2] at this
  rw [this]

theorem getItem_tuple_cut {t sl : Addr} {items : Array Value} {vl vu : Value} {lo hi : Option Int} {Q : Value → Shared → Prop} (ht : IsTup s.heap t items) (hs : s.heap.IsSliceOf sl vl vu .none) (pl : IsPart vl lo) (pu : IsPart vu hi)
    (hw : ¬ (sIx items.size 0 lo = 0 ∧ sIx items.size items.size hi = items.size))
    (h : Q (.ref s.heap.objs.size) { s with heap := s.heap.push { cls := .type "tuple", data := .seq ((items.toList.drop (sIx items.size 0 lo)).take (sIx items.size items.size hi - sIx items.size 0 lo)).toArray } })
    (hsz : items.size ≤ sizeLine) : wpAny (model prog w) A (getItem (.ref t) (.ref sl)) Q E s := by
  have htake : sizeOk (.seq ((items.toList.drop (sIx items.size 0 lo)).take (sIx items.size items.size hi - sIx items.size 0 lo)).toArray) := by
    show ((items.toList.drop (sIx items.size 0 lo)).take (sIx items.size items.size hi - sIx items.size 0 lo)).toArray.size ≤ sizeLine
    rw [List.size_toArray, List.length_take, List.length_drop, Array.length_toList]
    omega
  have hj : sIx items.size items.size hi ≤ items.size := sIx_le _ _ (Nat.le_refl _) hi
  obtain ⟨os, hos, hcs, hds⟩ := id hs
  have hTs : s.TypeIs (.ref sl) "slice" := ⟨os, hos, hcs⟩
  unfold getItem
  try with_reducible refine wpAny_holding ?_
  first | refine wpAny_bind (wpAny_pure ?_) | skip
  refine wpAny_bind (wpAny_sequenceKey ht.typeIs (by decide) ?_)
  refine wpAny_bind (wpAny_callSpecial?_slot (name := Str.ofString "__getitem__") ht.typeIs PyProof.Rows.slot_tuple_getitem
    (wpAny_call_entry PyProof.Rows.slot_tuple_getitem ht.typeIs entry_tuple_getitem ?_ (args_tuple_getitem _ _)))
  show wpAny _ _ (Builtin.Tuple.tupleItemsOf (.ref t) >>= _) _ _ s
  refine wpAny_bind (tupleItemsOf_ ht ?_)
  refine wpAny_bind (wpAny_typeOf hTs ?_)
  rw [if_pos (by decide)]
  refine wpAny_bind (sliceApplied_gen hs pl pu ?_)
  have hno : ¬ ((((sIx items.size 0 lo : Nat) : Int) == 0 && (1 : Int) == 1 && (sIx items.size items.size hi - sIx items.size 0 lo) == items.size) = true) := by
    intro q
    rw [Bool.and_eq_true, Bool.and_eq_true] at q
    have q1 : ((sIx items.size 0 lo : Nat) : Int) = 0 := eq_of_beq q.1.1
    have q2 : sIx items.size items.size hi - sIx items.size 0 lo = items.size := eq_of_beq q.2
    exact hw ⟨by omega, by omega⟩
  show wpAny _ _ (if (((sIx items.size 0 lo : Nat) : Int) == 0 && (1 : Int) == 1 && (sIx items.size items.size hi - sIx items.size 0 lo) == items.size) = true then _ else _) _ _ s
  rw [if_neg hno, pick_gen]
  first
    | exact wpAny_bind (m := Builtin.Tuple.tupleExact _) (wpAny_newObj_type (wpAny_pure ⟨_, rfl, wpAny_pure h⟩) htake)
    | exact wpAny_bind (m := Builtin.Tuple.tupleExact _) (wpAny_newObj_type (wpAny_bind (wpAny_pure (wpAny_pure ⟨_, rfl, wpAny_pure h⟩))) htake)
    | exact wpAny_bind (wpAny_bind (m := Builtin.Tuple.tupleExact _) (wpAny_newObj_type (wpAny_pure (wpAny_pure ⟨_, rfl, wpAny_pure h⟩)) htake))
    | exact wpAny_bind (wpAny_bind (m := Builtin.Tuple.tupleExact _) (wpAny_newObj_type (wpAny_pure ⟨_, rfl, wpAny_pure h⟩) htake))
end
end HT

namespace L2
open PySem PySem.Spec PyProof.Rows

/-! ### the parts of a slice -/
abbrev TO := St → Hp → (Option Int → Hp → Prop) → Prop
/-- a slice's part (left out, or an int) -/
def PO (X : Cx) (e : Option Expr) (t : TO) : Prop :=
  ∀ (pins : List (Addr × Obj)) (s : Shared) (σ : St) (H : Hp) (Q : Option Int → Hp → Prop), Inv X pins σ H s → t σ H Q →
    wpAny (model X.prog X.w) X.A (evalPart e X.env) (fun u s' => ∃ o H', Inv X pins σ H' s' ∧ IsPart u o ∧ Q o H') X.xe s
def tNoPart : TO := fun _ H Q => Q none H
def tPart (t : TE) : TO := fun σ H Q => t σ H fun x H1 => ∃ i, x = .int i ∧ Q (some i) H1

section
variable {X : Cx} {e : Expr} {te : TE} {lo hi : Option Expr} {tl th : TO} {pos p2 : Pos}

theorem po_none : PO X none tNoPart := by
  intro pins s σ H Q I h
  rw [evalPart_none]
  exact wpAny_pure ⟨none, H, I, .none, h⟩
theorem po_some (h : PE X e te) : PO X (some e) (tPart te) := by
  intro pins s σ H Q I hw
  rw [evalPart_some]
  refine thn (h pins s σ H _ I hw) fun u s1 ⟨x, H1, I1, r1, q1⟩ => ?_
  obtain ⟨i, rfl, q⟩ := q1
  obtain ⟨t, rfl⟩ := r1
  exact ⟨some i, H1, I1, .int i t, q⟩

/-- what a slice of a value is, by values: the slice object stands at sl -/
def SlR (X : Cx) (r : V → Option Int → Option Int → Hp → VK → Prop) : Prop :=
  ∀ (pins : List (Addr × Obj)) (s : Shared) (σ : St) (H : Hp) (x : V) (v vl vu : Value) (lo hi : Option Int) (sl : Addr) (Q : VK), Inv X pins σ H s → RelV x v → s.heap.IsSliceOf sl vl vu .none → IsPart vl lo → IsPart vu hi → r x lo hi H Q →
    ∃ T id, typeLookup (.type T) "__getitem__" = pure (some (.builtin id)) ∧ s.TypeIs v T ∧ wpAny (model X.prog X.w) X.A (getItem v (.ref sl)) (EP X pins σ Q) X.xe s
def tSl (r : V → Option Int → Option Int → Hp → VK → Prop) (te : TE) (tl th : TO) : TE := fun σ H Q => te σ H fun x H1 => tl σ H1 fun l H2 => th σ H2 fun u H3 => r x l u H3 Q
/-- a[lo:hi], any a -/
theorem pe_slice {r : V → Option Int → Option Int → Hp → VK → Prop} (hr : SlR X r) (he : PE X e te) (hl : PO X lo tl) (hu : PO X hi th) : PE X (.Subscript e (.Slice lo hi none p2) pos) (tSl r te tl th) := by
  intro pins s σ H Q I h
  refine Subscript_ (thn (he pins s σ H _ I h) fun v s1 ⟨x, H1, I1, r1, q1⟩ => ?_)
  refine wpAny_Slice (thn (hl pins s1 σ H1 _ I1 q1) fun vl s2 ⟨l, H2, I2, pl, q2⟩ => thn (hu pins s2 σ H2 _ I2 q2) fun vu s3 ⟨u, H3, I3, pu, q3⟩ => ?_)
  rw [evalPart_none]
  refine wpAny_pure ?_
  have I4 : Inv X pins σ H3 { s3 with heap := s3.heap.push { cls := .type "slice", data := .fields #[vl, vu, .none] } } := I3.kept (t' := s3.toks) fun b ob q => Heap.get?_push_of_some _ q
  obtain ⟨T, id, hT, ht, hg⟩ := hr pins { s3 with heap := s3.heap.push { cls := .type "slice", data := .fields #[vl, vu, .none] } } σ H3 x v vl vu l u s3.heap.objs.size Q I4 r1 (Heap.IsSliceOf.new ..) pl pu q3
  show wpAny (model X.prog X.w) X.A (subscriptTail e (.Slice lo hi none p2) v (.ref s3.heap.objs.size)) (EP X pins σ Q) X.xe { s3 with heap := s3.heap.push { cls := .type "slice", data := .fields #[vl, vu, .none] } }
  exact tail_any (ops := [.ref s3.heap.objs.size, v]) ht hT hg (by with_unfolding_all rfl)

/-- the items of xs[lo:hi] -/
def cutV (xs : List V) (lo hi : Option Int) : List V := (xs.drop (HT.sIx xs.length 0 lo)).take (HT.sIx xs.length xs.length hi - HT.sIx xs.length 0 lo)
theorem cutV_length (xs : List V) (lo hi : Option Int) : (cutV xs lo hi).length ≤ xs.length := by
  unfold cutV
  rw [List.length_take, List.length_drop]
  omega
/-- t[lo:hi], not the whole of it (the whole would be t itself) -/
def rSlT (K : PySem.W.Frag) : V → Option Int → Option Int → Hp → VK → Prop := fun x lo hi H Q => ∃ a xs, x = .ref a ∧ SqT K H a xs ∧
  ¬ (HT.sIx xs.length 0 lo = 0 ∧ HT.sIx xs.length xs.length hi = xs.length) ∧ ∀ p, H p = none → Q (.ref p) (upd H p (.tup (cutV xs lo hi)))
theorem sl_tup : SlR X (rSlT X.K) := by
  intro pins s σ H x v vl vu lo hi sl Q I rx hs pl pu h
  obtain ⟨a, xs, rfl, hx, hw, q⟩ := h
  cases rx
  obtain ⟨its, r, ht, hz⟩ := I.tuple hx
  have hlen : its.toArray.size = xs.length := by rw [List.size_toArray]; exact r.length.symm
  refine ⟨"tuple", _, PyProof.Rows.slot_tuple_getitem.lookup, ht.typeIs, ?_⟩
  refine HT.getItem_tuple_cut ht hs pl pu (by rw [hlen]; exact hw) ?_ (by rw [hlen]; exact hz)
  rw [hlen]
  refine ⟨.ref s.heap.objs.size, _, I.laid (t' := s.toks) (o := .tup (cutV xs lo hi)) (fun b ob q => Heap.get?_push_of_some _ q) (Nat.le_refl _) ?_, rfl, q _ (I.hok.fresh (Nat.le_refl _))⟩
  exact ⟨Nat.le_trans (cutV_length xs lo hi) hz, _, (r.drop (HT.sIx xs.length 0 lo)).take (HT.sIx xs.length xs.length hi - HT.sIx xs.length 0 lo), IsTup.new _ _⟩

/-! ### t < u, t + u -/
/-- t + u, t not empty: u empty gives t itself -/
def rCatT (K : PySem.W.Frag) : R2 := fun x y H Q => ∃ a b xs ys, x = .ref a ∧ y = .ref b ∧ SqT K H a xs ∧ SqT K H b ys ∧ xs ≠ [] ∧ xs.length + ys.length ≤ sizeLine ∧
  (ys = [] → Q (.ref a) H) ∧ (ys ≠ [] → ∀ p, H p = none → Q (.ref p) (upd H p (.tup (xs ++ ys))))
theorem Vals.nil_iff {xs : List V} {us : List Value} (r : Vals xs us) : us = [] ↔ xs = [] := by
  cases r with
  | nil => simp
  | cons _ _ => simp
theorem op_catT : OpR X (binaryOp .Add) (rCatT X.K) := by
  intro pins s σ H x y v u Q I rx ry h
  obtain ⟨a, b, xs, ys, rfl, rfl, ha, hb, hx, hz, q1, q2⟩ := h
  cases rx
  cases ry
  obtain ⟨its, r1, p1, _⟩ := I.tuple ha
  obtain ⟨its2, r2, p2, _⟩ := I.tuple hb
  refine HT.cat_tup p1 p2 (fun z => hx (r1.nil_iff.mp z)) (fun z => ⟨.ref a, H, I, rfl, q1 (r2.nil_iff.mp z)⟩) (fun z => ?_) (by rw [← r1.length, ← r2.length]; exact hz)
  refine ⟨.ref s.heap.objs.size, _, I.laid (t' := s.toks) (o := .tup (xs ++ ys)) (fun b ob q => Heap.get?_push_of_some _ q) (Nat.le_refl _) ?_, rfl, q2 (fun w => z (r2.nil_iff.mpr w)) _ (I.hok.fresh (Nat.le_refl _))⟩
  exact ⟨by rw [List.length_append]; exact hz, _, r1.append r2, IsTup.new _ _⟩
end
end L2

namespace L2
open PySem PySem.Spec PyProof.Rows

/-! ### places -/
/-- the place that an index of any sign means -/
def ixN (n : Nat) (i : Int) : Option Nat := if 0 ≤ i then (if i < n then some i.toNat else none) else if -(n : Int) ≤ i then some (i + n).toNat else none
def atI {α : Type} (xs : List α) (i : Int) : Option α := (ixN xs.length i).bind fun j => xs[j]?
theorem ixN_seq {n : Nat} {i : Int} {j : Nat} (h : ixN n i = some j) : seqIndex? i n = some j ∧ j < n ∧ -(n : Int) ≤ i ∧ i < n := by
  unfold ixN at h
  by_cases h0 : 0 ≤ i
  · rw [if_pos h0] at h
    by_cases h1 : i < n
    · rw [if_pos h1] at h
      have e : i.toNat = j := Option.some.inj h
      exact ⟨by rw [seqIndex_of h0 h1, e], by omega, by omega, h1⟩
    · rw [if_neg h1] at h; cases h
  · rw [if_neg h0] at h
    by_cases h1 : -(n : Int) ≤ i
    · rw [if_pos h1] at h
      have e : (i + n).toNat = j := Option.some.inj h
      exact ⟨by rw [seqIndex_neg (by omega) h1, e], by omega, h1, by omega⟩
    · rw [if_neg h1] at h; cases h
theorem atI_get {α : Type} {xs : List α} {i : Int} {v : α} (h : atI xs i = some v) : ∃ j, seqIndex? i xs.length = some j ∧ xs[j]? = some v ∧ j < xs.length ∧ -(xs.length : Int) ≤ i ∧ i < xs.length := by
  unfold atI at h
  cases e : ixN xs.length i with
  | none => rw [e] at h; cases h
  | some j =>
    rw [e] at h
    obtain ⟨h1, h2, h3, h4⟩ := ixN_seq e
    exact ⟨j, h1, h, h2, h3, h4⟩
theorem atI_nat {α : Type} {xs : List α} {j : Nat} {v : α} (h : xs[j]? = some v) : atI xs (j : Int) = some v := by
  have hj : j < xs.length := (List.getElem?_eq_some_iff.mp h).1
  have e : ixN xs.length (j : Int) = some j := by
    unfold ixN
    rw [if_pos (by omega), if_pos (by omega)]; simp
  unfold atI; rw [e]; exact h
/-! ### what may be subscripted -/
/-- what stands as an index of a plain subscript -/
def PlainIx (b : Expr) : Prop := ∀ o i, subscripted b false o i = operate [o, i] (getItem o i)
/-- a subscript by values -/
def IxR (X : Cx) (r : R2) : Prop :=
  ∀ (value slice : Expr) (pins : List (Addr × Obj)) (s : Shared) (σ : St) (H : Hp) (x y : V) (v u : Value) (Q : VK), Inv X pins σ H s → RelV x v → RelV y u → r x y H Q →
    subscripted slice false v u = operate [v, u] (getItem v u) → wpAny (model X.prog X.w) X.A (subscriptTail value slice v u) (EP X pins σ Q) X.xe s
/-- a call of a builtin's method by values: the receiver, the arguments -/
def MtR (X : Cx) (id : String) (r : V → List V → Hp → VK → Prop) : Prop :=
  ∀ (pins : List (Addr × Obj)) (s : Shared) (σ : St) (H : Hp) (x : V) (xs : List V) (v : Value) (us : List Value) (Q : VK), Inv X pins σ H s → RelV x v → Vals xs us → r x xs H Q →
    wpAny (model X.prog X.w) X.A (call (.builtin id) (v :: us)) (EP X pins σ Q) X.xe s
section
variable {X : Cx} {a b : Expr} {ta tb : TE} {pos : Pos}
/-- a[b] -/
theorem pe_ix {r : R2} (hr : IxR X r) (ha : PE X a ta) (hb : PE X b tb) (hs : PlainIx b) : PE X (.Subscript a b pos) (tOp r ta tb) := by
  intro pins s σ H Q I h
  exact Subscript_ (binT ha hb I h fun v u s2 x y H2 I2 rx ry q => hr a b pins s2 σ H2 x y v u Q I2 rx ry q (hs _ _))

def rIxL (K : PySem.W.Frag) : R2 := fun x y H Q => ∃ p xs i v, x = .ref p ∧ y = .int i ∧ SqL K H p xs ∧ atI xs i = some v ∧ Q v H
def rIxT (K : PySem.W.Frag) : R2 := fun x y H Q => ∃ p xs i v, x = .ref p ∧ y = .int i ∧ SqT K H p xs ∧ atI xs i = some v ∧ Q v H
def rIxS : R2 := fun x y H Q => ∃ z i c, x = .str z ∧ y = .int i ∧ z.length ≤ sizeLine ∧ atI z.cps.toList i = some c ∧ Q (.str ⟨#[c]⟩) H
theorem ix_list : IxR X (rIxL X.K) := by
  intro value slice pins s σ H x y v u Q I rx ry h hs
  obtain ⟨p, xs, i, z, rfl, rfl, hq, he, q⟩ := h
  cases rx
  obtain ⟨t, rfl⟩ := ry
  obtain ⟨its, r, pl, hz⟩ := I.list hq
  obtain ⟨j, h1, h2, h3, h4, h5⟩ := atI_get he
  obtain ⟨w, ew, rw'⟩ := r.get h2
  have hl := r.length
  have hn := line63
  have fin : EP X pins σ Q w s := ⟨z, H, I, rw', q⟩
  by_cases h0 : 0 ≤ i
  · have hj : i.toNat = j := by
      rw [seqIndex_of h0 h5] at h1
      exact Option.some.inj h1
    exact item_listR pl.isList h0 (by omega) (by rw [hj]; simpa using ew) fin hs
  · have hj : (i + (its.toArray.size : Int)).toNat = j := by
      rw [seqIndex_neg (by omega) h4] at h1
      rw [List.size_toArray, ← hl]
      exact Option.some.inj h1
    exact subscriptTail_builtinR (x := w) pl.isList.typeIs slot_list_getitem.lookup
      (wpAny_getItem_list_neg (Q := fun r s' => r = w ∧ EP X pins σ Q r s') pl.isList (by omega) (by rw [List.size_toArray] <;> omega) (by omega) (by rw [hj]; simpa using ew) ⟨rfl, fin⟩) hs
theorem ix_tup : IxR X (rIxT X.K) := by
  intro value slice pins s σ H x y v u Q I rx ry h hs
  obtain ⟨p, xs, i, z, rfl, rfl, hq, he, q⟩ := h
  cases rx
  obtain ⟨t, rfl⟩ := ry
  obtain ⟨its, r, pl, hz⟩ := I.tuple hq
  obtain ⟨j, h1, h2, h3, h4, h5⟩ := atI_get he
  obtain ⟨w, ew, rw'⟩ := r.get h2
  have hl := r.length
  have hn := line63
  have fin : EP X pins σ Q w s := ⟨z, H, I, rw', q⟩
  exact subscriptTail_builtinR (x := w) pl.typeIs slot_tuple_getitem.lookup
    (getItem_tuple (j := j) (Q := fun r s' => r = w ∧ EP X pins σ Q r s') pl (by omega) (by omega) (by rw [List.size_toArray, ← hl]; exact h1) (by simpa using ew) ⟨rfl, fin⟩) hs
theorem ix_str : IxR X rIxS := by
  intro value slice pins s σ H x y v u Q I rx ry h hs
  obtain ⟨z, i, c, rfl, rfl, hz, he, q⟩ := h
  obtain ⟨t, rfl⟩ := rx
  obtain ⟨t', rfl⟩ := ry
  obtain ⟨j, h1, h2, h3, h4, h5⟩ := atI_get he
  have hl : z.cps.toList.length = z.length := by simp [Str.length]
  rw [hl] at h1 h4 h5
  have hn := line63
  exact tail_any (typeIs_str s z t) slot_str_getitem.lookup (getItem_str (c := c) (by
    have e1 : decide (i < -(2 ^ 63 : Int)) = false := decide_eq_false (by omega)
    have e2 : decide (i ≥ 2 ^ 63) = false := decide_eq_false (by omega)
    rw [e1, e2, Bool.or_false]) (by rw [h1]; simpa using h2) ⟨.str ⟨#[c]⟩, H, I.tok _, ⟨_, rfl⟩, q⟩) hs
/-! ### xs[i] = v, any sign -/
/-- the list's object behind a store -/
theorem mapSeq_set (its : List Value) (n j : Nat) (u : Value) : Obj.mapSeq (·.setIfInBounds j u) { cls := .type "list", data := .seq its.toArray n } = { cls := .type "list", data := .seq (its.set j u).toArray n } := by
  simp [Obj.mapSeq]
theorem Inv.lst {pins : List (Addr × Obj)} {σ : St} {H : Hp} {s : Shared} {p : Addr} {xs : List V} (I : Inv X pins σ H s) (h : H p = some (.lst xs)) :
    ∃ (its : List Value) (n : Nat), Vals xs its ∧ s.heap.get? p = some { cls := .type "list", data := .seq its.toArray n } ∧ xs.length ≤ sizeLine := by
  obtain ⟨z, its, n, r, e⟩ := I.hok p _ h
  exact ⟨its, n, r, e, z⟩
/-- the list at p is written by an update of its object -/
theorem Inv.lstUpd {pins : List (Addr × Obj)} {σ : St} {H : Hp} {s : Shared} {p : Addr} {xs ys : List V} {its its' : List Value} {n n' : Nat} {f : Obj → Obj} (I : Inv X pins σ H s) (h : H p = some (.lst xs))
    (ho : s.heap.get? p = some { cls := .type "list", data := .seq its.toArray n }) (hf : f { cls := .type "list", data := .seq its.toArray n } = { cls := .type "list", data := .seq its'.toArray n' }) (r : Vals ys its') (hz : ys.length ≤ sizeLine) (t : Nat) :
    Inv X pins σ (upd H p (.lst ys)) { s with heap := s.heap.update p f, toks := t } := by
  have e : (s.heap.update p f).get? p = some { cls := .type "list", data := .seq its'.toArray n' } := by
    rw [Heap.get?_update_self f ho (by rw [hf] <;> rfl), hf]
  refine I.write (x := p) (e := p) (by rw [h]; trivial) (.inl rfl) (fun b u hb q => (Heap.get?_update_other _ _ (Ne.symm hb)).trans q) ⟨_, e⟩ ?_
  exact ⟨hz, its', n', r, e⟩
def rSetL : V → V → V → Hp → (Hp → Prop) → Prop := fun o i v H Q => ∃ p xs k j, o = .ref p ∧ i = .int k ∧ H p = some (.lst xs) ∧ ixN xs.length k = some j ∧ Q (upd H p (.lst (xs.set j v)))
theorem set_list : PSet X rSetL := by
  intro pins s σ H o i v ov iv u Q I ro ri rv h
  obtain ⟨p, xs, k, j, rfl, rfl, hp, hj, q⟩ := h
  cases ro
  obtain ⟨t, rfl⟩ := ri
  obtain ⟨its, n, r, ho, hz⟩ := I.lst hp
  obtain ⟨h1, h2, h3, h4⟩ := ixN_seq hj
  have hl := r.length
  have hn := line63
  have I' : Inv X pins σ (upd H p (.lst (xs.set j v))) { s with heap := s.heap.update p (Obj.mapSeq (·.setIfInBounds j u)) } :=
    I.lstUpd hp ho (mapSeq_set its n j u) (r.set rv j) (by rw [List.length_set]; exact hz) s.toks
  by_cases h0 : 0 ≤ k
  · have hk : k.toNat = j := by
      rw [seqIndex_of h0 h4] at h1
      exact Option.some.inj h1
    exact PySem.W.ki_setAt ho h0 (by omega) (by rw [List.size_toArray, ← hl]; exact h4) (by rw [hk]; exact ⟨_, I', q⟩)
  · have hk : (k + (its.toArray.size : Int)).toNat = j := by
      rw [seqIndex_neg (by omega) h3] at h1
      rw [List.size_toArray, ← hl]
      exact Option.some.inj h1
    exact PySem.W.ki_setBack ho (by omega) (by rw [List.size_toArray, ← hl]; exact h3) (by omega) (by rw [hk]; exact ⟨_, I', q⟩)

/-! ### slices -/
theorem slice_bounds (lo hi : Option Int) (n : Nat) : (sliceBounds lo hi none n).1 = ((HT.sIx n 0 lo : Nat) : Int) ∧ (sliceBounds lo hi none n).2.1 = ((HT.sIx n n hi : Nat) : Int) ∧ (sliceBounds lo hi none n).2.2 = 1 := by
  refine ⟨?_, ?_, rfl⟩
  · cases lo with
    | none => simp [sliceBounds, HT.sIx]
    | some i =>
      simp only [sliceBounds, HT.sIx, Option.getD_none, show (1 : Int) > 0 by decide, if_true]
      by_cases h : i < 0
      · simp only [h, if_true] <;> omega
      · simp only [h, if_false] <;> omega
  · cases hi with
    | none => simp [sliceBounds, HT.sIx]
    | some i =>
      simp only [sliceBounds, HT.sIx, Option.getD_none, show (1 : Int) > 0 by decide, if_true]
      by_cases h : i < 0
      · simp only [h, if_true] <;> omega
      · simp only [h, if_false] <;> omega
theorem slicePick_cut (its : List Value) (lo hi : Option Int) : slicePick its.toArray lo hi none = ((its.drop (HT.sIx its.length 0 lo)).take (HT.sIx its.length its.length hi - HT.sIx its.length 0 lo)).toArray := by
  obtain ⟨h1, h2, h3⟩ := slice_bounds lo hi its.toArray.size
  unfold slicePick
  rw [h1, h2, h3]
  simp only [sliceRange_one, pick_run, List.size_toArray] <;> rfl
/-- xs[lo:hi] of a list: a new list -/
def rSlL (K : PySem.W.Frag) : V → Option Int → Option Int → Hp → VK → Prop := fun x lo hi H Q => ∃ a xs, x = .ref a ∧ SqL K H a xs ∧ ∀ p, H p = none → Q (.ref p) (upd H p (.lst (cutV xs lo hi)))
theorem sl_list : SlR X (rSlL X.K) := by
  intro pins s σ H x v vl vu lo hi sl Q I rx hs pl pu h
  obtain ⟨a, xs, rfl, hx, q⟩ := h
  cases rx
  obtain ⟨its, r, ht, hz⟩ := I.list hx
  have hlen := r.length
  refine ⟨"list", _, slot_list_getitem.lookup, ht.isList.typeIs, ?_⟩
  refine wpAny_getItem_list_slice ht.isList hs pl pu .none (by simp) ?_ (by rw [List.size_toArray] <;> omega)
  rw [slicePick_cut, ← hlen]
  refine ⟨.ref s.heap.objs.size, _, I.laid (t' := s.toks) (o := .lst (cutV xs lo hi)) (fun b ob q => Heap.get?_push_of_some _ q) (Nat.le_refl _) ?_, rfl, q _ (I.hok.fresh (Nat.le_refl _))⟩
  exact ⟨Nat.le_trans (cutV_length xs lo hi) hz, _, 0, (r.drop (HT.sIx xs.length 0 lo)).take (HT.sIx xs.length xs.length hi - HT.sIx xs.length 0 lo), Heap.get?_push_size _ rfl⟩

/-! ### in, not in: flat items -/
def flatV : V → Bool
  | .non => true
  | .bl _ => true
  | .int _ => true
  | .str _ => true
  | _ => false
/-- == of flat values -/
def eqV : V → V → Bool
  | .non, .non => true
  | .bl a, .bl b => a == b
  | .bl a, .int b => (if a then 1 else 0) == b
  | .int a, .bl b => a == (if b then 1 else 0)
  | .int a, .int b => a == b
  | .str a, .str b => a == b
  | _, _ => false
theorem eqAt_V {A : Around} {s : Shared} {y x : V} {u v : Value} (ry : RelV y u) (rx : RelV x v) (fy : flatV y = true) (fx : flatV x = true) : SeqAt.EqAt A s u v (eqV y x) := by
  cases y with
  | non =>
    cases ry
    cases x with
    | non => cases rx; exact SeqAt.EqAt.same _
    | bl b => cases rx; exact SeqAt.EqAt.none_bool b
    | int b => obtain ⟨t, rfl⟩ := rx; exact SeqAt.EqAt.none_int b t
    | str b => obtain ⟨t, rfl⟩ := rx; exact SeqAt.EqAt.none_str b t
    | _ => exact absurd (show false = true from fx) Bool.false_ne_true
  | bl a =>
    cases ry
    cases x with
    | non => cases rx; exact SeqAt.EqAt.bool_none a
    | bl b => cases rx; exact SeqAt.EqAt.bool_bool a b
    | int b => obtain ⟨t, rfl⟩ := rx; exact SeqAt.EqAt.bool_int a b t
    | str b => obtain ⟨t, rfl⟩ := rx; exact SeqAt.EqAt.bool_str a b t
    | _ => exact absurd (show false = true from fx) Bool.false_ne_true
  | int a =>
    obtain ⟨t', rfl⟩ := ry
    cases x with
    | non => cases rx; exact SeqAt.EqAt.int_none a t'
    | bl b => cases rx; exact SeqAt.EqAt.int_bool a t' b
    | int b => obtain ⟨t, rfl⟩ := rx; exact SeqAt.EqAt.int_int a t' b t
    | str b => obtain ⟨t, rfl⟩ := rx; exact SeqAt.EqAt.int_str a t' b t
    | _ => exact absurd (show false = true from fx) Bool.false_ne_true
  | str a =>
    obtain ⟨t', rfl⟩ := ry
    cases x with
    | non => cases rx; exact SeqAt.EqAt.str_none a t'
    | bl b => cases rx; exact SeqAt.EqAt.str_bool a t' b
    | int b => obtain ⟨t, rfl⟩ := rx; exact SeqAt.EqAt.str_int a t' b t
    | str b => obtain ⟨t, rfl⟩ := rx; exact SeqAt.EqAt.str_str a t' b t
    | _ => exact absurd (show false = true from fx) Bool.false_ne_true
  | _ => exact absurd (show false = true from fy) Bool.false_ne_true
/-- the items' answers, read off the values (a value's own answer does not lean on its token) -/
def eqU (x : V) (u : Value) : Bool := match u with
  | .none => eqV .non x
  | .bool b => eqV (.bl b) x
  | .int i _ => eqV (.int i) x
  | .str z _ => eqV (.str z) x
  | _ => false
theorem eqU_of {x y : V} {u : Value} (r : RelV y u) (f : flatV y = true) : eqU x u = eqV y x := by
  cases y with
  | non => cases r; rfl
  | bl b => cases r; rfl
  | int i => obtain ⟨t, rfl⟩ := r; rfl
  | str z => obtain ⟨t, rfl⟩ := r; rfl
  | _ => exact absurd (show false = true from f) Bool.false_ne_true
theorem any_eqU {x : V} : ∀ {xs : List V} {us : List Value}, Vals xs us → xs.all flatV = true → us.any (eqU x) = xs.any fun y => eqV y x
  | _, _, .nil, _ => rfl
  | y :: xs, u :: us, .cons r t, f => by
    rw [List.all_cons, Bool.and_eq_true] at f
    rw [List.any_cons, List.any_cons, eqU_of r f.1, any_eqU t f.2]
theorem mem_eqAt {A : Around} {s : Shared} {x : V} {v : Value} (rx : RelV x v) (fx : flatV x = true) : ∀ {xs : List V} {us : List Value}, Vals xs us → xs.all flatV = true → ∀ u ∈ us, SeqAt.EqAt A s u v (eqU x u)
  | _, _, .nil, _ => fun u hu => by cases hu
  | y :: xs, u :: us, .cons r t, f => fun u' hu => by
    rw [List.all_cons, Bool.and_eq_true] at f
    rcases List.mem_cons.mp hu with rfl | hu
    · rw [eqU_of r f.1]; exact eqAt_V r rx f.1 fx
    · exact mem_eqAt rx fx t f.2 u' hu
def inV (x : V) (xs : List V) : Bool := xs.any fun y => eqV y x
/-- x in a list or tuple of flat items -/
def rIn (K : PySem.W.Frag) (neg : Bool) : R2 := fun x y H Q => ∃ p xs, y = .ref p ∧ (SqL K H p xs ∨ SqT K H p xs) ∧ flatV x = true ∧ xs.all flatV = true ∧ Q (.bl (if neg then !inV x xs else inV x xs)) H
theorem op_in_seq : OpR X (compareOp .In) (rIn X.K false) := by
  intro pins s σ H x y v u Q I rx ry h
  obtain ⟨p, xs, rfl, hq, fx, fs, q⟩ := h
  cases ry
  rcases hq with hq | hq
  · obtain ⟨its, r, pl, hz⟩ := I.list hq
    refine SeqAt.in_listAt (eqU x) pl.isList (fun w hw => mem_eqAt rx fx r fs w (by simpa using hw)) ⟨.bl _, H, I, rfl, ?_⟩
    rw [show its.toArray.any (eqU x) = its.any (eqU x) by simp, any_eqU r fs]
    exact q
  · obtain ⟨its, r, pl, hz⟩ := I.tuple hq
    refine SeqAt.in_tupleAt (eqU x) pl (fun w hw => mem_eqAt rx fx r fs w (by simpa using hw)) ⟨.bl _, H, I, rfl, ?_⟩
    rw [show its.toArray.any (eqU x) = its.any (eqU x) by simp, any_eqU r fs]
    exact q
/-! ### len, list(x), tuple(x) of any list or tuple that is read -/
theorem call_len_seq : CallR X (.builtin "len") (fun xs H Q => ∃ p ys, xs = [.ref p] ∧ (SqL X.K H p ys ∨ SqT X.K H p ys) ∧ Q (.int ys.length) H) := by
  intro pins s σ H xs us Q I r h
  obtain ⟨p, ys, rfl, hq, q⟩ := h
  obtain ⟨u, rfl, rx⟩ := vals1 r
  cases rx
  have hn := line63
  rcases hq with hq | hq
  · obtain ⟨its, r', pl, hz⟩ := I.list hq
    have hlen := r'.length
    exact Calls.call_len_list pl.isList (by simp only [List.size_toArray] <;> omega) ⟨.int ys.length, H, I.tok _, ⟨s.toks + 1, by rw [List.size_toArray, hlen]⟩, q⟩
  · obtain ⟨its, r', pl, hz⟩ := I.tuple hq
    have hlen := r'.length
    exact len_tuple pl (by simp only [List.size_toArray] <;> omega) ⟨.int ys.length, H, I.tok _, ⟨s.toks + 1, by rw [List.size_toArray, hlen]⟩, q⟩
theorem call_len_str : CallR X (.builtin "len") (fun xs H Q => ∃ z, xs = [.str z] ∧ z.length ≤ sizeLine ∧ Q (.int z.length) H) := by
  intro pins s σ H xs us Q I r h
  obtain ⟨z, rfl, hz, q⟩ := h
  obtain ⟨u, rfl, t, rfl⟩ := vals1 r
  have hn := line63
  exact len_str (by omega) ⟨.int z.length, H, I.tok _, ⟨_, rfl⟩, q⟩
theorem call_list_of : CallR X (.type "list") (fun xs H Q => ∃ p ys, xs = [.ref p] ∧ (SqL X.K H p ys ∨ SqT X.K H p ys) ∧ ∀ l, H l = none → Q (.ref l) (upd H l (.lst ys))) := by
  intro pins s σ H xs us Q I r h
  obtain ⟨p, ys, rfl, hq, q⟩ := h
  obtain ⟨u, rfl, rx⟩ := vals1 r
  cases rx
  have fin : ∀ (its : List Value), Vals ys its → ys.length ≤ sizeLine → ∀ (h' : Heap) (c' : Nat), (∀ b o', s.heap.get? b = some o' → h'.get? b = some o') →
      h'.get? s.heap.objs.size = some { cls := .type "list", dict := none, data := .seq its.toArray c', slots := #[] } → EP X pins σ Q (.ref s.heap.objs.size) { s with heap := h' } := fun its r' hz h' c' kp e =>
    ⟨.ref s.heap.objs.size, _, I.laid (t' := s.toks) kp (Nat.le_refl _) (show ObjOk X.prog X.w _ h' _ (.lst ys) from ⟨hz, its, c', r', e⟩), rfl, q _ (I.hok.fresh (Nat.le_refl _))⟩
  rcases hq with hq | hq
  · obtain ⟨its, r', pl, hz⟩ := I.list hq
    have hlen := r'.length
    obtain ⟨o, ho, hc, n, hd⟩ := pl.isList
    exact call_list_seq p (.inl rfl) ho hc hd (fun h' c' kp e => fin its r' hz h' c' kp e) (by simp only [List.size_toArray] <;> omega)
  · obtain ⟨its, r', pl, hz⟩ := I.tuple hq
    have hlen := r'.length
    obtain ⟨o, ho, hc, n, hd⟩ := pl
    exact call_list_seq p (.inr rfl) ho hc hd (fun h' c' kp e => fin its r' hz h' c' kp e) (by simp only [List.size_toArray] <;> omega)
theorem call_tuple_of : CallR X (.type "tuple") (fun xs H Q => ∃ p ys, xs = [.ref p] ∧ ((SqL X.K H p ys ∧ ∀ l, H l = none → Q (.ref l) (upd H l (.tup ys))) ∨ (SqT X.K H p ys ∧ Q (.ref p) H))) := by
  intro pins s σ H xs us Q I r h
  obtain ⟨p, ys, rfl, h⟩ := h
  obtain ⟨u, rfl, rx⟩ := vals1 r
  cases rx
  rcases h with ⟨hq, q⟩ | ⟨hq, q⟩
  · obtain ⟨its, r', pl, hz⟩ := I.list hq
    have hlen := r'.length
    refine call_tuple_list pl.isList (fun h' kp => ?_) (by simp only [List.size_toArray] <;> omega)
    have I1 : Inv X pins σ H { s with heap := h' } := I.kept (t' := s.toks) kp
    have I2 : Inv X pins σ (upd H h'.objs.size (.tup ys)) { s with heap := h'.push { cls := .type "tuple", data := .seq its.toArray } } :=
      I1.laid (t' := s.toks) (fun b o e => Heap.get?_push_of_some _ e) (Nat.le_refl _) (show ObjOk X.prog X.w _ _ _ (.tup ys) from ⟨hz, its, r', IsTup.new _ _⟩)
    exact ⟨.ref h'.objs.size, _, I2, rfl, q _ (I1.hok.fresh (Nat.le_refl _))⟩
  · obtain ⟨its, r', pl, hz⟩ := I.tuple hq
    exact call_tuple_same pl ⟨.ref p, H, I, rfl, q⟩

/-! ### the call of a builtin's method: o.m(..) -/
/-- the value is of that builtin type -/
def tyV (K : PySem.W.Frag) (T : String) (x : V) (H : Hp) : Prop := match x with
  | .str _ => T = "str"
  | .int _ => T = "int"
  | .ref p => (T = "list" ∧ ∃ xs, SqL K H p xs) ∨ (T = "tuple" ∧ ∃ o, K.lookup p = some o ∧ o.cls = .type "tuple" ∧ o.dict = none) ∨
      (T = "dict" ∧ ((∃ kvs, H p = some (.dK kvs)) ∨ ∃ kvs, H p = some (.dT kvs))) ∨ (T = "set" ∧ ∃ S n, H p = some (.set S n))
  | _ => False
theorem tyV_is {pins : List (Addr × Obj)} {σ : St} {H : Hp} {s : Shared} {T : String} {x : V} {v : Value} (I : Inv X pins σ H s) (r : RelV x v) (ty : tyV X.K T x H) :
    s.TypeIs v T ∧ ∀ a, v = .ref a → ∃ ob, s.heap.get? a = some ob ∧ ob.dict = none := by
  cases x with
  | str z =>
    obtain ⟨t, rfl⟩ := r
    cases (show T = "str" from ty)
    exact ⟨typeIs_str s z t, fun _ e => nomatch e⟩
  | int i =>
    obtain ⟨t, rfl⟩ := r
    cases (show T = "int" from ty)
    exact ⟨typeIs_int s i t, fun _ e => nomatch e⟩
  | ref p =>
    cases r
    rcases ty with ⟨rfl, xs, hq⟩ | ⟨rfl, o, hk, hc, hd⟩ | ⟨rfl, hk⟩ | ⟨rfl, S, n, hk⟩
    · obtain ⟨its, _, pl, _⟩ := I.list hq
      refine ⟨pl.isList.typeIs, fun a e => ?_⟩
      cases e
      obtain ⟨o, n, e, c, hd, _⟩ := pl
      exact ⟨o, e, hd⟩
    · refine ⟨⟨o, I.kIn p o hk, hc⟩, fun a e => ?_⟩
      cases e
      exact ⟨o, I.kIn _ o hk, hd⟩
    · have z : ∃ o, s.heap.get? p = some o ∧ o.ExactDict := by
        rcases hk with ⟨kvs, hk⟩ | ⟨kvs, hk⟩
        · obtain ⟨_, _, _, _, o, _, _, e, ex, _⟩ := I.hok p _ hk
          exact ⟨o, e, ex⟩
        · obtain ⟨_, _, _, _, o, _, _, e, ex, _⟩ := I.hok p _ hk
          exact ⟨o, e, ex⟩
      obtain ⟨o, e, ex⟩ := z
      refine ⟨⟨o, e, ex.1⟩, fun a e2 => ?_⟩
      cases e2
      exact ⟨o, e, ex.2.1⟩
    · obtain ⟨o, _, _, _, e, ex, _⟩ := I.hok p _ hk
      refine ⟨⟨o, e, ex.1⟩, fun a e2 => ?_⟩
      cases e2
      exact ⟨o, e, ex.2.1⟩
  | _ => exact False.elim ty
def tBM (K : PySem.W.Frag) (T : String) (r : V → List V → Hp → VK → Prop) (to : TE) (t : TA) : TE := fun σ H Q => to σ H fun x H1 => tyV K T x H1 ∧ t σ H1 fun xs H2 => r x xs H2 Q
variable {o e : Expr} {es : List Expr} {to : TE} {t : TA} {name : Str} {apos cpos : Pos} {T id : String} {r : V → List V → Hp → VK → Prop}
theorem pe_bm (pa : PlainAttrs T) (slot : Slot T name id) (hty : typeOf (.builtin id) = pure (.type "method_descriptor")) (hm : MtR X id r) (ho : PE X o to) (ha : PA X (e :: es) t)
    (hbase : attributeBase o name X.env (eval o X.env) = eval o X.env := by rfl)
    (hfew : ((backTo cpos (starEach (e :: es) X.env)).all (fun x => !x.1) && (backToKw cpos (keywordEach [] X.env)).all (fun x => x.1.isSome)
      && decide ((e :: es).length + ([] : List Keyword).length + (if ([] : List Keyword).isEmpty then 0 else 1) < 30)) = true := by rfl)
    (hline : (apos.endLine == cpos.line) = true := by rfl) (hs : starEach (e :: es) X.env = (false, eval e X.env) :: starEach es X.env := by rfl) (hplain : (backTo cpos (starEach es X.env)).any (·.1) = false := by rfl) :
    PE X (.Call (.Attribute o name apos) (e :: es) [] cpos) (tBM X.K T r to t) := by
  intro pins s σ H Q I h
  refine wpAny_Call_method_late hbase hfew hline rfl (thn (ho pins s σ H _ I h) fun v s1 ⟨x, H1, I1, r1, ty, q1⟩ => ?_)
  obtain ⟨h1, h2⟩ := tyV_is I1 r1 ty
  refine ⟨T, id, pa, slot, hty, h1, h2, ?_⟩
  have hA := ha cpos pins s1 σ H1 _ I1 q1
  rw [hs] at hA ⊢
  refine Calls.callWith_builtin (by show (false || (backTo cpos (starEach es X.env)).any (·.1)) = false; rw [hplain] <;> rfl) (Calls.evalArgs_plain ?_)
  exact thn hA fun us s2 ⟨vs, H2, I2, r2, q2⟩ => hm pins s2 σ H2 x vs v us Q I2 r1 r2 q2
/- xs.append(e), list.index on a module's tuple .. are MtR facts of 06m -/
end
end L2

namespace L2
open PySem PySem.Spec PyProof.Rows

def MtM (X : Cx) (id : String) (r : V → List V → Hp → VK → Prop) : Prop :=
  ∀ (pins : List (Addr × Obj)) (s : Shared) (σ : St) (H : Hp) (x : V) (xs : List V) (v : Value) (us : List Value) (Q : VK), Inv X pins σ H s → RelV x v → Vals xs us → r x xs H Q →
    wpAny (model X.prog X.w) X.A (call (.builtin id) (v :: us)) (EP X pins σ Q) X.xe s

/-! ### lists of values -/
theorem Vals.one : ∀ {x : V} {us : List Value}, Vals [x] us → ∃ u, us = [u] ∧ RelV x u
  | _, _, .cons r .nil => ⟨_, rfl, r⟩
theorem Vals.eraseIdx : ∀ {xs : List V} {us : List Value} (i : Nat), Vals xs us → Vals (xs.eraseIdx i) (us.eraseIdx i)
  | _, _, _, .nil => .nil
  | _, _, 0, .cons _ t => t
  | _, _, i + 1, .cons r t => .cons r (Vals.eraseIdx i t)
theorem len_erase {α : Type} : ∀ (l : List α) (i : Nat), (l.eraseIdx i).length ≤ l.length
  | [], _ => Nat.le_refl _
  | _ :: _, 0 => Nat.le_succ _
  | _ :: r, i + 1 => Nat.succ_le_succ (len_erase r i)
section
variable {X : Cx} {pins : List (Addr × Obj)} {σ : St} {H : Hp} {s : Shared} {l b : Addr} {xs ys zs : List V}

/-! ### the two steps: a tracked list is rewritten, a new list is laid -/
theorem Inv.lset {its its' : List Value} {n : Nat} {f : Array Value → Array Value} {t' : Nat} (I : Inv X pins σ H s) (hH : H l = some (.lst xs))
    (e : s.heap.get? l = some { cls := .type "list", data := .seq its.toArray n }) (hf : f its.toArray = its'.toArray) (hv : Vals ys its') (hz : ys.length ≤ sizeLine) :
    Inv X pins σ (upd H l (.lst ys)) { s with heap := s.heap.update l (Obj.mapSeq f), toks := t' } := by
  have q := PySem.IsL.update e f
  rw [hf] at q
  refine I.write (x := l) (e := l) (by rw [hH]; exact trivial) (.inl rfl) (fun b' u hb hu => (Heap.get?_update_other s.heap (Obj.mapSeq f) (Ne.symm hb)).trans hu) ⟨_, q⟩ ?_
  exact ⟨hz, its', _, hv, q⟩
theorem Inv.lnew {its : List Value} {t' : Nat} (I : Inv X pins σ H s) (hv : Vals ys its) (hz : ys.length ≤ sizeLine) :
    Inv X pins σ (upd H s.heap.objs.size (.lst ys)) { s with heap := s.heap.push { cls := .type "list", data := .seq its.toArray }, toks := t' } :=
  I.laid (fun _ _ q => Heap.get?_push_of_some _ q) (Nat.le_refl _) ⟨hz, its, 0, hv, Heap.get?_push_size _ rfl⟩
theorem Inv.fresh (I : Inv X pins σ H s) : H s.heap.objs.size = none := I.hok.fresh (Nat.le_refl _)
theorem Inv.lstM (I : Inv X pins σ H s) (hH : H l = some (.lst xs)) : xs.length ≤ sizeLine ∧ ∃ (its : List Value) (n : Nat), Vals xs its ∧ xs.length = its.length ∧ s.heap.get? l = some { cls := .type "list", data := .seq its.toArray n } := by
  obtain ⟨z, its, n, r, e⟩ := I.hok l _ hH
  exact ⟨z, its, n, r, r.length, e⟩

theorem notLongL {n : Nat} (h : n ≤ sizeLine) : Builtin.List.listTooLong n = false := by
  unfold Builtin.List.listTooLong
  exact decide_eq_false (by omega)
end

section
variable {X : Cx}

/-! ### methods -/
def rAppend : V → List V → Hp → VK → Prop := fun x vs H Q => ∃ l xs y, x = .ref l ∧ vs = [y] ∧ H l = some (.lst xs) ∧ xs.length < sizeLine ∧ Q .non (upd H l (.lst (xs ++ [y])))
theorem mt_append : MtM X "list.append" rAppend := by
  intro pins s σ H x vs v us Q I rx rv h
  obtain ⟨l, xs, y, rfl, rfl, hH, hz, q⟩ := h
  cases rx
  obtain ⟨u, rfl, ru⟩ := rv.one
  obtain ⟨z, its, n, r, hl, e⟩ := I.lstM hH
  refine call_meets F.slot_list_append ⟨_, e, rfl⟩ F.entry_list_append (F.args_list_append_2 _ _) (PySem.list_append l its.toArray n u (by rw [List.size_toArray]; omega)) ⟨e, ?_⟩
  refine ⟨.non, _, I.lset (its' := its ++ [u]) hH e (by simp) (r.append (.cons ru .nil)) ?_, rfl, q⟩
  rw [List.length_append, List.length_singleton]
  omega

def rExtend : V → List V → Hp → VK → Prop := fun x vs H Q => ∃ l b xs zs, x = .ref l ∧ vs = [.ref b] ∧ H l = some (.lst xs) ∧ H b = some (.lst zs) ∧ xs.length + zs.length ≤ sizeLine ∧ Q .non (upd H l (.lst (xs ++ zs)))
theorem mt_extend : MtM X "list.extend" rExtend := by
  intro pins s σ H x vs v us Q I rx rv h
  obtain ⟨l, b, xs, zs, rfl, rfl, hH, hB, hz, q⟩ := h
  cases rx
  obtain ⟨u, rfl, ru⟩ := rv.one
  cases ru
  obtain ⟨z, its, n, r, hl, e⟩ := I.lstM hH
  obtain ⟨z2, its2, n2, r2, hl2, e2⟩ := I.lstM hB
  have hsz : its.toArray.size + its2.toArray.size ≤ sizeLine := by rw [List.size_toArray, List.size_toArray]; omega
  have hlong : ¬ (!its.toArray.isEmpty && Builtin.List.listTooLong (its.toArray.size + its2.toArray.size)) = true := by
    rw [notLongL hsz, Bool.and_false]
    exact Bool.false_ne_true
  refine call_meets F.slot_list_extend ⟨_, e, rfl⟩ F.entry_list_extend (F.args_list_extend_2 _ _)
    (AutoSeq1.list_extend_list_list_0 l its.toArray n b its2.toArray n2 hlong (by rw [List.size_toArray]; omega) (by omega)) ⟨e, e2, ?_⟩
  refine ⟨.non, _, I.lset (its' := its ++ its2) hH e (by simp) (r.append r2) ?_, rfl, q⟩
  rw [List.length_append]
  omega

def rPopAt : V → List V → Hp → VK → Prop := fun x vs H Q => ∃ l xs i k y, x = .ref l ∧ vs = [.int i] ∧ H l = some (.lst xs) ∧ -(2 ^ 63) ≤ i ∧ i < 2 ^ 63 ∧ seqIndex? i xs.length = some k ∧ xs[k]? = some y ∧ Q y (upd H l (.lst (xs.eraseIdx k)))
theorem mt_popAt : MtM X "list.pop" rPopAt := by
  intro pins s σ H x vs v us Q I rx rv h
  obtain ⟨l, xs, i, k, y, rfl, rfl, hH, h1, h2, hk, hy, q⟩ := h
  cases rx
  obtain ⟨u, rfl, ru⟩ := rv.one
  obtain ⟨t, rfl⟩ := ru
  obtain ⟨z, its, n, r, hl, e⟩ := I.lstM hH
  obtain ⟨w, hw, rw'⟩ := r.get hy
  refine call_meets F.slot_list_pop ⟨_, e, rfl⟩ F.entry_list_pop (F.args_list_pop_2 _ _)
    (MeetsSeq.list_pop_at l its.toArray n i t k w (fitsIndex_both h1 h2) (by rw [List.size_toArray, ← hl]; exact hk) (by rw [← Array.getElem?_toList]; exact hw) (by rw [List.size_toArray]; omega)) ⟨e, ?_⟩
  refine ⟨y, _, I.lset (its' := its.eraseIdx k) hH e ?_ (r.eraseIdx k) ?_, rw', q⟩
  · show its.toArray.eraseIdxIfInBounds k = (its.eraseIdx k).toArray
    rw [List.eraseIdxIfInBounds_toArray]
  · have := len_erase xs k
    omega

/-! ### list + list, list += list, list * int -/
def rCat : R2 := fun x y H Q => ∃ l b xs zs, x = .ref l ∧ y = .ref b ∧ H l = some (.lst xs) ∧ H b = some (.lst zs) ∧ xs.length + zs.length ≤ sizeLine ∧ ∀ p, H p = none → Q (.ref p) (upd H p (.lst (xs ++ zs)))
theorem op_cat : OpR X (binaryOp .Add) rCat := by
  intro pins s σ H x y v u Q I rx ry h
  obtain ⟨l, b, xs, zs, rfl, rfl, hH, hB, hz, q⟩ := h
  cases rx
  cases ry
  obtain ⟨z, its, n, r, hl, e⟩ := I.lstM hH
  obtain ⟨z2, its2, n2, r2, hl2, e2⟩ := I.lstM hB
  refine PySem.P.add_list e e2 ?_ (by rw [List.size_toArray, List.size_toArray]; omega)
  have ea : its.toArray ++ its2.toArray = (its ++ its2).toArray := by simp
  rw [ea]
  exact ⟨.ref _, _, I.lnew (t' := s.toks) (r.append r2) (by rw [List.length_append]; omega), rfl, q _ I.fresh⟩
/-! ### del xs[i] -/
end

/-! ### xs[a:b] = ys -/
section
variable {prog : Program} {w : World} {A : Around} {E : Value → Shared → Prop} {s : Shared}
end

section
variable {X : Cx}
end
end L2

namespace Att
open PySem PySem.W PySem.Calls PyProof.Rows

/-! ### the script -/
theorem ints_of_wellAll {P : Params} {h : Heap} : ∀ (ns : List Int) (vs : List Value), WellAll P h vs (ns.map WData.int) → IntsAre vs ns := by
  intro ns
  induction ns with
  | nil =>
    intro vs w
    rw [List.map_nil] at w
    cases w
    exact .nil
  | cons n ns ih =>
    intro vs w
    rw [List.map_cons] at w
    cases w with
    | cons a b =>
      cases a
      exact .cons _ _ (ih _ b)

theorem script_of {l : OpenLaw} {n : Nat} (hn : l.most = some n) {P : Params} {h : Heap} {args : List WData} {vals : List Value}
    (hpre : l.row.toRowW.claim.pre args = true) (hwl : WellAll P h vals args) :
    ∃ a vs ns, vals = [Value.ref a] ∧ args = [WData.list (ns.map WData.int)] ∧ h.get? a = some { cls := .type "list", data := .seq vs.toArray } ∧ IntsAre vs ns ∧ ns.length ≤ n := by
  have hsh : WShape.hasAll [] args [.list .int] = true := (pre_splitW hpre).1
  have hc : l.pre.holds [] { args := args } = true := (pre_splitW hpre).2
  obtain ⟨d, r, rfl, h1, h2⟩ := hasAllW_cons hsh
  obtain rfl := hasAllW_nil h2
  obtain ⟨xs, rfl, h3⟩ := hasW_list h1
  obtain ⟨ns, rfl⟩ := items_int h3
  have hlen : ns.length ≤ n := by
    unfold OpenLaw.pre at hc
    have h4 : (WTm.not (.lt (.lit (.int (n : Int))) (.len (.arg 0)))).holds [] { args := [.list (ns.map .int)] } = true := by
      have h4 := (holds_andW hc).1
      rw [hn] at h4
      exact h4
    have h5 := condW_of h4 (w_not (w_lt w_lit (w_len_list (w_arg rfl))))
    rw [List.length_map] at h5
    refine Nat.le_of_not_lt fun q => ?_
    have q' : (n : Int) < ((ns.length : Nat) : Int) := by omega
    first
      | (rw [decide_eq_true q'] at h5; exact absurd h5 (by decide))
      | (simp at h5; omega)
  cases hwl with
  | cons w1 w2 =>
    cases w2
    cases w1 with
    | list ho hall => exact ⟨_, _, ns, rfl, rfl, ho, ints_of_wellAll ns _ hall, hlen⟩

theorem post_true (l : OpenLaw) (args : List WData) : l.row.toRowW.claim.post args (.bool true) args = true :=
  postW_of (r := l.row.toRowW) (X := (true == true))
    (show WShape.has [] (.bool true) .bool = true by first | rfl | decide | simp [WShape.has, WShape.arms, WShape.armsAll])
    (show (WTm.eq .res (.lit (.bool true))).value [] { args := args, res := some (.bool true), after := args } = some (.bool (true == true)) from w_eq_bool (w_res rfl) w_lit) rfl

/-! ### the attachment: holds_open's last premise (the goal 'hc' behind k_head) from a wpAny of the law's body -/
/-- the same from a codeAny of the CALL (for a layer whose function contracts speak of calls) -/
theorem attach_call {l : OpenLaw} {n : Nat} {q : Program} {loose : List Str} {XP : (Str → Option Value) → Heap → Prop} {YP : World → Heap → Prop} {d : DefRec}
    (hn : l.most = some n) (hdf : d.params.defaults = [])
    (call : ∀ (w : World) (s₀ s₁ : Shared) (mg mb : Str → Option Value) (fa : Addr) (o : Obj) (pm cd doc : Value) (a : Addr) (vs : List Value) (ns : List Int),
      Ground q loose [] XP w s₀ mg mb s₁.heap → YP w s₁.heap →
      s₁.heap.get? fa = some o → o.data = .func (docDef d.name d.params d.body d.scope pm cd doc) → s₁.heap.CodeRec cd d.name → mg d.name = some (.ref fa) →
      s₁.heap.get? a = some { cls := .type "list", data := .seq vs.toArray } → IntsAre vs ns → ns.length ≤ n → s₁.gens = #[] →
      codeAny (model l.prog w) callerA (.call (.ref fa) ⟨[.ref a], []⟩) (fun r s' => r = .ok (.ret (.bool true)) ∧ OldK s₁.heap s'.heap ∧ s'.os = s₁.os ∧ AllBare s'.gens) s₁) :
    WalkO q loose XP YP l.row.toRowW d [] (fun f vs => PySem.call f vs) := by
  intro w s₀ s₁ mg mb G Y fa o pm cd doc dV kV ho hd hcd hD hmg hg args vals as hpre hlay hrd hwl hlo
  obtain rfl : dV = .none := Dflts.none hD hdf
  obtain rfl : kV = .none := Dflts.noKw hD
  obtain ⟨a, vs, ns, rfl, rfl, hobj, hints, hlen⟩ := script_of hn hpre hwl
  refine enter_call (codeAny_mono (call w s₀ s₁ mg mb fa o pm cd doc a vs ns G Y ho (fd_plain hd) hcd hmg hobj hints hlen hg) fun r s' hq => ?_)
  obtain ⟨rfl, h2, h3, h4⟩ := hq
  exact ⟨.inl ⟨.bool true, .bool true, [], rfl, fun _ => rfl, .bool true, post_true l _, fun _ => ⟨List.Pairwise.nil, fun _ hm => (nomatch hm)⟩⟩, h2, h3, h4⟩

/-! ### rules over ANY heap (no ledger) from facts about the written part K: the library's own take a ledger (News) for what they write -/
section
variable {prog : Program} {w : World} {A : Around} {E : Value → Shared → Prop} {s : Shared} {K : Frag}

/-! the whole heap as the ledger: makes every rule that writes through a ledger a rule over any heap -/
def ledger (h : Heap) (L d : Addr) : List (Addr × Obj) := (List.range h.objs.size).filterMap fun a => if a = L ∨ a = d then none else (h.get? a).map fun o => (a, o)
end
end Att

namespace L2
open PySem PySem.Spec PyProof.Rows

theorem vals_ints : ∀ {vs : List Value} {ns : List Int}, IntsAre vs ns → Vals (ns.map V.int) vs
  | _, _, .nil => .nil
  | _, _, .cons n t h => .cons ⟨t, rfl⟩ (vals_ints h)

/-- nothing is tracked but the script, known to the object (or it is an object of the module) -/
def Only (H : Hp) : Prop := ∀ b, H b = none ∨ ∃ o xs, H b = some (.frz o (.lst xs))

/-- THE HEAD: the law's promise, at the heap behind the top. F, the promise of the law's def, may use that base is part of the heap (so K.In base, base.Ns mainGlobals mg stand in Mod) -/
theorem law_call {P : Program} {w : World} {K : PySem.W.Frag} {mg mb : Str → Option Value} {CX : CXT} {k : Nat} {fa a : Addr} {fd : FuncData} {x : Str} {sp : Sp} {s₁ : Shared} {vs : List Value} {ns : List Int}
    (KX : K.In s₁.heap) (hns : s₁.heap.Ns mainGlobals mg) (hb : s₁.heap.Ns builtinsNs mb) (hbb : ∀ x : Str, x ≠ "__name__" → mb x = bootBuiltins x) (hlim : s₁.heap.NoLimit) (hg : s₁.gens = #[])
    (ha : s₁.heap.get? a = some { cls := .type "list", data := .seq vs.toArray }) (hi : IntsAre vs ns) (hl : ns.length ≤ sizeLine) (hr : Room k callerA)
    (F : ∀ base : Heap, K.In base → base.Ns mainGlobals mg → FnOk P w K mg base CX k fa fd [x] sp) (hbind : ∀ (s : Shared) (u : Value), BindsTo s fd ⟨[u], []⟩ [(x, u)])
    (hsp : ∀ H : Hp, Only H → SqL K H a (ns.map V.int) → sp [.ref a] H (fun v _ => v = .bl true) fun _ _ _ => False)
    (hCX : ∀ H e s', CX [] H s₁ (fun _ _ _ => False) e s' → False) :
    codeAny (model P w) callerA (.call (.ref fa) ⟨[.ref a], []⟩) (fun r s' => r = .ok (.ret (.bool true)) ∧ OldK s₁.heap s'.heap ∧ s'.os = s₁.os ∧ AllBare s'.gens) s₁ := by
  have rv := vals_ints hi
  have lenV := hi.length
  -- from an abstract heap in which nothing but the script may be tracked
  have core : ∀ H : Hp, Only H → SqL K H a (ns.map V.int) → HOk P w H s₁.heap → (∀ b, H b ≠ none → b = a) → (H a ≠ none → K.lookup a = none) →
      codeAny (model P w) callerA (.call (.ref fa) ⟨[.ref a], []⟩) (fun r s' => r = .ok (.ret (.bool true)) ∧ OldK s₁.heap s'.heap ∧ s'.os = s₁.os ∧ AllBare s'.gens) s₁ := by
    intro H hO hS hok hA hK
    have base_of : ∀ {b : Addr} {o : Obj}, s₁.heap.get? b = some o → H b = none → (hidT s₁.heap H).get? b = some o := fun e n => hidT_get e n
    have noA : ∀ {b : Addr} {o : Obj} {es : Array DictEntry} {ep : Nat}, s₁.heap.get? b = some o → o.data = .dict es ep → H b = none := fun {b o es ep} e d => by
      cases q : H b with
      | none => rfl
      | some u =>
        have e' : b = a := hA b (by rw [q]; simp)
        subst e'
        rw [ha] at e; cases e
        have d' : Data.seq vs.toArray _ = Data.dict es ep := d
        cases d'
    have nsK : ∀ {b : Addr} {m : Str → Option Value}, s₁.heap.Ns b m → (hidT s₁.heap H).Ns b m := fun {b m} ⟨o, es, ep, e, d, r⟩ => ⟨o, es, ep, base_of e (noA e d), d, r⟩
    have hKb : K.In (hidT s₁.heap H) := fun b o e => base_of (KX b o e) (by
      cases q : H b with
      | none => rfl
      | some u =>
        have e' : b = a := hA b (by rw [q]; simp)
        subst e'
        rw [hK (by rw [q]; simp)] at e; cases e)
    have hM : Mod K mg (hidT s₁.heap H) := ⟨hKb, nsK hns, ⟨mb, nsK hb, hbb⟩, let ⟨mc, h1, h2⟩ := hlim; ⟨mc, nsK h1, h2⟩⟩
    have e0 : Env0 P w K mg (hidT s₁.heap H) callerA [] s₁ H := ⟨rfl, hM, fun b o e => of_hidT e, Nat.le_of_eq (hidT_size _ _), trivial, fun b hb => absurd (show b ∈ ([] : List Addr) from hb) (by simp), hok, .of_eq hg⟩
    refine codeAny_mono ((F _ hKb (nsK hns)).run callerA [] s₁ H ⟨[.ref a], []⟩ [.ref a] [.ref a] _ _ hr e0 (hbind s₁ (.ref a)) (.cons rfl .nil) (hsp H hO hS)) fun r s' h => ?_
    cases r with
    | error e => exact (hCX H e s' h).elim
    | ok fl =>
      cases fl with
      | next => exact False.elim h
      | brk => exact False.elim h
      | cont => exact False.elim h
      | ret u =>
        obtain ⟨v, H', os, bare, un, hok', r', q⟩ := h
        have q' : v = .bl true := q
        subst q'
        obtain rfl : u = Value.bool true := r'
        refine ⟨rfl, OldK.of_keep fun b o e => ?_, os, bare⟩
        cases q : H b with
        | none => exact un.keep b o e q (by intro z; exact absurd (show b ∈ ([] : List Addr) from z) (by simp)) (by simp)
        | some u =>
          rcases hO b with z | ⟨ob, xs, z⟩
          · rw [q] at z; cases z
          · have z2 := un.frzs b ob _ z
            obtain ⟨e1, _⟩ := hok b _ z
            obtain ⟨e2, _⟩ := hok' b _ z2
            rw [e] at e1; cases e1
            exact e2
  cases hk : K.lookup a with
  | some o =>
    -- the script is one of the module's own objects
    have e := KX a o hk
    rw [ha] at e
    cases e
    refine core (fun _ => none) (fun _ => .inl rfl) (.inr ⟨_, vs.toArray, _, hk, rfl, rfl, rfl, by rw [List.size_toArray, lenV]; exact hl, by simpa using rv⟩) (fun b u z => by have z' : (none : Option HO) = some u := z; cases z') (fun b z => absurd rfl z) fun z => absurd rfl z
  | none =>
    refine core (fun b => if b = a then some (.frz { cls := .type "list", data := .seq vs.toArray } (.lst (ns.map V.int))) else none) (fun b => ?_) (.inl (.inr ⟨{ cls := .type "list", data := .seq vs.toArray }, if_pos rfl⟩)) (fun b u z => ?_) (fun b z => ?_) fun _ => hk
    · by_cases hb : b = a
      · exact .inr ⟨_, _, if_pos hb⟩
      · exact .inl (if_neg hb)
    · by_cases hb : b = a
      · have z' := (if_pos hb).symm.trans z
        cases z'
        subst hb
        exact ⟨ha, by rw [List.length_map]; exact hl, vs, _, rv, ha⟩
      · have z' := (if_neg hb).symm.trans z
        cases z'
    · by_cases hb : b = a
      · exact hb
      · exact absurd (if_neg hb) z
end L2

namespace L2
open PySem PySem.Spec PyProof.Rows

abbrev KOf {K : PySem.W.Frag} {h : Heap} (_ : K.In h) : PySem.W.Frag := K

/-- the goal that k_head leaves (case hc), from the law's promise. F gives the function object fd (K's own) once, then the promise over every base -/
theorem walk_of {l : PySem.W.OpenLaw} {n k : Nat} {q : Program} {loose : List Str} {XP : (Str → Option Value) → Heap → Prop} {YP : World → Heap → Prop} {d : DefRec} {K : Params → PySem.W.Frag} {CX : World → CXT} {sp : World → Sp} {x : Str}
    (hn : l.most = some n) (hn2 : n ≤ sizeLine) (hdf : d.params.defaults = []) (hr : Room k callerA)
    (hY : ∀ (w : World) (h : Heap), YP w h → (K w.params).In h)
    (F : ∀ (w : World) (mg : Str → Option Value) (fa : Addr) (h : Heap), (K w.params).In h → h.Ns mainGlobals mg → mg d.name = some (.ref fa) →
      ∃ fd : FuncData, (∀ (s : Shared) (u : Value), BindsTo s fd ⟨[u], []⟩ [(x, u)]) ∧
        ∀ base : Heap, (K w.params).In base → base.Ns mainGlobals mg → FnOk l.prog w (K w.params) mg base (CX w) k fa fd [x] (sp w))
    (hsp : ∀ (w : World) (H : Hp) (a : Addr) (ns : List Int), ns.length ≤ n → Only H → SqL (K w.params) H a (ns.map V.int) → sp w [.ref a] H (fun v _ => v = .bl true) fun _ _ _ => False)
    (hCX : ∀ (w : World) (H : Hp) (s : Shared) (e : Value) (s' : Shared), CX w [] H s (fun _ _ _ => False) e s' → False) :
    PySem.W.WalkO q loose XP YP l.row.toRowW d [] (fun f vs => PySem.call f vs) := by
  refine Att.attach_call hn hdf fun w s₀ s₁ mg mb fa o pm cd doc a vs ns G Y ho hd hcd hmg hobj hints hlen hg => ?_
  have KX := hY w _ Y
  obtain ⟨fd, hb, hF⟩ := F w mg fa _ KX G.T.g hmg
  exact law_call KX G.T.g G.T.b G.T.builtins G.T.nolimit hg hobj hints (Nat.le_trans hlen hn2) hr hF hb (fun H hO hS => hsp w H a ns hlen hO hS) fun H e s' => hCX w H s₁ e s'
end L2


/-! SHORT WORDS over the layer: a def of the text, its body, what a loop and a test want. -/
namespace L2
open PySem PySem.Spec PyProof.Rows

/-! ### the text by places -/
def defArgs (s : Stmt) : Arguments := match s with
  | .FunctionDef _ a _ _ _ _ _ _ _ _ => a
  | _ => { posonlyargs := [], args := [], vararg := none, kwonlyargs := [], kw_defaults := [], kwarg := none, defaults := [] }
def defBody (s : Stmt) : List Stmt := match s with
  | .FunctionDef _ _ b _ _ _ _ _ _ _ => b
  | _ => []
def defScope (s : Stmt) : Scope := match s with
  | .FunctionDef _ _ _ _ _ _ sc _ _ _ => sc
  | _ => { kind := .function, names := [], isGenerator := false, isCoroutine := false }

/-! ### no exception leaves a def -/
abbrev CX0 : CXT := fun _ _ _ _ _ _ => False
abbrev E0 : XK := fun _ _ _ => False
theorem pass0 {X : Cx} : Passes CX0 X E0 := fun _ _ _ _ _ _ _ h => h.elim

/-! ### a def (or method) of the text as it stands behind the top -/
structure Fun (K : PySem.W.Frag) (x qual : Str) (st : Stmt) (f : Addr) (fd : FuncData) : Prop where
  ex : ∃ (oc : Value) (od : Option Addr) (kV doc pm : Value) (an : Option Addr) (cdv ct : Value) (osl : Array (Option Value)),
    fd = PySem.W.fnOf x qual (defArgs st) (defBody st) (defScope st) .none kV doc pm an cdv ct ∧ K.lookup f = some ⟨oc, od, .func fd, osl⟩ ∧ PySem.W.codeIn K cdv qual = true
  kp : PySem.W.keepIn K (.ref f) = true
section
variable {P : Program} {w : World} {K : PySem.W.Frag} {mg : Str → Option Value} {base : Heap}
/-- THE RULE for a def: its body as a term of rules, and the reading of that term -/
theorem Fun.ok {x qual : Str} {st : Stmt} {f : Addr} {fd : FuncData} {N ps : List Str} {k : Nat} {sp : Sp} (F : Fun K x qual st f fd) (S : FnScope N ps (defScope st)) (len : ∀ vs H Q E, sp vs H Q E → vs.length = ps.length)
    (hbody : ∀ (cdv : Value) (A : Around) (outer : List Env) (s : Shared) (H : Hp) (vs : List V) (Q : VK) (E : XK), Room k (A.deeper (envOfC qual (defScope st) s.heap.objs.size f cdv)) → sp vs H Q E →
      ∃ t, PSs (cxOf CX0 P w K mg base N qual (defScope st) f cdv A outer s H E).nox (defBody st) t ∧ t { nx := fun _ H' => Q .non H', rt := Q } (start N vs) H) : FnOk P w K mg base CX0 (k + 1) f fd ps sp := by
  obtain ⟨oc, od, kV, doc, pm, an, cdv, ct, osl, rfl, lk, hcd⟩ := F.ex
  refine fn_of lk hcd S len fun A outer s H vs Q E hr hsp => ?_
  obtain ⟨t, h, q⟩ := hbody cdv A outer s H vs Q E hr hsp
  exact ⟨t, h.nox, q⟩
/-- how its arguments bind (no defaults): h is «fun _ _ _ _ _ _ us hl => match us, hl with | [_, _], _ => rfl», one _ a parameter -/
theorem Fun.binds {x qual : Str} {st : Stmt} {f : Addr} {fd : FuncData} {ps : List Str} (F : Fun K x qual st f fd)
    (h : ∀ (kV doc pm : Value) (an : Option Addr) (cdv ct : Value) (us : List Value), us.length = ps.length → bindArgs (PySem.W.fnOf x qual (defArgs st) (defBody st) (defScope st) .none kV doc pm an cdv ct) ⟨us, []⟩ = pure (ps.zip us)) : Binds K fd ps [] := by
  obtain ⟨oc, od, kV, doc, pm, an, cdv, ct, osl, rfl, lk, hcd⟩ := F.ex
  exact .all (h kV doc pm an cdv ct)
theorem fun_mk {x qual : Str} {st : Stmt} {f : Addr} {oc : Value} {od an : Option Addr} {osl : Array (Option Value)} {kV doc pm cdv ct : Value} (l : K.lookup f = some ⟨oc, od, .func (PySem.W.fnOf x qual (defArgs st) (defBody st) (defScope st) .none kV doc pm an cdv ct), osl⟩)
    (c : PySem.W.codeIn K cdv qual = true) (k : PySem.W.keepIn K (.ref f) = true) : Fun K x qual st f (PySem.W.fnOf x qual (defArgs st) (defBody st) (defScope st) .none kV doc pm an cdv ct) := ⟨⟨oc, od, kV, doc, pm, an, cdv, ct, osl, rfl, l, c⟩, k⟩
end
theorem small1000 {n : Nat} (h : n ≤ 1000) : n < sizeLine := Nat.lt_of_le_of_lt h (by decide)

/-! ### expressions in short: the name that stands in the i-th slot -/
section
variable {X : Cx}
theorem pv (i : Nat) {x : Str} {pos : Pos} (hN : X.N[i]? = some x := by rfl) (hv : Vis X.env.scope x := by first | exact Or.inl rfl | exact Or.inr (Or.inl rfl) | exact Or.inr (Or.inr rfl)) (hd : (x == ("__debug__" : Str)) = false := by decide)
    (hcd : (x == ("__classdict__" : Str)) = false := by decide) : PE X (.Name x pos) (tVar i) := pe_var hN hv hd hcd
end

/-! ### tests -/
theorem iteF {A B : Prop} (h : B) : if false = true then A else B := by
  rw [if_neg Bool.false_ne_true]
  exact h
theorem iteT {A B : Prop} (h : A) : if true = true then A else B := by
  rw [if_pos rfl]
  exact h
theorem ite2 {c A B : Prop} [Decidable c] (h1 : c → A) (h2 : ¬ c → B) : if c then A else B := by
  by_cases h : c
  · rw [if_pos h]
    exact h1 h
  · rw [if_neg h]
    exact h2 h
/-! ### heaps -/
end L2

set_option maxRecDepth 100000
namespace L2
open PySem PySem.Spec PyProof.Rows

/-! ### a list comprehension of one clause -/
def clStep (cells : List (Str × Addr)) (cs : List (Str × Addr)) (p : Str × NameKind) : List (Str × Addr) :=
  if (p.2 == .free) = true then (match cells.lookup p.1 with | some c => (p.1, c) :: cs | none => cs) else cs
def clOf (names : List (Str × NameKind)) (cells : List (Str × Addr)) : List (Str × Addr) := names.foldl (clStep cells) []
theorem forIn_fold {α β : Type} {l : List α} {f : α → β → Sem (ForInStep β)} (g : β → α → β) : ∀ (c : β), (∀ x ∈ l, ∀ c, f x c = pure (.yield (g c x))) → forIn l c f = pure (l.foldl g c) := by
  induction l with
  | nil => intro c _; rfl
  | cons x l ih =>
    intro c h
    rw [List.forIn_cons, h x List.mem_cons_self, pure_bind]
    exact ih _ fun y hy => h y (List.mem_cons_of_mem _ hy)
theorem closureFor_of {scope : Scope} {env : Env} (h : ∀ p ∈ scope.names, p.2 = .free → ∃ c, env.cells.lookup p.1 = some c) : closureFor scope env = pure (clOf scope.names env.cells) := by
  simp only [closureFor]
  rw [forIn_fold (clStep env.cells) [] (fun p hp c => by
    obtain ⟨n, k⟩ := p
    by_cases hk : k = .free
    · subst hk
      obtain ⟨a, e⟩ := h _ hp rfl
      have e' : env.cells.lookup n = some a := e
      simp [clStep, cellOf, e']
    · have hb : (k == NameKind.free) = false := by simpa using hk
      simp [clStep, hb])]
  rfl
theorem clStep_sub {cells : List (Str × Addr)} {cs : List (Str × Addr)} {p : Str × NameKind} (h : ∀ y c, cs.lookup y = some c → cells.lookup y = some c) : ∀ y c, (clStep cells cs p).lookup y = some c → cells.lookup y = some c := by
  intro y c e
  unfold clStep at e
  split at e
  · split at e
    · rename_i c' hc'
      rw [List.lookup_cons] at e
      split at e
      · rename_i hy
        have : y = p.1 := by simpa using hy
        rw [this, hc']
        exact e
      · exact h y c e
    · exact h y c e
  · exact h y c e
theorem clOf_sub (names : List (Str × NameKind)) (cells : List (Str × Addr)) : ∀ y c, (clOf names cells).lookup y = some c → cells.lookup y = some c := by
  have all : ∀ (names : List (Str × NameKind)) (cs : List (Str × Addr)), (∀ y c, cs.lookup y = some c → cells.lookup y = some c) → ∀ y c, (names.foldl (clStep cells) cs).lookup y = some c → cells.lookup y = some c := by
    intro names
    induction names with
    | nil => intro cs h; exact h
    | cons p r ih => intro cs h; exact ih _ (clStep_sub h)
  exact all names [] (fun y c e => by simp at e)
theorem clStep_keep {cells cs : List (Str × Addr)} {p : Str × NameKind} {y : Str} (h : (cs.lookup y).isSome = true) : ((clStep cells cs p).lookup y).isSome = true := by
  unfold clStep
  split
  · split
    · rw [List.lookup_cons]
      split
      · rfl
      · exact h
    · exact h
  · exact h
theorem clOf_has {names : List (Str × NameKind)} {cells : List (Str × Addr)} {y : Str} {c : Addr} (hm : (y, NameKind.free) ∈ names) (hc : cells.lookup y = some c) : ∃ c, (clOf names cells).lookup y = some c := by
  have kp : ∀ (names : List (Str × NameKind)) (cs : List (Str × Addr)), (cs.lookup y).isSome = true → ((names.foldl (clStep cells) cs).lookup y).isSome = true := by
    intro names
    induction names with
    | nil => intro cs h; exact h
    | cons p r ih => intro cs h; exact ih _ (clStep_keep h)
  have all : ∀ (names : List (Str × NameKind)) (cs : List (Str × Addr)), (y, NameKind.free) ∈ names → ((names.foldl (clStep cells) cs).lookup y).isSome = true := by
    intro names
    induction names with
    | nil => intro cs h; cases h
    | cons p r ih =>
      intro cs h
      rcases List.mem_cons.mp h with e | h
      · subst e
        refine kp r _ ?_
        unfold clStep
        simp [hc]
      · exact ih _ h
  exact Option.isSome_iff_exists.mp (all names [] hm)
theorem lookup_relabel (env : Env) : ∀ (names : List (Str × NameKind)) (y : Str),
    (names.map fun (n, k) => if (k == NameKind.free && env.scope.kind == .function && env.kindOf n == some .cell) then (n, NameKind.cell) else (n, k)).lookup y =
      (names.lookup y).map fun k => if (k == NameKind.free && env.scope.kind == .function && env.kindOf y == some .cell) then NameKind.cell else k
  | [], _ => rfl
  | (n, k) :: r, y => by
    have ih := lookup_relabel env r y
    show List.lookup y ((if (k == NameKind.free && env.scope.kind == .function && env.kindOf n == some .cell) = true then (n, NameKind.cell) else (n, k)) :: _) = _
    cases hx : y == n with
    | true =>
      have e : y = n := by simpa using hx
      subst e
      by_cases hc : (k == NameKind.free && env.scope.kind == .function && env.kindOf y == some .cell) = true
      · rw [if_pos hc]; simp only [List.lookup_cons, hx, Option.map_some]; rw [if_pos hc]
      · rw [if_neg hc]; simp only [List.lookup_cons, hx, Option.map_some]; rw [if_neg hc]
    | false =>
      by_cases hc : (k == NameKind.free && env.scope.kind == .function && env.kindOf n == some .cell) = true
      · rw [if_pos hc]; simp only [List.lookup_cons, hx]; exact ih
      · rw [if_neg hc]; simp only [List.lookup_cons, hx]; exact ih

/-! ### a comprehension whose name is a name of the def too: that one is hidden -/
/-- the context of a comprehension's block: its own name first, then the def's -/
def blk3 (X : Cx) (N' : List Str) (scope : Scope) (x : Str) (C : Addr) (s : Shared) (H : Hp) (ex : List Addr) : Cx :=
  { X with N := x :: N', s₀ := s, H₀ := H, env := compEnvC scope (clOf scope.names X.env.cells) C X.env, outer := X.stack, ex := ex, fn := fun _ => false, pn := [], xe := fun _ _ => False }
/-- what a comprehension's scope keeps to -/
structure CScope3 (x : Str) (N N' : List Str) (osc scope : Scope) : Prop where
  kind : scope.kind = .function
  nd : (x :: N').Nodup
  own : scope.names.lookup x = some .local
  nocell : ∀ y ∈ scope.names, y.2 ≠ .cell
  names : ∀ y ∈ scope.names, y.2 = .local → scope.names.lookup y.1 = some .local
  free : ∀ y ∈ scope.names, y.2 = .free → osc.names.lookup y.1 = some .cell
  nol : ∀ y ∈ N', scope.names.lookup y ≠ some .local
  len : N'.length = N.length
  hid : ∀ p ∈ N'.zip N, p.1 = p.2 ∨ scope.names.lookup p.1 = none

section
variable {X : Cx} {N' : List Str} {pins : List (Addr × Obj)} {σ : St} {H : Hp} {s : Shared}
theorem CScope3.has {x : Str} {scope : Scope} (S : CScope3 x X.N N' X.env.scope scope) (ok : X.Ok) : ∀ p ∈ scope.names, p.2 = .free → ∃ c, X.env.cells.lookup p.1 = some c := fun p hp hk =>
  ok.has p.1 (.inl (S.free p hp hk))
theorem blk3_vis {x y : Str} {scope : Scope} {C : Addr} {H₀ : Hp} {ex : List Addr} (S : CScope3 x X.N N' X.env.scope scope) (ok : X.Ok) (hk : (blk3 X N' scope x C s H₀ ex).env.kindOf y = some .cell ∨ (blk3 X N' scope x C s H₀ ex).env.kindOf y = some .free) :
    X.env.kindOf y = some .cell ∧ ∃ c, (clOf scope.names X.env.cells).lookup y = some c := by
  have e : (blk3 X N' scope x C s H₀ ex).env.kindOf y = (scope.names.lookup y).map fun k => if (k == NameKind.free && X.env.scope.kind == .function && X.env.kindOf y == some .cell) then NameKind.cell else k := lookup_relabel X.env scope.names y
  rw [e] at hk
  cases q : scope.names.lookup y with
  | none => rw [q] at hk; simp at hk
  | some k =>
    rw [q] at hk
    have hm := PySem.mem_of_lookup q
    have hfree : k = .free := by
      cases k with
      | free => rfl
      | cell => exact absurd rfl (S.nocell _ hm)
      | _ => simp at hk
    subst hfree
    have h1 := S.free _ hm rfl
    obtain ⟨c, hc⟩ := ok.has y (.inl h1)
    exact ⟨h1, clOf_has hm hc⟩
theorem blk3_start {x : Str} {scope : Scope} {C acc : Addr} {fp : List Addr} {h' : Heap} {t' : Nat} {m : Str → Option Value} (S : CScope3 x X.N N' X.env.scope scope) (I : Inv X pins σ H s) (hf : ∀ b ∈ fp, FpOk X pins H b) (ho : ∀ b ∈ fp, ∃ o, s.heap.get? b = some o)
    (hC : s.heap.objs.size ≤ C) (hn : h'.Ns C m) (old : ∀ b o, s.heap.get? b = some o → h'.get? b = some o) : Inv (blk3 X N' scope x C s H fp) [] (none :: σ) H { s with heap := h', toks := t' } := by
  have sub := clOf_sub scope.names X.env.cells
  refine ⟨⟨I.ok.mod, S.kind, I.ok.glob, I.ok.blt, hC, fun y z c h1 h2 => I.ok.inj y z c (sub _ _ h1) (sub _ _ h2), fun y hy => (blk3_vis S I.ok hy).2, fun y c z _ => absurd (show false = true from z) Bool.false_ne_true, I.ok.hd, I.ok.frames, .inl rfl, fun b hb => ⟨?_, fun y c e => ?_⟩, I.bs, Nat.le_trans I.ok.bsz I.sz, fun b o e hb => ?_, fun b hb z => ?_, I.stack, I.stkFree⟩,
    rfl, I.bare, Un.kept old, ⟨m, hn, fun i y v h1 h2 h3 => ?_⟩, fun y c e => ?_, I.hok.fresh hC, fun y c e => I.freeC y c (sub _ _ e), fun p hp => absurd (show p ∈ ([] : List (Addr × Obj)) from hp) (by simp), I.hok.kept old, ?_⟩
  · obtain ⟨o, e⟩ := ho b hb
    exact Nat.ne_of_lt (Nat.lt_of_lt_of_le (Heap.lt_size e) hC)
  · exact (hf b hb).2.2.2.2.1 y c (sub _ _ e)
  · rcases (hf b hb).2.2.2.1 with z | z
    · exact I.ok.noex b o e z
    · exact absurd (Nat.lt_of_lt_of_le (Heap.lt_size e) (Nat.le_trans I.ok.bsz z)) (Nat.lt_irrefl _)
  · rcases List.mem_cons.mp (I.stkSub b z) with e | e
    · exact (hf b hb).2.1 e
    · exact (hf b hb).2.2.1 e
  · cases i with
    | zero => simp at h2
    | succ i =>
      have h0' : N'[i]? = some y := h1
      have h2' : σ[i]? = some (some v) := by simpa using h2
      have hk : (blk3 X N' scope x C s H fp).env.kindOf y = some .cell ∨ (blk3 X N' scope x C s H fp).env.kindOf y = some .free := by
        rcases h3 with h3 | h3
        · exfalso
          have e : (blk3 X N' scope x C s H fp).env.kindOf y = (scope.names.lookup y).map fun k => if (k == NameKind.free && X.env.scope.kind == .function && X.env.kindOf y == some .cell) then NameKind.cell else k := lookup_relabel X.env scope.names y
          have h3' : (blk3 X N' scope x C s H fp).env.kindOf y = some .local := h3
          rw [e] at h3'
          cases q : scope.names.lookup y with
          | none => rw [q] at h3'; cases h3'
          | some k =>
            rw [q] at h3'
            rw [Option.map_some] at h3'
            split at h3'
            · cases h3'
            · cases h3'
              exact S.nol y (List.mem_of_getElem? h0') q
        · exact h3
      obtain ⟨hk1, c, hc⟩ := blk3_vis S I.ok hk
      have h1' : X.N[i]? = some y := by
        have hlt : i < N'.length := (List.getElem?_eq_some_iff.mp h0').1
        have hlt2 : i < X.N.length := by rw [← S.len]; exact hlt
        have hz : (y, X.N[i]) ∈ N'.zip X.N := by
          refine List.mem_iff_getElem?.mpr ⟨i, ?_⟩
          rw [List.getElem?_zip_eq_some]
          exact ⟨h0', List.getElem?_eq_getElem hlt2⟩
        rcases S.hid _ hz with e | e
        · have e' : y = X.N[i] := e
          rw [List.getElem?_eq_getElem hlt2, ← e']
        · exfalso
          have e' : scope.names.lookup y = none := e
          have e2 : (blk3 X N' scope x C s H fp).env.kindOf y = (scope.names.lookup y).map fun k => if (k == NameKind.free && X.env.scope.kind == .function && X.env.kindOf y == some .cell) then NameKind.cell else k := lookup_relabel X.env scope.names y
          rw [e2, e'] at hk
          rcases hk with hk | hk <;> cases hk
      obtain ⟨m1, hn1, hl⟩ := I.loc
      obtain ⟨u, r, l⟩ := hl i y v h1' h2' (.inr (.inl hk1))
      refine ⟨u, r, .inr ⟨hk, c, hc, ?_⟩⟩
      rcases l with ⟨l, _⟩ | ⟨_, c', hc', z⟩
      · rw [hk1] at l; cases l
      · have := sub _ _ hc
        rw [hc'] at this
        cases this
        obtain ⟨o, e, d⟩ := z
        exact ⟨o, old _ _ e, d⟩
  · obtain ⟨v, o, e1, d⟩ := I.cell y c (sub _ _ e)
    exact ⟨v, o, old _ _ e1, d⟩
  · show (none :: σ).length = (x :: N').length
    simp [I.len, S.len]
/-- the tests of a clause -/
def PTs (X : Cx) (ifs : List Expr) (t : TT) : Prop :=
  ∀ (pins : List (Addr × Obj)) (s : Shared) (σ : St) (H : Hp) (Q : Bool → Hp → Prop), Inv X pins σ H s → t σ H Q →
    wpAny (model X.prog X.w) X.A (forIn ifs true fun c r => if r = true then do let ok ← isTrue c X.env (eval c X.env); pure (ForInStep.yield ok) else pure (ForInStep.yield r)) (TP X pins σ Q) X.xe s
def tYes : TT := fun _ H Q => Q true H
theorem pts_nil : PTs X [] tYes := fun _ _ _ H _ I h => wpAny_tests_nil ⟨H, I, h⟩
theorem pts_one {c : Expr} {t : TT} (h : PT X c t) : PTs X [c] t := fun pins s σ H Q I hq => wpAny_tests_one (h pins s σ H Q I hq)
/-- W: turn, measure, items so far, heap; N: what a turn is to reach -/
def LCW (J : It) (σ : St) (tt : TT) (te : TE) (Fin : List V → Hp → Prop) (H1 : Hp) : Prop := ∃ W : Nat → Nat → List V → Hp → Prop, (∃ m, W 0 m [] H1) ∧ ∀ i m ys H, W i m ys H →
  (J.stop i H ∧ Fin ys H) ∨ (J.go i H ∧ ys.length < sizeLine ∧ ∃ N : List V → Hp → Prop, (∀ ys' H', N ys' H' → ∃ m', m' < m ∧ W (i + 1) m' ys' H') ∧ ∀ x H', J.yld i H x H' → tt (some x :: σ) H' fun b H2 =>
    if b = true then te (some x :: σ) H2 fun y H3 => N (ys ++ [y]) H3 else N ys H2)
def tLC (wi : TI) (tt : TT) (te : TE) : TE := fun σ H Q => wi σ H fun J H1 => LCW J σ tt te (fun ys H => ∀ l, H l = none → Q (.ref l) (upd H l (.lst ys))) H1
theorem comp_core3 {elt iter : Expr} {x : Str} {px pos : Pos} {scope : Scope} {ifs : List Expr} {tt : TT} {te : TE} {s2 : Shared} {it : Addr} {fp : List Addr} {tn : Nat → Heap → Prop} {J : It} {H2 : Hp} {E : Value → Shared → Prop} {Fin : List V → Hp → Prop} {RR : Value → Addr → Result → Shared → Prop}
    (hc : X.calm = true) (S : CScope3 x X.N N' X.env.scope scope) (I2 : Inv X pins σ H2 s2) (T : Turn X.prog X.w X.K (.Name x px) J fp it tn) (st2 : tn 0 s2.heap) (f2 : ∀ b ∈ fp, FpOk X pins H2 b) (hw : LCW J σ tt te Fin H2)
    (ht : ∀ C s H ex, PTs (blk3 X N' scope x C s H ex) ifs tt) (he : ∀ C s H ex, PE (blk3 X N' scope x C s H ex) elt te)
    (hRR : ∀ D C s4 ys H3 m5, Inv X pins σ (upd H3 D (.lst ys)) s4 → s4.heap.Ns C m5 → FpOk X pins (upd H3 D (.lst ys)) C → H3 D = none → Fin ys H3 → RR (.ref D) C (.ok .next) s4) :
    wpAny (model X.prog X.w) X.A (newList []) (fun acc s₃ => wpAny (model X.prog X.w) X.A (newFunctionEnv scope X.env.globals (clOf scope.names X.env.cells) [] X.env.qual none .none (some X.env)) (fun cenv s₄ =>
      codeAny (model X.prog X.w) X.A (.compStart (.ListComp elt [⟨.Name x px, iter, ifs, 0⟩] scope pos) 0 (.ref it) acc { cenv with scope := relabel scope X.env }) (RR acc cenv.locals) s₄) E s₃) E s2 := by
  obtain ⟨W, ⟨m0, w0⟩, turn⟩ := hw
  have hob := T.obj 0 s2.heap st2
  refine wpAny_newObj_type (wpAny_newFunctionEnv S.nocell (by intro y hy; simp at hy) (fun h₁ hns₁ hsb₁ => ?_) S.kind)
  dsimp only at hns₁ hsb₁ ⊢
  generalize hG2 : s2.heap.push { cls := .type "list", dict := none, data := .seq ([] : List Value).toArray } = G2 at hns₁ hsb₁ ⊢
  have hC : G2.objs.size = s2.heap.objs.size + 1 := by rw [← hG2, Heap.size_push]
  have hDC : s2.heap.objs.size ≠ G2.objs.size := by rw [hC]; exact Nat.ne_of_lt (Nat.lt_succ_self _)
  have hCle : s2.heap.objs.size ≤ G2.objs.size := by rw [hC]; exact Nat.le_succ _
  have below : ∀ b, b < s2.heap.objs.size → b ≠ G2.objs.size ∧ b ≠ s2.heap.objs.size := fun b hb => ⟨by rw [hC]; exact Nat.ne_of_lt (Nat.lt_succ_of_lt hb), Nat.ne_of_lt hb⟩
  have old : ∀ b o, s2.heap.get? b = some o → h₁.get? b = some o := fun b o e => hsb₁.extBut b o (below b (Heap.lt_size e)).1 (Heap.get?_push_of_some _ (hG2 ▸ Heap.get?_push_of_some _ e))
  have hacc : h₁.get? s2.heap.objs.size = some { cls := .type "list", data := .seq ([] : List Value).toArray 0 } := hsb₁.extBut _ _ hDC (Heap.get?_push_of_some _ (hG2 ▸ Heap.get?_push_size _ rfl))
  generalize hD : s2.heap.objs.size = D at *
  generalize hCC : G2.objs.size = C at *
  have hDf : D ∉ fp := fun hm => by
    obtain ⟨o, e, _⟩ := hob D hm
    exact absurd (Heap.lt_size e) (by rw [hD]; exact Nat.lt_irrefl _)
  have I4 : Inv (blk3 X N' scope x C s2 H2 fp) [] (none :: σ) H2 { s2 with heap := h₁, toks := s2.toks + ([] : List (Str × Value)).length } :=
    blk3_start (acc := D) S I2 f2 (fun b hb => let ⟨o, e, _⟩ := hob b hb; ⟨o, e⟩) (by omega) hns₁ old
  have hDn : ∀ {σ' : St} {H' : Hp} {s' : Shared}, Inv (blk3 X N' scope x C s2 H2 fp) [] σ' H' s' → (∀ b ∈ fp, H' b = none) → ∀ b ∈ fp, FpOk (blk3 X N' scope x C s2 H2 fp) [] H' b := fun {σ' H' s'} I' hn b hb => by
    refine ⟨hn b hb, (I'.ok.exf b hb).1, I'.ok.exfs b hb, .inl hb, fun y c e => (I'.ok.exf b hb).2 y c e, fun p hp => absurd (show p ∈ ([] : List (Addr × Obj)) from hp) (by simp)⟩
  have hDfp : ∀ {σ' : St} {H' : Hp} {s' : Shared}, Inv (blk3 X N' scope x C s2 H2 fp) [] σ' H' s' → H' D = none → FpOk (blk3 X N' scope x C s2 H2 fp) [] H' D := fun {σ' H' s'} I' hn => by
    refine ⟨hn, hDC, fun z => ?_, .inr (by show s2.heap.objs.size ≤ D; omega), fun y c e => ?_, fun p hp => absurd (show p ∈ ([] : List (Addr × Obj)) from hp) (by simp)⟩
    · obtain ⟨_, o, e, _⟩ := I'.ok.funs.mem z
      exact absurd (show D < s2.heap.objs.size from Heap.lt_size e) (by rw [hD]; exact Nat.lt_irrefl _)
    · obtain ⟨v, z⟩ := I2.cell y c (clOf_sub _ _ _ _ e)
      intro e2
      exact absurd z.lt (by rw [hD, e2]; exact Nat.lt_irrefl _)
  have hgt : ∀ b o, s2.heap.get? b = some o → b ≠ C ∧ b ≠ D := fun b o e => by
    have z := below b (by rw [← hD]; exact Heap.lt_size e)
    exact z
  let LI : Nat → Shared → Prop := fun n s' => ∃ i ys its k σ0 H', Inv (blk3 X N' scope x C s2 H2 fp) [] (σ0 :: σ) H' s' ∧ tn i s'.heap ∧ (∀ b ∈ fp, H' b = none) ∧ H' D = none ∧ Vals ys its ∧ ys.length ≤ sizeLine ∧ s'.heap.get? D = some { cls := .type "list", data := .seq its.toArray k } ∧ W i n ys H'
  have loop : ∀ s₃ : Shared, s₃ = { s2 with heap := h₁, toks := s2.toks + ([] : List (Str × Value)).length } →
      codeAny (model X.prog X.w) X.A (.compLoop (.ListComp elt [⟨.Name x px, iter, ifs, 0⟩] scope pos) 0 (.ref it) (.ref D) (compEnvC scope (clOf scope.names X.env.cells) C X.env))
        (RR (.ref D) C) s₃ := by
    rintro s₃ rfl
    refine codeAny_compLoop_tests LI ?_ m0 ⟨0, [], [], 0, none, H2, I4, T.keep _ _ _ st2 (fun b _ o e => old b o e), fun b hb => (f2 b hb).1, I2.hok.fresh (by rw [hD]; exact Nat.le_refl _), .nil, Nat.zero_le _, hacc, w0⟩
    rintro n s3 ⟨i, ys, its, k, σ0, H3, I3, st3, fr3, frD, rv, hysz, ha3, w3⟩
    -- the list so far is pinned
    have IP : Inv (blk3 X N' scope x C s2 H2 fp) [(D, { cls := .type "list", data := .seq its.toArray k })] (σ0 :: σ) H3 s3 := I3.pins_of fun p hp => by
      have e : p = (D, { cls := .type "list", data := .seq its.toArray k }) := by simpa using hp
      subst e
      obtain ⟨f0, f1, f3, _⟩ := hDfp I3 frD
      exact ⟨ha3, f0, f1, f3, fun v z => by cases z⟩
    have fpP : ∀ {H' : Hp}, (∀ b ∈ fp, H' b = none) → ∀ b ∈ fp, FpOk (blk3 X N' scope x C s2 H2 fp) [(D, { cls := .type "list", data := .seq its.toArray k })] H' b := fun {H'} hn b hb => by
      refine ⟨hn b hb, (I3.ok.exf b hb).1, I3.ok.exfs b hb, .inl hb, fun y c e => (I3.ok.exf b hb).2 y c e, fun p hp => ?_⟩
      have e : p = (D, { cls := .type "list", data := .seq its.toArray k }) := by
        have hp' : p ∈ [(D, ({ cls := .type "list", data := .seq its.toArray k } : Obj))] := hp
        simpa using hp'
      subst e
      exact fun z => hDf (by rw [show D = b from z]; exact hb)
    rcases turn i n ys H3 w3 with ⟨stop, qn⟩ | ⟨go, hlen, N, hN, step⟩
    · refine wpAny_mono (T.done (blk3 X N' scope x C s2 H2 fp) rfl rfl rfl hc i _ s3 (σ0 :: σ) H3 (fun _ _ => False) IP (fpP fr3) st3 stop) (fun r s4 ⟨hr, I5⟩ => ?_) fun _ _ z => z.elim
      subst hr
      obtain ⟨m5, hn5, _⟩ := I5.loc
      have hD4 := (I5.pin _ (List.mem_append_right _ (List.mem_singleton.mpr rfl))).1
      have hcn : H3 C = none := I5.free
      have hok' : HOk X.prog X.w (upd H3 D (.lst ys)) s4.heap := fun b u e => by
        by_cases hb : b = D
        · subst hb
          rw [upd_same] at e
          cases e
          exact ⟨hysz, its, k, rv, hD4⟩
        · rw [upd_ne hb] at e
          exact (I5.hok b u e).stay (fun c v hc q => q) (fun c q => by rw [upd_ne (ne_of_none q frD)]; exact q) fun c xs q => by rw [upd_ne (ne_of_none q frD)]; exact q
      have un' : Un (frs X.stack) fp H2 (upd H3 D (.lst ys)) s2.heap s4.heap := by
        have u := I5.base
        refine ⟨u.keep, u.slot, fun b o q n hx => ?_, u.there, fun b xs q => ?_, fun b o xs q => ?_, fun b ps q => ?_⟩
        · rw [upd_ne (hgt b o q).2]
          exact u.free b o q n hx
        · have e := u.tups b xs q
          rw [upd_ne (ne_of_none e frD)]
          exact e
        · have e := u.frzs b o xs q
          rw [upd_ne (ne_of_none e frD)]
          exact e
        · obtain ⟨more, e⟩ := u.tbls b ps q
          exact ⟨more, by rw [upd_ne (ne_of_none e frD)]; exact e⟩
      have I6 : Inv X pins σ (upd H3 D (.lst ys)) s4 := I2.call' (ch := fp) I5.os un' hok' I5.bare (fun b hb => ⟨(f2 b hb).2.2.2.1, (f2 b hb).2.1, (f2 b hb).2.2.2.2.1, (f2 b hb).2.2.2.2.2⟩)
      exact hRR D C s4 ys H3 m5 I6 hn5 (I2.fpOk (by rw [hD]; exact hCle) (by rw [upd_ne (Ne.symm hDC)]; exact hcn)) frD qn
    · refine wpAny_mono (T.item (blk3 X N' scope x C s2 H2 fp) rfl rfl rfl hc i _ s3 (σ0 :: σ) H3 (fun _ _ => False) IP (fpP fr3) st3 go) (fun r s4 ⟨u, hr, h4⟩ => ?_) fun _ _ z => z.elim
      subst hr
      show wpAny (model X.prog X.w) X.A (letOwnedTupleGo (.Name x px) (.ref it) u >>= fun _ => assign (.Name x px) (compEnvC scope (clOf scope.names X.env.cells) C X.env) u) _ _ s4
      refine wpAny_bind (wpAny_mono h4 (fun _ s5 ⟨xv, H5, I5, r5, y5, st5, fr5⟩ => ?_) fun _ _ z => z.elim)
      have I5' := I5.pinned (fpP fr5) (T.obj _ _ st5)
      have hloc : Loc (blk3 X N' scope x C s2 H2 fp).env.scope x := .inl (lookup_relabel_local S.own)
      refine wpAny_mono (pg_name (X := blk3 X N' scope x C s2 H2 fp) (i := 0) S.nd rfl hloc (.inr (lookup_relabel_local S.own)) _ s5 (σ0 :: σ) H5 xv u (fun σ' H' => σ' = some xv :: σ ∧ H' = H5) I5' r5 ⟨rfl, rfl⟩) (fun _ s6 ⟨σ6, H6, I6, e1, e2⟩ => ?_) fun _ _ z => z.elim
      subst e1 e2
      refine wpAny_mono (ht C s2 H2 fp _ s6 (some xv :: σ) H6 _ I6 (step xv H6 y5)) (fun b s7 ⟨H7, I7, q7⟩ => ?_) fun _ _ z => z.elim
      have hpD : ∀ {σ' : St} {H' : Hp} {s' : Shared}, Inv (blk3 X N' scope x C s2 H2 fp) ([(D, { cls := .type "list", data := .seq its.toArray k })] ++ pinsAt fp s5.heap) σ' H' s' → s'.heap.get? D = some { cls := .type "list", data := .seq its.toArray k } ∧ H' D = none := fun {σ' H' s'} I' => by
        have z := I'.pin (D, { cls := .type "list", data := .seq its.toArray k }) (List.mem_append_right _ (List.mem_append_left _ (List.mem_singleton.mpr rfl)))
        exact ⟨z.1, z.2.1⟩
      have hpF : ∀ {σ' : St} {H' : Hp} {s' : Shared}, Inv (blk3 X N' scope x C s2 H2 fp) ([(D, { cls := .type "list", data := .seq its.toArray k })] ++ pinsAt fp s5.heap) σ' H' s' → (∀ b ∈ fp, ∀ o, s5.heap.get? b = some o → s'.heap.get? b = some o) ∧ ∀ b ∈ fp, H' b = none := fun {σ' H' s'} I' => by
        refine ⟨fun b hb o e => (I'.pin (b, o) (List.mem_append_right _ (List.mem_append_right _ (mem_pinsAt hb e)))).1, fun b hb => ?_⟩
        obtain ⟨o, e, d⟩ := T.obj _ _ st5 b hb
        exact (I'.pin (b, o) (List.mem_append_right _ (List.mem_append_right _ (mem_pinsAt hb e)))).2.1
      cases b with
      | false =>
        rw [if_neg Bool.false_ne_true] at q7 ⊢
        obtain ⟨m', hm, w7⟩ := hN _ _ q7
        exact ⟨m', hm, i + 1, ys, its, k, some xv, H7, I7.pins_of (pins' := []) (fun p hp => absurd hp (by simp)), T.keep _ _ _ st5 (hpF I7).1, (hpF I7).2, (hpD I7).2, rv, hysz, (hpD I7).1, w7⟩
      | true =>
        rw [if_pos rfl] at q7 ⊢
        refine wpAny_mono (he C s2 H2 fp _ s7 (some xv :: σ) H7 _ I7 q7) (fun u8 s8 ⟨y, H8, I8, r8, q8⟩ => ?_) fun _ _ z => z.elim
        obtain ⟨m', hm, w8⟩ := hN _ _ q8
        obtain ⟨hd1, hd2⟩ := hpD I8
        have hl := rv.length
        refine append_at hd1 (fun h' hs' e' => ?_) (by rw [List.size_toArray]; omega)
        have I9 : Inv (blk3 X N' scope x C s2 H2 fp) [] (some xv :: σ) H8 s8 := I8.pins_of (pins' := []) (fun p hp => absurd hp (by simp))
        obtain ⟨f0, f1, f3, f4, f5, f6⟩ := hDfp I9 hd2
        refine ⟨m', hm, i + 1, ys ++ [y], its ++ [u8], k + 1, some xv, H8, I9.turned (it := D) (t' := s8.toks) (fun b o hb e => (hs'.2 b hb).trans e) f0 f1 f4 f5 f6,
          T.keep _ _ _ st5 (fun b hb o e => (hs'.2 b (fun z => hDf (by rw [← z]; exact hb))).trans ((hpF I8).1 b hb o e)), (hpF I8).2, hd2, rv.append (.cons r8 .nil), by rw [List.length_append, List.length_singleton]; omega, ?_, w8⟩
        rw [e', List.push_toArray]
  exact codeAny_compStart_list (loop _ rfl) (T.self _ 0 _ _ _ (T.keep _ _ _ st2 (fun b _ o e => old b o e)) (loop _ rfl))
theorem pe_lcomp3 {elt iter : Expr} {x : Str} {px pos : Pos} {scope : Scope} {ifs : List Expr} {wi : TI} {tt : TT} {te : TE} (hc : X.calm = true) (S : CScope3 x X.N N' X.env.scope scope) (hi : PI X (.Name x px) iter wi)
    (ht : ∀ C s H ex, PTs (blk3 X N' scope x C s H ex) ifs tt) (he : ∀ C s H ex, PE (blk3 X N' scope x C s H ex) elt te) (hs : ∀ v, foldedSetIterable iter X.env v = pure v := by intro _; rfl) :
    PE X (.ListComp elt [⟨.Name x px, iter, ifs, 0⟩] scope pos) (tLC wi tt te) := by
  intro pins s σ H Q I h
  rw [eval_ListComp]
  refine wpAny_comprehension_free (use := none) rfl hs (closureFor_of (S.has I.ok)) S.kind S.names (thn (hi pins s σ H _ I h) fun v s1 h1 => thn h1 fun itv s2 h2 => ?_)
  obtain ⟨it, fp, tn, J, H2, e, I2, T, st2, f2, hw⟩ := h2
  subst e
  refine comp_core3 (RR := fun acc C => compPost (model X.prog X.w) X.A X.xe none (EP X pins σ Q) acc C) hc S I2 T st2 f2 hw ht he fun D C s4 ys H3 m5 I5 hn5 fC frD qn => ⟨m5, hn5, fun h' hs' => ?_⟩
  obtain ⟨f0, f1, f3, f4, f5, f6⟩ := fC
  exact ⟨.ref D, _, I5.turned (it := C) (t' := s4.toks) (fun b o hb e => (hs'.2 b hb).trans e) f0 f1 f4 f5 f6, rfl, qn D frD⟩
/-- name = [.. for ..], the store ahead of the block's end -/
theorem ps_setLC3 {i : Nat} {y : Str} {elt iter : Expr} {x : Str} {px py pos spos : Pos} {scope : Scope} {ifs : List Expr} {wi : TI} {tt : TT} {te : TE} (hN : X.N.Nodup) (hi' : X.N[i]? = some y) (hy : X.env.scope.names.lookup y = some .local) (hc : X.calm = true) (S : CScope3 x X.N N' X.env.scope scope) (hi : PI X (.Name x px) iter wi)
    (ht : ∀ C s H ex, PTs (blk3 X N' scope x C s H ex) ifs tt) (he : ∀ C s H ex, PE (blk3 X N' scope x C s H ex) elt te)
    (hsw : swapsWith (.ListComp elt [⟨.Name x px, iter, ifs, 0⟩] scope pos) (some (.Name y py)) spos.line X.env = pure true) (hs : ∀ v, foldedSetIterable iter X.env v = pure v := by intro _; rfl) :
    PS X (.Assign [.Name y py] (.ListComp elt [⟨.Name x px, iter, ifs, 0⟩] scope pos) spos) (tAsg (tLC wi tt te) (gName i)) := by
  intro pins s σ H D0 I h
  rw [exec_Assign_Name_used _ _ _ _ hsw]
  refine wpAny_bind (wpAny_standAt (wpAny_bind ?_))
  show wpAny _ X.A (do let _ ← comprehension (.ListComp elt [⟨.Name x px, iter, ifs, 0⟩] scope pos) scope X.env _ (newList []) false (eval iter X.env) (some (assign (.Name y py) X.env))) _ _ s
  refine wpAny_bind (wpAny_mono (wpAny_comprehension_free (use := some (assign (.Name y py) X.env)) (Q := fun _ s' => SP X pins D0 .next s') rfl hs (closureFor_of (S.has I.ok)) S.kind S.names
    (thn (hi pins s σ H _ I h) fun v s1 h1 => thn h1 fun itv s2 h2 => ?_)) (fun _ s' hq => wpAny_pure (wpAny_pure hq)) fun _ _ e => e)
  obtain ⟨it, fp, tn, J, H2, e, I2, T, st2, f2, hw⟩ := h2
  subst e
  refine comp_core3 (RR := fun acc C => compPost (model X.prog X.w) X.A X.xe (some (assign (.Name y py) X.env)) (fun _ s' => SP X pins D0 .next s') acc C) hc S I2 T st2 f2 hw ht he fun D C s4 ys H3 m5 I5 hn5 fC frD qn => ?_
  show wpAny _ X.A (assign (.Name y py) X.env (.ref D)) _ _ _
  obtain ⟨f0, f1, f3, f4, f5, f6⟩ := fC
  refine wpAny_assign_Name (store_ok2 I5 hN hi' (.inl hy) (v := .ref D) rfl (fun s' I' ⟨a, sb, ha⟩ => ?_) (.inr hy))
  have hCa : C ≠ a := by
    rcases ha with e | e
    · rw [e]; exact f1
    · exact Ne.symm (f5 _ _ e)
  refine ⟨m5, hn5.sameBut sb hCa, fun h' hs' => ?_⟩
  exact ⟨_, _, I'.turned (it := C) (t' := s'.toks) (fun b o hb e => (hs'.2 b hb).trans e) f0 f1 f4 f5 f6, qn D frD⟩

/-! ### a name of its own -/
abbrev blk (X : Cx) (scope : Scope) (x : Str) (C : Addr) (s : Shared) (H : Hp) (ex : List Addr) : Cx := blk3 X X.N scope x C s H ex
structure CScope (x : Str) (N : List Str) (osc scope : Scope) : Prop where
  kind : scope.kind = .function
  nd : (x :: N).Nodup
  own : scope.names.lookup x = some .local
  nocell : ∀ y ∈ scope.names, y.2 ≠ .cell
  names : ∀ y ∈ scope.names, y.2 = .local → scope.names.lookup y.1 = some .local
  free : ∀ y ∈ scope.names, y.2 = .free → osc.names.lookup y.1 = some .cell
  nol : ∀ y ∈ N, scope.names.lookup y ≠ some .local
theorem zip_self {α : Type} : ∀ (l : List α), ∀ p ∈ l.zip l, p.1 = p.2
  | [], p, h => by simp at h
  | a :: l, p, h => by
    rw [List.zip_cons_cons] at h
    rcases List.mem_cons.mp h with rfl | h
    · rfl
    · exact zip_self l p h
theorem CScope.to3 {x : Str} {N : List Str} {osc scope : Scope} (S : CScope x N osc scope) : CScope3 x N N osc scope := ⟨S.kind, S.nd, S.own, S.nocell, S.names, S.free, S.nol, rfl, fun p hp => .inl (zip_self N p hp)⟩
theorem pe_lcomp {elt iter : Expr} {x : Str} {px pos : Pos} {scope : Scope} {ifs : List Expr} {wi : TI} {tt : TT} {te : TE} (hc : X.calm = true) (S : CScope x X.N X.env.scope scope) (hi : PI X (.Name x px) iter wi)
    (ht : ∀ C s H ex, PTs (blk X scope x C s H ex) ifs tt) (he : ∀ C s H ex, PE (blk X scope x C s H ex) elt te) (hs : ∀ v, foldedSetIterable iter X.env v = pure v := by intro _; rfl) :
    PE X (.ListComp elt [⟨.Name x px, iter, ifs, 0⟩] scope pos) (tLC wi tt te) := pe_lcomp3 hc S.to3 hi ht he hs
theorem ps_setLC {i : Nat} {y : Str} {elt iter : Expr} {x : Str} {px py pos spos : Pos} {scope : Scope} {ifs : List Expr} {wi : TI} {tt : TT} {te : TE} (hN : X.N.Nodup) (hi' : X.N[i]? = some y) (hy : X.env.scope.names.lookup y = some .local) (hc : X.calm = true) (S : CScope x X.N X.env.scope scope) (hi : PI X (.Name x px) iter wi)
    (ht : ∀ C s H ex, PTs (blk X scope x C s H ex) ifs tt) (he : ∀ C s H ex, PE (blk X scope x C s H ex) elt te)
    (hsw : swapsWith (.ListComp elt [⟨.Name x px, iter, ifs, 0⟩] scope pos) (some (.Name y py)) spos.line X.env = pure true) (hs : ∀ v, foldedSetIterable iter X.env v = pure v := by intro _; rfl) :
    PS X (.Assign [.Name y py] (.ListComp elt [⟨.Name x px, iter, ifs, 0⟩] scope pos) spos) (tAsg (tLC wi tt te) (gName i)) := ps_setLC3 hN hi' hy hc S.to3 hi ht he hsw hs
/-! ### the forms one uses -/
theorem lc_gen {J : It} {n : Nat} {σ : St} {tt : TT} {te : TE} {Fin : List V → Hp → Prop} {H1 : Hp} (Pv : Nat → List V → Hp → Prop) (h0 : Pv 0 [] H1) (hz : n < sizeLine) (hlen : ∀ i ys H, Pv i ys H → ys.length ≤ i)
    (hgo : ∀ i ys H, i < n → Pv i ys H → J.go i H) (hst : ∀ ys H, Pv n ys H → J.stop n H)
    (hs : ∀ i ys H x H', i < n → Pv i ys H → J.yld i H x H' → tt (some x :: σ) H' fun b H2 => if b = true then te (some x :: σ) H2 fun y H3 => Pv (i + 1) (ys ++ [y]) H3 else Pv (i + 1) ys H2)
    (hd : ∀ ys H, Pv n ys H → Fin ys H) : LCW J σ tt te Fin H1 := by
  refine ⟨fun i m ys H => m = n - i ∧ i ≤ n ∧ Pv i ys H, ⟨n, by simp, Nat.zero_le _, h0⟩, ?_⟩
  rintro i m ys H ⟨rfl, hi, p⟩
  by_cases hlt : i < n
  · have hl := hlen i ys H p
    exact .inr ⟨hgo i ys H hlt p, by omega, fun ys' H' => Pv (i + 1) ys' H', fun ys' H' p' => ⟨n - (i + 1), by omega, rfl, hlt, p'⟩, fun x H' y => hs i ys H x H' hlt p y⟩
  · have e : i = n := by omega
    subst e
    exact .inl ⟨hst ys H p, hd ys H p⟩
theorem lc_tup {K : PySem.W.Frag} {a : Addr} {xs : List V} {σ : St} {te : TE} {Fin : List V → Hp → Prop} {H1 : Hp} (Pv : Nat → List V → Hp → Prop) (h0 : Pv 0 [] H1) (hz : xs.length < sizeLine) (hlen : ∀ i ys H, Pv i ys H → ys.length ≤ i)
    (hl : ∀ i ys H, Pv i ys H → SqT K H a xs) (hs : ∀ i ys H x, xs[i]? = some x → Pv i ys H → te (some x :: σ) H fun y H3 => Pv (i + 1) (ys ++ [y]) H3) (hd : ∀ ys H, Pv xs.length ys H → Fin ys H) :
    LCW (Itt K a) σ tYes te Fin H1 := by
  refine lc_gen (n := xs.length) Pv h0 hz hlen (fun i ys H hi p => ⟨xs, xs[i], hl i ys H p, by simp [hi]⟩) (fun ys H p => ⟨xs, hl _ ys H p, Nat.le_refl _⟩) (fun i ys H x H' hi p y => ?_) hd
  obtain ⟨e, y⟩ := y
  subst e
  exact hs i ys _ x (y xs (hl i ys _ p)) p
theorem lc_list {K : PySem.W.Frag} {a : Addr} {xs : List V} {σ : St} {te : TE} {Fin : List V → Hp → Prop} {H1 : Hp} (Pv : Nat → List V → Hp → Prop) (h0 : Pv 0 [] H1) (hz : xs.length < sizeLine) (hlen : ∀ i ys H, Pv i ys H → ys.length ≤ i)
    (hl : ∀ i ys H, Pv i ys H → SqL K H a xs) (hs : ∀ i ys H x, xs[i]? = some x → Pv i ys H → te (some x :: σ) H fun y H3 => Pv (i + 1) (ys ++ [y]) H3) (hd : ∀ ys H, Pv xs.length ys H → Fin ys H) :
    LCW (Itl K a) σ tYes te Fin H1 := by
  refine lc_gen (n := xs.length) Pv h0 hz hlen (fun i ys H hi p => ⟨xs, xs[i], hl i ys H p, by simp [hi]⟩) (fun ys H p => ⟨xs, hl _ ys H p, Nat.le_refl _⟩) (fun i ys H x H' hi p y => ?_) hd
  obtain ⟨e, y⟩ := y
  subst e
  exact hs i ys _ x (y xs (hl i ys _ p)) p
theorem lc_listF {K : PySem.W.Frag} {a : Addr} {xs : List V} {σ : St} {tt : TT} {te : TE} {Fin : List V → Hp → Prop} {H1 : Hp} (Pv : Nat → List V → Hp → Prop) (h0 : Pv 0 [] H1) (hz : xs.length < sizeLine) (hlen : ∀ i ys H, Pv i ys H → ys.length ≤ i)
    (hl : ∀ i ys H, Pv i ys H → SqL K H a xs) (hs : ∀ i ys H x, xs[i]? = some x → Pv i ys H → tt (some x :: σ) H fun b H2 => if b = true then te (some x :: σ) H2 fun y H3 => Pv (i + 1) (ys ++ [y]) H3 else Pv (i + 1) ys H2) (hd : ∀ ys H, Pv xs.length ys H → Fin ys H) :
    LCW (Itl K a) σ tt te Fin H1 := by
  refine lc_gen (n := xs.length) Pv h0 hz hlen (fun i ys H hi p => ⟨xs, xs[i], hl i ys H p, by simp [hi]⟩) (fun ys H p => ⟨xs, hl _ ys H p, Nat.le_refl _⟩) (fun i ys H x H' hi p y => ?_) hd
  obtain ⟨e, y⟩ := y
  subst e
  exact hs i ys _ x (y xs (hl i ys _ p)) p
theorem lc_range {lo : Int} {n : Nat} {σ : St} {te : TE} {Fin : List V → Hp → Prop} {H1 : Hp} (Pv : Nat → List V → Hp → Prop) (h0 : Pv 0 [] H1) (hz : n < sizeLine) (hlen : ∀ i ys H, Pv i ys H → ys.length ≤ i)
    (hs : ∀ i ys H, i < n → Pv i ys H → te (some (.int (lo + i)) :: σ) H fun y H3 => Pv (i + 1) (ys ++ [y]) H3) (hd : ∀ ys H, Pv n ys H → Fin ys H) :
    LCW (Itr lo n) σ tYes te Fin H1 := by
  refine lc_gen (n := n) Pv h0 hz hlen (fun i ys H hi p => hi) (fun ys H p => Nat.le_refl n) (fun i ys H x H' hi p y => ?_) hd
  obtain ⟨e, y⟩ := y
  subst e y
  exact hs i ys _ hi p
end
end L2

set_option maxRecDepth 100000
namespace L2
open PySem PySem.Spec PyProof.Rows
section
variable {X : Cx}
theorem toks_of : ∀ {ns : List Int} {us : List Value}, Vals (ns.map V.int) us → ∃ ps : List (Int × Tok), us = ps.map (fun p => Value.int p.1 p.2) ∧ ps.map (·.1) = ns
  | [], us, r => by rw [List.map_nil] at r; cases r; exact ⟨[], rfl, rfl⟩
  | n :: ns, us, r => by
    rw [List.map_cons] at r
    cases r with
    | cons r1 r2 =>
      obtain ⟨t, e⟩ := r1
      obtain ⟨ps, e1, e2⟩ := toks_of r2
      exact ⟨(n, t) :: ps, by rw [e, e1]; rfl, by rw [List.map_cons, e2]⟩
/-- sum of a list of ints -/
theorem call_sum (hc : X.calm = true) : CallR X (.builtin "sum") (fun xs H Q => ∃ (p : Addr) (ns : List Int), xs = [.ref p] ∧ SqL X.K H p (ns.map V.int) ∧ Q (.int ns.sum) H) := by
  intro pins s σ H xs us Q I r h
  obtain ⟨p, ns, rfl, hq, q⟩ := h
  obtain ⟨u, rfl, rx⟩ := vals1 r
  cases rx
  obtain ⟨its, rv, pl, hz⟩ := I.list hq
  obtain ⟨ps, e1, e2⟩ := toks_of rv
  have hl : s.heap.IsList p (intItems ps.toArray) := by
    have e : intItems ps.toArray = its.toArray := by rw [e1]; simp [intItems]
    rw [e]; exact pl.isList
  refine sum_intListG (I.ok.hd hc) hl fun h' tk t' hk => ⟨.int ns.sum, H, I.kept hk, ⟨t', ?_⟩, q⟩
  rw [preSum_eq, List.take_of_length_le (by simp), e2]
/-- a list against an empty one -/
theorem op_eqNil (hu : X.A.units < cLine) : OpR X (compareOp .Eq) (fun x y H Q => ∃ (p r : Addr) (xs : List V), x = .ref p ∧ y = .ref r ∧ SqL X.K H p xs ∧ SqL X.K H r [] ∧ Q (.bl xs.isEmpty) H) := by
  intro pins s σ H x y v u Q I rx ry h
  obtain ⟨p, r, xs, rfl, rfl, hp, hr, q⟩ := h
  cases rx
  cases ry
  obtain ⟨its, rv, pl, hz⟩ := I.list hp
  obtain ⟨its2, rv2, pl2, hz2⟩ := I.list hr
  cases rv2
  cases rv with
  | nil => exact SeqAt.eq_listAt (e := fun _ => true) pl.isList pl2.isList (by simp) hu (fun j h1 h2 => absurd h1 (by simp)) ⟨.bl true, H, I, rfl, q⟩
  | cons r1 r2 => exact SeqAt.eq_list_lengthsAt pl.isList pl2.isList (by simp) hu ⟨.bl false, H, I, rfl, q⟩
/-- isinstance(x, T), T a built-in type -/
theorem call_isinst {T : String} {f : V → Hp → Bool → Prop} (hf : ∀ x H b, f x H b → ∃ t, TyOf X.K H x t ∧ PySem.W.kitOne X.K t (.type T) = some b) :
    CallR X (.builtin "isinstance") (fun xs H Q => ∃ x b, xs = [x, .ty T] ∧ f x H b ∧ Q (.bl b) H) := by
  intro pins s σ H xs us Q I r h
  obtain ⟨x, b, rfl, hx, q⟩ := h
  obtain ⟨u, w', rfl, r1, r2⟩ := vals2 r
  cases (show w' = Value.type T from r2)
  obtain ⟨t, ty, e⟩ := hf x H b hx
  exact isinst_ok I r1 ty e fun tk => ⟨.bl b, H, I.tok _, rfl, q⟩
/-- a value's own name of type -/
def isT (T : String) : V → Hp → Bool → Prop := fun x H b => match x with
  | .non => b = (T == "NoneType")
  | .bl _ => b = (T == "bool" || T == "int")
  | .int _ => b = (T == "int")
  | .str _ => b = (T == "str")
  | .ref a => (∃ xs, H a = some (.tup xs) ∧ b = (T == "tuple")) ∨ (∃ xs, H a = some (.lst xs) ∧ b = (T == "list"))
  | _ => False
theorem isT_ok {K : PySem.W.Frag} {T : String} (hT : T = "bool" ∨ T = "int" ∨ T = "str" ∨ T = "tuple" ∨ T = "list") : ∀ x H b, isT T x H b → ∃ t, TyOf K H x t ∧ PySem.W.kitOne K t (.type T) = some b := by
  intro x H b h
  cases x with
  | non => refine ⟨_, .non, ?_⟩; rcases hT with rfl | rfl | rfl | rfl | rfl <;> cases h <;> rfl
  | bl y => refine ⟨_, .bl y, ?_⟩; rcases hT with rfl | rfl | rfl | rfl | rfl <;> cases h <;> rfl
  | int i => refine ⟨_, .int i, ?_⟩; rcases hT with rfl | rfl | rfl | rfl | rfl <;> cases h <;> rfl
  | str z => refine ⟨_, .str z, ?_⟩; rcases hT with rfl | rfl | rfl | rfl | rfl <;> cases h <;> rfl
  | ref a =>
    rcases h with ⟨xs, e, h⟩ | ⟨xs, e, h⟩
    · refine ⟨_, .tup e, ?_⟩; rcases hT with rfl | rfl | rfl | rfl | rfl <;> cases h <;> rfl
    · refine ⟨_, .lst e, ?_⟩; rcases hT with rfl | rfl | rfl | rfl | rfl <;> cases h <;> rfl
  | _ => exact (show False from h).elim
end
end L2

set_option maxRecDepth 100000
namespace Seek
open PySem PySem.Spec PyProof.Rows L2

/-! ### own defs as one fact; what the built-ins' names are -/
structure Own (P : Program) (w : World) (K : PySem.W.Frag) (mg : Str → Option Value) (base : Heap) (k : Nat) (x : Str) (ps : List Str) (sp : Sp) : Prop where
  ex : ∃ f fd, FnOk P w K mg base CX0 k f fd ps sp ∧ mg x = some (.ref f) ∧ PySem.W.keepIn K (.ref f) = true ∧ Binds K fd ps []
theorem Own.mono {P : Program} {w : World} {K : PySem.W.Frag} {mg : Str → Option Value} {base : Heap} {j k : Nat} {x : Str} {ps : List Str} {sp : Sp} (O : Own P w K mg base j x ps sp) (h : j ≤ k) : Own P w K mg base k x ps sp := by
  obtain ⟨f, fd, F, r⟩ := O.ex
  exact ⟨f, fd, F.mono h, r⟩
theorem pe_own {X : Cx} {k : Nat} {x : Str} {ps : List Str} {sp : Sp} {p pos : Pos} {e : Expr} {es : List Expr} {t : TA} (O : Own X.prog X.w X.K X.mg X.base k x ps sp) (hr : Room k X.A) (hg : Gl X x) (ha : PA X (e :: es) t)
    (hdb : (x == ("__debug__" : Str)) = false := by decide) (he : starEach (e :: es) X.env = (false, eval e X.env) :: starEach es X.env := by rfl) (hpl : (backTo pos (starEach es X.env)).any (·.1) = false := by rfl) :
    PE X (.Call (.Name x p) (e :: es) [] pos) (tCall sp [] E0 t) := by
  obtain ⟨f, fd, F, hm, hk, hb⟩ := O.ex
  exact pe_call F hr hg hm hk hb .nil pass0 ha hdb he hpl
structure Blt (mg : Str → Option Value) : Prop where
  b_len : mg "len" = none
  b_range : mg "range" = none
  b_sum : mg "sum" = none
  b_all : mg "all" = none
  b_ord : mg "ord" = none
  b_max : mg "max" = none
  b_min : mg "min" = none
  b_int : mg "int" = none
  b_list : mg "list" = none
  b_tuple : mg "tuple" = none
  b_str : mg "str" = none
  b_bool : mg "bool" = none
  b_isinstance : mg "isinstance" = none

/-! ### heaps that grow; the lists at S may have changed -/
structure Gro (S : List Addr) (H H' : Hp) : Prop where
  keep : ∀ b o, H b = some o → b ∉ S → H' b = some o
  tups : ∀ b xs, H b = some (.tup xs) → H' b = some (.tup xs)
theorem Gro.refl {S : List Addr} {H : Hp} : Gro S H H := ⟨fun _ _ h _ => h, fun _ _ h => h⟩
theorem Gro.trans {S : List Addr} {H H1 H2 : Hp} (a : Gro S H H1) (b : Gro S H1 H2) : Gro S H H2 := ⟨fun c o h hc => b.keep c o (a.keep c o h hc) hc, fun c xs h => b.tups c xs (a.tups c xs h)⟩
theorem Gro.mono {S S' : List Addr} {H H' : Hp} (a : Gro S H H') (h : ∀ b ∈ S, b ∈ S') : Gro S' H H' := ⟨fun c o q hc => a.keep c o q fun z => hc (h c z), a.tups⟩
theorem Gro.new {S : List Addr} {H : Hp} {p : Addr} (h : H p = none) (o : HO) : Gro S H (upd H p o) := ⟨fun b u q _ => by rw [upd_ne (ne_of_none q h)]; exact q, fun b xs q => by rw [upd_ne (ne_of_none q h)]; exact q⟩
theorem Gro.set {S : List Addr} {H : Hp} {p : Addr} {xs : List V} (hp : p ∈ S) (h : H p = some (.lst xs)) (o : HO) : Gro S H (upd H p o) :=
  ⟨fun b u q hb => by rw [upd_ne (fun z => hb (by rw [z]; exact hp))]; exact q, fun b ys q => by rw [upd_ne (ne_of q h (by intro z; cases z))]; exact q⟩
/-! ### the places of what is drawn -/
def BoxAt (H : Hp) (b : Addr) : Prop := ∃ ns : List Int, H b = some (.lst (ns.map V.int)) ∧ ns.length ≤ 63
def LetAt (H : Hp) (l : Addr) : Prop := ∃ x y z : Str, H l = some (.lst [.str x, .str y, .str z]) ∧ x.length = 1 ∧ y.length = 1 ∧ z.length = 1
def CntAt (H : Hp) (c : Addr) : Prop := ∃ n p : Int, H c = some (.lst [.int n, .int p]) ∧ 0 ≤ n ∧ n ≤ 9
theorem BoxAt.ne_let {H : Hp} {b l : Addr} (h : BoxAt H b) (h' : LetAt H l) : b ≠ l := by
  obtain ⟨ns, e, _⟩ := h
  obtain ⟨x, y, z, e', _⟩ := h'
  refine ne_of e e' fun q => ?_
  have q' : ns.map V.int = [.str x, .str y, .str z] := by injection q
  cases ns with
  | nil => cases q'
  | cons n r => rw [List.map_cons] at q'; injection q' with q1 _; cases q1
theorem CntAt.ne_let {H : Hp} {b l : Addr} (h : CntAt H b) (h' : LetAt H l) : b ≠ l := by
  obtain ⟨n, p, e, _⟩ := h
  obtain ⟨x, y, z, e', _⟩ := h'
  refine ne_of e e' fun q => ?_
  injection q with q'
  injection q' with q1 _
  cases q1
theorem LetAt.gro {S : List Addr} {H H' : Hp} {l : Addr} (h : LetAt H l) (g : Gro S H H') (hl : l ∉ S) : LetAt H' l := by
  obtain ⟨x, y, z, e, r⟩ := h
  exact ⟨x, y, z, g.keep _ _ e hl, r⟩
theorem BoxAt.gro {S : List Addr} {H H' : Hp} {l : Addr} (h : BoxAt H l) (g : Gro S H H') (hl : l ∉ S) : BoxAt H' l := by
  obtain ⟨x, e, r⟩ := h
  exact ⟨x, g.keep _ _ e hl, r⟩
theorem LetAt.new {H : Hp} {l p : Addr} {o : HO} (h : LetAt H l) (hp : H p = none) : LetAt (upd H p o) l := h.gro (S := []) (Gro.new hp o) (by simp)
theorem BoxAt.new {H : Hp} {l p : Addr} {o : HO} (h : BoxAt H l) (hp : H p = none) : BoxAt (upd H p o) l := h.gro (S := []) (Gro.new hp o) (by simp)
/-- one of the three signs -/
theorem let_at {x y z : Str} {i : Int} (h0 : 0 ≤ i) (h1 : i < 3) (hx : x.length = 1) (hy : y.length = 1) (hz : z.length = 1) : ∃ s : Str, s.length = 1 ∧ atI [V.str x, V.str y, V.str z] i = some (.str s) := by
  have : i = 0 ∨ i = 1 ∨ i = 2 := by omega
  rcases this with rfl | rfl | rfl
  · exact ⟨x, hx, rfl⟩
  · exact ⟨y, hy, rfl⟩
  · exact ⟨z, hz, rfl⟩
theorem small {n : Nat} (h : n ≤ 1000) : n ≤ sizeLine := Nat.le_of_lt (small1000 h)

/-! ### patterns -/
inductive How where | much | little | keep
  deriving DecidableEq
def How.text : How → Str
  | .much => "much" | .little => "little" | .keep => "keep"
inductive Lk where | once | ahead | notahead | behind | notbehind
  deriving DecidableEq
def Lk.text : Lk → Str
  | .once => "once" | .ahead => "ahead" | .notahead => "notahead" | .behind => "behind" | .notbehind => "notbehind"
inductive Hd where
  | sign (s : Str) | any | inn (rs : List (Str × Str)) | out (rs : List (Str × Str)) | beg | fin | row | alt
  | times (lo : Int) (hi : Option Int) (how : How) | grp (k : Int) | again (k : Int) | hav (k : Int) | look (w : Lk)
inductive Pat where
  | node (h : Hd) (ks : List Pat)
def Hd.word : Hd → Str
  | .sign _ => "sign" | .any => "any" | .inn _ => "in" | .out _ => "out" | .beg => "begin" | .fin => "end" | .row => "row" | .alt => "or"
  | .times _ _ _ => "times" | .grp _ => "group" | .again _ => "again" | .hav _ => "have" | .look w => w.text
def optV : Option Int → V
  | some i => .int i
  | none => .non
def RunsAt (H : Hp) (r : Addr) (rs : List (Str × Str)) : Prop := ∃ vs : List V, H r = some (.tup vs) ∧ Paired (fun (v : V) (p : Str × Str) => p.1.length = 1 ∧ p.2.length = 1 ∧ ∃ a, v = .ref a ∧ H a = some (.tup [.str p.1, .str p.2])) vs rs ∧ rs.length ≤ 20
/-- what stands at a tuple of this head; kv: the parts' values -/
def Lay (H : Hp) (a : Addr) : Hd → List V → Prop
  | .sign s, kv => kv = [] ∧ s.length = 1 ∧ H a = some (.tup [.str "sign", .str s])
  | .any, kv => kv = [] ∧ H a = some (.tup [.str "any"])
  | .inn rs, kv => kv = [] ∧ ∃ r, H a = some (.tup [.str "in", .ref r]) ∧ RunsAt H r rs
  | .out rs, kv => kv = [] ∧ ∃ r, H a = some (.tup [.str "out", .ref r]) ∧ RunsAt H r rs
  | .beg, kv => kv = [] ∧ H a = some (.tup [.str "begin"])
  | .fin, kv => kv = [] ∧ H a = some (.tup [.str "end"])
  | .row, kv => kv.length ≤ 10 ∧ ∃ r, H a = some (.tup [.str "row", .ref r]) ∧ H r = some (.tup kv)
  | .alt, kv => 1 ≤ kv.length ∧ kv.length ≤ 10 ∧ ∃ r, H a = some (.tup [.str "or", .ref r]) ∧ H r = some (.tup kv)
  | .times lo hi how, kv => (0 ≤ lo ∧ lo ≤ 20 ∧ ∀ h, hi = some h → 0 ≤ h ∧ h ≤ 20) ∧ ∃ k, kv = [k] ∧ H a = some (.tup [.str "times", .int lo, optV hi, .str how.text, k])
  | .grp n, kv => (0 ≤ n ∧ n ≤ 20) ∧ ∃ k, kv = [k] ∧ H a = some (.tup [.str "group", .int n, k])
  | .again n, kv => (0 ≤ n ∧ n ≤ 20) ∧ kv = [] ∧ H a = some (.tup [.str "again", .int n])
  | .hav n, kv => (0 ≤ n ∧ n ≤ 20) ∧ ∃ y z, kv = [y, z] ∧ H a = some (.tup [.str "have", .int n, y, z])
  | .look w, kv => ∃ k, kv = [k] ∧ H a = some (.tup [.str w.text, k])
def PatAt (H : Hp) : Nat → V → Pat → Prop
  | 0, _, _ => False
  | d + 1, v, .node h ks => ∃ a kv, v = .ref a ∧ Lay H a h kv ∧ Paired (PatAt H d) kv ks
theorem RunsAt.mono {H H' : Hp} (t : ∀ b xs, H b = some (.tup xs) → H' b = some (.tup xs)) {r : Addr} {rs : List (Str × Str)} (h : RunsAt H r rs) : RunsAt H' r rs := by
  obtain ⟨vs, e, p, z⟩ := h
  exact ⟨vs, t _ _ e, Paired.mapP p fun v q ⟨h1, h2, a, e1, e2⟩ => ⟨h1, h2, a, e1, t _ _ e2⟩, z⟩
theorem Lay.mono {H H' : Hp} (t : ∀ b xs, H b = some (.tup xs) → H' b = some (.tup xs)) {a : Addr} {kv : List V} : ∀ {h : Hd}, Lay H a h kv → Lay H' a h kv
  | .sign _, ⟨x, y, z⟩ => ⟨x, y, t _ _ z⟩
  | .any, ⟨x, z⟩ => ⟨x, t _ _ z⟩
  | .inn _, ⟨x, r, z, q⟩ => ⟨x, r, t _ _ z, q.mono t⟩
  | .out _, ⟨x, r, z, q⟩ => ⟨x, r, t _ _ z, q.mono t⟩
  | .beg, ⟨x, z⟩ => ⟨x, t _ _ z⟩
  | .fin, ⟨x, z⟩ => ⟨x, t _ _ z⟩
  | .row, ⟨x, r, z, q⟩ => ⟨x, r, t _ _ z, t _ _ q⟩
  | .alt, ⟨x, y, r, z, q⟩ => ⟨x, y, r, t _ _ z, t _ _ q⟩
  | .times _ _ _, ⟨x, k, y, z⟩ => ⟨x, k, y, t _ _ z⟩
  | .grp _, ⟨x, k, y, z⟩ => ⟨x, k, y, t _ _ z⟩
  | .again _, ⟨x, y, z⟩ => ⟨x, y, t _ _ z⟩
  | .hav _, ⟨x, k, l, y, z⟩ => ⟨x, k, l, y, t _ _ z⟩
  | .look _, ⟨k, y, z⟩ => ⟨k, y, t _ _ z⟩
theorem PatAt.mono {H H' : Hp} (t : ∀ b xs, H b = some (.tup xs) → H' b = some (.tup xs)) : ∀ {d : Nat} {v : V} {p : Pat}, PatAt H d v p → PatAt H' d v p
  | 0, _, _, h => h.elim
  | d + 1, v, .node h ks, ⟨a, kv, e, l, p⟩ => ⟨a, kv, e, l.mono t, Paired.mapP p fun _ _ q => PatAt.mono t q⟩
theorem PatAt.deep {H : Hp} : ∀ {d d' : Nat} {v : V} {p : Pat}, PatAt H d v p → d ≤ d' → PatAt H d' v p
  | 0, _, _, _, h, _ => h.elim
  | d + 1, 0, _, _, _, hd => absurd hd (by omega)
  | d + 1, d' + 1, v, .node h ks, ⟨a, kv, e, l, p⟩, hd => ⟨a, kv, e, l, Paired.mapP p fun _ _ q => PatAt.deep q (by omega)⟩
/-- the word at the tuple's head -/
theorem Lay.head {H : Hp} {a : Addr} {kv : List V} : ∀ {h : Hd}, Lay H a h kv → ∃ r, H a = some (.tup (.str h.word :: r))
  | .sign _, ⟨x, y, z⟩ => ⟨_, z⟩
  | .any, ⟨x, z⟩ => ⟨_, z⟩
  | .inn _, ⟨x, r, z, q⟩ => ⟨_, z⟩
  | .out _, ⟨x, r, z, q⟩ => ⟨_, z⟩
  | .beg, ⟨x, z⟩ => ⟨_, z⟩
  | .fin, ⟨x, z⟩ => ⟨_, z⟩
  | .row, ⟨x, r, z, q⟩ => ⟨_, z⟩
  | .alt, ⟨x, y, r, z, q⟩ => ⟨_, z⟩
  | .times _ _ _, ⟨x, k, y, z⟩ => ⟨_, z⟩
  | .grp _, ⟨x, k, y, z⟩ => ⟨_, z⟩
  | .again _, ⟨x, y, z⟩ => ⟨_, z⟩
  | .hav _, ⟨x, k, l, y, z⟩ => ⟨_, z⟩
  | .look _, ⟨k, y, z⟩ => ⟨_, z⟩
mutual
def Pat.groups : Pat → Int
  | .node h ks => (match h with | .grp _ => 1 | _ => 0) + groupsL ks
def groupsL : List Pat → Int
  | [] => 0
  | k :: ks => k.groups + groupsL ks
end
/-! ### how many patterns there are in one -/
mutual
def Pat.size : Pat → Nat
  | .node _ ks => 1 + sizeL ks
def sizeL : List Pat → Nat
  | [] => 0
  | k :: ks => k.size + sizeL ks
end
theorem size_node (h : Hd) (ks : List Pat) : (Pat.node h ks).size = 1 + sizeL ks := by rw [Pat.size]
theorem sizeL_append (xs ys : List Pat) : sizeL (xs ++ ys) = sizeL xs + sizeL ys := by
  induction xs with
  | nil => simp [sizeL]
  | cons k ks ih => rw [List.cons_append, sizeL, sizeL, ih]; omega
theorem sizeL_one (p : Pat) : sizeL [p] = p.size := by simp [sizeL]
theorem sizeL_le {n : Nat} : ∀ {ks : List Pat}, (∀ k ∈ ks, k.size ≤ n) → sizeL ks ≤ ks.length * n
  | [], _ => by simp [sizeL]
  | k :: ks, h => by
    have h1 := h k (by simp)
    have h2 := sizeL_le (ks := ks) fun z hz => h z (by simp [hz])
    rw [sizeL, List.length_cons, Nat.add_mul]
    omega
theorem paired_mem {α β : Type} {F : α → β → Prop} : ∀ {xs : List α} {ys : List β}, Paired F xs ys → ∀ y ∈ ys, ∃ x ∈ xs, F x y
  | _, _, .nil, y, hy => by simp at hy
  | _, _, .cons r t, y, hy => by
    rcases List.mem_cons.mp hy with rfl | hy
    · exact ⟨_, by simp, r⟩
    · obtain ⟨x, hx, h⟩ := paired_mem t y hy
      exact ⟨x, by simp [hx], h⟩
theorem Lay.few {H : Hp} {a : Addr} {kv : List V} : ∀ {h : Hd}, Lay H a h kv → kv.length ≤ 10
  | .sign _, ⟨x, y, z⟩ => by rw [x]; decide
  | .any, ⟨x, z⟩ => by rw [x]; decide
  | .inn _, ⟨x, r, z, q⟩ => by rw [x]; decide
  | .out _, ⟨x, r, z, q⟩ => by rw [x]; decide
  | .beg, ⟨x, z⟩ => by rw [x]; decide
  | .fin, ⟨x, z⟩ => by rw [x]; decide
  | .row, ⟨x, r, z, q⟩ => x
  | .alt, ⟨x, y, r, z, q⟩ => y
  | .times _ _ _, ⟨x, k, y, z⟩ => by rw [y]; simp
  | .grp _, ⟨x, k, y, z⟩ => by rw [y]; simp
  | .again _, ⟨x, y, z⟩ => by rw [y]; decide
  | .hav _, ⟨x, k, l, y, z⟩ => by rw [y]; simp
  | .look _, ⟨k, y, z⟩ => by rw [y]; simp
def tens : Nat → Nat
  | 0 => 0
  | d + 1 => 1 + 10 * tens d
theorem PatAt.size_le {H : Hp} : ∀ {d : Nat} {v : V} {p : Pat}, PatAt H d v p → p.size ≤ tens d
  | 0, _, _, h => h.elim
  | d + 1, v, .node h ks, ⟨a, kv, e, l, p⟩ => by
    have h1 := l.few
    have h2 := Paired.length p
    have h3 : sizeL ks ≤ ks.length * tens d := sizeL_le fun k hk => by
      obtain ⟨x, _, q⟩ := paired_mem p k hk
      exact PatAt.size_le q
    have h4 : ks.length * tens d ≤ 10 * tens d := Nat.mul_le_mul_right _ (by omega)
    rw [size_node, tens]
    omega
def B (n : Nat) : Nat := 3 ^ (n + 1)
theorem B_succ (n : Nat) : B (n + 1) = 3 * B n := by unfold B; rw [Nat.pow_succ]; omega
theorem B_pos (n : Nat) : 3 ≤ B n := by
  induction n with
  | zero => decide
  | succ n ih => rw [B_succ]; omega
theorem B_mono {n : Nat} : ∀ {m : Nat}, n ≤ m → B n ≤ B m
  | 0, h => by rw [show n = 0 by omega]; exact Nat.le_refl _
  | m + 1, h => by
    by_cases e : n = m + 1
    · rw [e]; exact Nat.le_refl _
    · have := B_mono (n := n) (m := m) (by omega)
      rw [B_succ]; omega
/-- a pattern and a bound of its size -/
def PatS (H : Hp) (d : Nat) (v : V) (p : Pat) : Prop := PatAt H d v p ∧ p.size ≤ B d
theorem PatS.mono {H H' : Hp} (t : ∀ b xs, H b = some (.tup xs) → H' b = some (.tup xs)) {d : Nat} {v : V} {p : Pat} (h : PatS H d v p) : PatS H' d v p := ⟨h.1.mono t, h.2⟩
theorem PatS.deep {H : Hp} {d d' : Nat} {v : V} {p : Pat} (h : PatS H d v p) (hd : d ≤ d') : PatS H d' v p := ⟨h.1.deep hd, Nat.le_trans h.2 (B_mono hd)⟩
theorem PatAt.leafS {H : Hp} {v : V} {p : Pat} (h : PatAt H 1 v p) : PatS H 1 v p := ⟨h, Nat.le_trans h.size_le (by decide)⟩
theorem one_size {h : Hd} {p : Pat} {d d' : Nat} (s : p.size ≤ B d) (hd : d < d') : (Pat.node h [p]).size ≤ B d' := by
  have h1 := B_mono (show d + 1 ≤ d' from hd)
  have h2 := B_pos d
  rw [B_succ] at h1
  rw [size_node, sizeL_one]
  omega
theorem two_size {h : Hd} {p q : Pat} {d d' : Nat} (s : p.size ≤ B d) (s' : q.size ≤ B d) (hd : d < d') : (Pat.node h [p, q]).size ≤ B d' := by
  have h1 := B_mono (show d + 1 ≤ d' from hd)
  have h2 := B_pos d
  rw [B_succ] at h1
  rw [size_node, sizeL, sizeL_one]
  omega
theorem nil_size {h : Hd} {d : Nat} : (Pat.node h []).size ≤ B d := by
  have h2 := B_pos d
  rw [size_node, sizeL]
  omega
end Seek

set_option maxRecDepth 100000
set_option maxHeartbeats 4000000
namespace Seek
open PySem PySem.Spec PyProof.Rows L2
theorem sz {n : Nat} (h : Nat.ble n 1000 = true := by rfl) : n ≤ sizeLine := small (Nat.le_of_ble_eq_true h)
theorem at0 {x : V} {r : List V} : atI (x :: r) 0 = some x := atI_nat (j := 0) rfl
theorem ix0 {x : V} {r : List V} : ixN (x :: r).length 0 = some 0 := by
  unfold ixN
  rw [if_pos (Int.le_refl 0), if_pos (by rw [List.length_cons]; omega)]
  rfl
theorem Gro.fresh {S : List Addr} {H H' : Hp} {a : Addr} (g : Gro S H H') (ha : H a = none) (o : HO) : Gro S H (upd H' a o) :=
  ⟨fun b u q hb => by rw [upd_ne (ne_of_none q ha)]; exact g.keep b u q hb, fun b xs q => by rw [upd_ne (ne_of_none q ha)]; exact g.tups b xs q⟩
theorem Gro.tup {S : List Addr} {H H' : Hp} {p : Addr} {o : HO} (g : Gro S H H') (hp : H' p = none) : Gro S H (upd H' p o) := g.trans (Gro.new hp o)
/-- a pair of signs at v -/
def RunP (H : Hp) (v : V) (p : Str × Str) : Prop := p.1.length = 1 ∧ p.2.length = 1 ∧ ∃ a, v = .ref a ∧ H a = some (.tup [.str p.1, .str p.2])
theorem RunP.mono {H H' : Hp} (t : ∀ b xs, H b = some (.tup xs) → H' b = some (.tup xs)) {v : V} {p : Str × Str} (h : RunP H v p) : RunP H' v p := by
  obtain ⟨h1, h2, a, e1, e2⟩ := h
  exact ⟨h1, h2, a, e1, t _ _ e2⟩
theorem paired_mono {H H' : Hp} (t : ∀ b xs, H b = some (.tup xs) → H' b = some (.tup xs)) {vs : List V} {rs : List (Str × Str)} (h : Paired (RunP H) vs rs) : Paired (RunP H') vs rs := Paired.mapP h fun _ _ q => q.mono t
section
variable {K : PySem.W.Frag}
theorem letS {H : Hp} {l : Addr} {r : Int} {Q : V → Hp → Prop} (h : LetAt H l) (h0 : 0 ≤ r) (h1 : r < 3) (q : ∀ s : Str, s.length = 1 → Q (.str s) H) : rIxL K (.ref l) (.int r) H Q := by
  obtain ⟨x, y, z, hl, hx, hy, hz⟩ := h
  obtain ⟨s, hs, e⟩ := let_at h0 h1 hx hy hz
  exact ⟨l, _, _, _, rfl, rfl, SqL.of hl, e, q s hs⟩
end
/-- a block by a stronger reading -/
theorem pss_cut {X : Cx} {sts : List Stmt} {t : TS} (t2 : TS) (h : PSs X sts t) (imp : ∀ D σ H, t2 D σ H → t D σ H) : PSs X sts t2 := fun pins s σ H D I q => h pins s σ H D I (imp D σ H q)
theorem bool2 {R : Bool → Hp → Prop} {H : Hp} {c : Bool} (h1 : R true H) (h2 : R false H) : R c H := by
  cases c
  · exact h2
  · exact h1
/-- an or of two tests that change nothing: both ways -/
theorem or_any {A B : TT} {σ : L2.St} {H : Hp} {Q : Bool → Hp → Prop} (hA : ∀ R : Bool → Hp → Prop, R true H → R false H → A σ H R) (hB : ∀ R : Bool → Hp → Prop, R true H → R false H → B σ H R) (hT : Q true H) (hF : Q false H) : tOr A B σ H Q :=
  hA _ (by show if true = true then Q true H else B σ H Q; exact iteT hT) (by show if false = true then Q true H else B σ H Q; exact iteF (hB Q hT hF))
theorem PatAt.head {H : Hp} : ∀ {d : Nat} {v : V} {p : Pat}, PatAt H d v p → ∃ a x r, v = .ref a ∧ H a = some (.tup (.str x :: r))
  | 0, _, _, h => h.elim
  | d + 1, v, .node h ks, ⟨a, kv, e, l, _⟩ => by
    obtain ⟨r, q⟩ := l.head
    exact ⟨a, _, r, e, q⟩
theorem pats_mono {H H' : Hp} {d : Nat} (t : ∀ b xs, H b = some (.tup xs) → H' b = some (.tup xs)) {vs : List V} {ps : List Pat} (h : Paired (PatAt H d) vs ps) : Paired (PatAt H' d) vs ps := Paired.mapP h fun _ _ q => q.mono t
section
variable {P : Program} {w : World} {K : PySem.W.Frag} {mg : Str → Option Value} {base : Heap} {f : Addr} {fd : FuncData}
/-- a def as it stands behind the top -/
structure Def (K : PySem.W.Frag) (mg : Str → Option Value) (x : Str) (st : Stmt) (ps : List Str) : Prop where
  ex : ∃ f fd, Fun K x x st f fd ∧ mg x = some (.ref f) ∧ Binds K fd ps []
theorem Def.own {x : Str} {st : Stmt} {ps : List Str} {k : Nat} {sp : Sp} (D : Def K mg x st ps) (h : ∀ f fd, Fun K x x st f fd → FnOk P w K mg base CX0 k f fd ps sp) : Own P w K mg base k x ps sp := by
  obtain ⟨f, fd, F, m, b⟩ := D.ex
  exact ⟨f, fd, h f fd F, m, F.kp, b⟩
theorem FnOk.never {ps : List Str} {k : Nat} {sp : Sp} (no : ∀ vs H Q E, ¬ sp vs H Q E) : FnOk P w K mg base CX0 k f fd ps sp :=
  ⟨fun vs H Q E h => absurd h (no vs H Q E), fun A outer s H args us vs Q E _ _ _ _ h => absurd h (no vs H Q E)⟩
end
theorem Gro.drop {b c : Addr} {H H2 : Hp} {o : HO} (g : Gro [b, c] (upd H c o) H2) (hc : H c = none) : Gro [b] H H2 :=
  ⟨fun x u q hx => g.keep x u (by rw [upd_ne (ne_of_none q hc)]; exact q) (by
      have hxc : x ≠ c := ne_of_none q hc
      have hxb : x ≠ b := by simpa using hx
      simp [hxb, hxc]), fun x xs q => g.tups x xs (by rw [upd_ne (ne_of_none q hc)]; exact q)⟩
theorem paired_take {α β : Type} {F : α → β → Prop} : ∀ {xs : List α} {ys : List β} (n : Nat), Paired F xs ys → Paired F (xs.take n) (ys.take n)
  | _, _, 0, _ => .nil
  | _, _, _ + 1, .nil => .nil
  | _, _, n + 1, .cons r t => .cons r (paired_take n t)
end Seek

set_option maxRecDepth 100000
set_option maxHeartbeats 4000000
namespace Seek
open PySem PySem.Spec PyProof.Rows L2
/-! ### the heads' words, without their parts -/
inductive Wd where
  | sign | any | inn | out | beg | fin | row | alt | times | grp | again | hav | once | ahead | notahead | behind | notbehind
def Wd.text : Wd → Str
  | .sign => "sign" | .any => "any" | .inn => "in" | .out => "out" | .beg => "begin" | .fin => "end" | .row => "row" | .alt => "or" | .times => "times" | .grp => "group" | .again => "again" | .hav => "have"
  | .once => "once" | .ahead => "ahead" | .notahead => "notahead" | .behind => "behind" | .notbehind => "notbehind"
def Hd.wd : Hd → Wd
  | .sign _ => .sign | .any => .any | .inn _ => .inn | .out _ => .out | .beg => .beg | .fin => .fin | .row => .row | .alt => .alt
  | .times _ _ _ => .times | .grp _ => .grp | .again _ => .again | .hav _ => .hav | .look .once => .once | .look .ahead => .ahead | .look .notahead => .notahead | .look .behind => .behind | .look .notbehind => .notbehind
theorem Hd.word_wd (h : Hd) : h.word = h.wd.text := by
  cases h with
  | look lk => cases lk <;> rfl
  | _ => rfl
def isw (x y : Str) : Bool := decide (V.str x = V.str y)
theorem ite_no {c A B : Prop} [Decidable c] (h : ¬ c) (b : B) : if c then A else B := by rw [if_neg h]; exact b
theorem ite_yes {c A B : Prop} [Decidable c] (h : c) (a : A) : if c then A else B := by rw [if_pos h]; exact a
theorem paired_get {α β : Type} {F : α → β → Prop} : ∀ {xs : List α} {ys : List β} {i : Nat} {x : α}, Paired F xs ys → xs[i]? = some x → ∃ y, ys[i]? = some y ∧ F x y
  | _, _, _, _, .nil, e => by simp at e
  | _, _, 0, _, .cons r _, e => by simp at e; subst e; exact ⟨_, rfl, r⟩
  | _, _, i + 1, x, .cons _ t, e => by
    obtain ⟨y, h1, h2⟩ := paired_get (i := i) (x := x) t (by simpa using e)
    exact ⟨y, by simpa using h1, h2⟩
theorem take_snoc {α : Type} {l : List α} {i : Nat} {x : α} (h : l[i]? = some x) : l.take (i + 1) = l.take i ++ [x] := by rw [List.take_add_one, h]; rfl
theorem lift_map {α β : Type} {f : α → β} {l : List α} {i : Nat} {x : α} (h : l[i]? = some x) : (l.take (i + 1)).map f = (l.take i).map f ++ [f x] := by rw [take_snoc h, List.map_append]; rfl

/-! ### the least and the greatest of a list of ints -/
def mnL (ns : List Int) : Int := ns.getD (argBest (fun i j => decide (ns.getD i 0 < ns.getD j 0)) (ns.length - 1)) 0
def mxL (ns : List Int) : Int := ns.getD (argBest (fun i j => decide (ns.getD i 0 > ns.getD j 0)) (ns.length - 1)) 0
theorem numAt_of {ps : List (Int × Tok)} {ns : List Int} (e : ps.map (·.1) = ns) : numAt ps.toArray = fun i => ns.getD i 0 := by
  funext i
  subst e
  simp [numAt, List.getD_eq_getElem?_getD, List.getElem?_map]
theorem item_of {ps : List (Int × Tok)} {ns : List Int} (e : ps.map (·.1) = ns) {k : Nat} {v : Value} (h : (intItems ps.toArray)[k]? = some v) : ∃ t, v = .int (ns.getD k 0) t := by
  obtain ⟨t, q⟩ := intItems_at h
  rw [numAt_of e] at q
  exact ⟨t, q⟩
section
variable {X : Cx}
theorem call_minL (hc : X.calm = true) : CallR X (.builtin "min") (fun xs H Q => ∃ (p : Addr) (ns : List Int), xs = [.ref p] ∧ SqL X.K H p (ns.map V.int) ∧ ns ≠ [] ∧ Q (.int (mnL ns)) H) := by
  intro pins s σ H xs us Q I r h
  obtain ⟨p, ns, rfl, hq, hne, q⟩ := h
  obtain ⟨u, rfl, rx⟩ := vals1 r
  cases rx
  obtain ⟨its, rv, pl, hz⟩ := I.list hq
  obtain ⟨ps, e1, e2⟩ := toks_of rv
  have hl : s.heap.IsList p (intItems ps.toArray) := by
    have e : intItems ps.toArray = its.toArray := by rw [e1]; simp [intItems]
    rw [e]; exact pl.isList
  have hlen : ps.length = ns.length := by rw [← e2, List.length_map]
  have hpos : 0 < ns.length := List.length_pos_iff.mpr hne
  refine min_intList (I.ok.hd hc) hl (by simp; omega) fun v h' tk hv hk => ⟨.int (mnL ns), H, I.kept hk, ?_, q⟩
  obtain ⟨t, e⟩ := item_of e2 hv
  rw [numAt_of e2, show ps.toArray.size = ns.length by simp [hlen]] at e
  exact ⟨t, e⟩
theorem call_maxL (hc : X.calm = true) : CallR X (.builtin "max") (fun xs H Q => ∃ (p : Addr) (ns : List Int), xs = [.ref p] ∧ SqL X.K H p (ns.map V.int) ∧ ns ≠ [] ∧ Q (.int (mxL ns)) H) := by
  intro pins s σ H xs us Q I r h
  obtain ⟨p, ns, rfl, hq, hne, q⟩ := h
  obtain ⟨u, rfl, rx⟩ := vals1 r
  cases rx
  obtain ⟨its, rv, pl, hz⟩ := I.list hq
  obtain ⟨ps, e1, e2⟩ := toks_of rv
  have hl : s.heap.IsList p (intItems ps.toArray) := by
    have e : intItems ps.toArray = its.toArray := by rw [e1]; simp [intItems]
    rw [e]; exact pl.isList
  have hlen : ps.length = ns.length := by rw [← e2, List.length_map]
  have hpos : 0 < ns.length := List.length_pos_iff.mpr hne
  refine max_intList (I.ok.hd hc) hl (by simp; omega) fun v h' tk hv hk => ⟨.int (mxL ns), H, I.kept hk, ?_, q⟩
  obtain ⟨t, e⟩ := item_of e2 hv
  rw [numAt_of e2, show ps.toArray.size = ns.length by simp [hlen]] at e
  exact ⟨t, e⟩
end

/-! ### two values that are the same data -/
end Seek

set_option maxRecDepth 100000
namespace L2
open PySem PySem.Spec PyProof.Rows
/-! ### lists of pairs as tables -/
section
variable {κ : Type} [DecidableEq κ]
theorem KV.length {kvs : List (κ × V)} {vs : List (κ × Value)} (r : KV kvs vs) : kvs.length = vs.length := Paired.length r
end


/-! ### a tracked dict, its keys ints and texts or tuples of these -/
section
variable {P : Program} {w : World} {H : Hp} {h : Heap} {a : Addr}
end

section
variable {X : Cx} {pins : List (Addr × Obj)} {σ : St} {H : Hp} {s : Shared} {a : Addr} {y v : V} {u r : Value} {o : Option V} {A : Around} {E : Value → Shared → Prop}

end

section
variable {X : Cx} {pins : List (Addr × Obj)} {σ : St} {H : Hp} {s : Shared} {a : Addr} {kvs : List (Key × V)} {k : Key} {u : Value} {A : Around} {E : Value → Shared → Prop}
end


/-! ### readings and rules -/
section
variable {X : Cx} {o i e value : Expr} {pos pos' tpos : Pos} {td ty tv : TE}
end


/-! ### displays -/
section
variable {X : Cx} {pos : Pos}
end

end L2

set_option maxRecDepth 100000
namespace L2
open PySem PySem.Spec PyProof.Rows
/-! ### a dict of the module: read, never written -/
section
variable {X : Cx} {pins : List (Addr × Obj)} {σ : St} {H : Hp} {s : Shared} {a : Addr} {kvs : List (Key × V)}
end
section
variable {X : Cx} {o i : Expr} {pos : Pos} {td ty : TE}
end
end L2

set_option maxRecDepth 100000
namespace L2
open PySem PySem.Spec PyProof.Rows
/-! ### a list comprehension whose target stores several names -/
section
variable {X : Cx} {pins : List (Addr × Obj)} {σ : St} {H : Hp} {s : Shared}
end
end L2

set_option maxRecDepth 100000
namespace L2
open PySem PySem.Spec PyProof.Rows
/-! ### texts -/
theorem strsAre_of : ∀ {xs : List Str} {us : List Value}, Vals (xs.map V.str) us → StrsAre us xs
  | [], _, r => by cases r; exact .nil
  | x :: xs, _, r => by
    rw [List.map_cons] at r
    cases r with
    | cons q t =>
      obtain ⟨k, rfl⟩ := q
      exact .cons x k (strsAre_of t)
def rJoin (K : PySem.W.Frag) : V → List V → Hp → VK → Prop := fun x vs H Q => ∃ (sep : Str) (l : Addr) (xs : List Str), x = .str sep ∧ vs = [.ref l] ∧ SqL K H l (xs.map V.str) ∧ (xs.map (·.length)).sum + xs.length * sep.length ≤ 16777216 ∧ Q (.str (Txt.join sep xs)) H
section
variable {X : Cx}
theorem mt_join : MtR X "str.join" (rJoin X.K) := by
  intro pins s σ H x vs v us Q I rx rv h
  obtain ⟨sep, l, xs, rfl, rfl, hl, hz, q⟩ := h
  obtain ⟨t, rfl⟩ := rx
  obtain ⟨u, rfl, ru⟩ := Vals.one rv
  obtain rfl : u = Value.ref l := ru
  obtain ⟨its, r, pl, _⟩ := I.list hl
  exact join_list pl.isList (by simpa using strsAre_of r) hz fun t' k => ⟨.str (Txt.join sep xs), H, I.tok _, ⟨_, rfl⟩, q⟩
end
end L2

set_option maxRecDepth 100000
namespace L2
open PySem PySem.Spec PyProof.Rows
open Builtin
section
variable {X : Cx}
/-! ### a call of a def that a table tells -/
end
end L2

set_option maxRecDepth 100000
namespace L2
open PySem PySem.Spec PyProof.Rows
/-! ### max(xs, default=d) of a list of ints -/
section
variable {prog : Program} {w : World} {A : Around} {R : Result → Shared → Prop} {it : Addr} {fp wr : List Addr} {m : Nat} {P : Nat → Value → Prop} {St : Nat → Heap → Prop}
end
end L2

set_option maxRecDepth 100000
namespace Seek
open PySem PySem.Spec PyProof.Rows L2
section
variable {X : Cx}
end
end Seek

set_option maxRecDepth 100000
set_option maxHeartbeats 4000000
namespace Seek
open PySem PySem.Spec PyProof.Rows L2
/-! ### the machine as an object -/
/-! ### choices -/
/-! ### the class as the top has made it -/
end Seek

set_option maxRecDepth 100000
namespace L2
open PySem PySem.Spec PyProof.Rows
section
variable {X : Cx}
/-- a list is not the empty one -/
theorem op_neNil (hu : X.A.units < cLine) : OpR X (compareOp .NotEq) (fun x y H Q => ∃ (p r : Addr) (xs : List V), x = .ref p ∧ y = .ref r ∧ SqL X.K H p xs ∧ SqL X.K H r [] ∧ Q (.bl (!xs.isEmpty)) H) := by
  intro pins s σ H x y v u Q I rx ry h
  obtain ⟨p, r, xs, rfl, rfl, hp, hr, q⟩ := h
  cases rx
  cases ry
  obtain ⟨its, rv, pl, hz⟩ := I.list hp
  obtain ⟨its2, rv2, pl2, hz2⟩ := I.list hr
  cases rv2
  cases rv with
  | nil => exact PySem.EqBoolInt.of_rcne (SeqAt.RcNeAt.lists (e := fun _ => true) pl.isList pl2.isList (by simp) hu (fun j h1 h2 => absurd h1 (by simp))) ⟨.bl false, H, I, rfl, q⟩
  | cons r1 r2 => exact PySem.EqBoolInt.of_rcne (SeqAt.RcNeAt.lists_lengths pl.isList pl2.isList (by simp) hu) ⟨.bl true, H, I, rfl, q⟩
end
end L2
namespace Seek
open PySem PySem.Spec PyProof.Rows L2
end Seek

set_option maxRecDepth 100000
namespace L2
open PySem PySem.Spec PyProof.Rows
/-! ### parts of texts -/
def sub (x : Str) (a b : Nat) : Str := ⟨((x.cps.toList.drop a).take (b - a)).toArray⟩
theorem slice_sub {x : Str} {i j : Int} (h0 : 0 ≤ i) (h1 : 0 ≤ j) : Txt.slice x (some i) (some j) = sub x i.toNat j.toNat := by
  have hl : x.cps.toList.length = x.length := by simp [Str.length]
  have clip : Builtin.Str.strSliceIndices (some i) (some j) 1 x.length = Builtin.Str.strSliceIndices (some ((min i.toNat x.length : Nat) : Int)) (some ((min j.toNat x.length : Nat) : Int)) 1 x.length := by
    unfold Builtin.Str.strSliceIndices
    have e1 : ¬ i < 0 := by omega
    have e2 : ¬ j < 0 := by omega
    have e3 : ¬ ((min i.toNat x.length : Nat) : Int) < 0 := by omega
    have e4 : ¬ ((min j.toNat x.length : Nat) : Int) < 0 := by omega
    simp only [e1, e2, e3, e4, if_false, show (1 : Int) > 0 by decide, if_true]
    congr 1 <;> omega
  have ed : (x.cps.toList.drop (min i.toNat x.length)).take (min j.toNat x.length - min i.toNat x.length) = (x.cps.toList.drop i.toNat).take (j.toNat - i.toNat) := by
    by_cases hi : i.toNat ≤ x.length
    · rw [Nat.min_eq_left hi]
      by_cases hj : j.toNat ≤ x.length
      · rw [Nat.min_eq_left hj]
      · rw [Nat.min_eq_right (by omega), List.take_of_length_le (by rw [List.length_drop]; omega), List.take_of_length_le (by rw [List.length_drop]; omega)]
    · have e5 : min i.toNat x.length = x.length := by omega
      rw [e5, List.drop_of_length_le (show x.cps.toList.length ≤ x.length by omega), List.drop_of_length_le (show x.cps.toList.length ≤ i.toNat by omega)]
      simp
  by_cases hab : min i.toNat x.length ≤ min j.toNat x.length
  · have e : Txt.slice x (some i) (some j) = StrLaws.sliceText x (some ((min i.toNat x.length : Nat) : Int)) (some ((min j.toNat x.length : Nat) : Int)) := by
      unfold Txt.slice StrLaws.sliceText
      rw [clip]
    rw [e, StrLaws.sliceText_nat x hab (Nat.min_le_right _ _), ed]
    rfl
  · have em : Builtin.Str.strSliceIndices (some i) (some j) 1 x.length = [] := by
      rw [clip]
      unfold Builtin.Str.strSliceIndices sliceRange
      have e3 : ¬ ((min i.toNat x.length : Nat) : Int) < 0 := by omega
      have e4 : ¬ ((min j.toNat x.length : Nat) : Int) < 0 := by omega
      simp only [e3, e4, if_false, show (1 : Int) > 0 by decide, if_true]
      rw [if_neg (by omega)]
      rfl
    have hlt : j.toNat - i.toNat = 0 := by omega
    have hp : 0 < x.length := by omega
    unfold Txt.slice sub
    rw [em, hlt, if_neg (by simp; omega)]
    simp
def rSlS : V → Option Int → Option Int → Hp → VK → Prop := fun x lo hi H Q => ∃ z : Str, x = .str z ∧ z.length ≤ sizeLine ∧ Q (.str (Txt.slice z lo hi)) H
section
variable {X : Cx}
theorem sl_str : SlR X rSlS := by
  intro pins s σ H x v vl vu lo hi sl Q I rx hs pl pu h
  obtain ⟨z, rfl, hz, q⟩ := h
  obtain ⟨t, rfl⟩ := rx
  have part : ∀ {v : Value} {o : Option Int}, IsPart v o → ∃ p : Option (Int × Tok), v = partValue p ∧ p.map (·.1) = o := by
    intro v o h
    cases h with
    | none => exact ⟨none, rfl, rfl⟩
    | int i t => exact ⟨some (i, t), rfl, rfl⟩
  obtain ⟨l, rfl, rfl⟩ := part pl
  obtain ⟨u, rfl, rfl⟩ := part pu
  exact ⟨"str", _, F.slot_str_getitem.lookup, typeIs_str _ _ _, wpAny_getItem_str_slice (l := l) (u := u) (st := none) hs rfl (post_val_or_str ⟨Nat.le_trans (Txt.slice_le z _ _) hz, fun t' k => ⟨.str _, H, I.tok _, ⟨_, rfl⟩, q⟩⟩)⟩
end
end L2

set_option maxRecDepth 100000
namespace HT
open PySem PySem.Spec PyProof.Rows
section
variable {prog : Program} {w : World} {A : Around} {E : Value → Shared → Prop} {s : Shared}
/-- t + u, t empty: u itself -/
theorem cat_tup0 {t b : Addr} {vs ws : List Value} {Q : Value → Shared → Prop} (ht : IsTup s.heap t vs.toArray) (hb : IsTup s.heap b ws.toArray) (hv : vs = []) (h1 : Q (.ref b) s) : wpAny (model prog w) A (binaryOp .Add (.ref t) (.ref b)) Q E s := by
  obtain ⟨⟨cls, dd, data, sl⟩, ho, hc, n, hd⟩ := id ht
  obtain ⟨⟨cls2, dd2, data2, sl2⟩, ho2, hc2, n2, hd2⟩ := id hb
  simp only at hc hd hc2 hd2
  subst hc hd hc2 hd2
  exact concat_meets ⟨_, ho, rfl⟩ ⟨_, ho2, rfl⟩ noFill_tuple_add seq_tuple_add PySem.F.slot_tuple_add PySem.F.entry_tuple_add (PySem.F.args_tuple_add_2 _ _)
    (tuple_addW0 t b vs.toArray ws.toArray n n2 dd dd2 sl sl2 (by simp [hv])) ⟨ho, ho2, h1⟩
end
end HT
namespace L2
open PySem PySem.Spec PyProof.Rows
section
variable {X : Cx}
/-- t + u -/
def rCatA (K : PySem.W.Frag) : R2 := fun x y H Q => ∃ a b xs ys, x = .ref a ∧ y = .ref b ∧ SqT K H a xs ∧ SqT K H b ys ∧ xs.length + ys.length ≤ sizeLine ∧
  (xs = [] → Q (.ref b) H) ∧ (xs ≠ [] → ys = [] → Q (.ref a) H) ∧ (xs ≠ [] → ys ≠ [] → ∀ p, H p = none → Q (.ref p) (upd H p (.tup (xs ++ ys))))
theorem op_catA : OpR X (binaryOp .Add) (rCatA X.K) := by
  intro pins s σ H x y v u Q I rx ry h
  obtain ⟨a, b, xs, ys, e1, e2, ha, hb, hz, q0, q1, q2⟩ := h
  by_cases hx : xs = []
  · subst e1 e2
    cases rx
    cases ry
    obtain ⟨its, r1, p1, _⟩ := I.tuple ha
    obtain ⟨its2, r2, p2, _⟩ := I.tuple hb
    exact HT.cat_tup0 p1 p2 (r1.nil_iff.mpr hx) ⟨.ref b, H, I, rfl, q0 hx⟩
  · exact op_catT pins s σ H x y v u Q I rx ry ⟨a, b, xs, ys, e1, e2, ha, hb, hx, hz, q1 hx, q2 hx⟩
end
end L2
namespace Seek
open PySem PySem.Spec PyProof.Rows L2
/-- a part of a tuple, of a list -/
theorem cut_to {xs : List V} {k : Nat} (h : k ≤ xs.length) : cutV xs none (some (k : Int)) = xs.take k := by
  unfold cutV
  rw [HT.sIx_none, HT.sIx_nat, List.drop_zero, Nat.min_eq_left h, Nat.sub_zero]
theorem cut_from {xs : List V} {k : Nat} (h : k ≤ xs.length) : cutV xs (some (k : Int)) none = xs.drop k := by
  unfold cutV
  rw [HT.sIx_none, HT.sIx_nat, Nat.min_eq_left h]
  exact List.take_of_length_le (by rw [List.length_drop]; exact Nat.le_refl _)
theorem cut_one (xs : List V) : cutV xs none (some 1) = xs.take 1 := by
  unfold cutV
  have : HT.sIx xs.length xs.length (some 1) = min 1 xs.length := HT.sIx_nat _ _ 1
  rw [HT.sIx_none, this, List.drop_zero, Nat.sub_zero]
  by_cases h : 1 ≤ xs.length
  · rw [Nat.min_eq_left h]
  · match xs, h with
    | [], _ => rfl
    | x :: xs, h => exact absurd (show 1 ≤ xs.length + 1 by omega) h
end Seek

set_option maxRecDepth 100000
set_option maxHeartbeats 4000000
namespace Seek
open PySem PySem.Spec PyProof.Rows L2
/-! ### rows, as a function of the pattern and of the place of the first one -/
/-! ### how many rows -/
/-! ### the go's, set in their places -/
/-! ### rows on the heap -/
theorem paired_append {α β : Type} {F : α → β → Prop} : ∀ {xs xs' : List α} {ys ys' : List β}, Paired F xs ys → Paired F xs' ys' → Paired F (xs ++ xs') (ys ++ ys')
  | _, _, _, _, .nil, s => s
  | _, _, _, _, .cons r t, s => .cons r (paired_append t s)
/-! ### the rows of a pattern are plain -/
/-! ### the branches one by one -/
/-! ### the words -/
abbrev itself : List V := [.str "sign", .str "any", .str "in", .str "out", .str "begin", .str "end", .str "again"]
theorem big {n : Nat} (h : n ≤ 1000000) : n < sizeLine := Nat.lt_of_le_of_lt h (by rw [sizeLine_eq]; decide)
/-! ### a list that grows -/
end Seek

set_option maxRecDepth 100000
set_option maxHeartbeats 4000000
namespace Seek
open PySem PySem.Spec PyProof.Rows L2
def top (i : Nat) : Stmt := PySem.Challenge.pw_seek_k19_whole_spans_hold.main.body.getD i (.Pass ⟨0, 0, 0, 0⟩)
section
variable {P : Program} {w : World} {K : PySem.W.Frag} {mg : Str → Option Value} {base : Heap} {f : Addr} {fd : FuncData}

/-! ### a number is taken out of the box -/
def spTake : Sp := fun vs H Q _ => ∃ (b : Addr) (m : Int), vs = [.ref b, .int m] ∧ BoxAt H b ∧ 0 < m ∧ m < 1073741824 ∧ ∀ (r : Int) (H' : Hp), 0 ≤ r → r < m → BoxAt H' b → Gro [b] H H' → Q (.int r) H'
abbrev s_l_take : Stmt := top 8
theorem sc_l_take : FnScope ["_law_box", "_law_many", "_law_number"] ["_law_box", "_law_many"] (defScope s_l_take) := ⟨rfl, rfl, rfl, by decide +kernel, rfl, by decide +kernel, by decide +kernel⟩
theorem ok_take (F : Fun K "_law_take" "_law_take" s_l_take f fd) : FnOk P w K mg base CX0 1 f fd ["_law_box", "_law_many"] spTake := by
  refine F.ok sc_l_take (fun vs H Q E h => ?_) (fun cdv A outer s H vs Q E hr h => ?_)
  · obtain ⟨b, m, rfl, _⟩ := h
    rfl
  obtain ⟨b, m, rfl, ⟨ns, hb, hl⟩, h0, h1, q⟩ := h
  refine ⟨_, (pss_cons (ps_if (pt_cmpR (op_eqNil hr.units0) (pv 0) (pe_lst pa_nil) (nomark _)) (pss_one (ps_ret pe_int)) pss_nil)
    (pss_cons (ps_set (i := 2) sc_l_take.nd rfl (by first | exact Or.inl rfl | exact Or.inr rfl) (pe_ix ix_list (pv 0) pe_int (fun _ _ => rfl)))
    (pss_cons (ps_asg (pe_op op_fdiv (pv 2) (pv 1)) (pg_sub (pv 0) pe_int set_list))
    (pss_cons (ps_if (PW.pt (pw_or (pt_cmpR op_eq (pe_ix ix_list (pv 0) pe_int (fun _ _ => rfl)) pe_int (nomark _)) (pw_or1 (pt_cmpR op_eq (pe_ix ix_list (pv 0) pe_int (fun _ _ => rfl)) (pe_un un_neg pe_int) (nomark _))))) (pss_one (ps_expr (pe_bm PySem.F.plainAttrs_list PySem.F.slot_list_pop PySem.F.type_list_pop mt_popAt (pv 0) (pa_cons pe_int pa_nil)))) pss_nil)
    (pss_one (ps_ret (pe_op op_mod (pv 2) (pv 1)))))))), ?_⟩
  refine ⟨_, rfl, sz, fun p hp => ?_⟩
  have np : b ≠ p := ne_of_none hb hp
  have g1 : Gro [b] H (upd H p (.lst [])) := Gro.new hp _
  have hb1 : (upd H p (.lst [])) b = some (.lst (ns.map V.int)) := by rw [upd_ne np]; exact hb
  refine ⟨b, p, ns.map V.int, rfl, rfl, SqL.of hb1, SqL.of upd_same, _, rfl, ?_⟩
  cases ns with
  | nil => exact iteT (q 0 _ (Int.le_refl 0) h0 ⟨[], hb1, hl⟩ g1)
  | cons n r =>
    refine iteF ?_
    refine ⟨_, rfl, b, _, _, _, rfl, rfl, SqL.of hb1, at0, ?_⟩
    refine ⟨_, rfl, _, rfl, _, _, rfl, rfl, ⟨h0, h1⟩, ?_⟩
    refine ⟨_, rfl, b, _, _, 0, rfl, rfl, hb1, ix0, ?_⟩
    have hm0 : 0 ≤ n % m := Int.emod_nonneg _ (by omega)
    have hm1 : n % m < m := Int.emod_lt_of_pos _ h0
    generalize hH2 : upd (upd H p (.lst [])) b (.lst ((List.map V.int (n :: r)).set 0 (V.int (n / m)))) = H2
    have hb2 : H2 b = some (.lst (V.int (n / m) :: r.map V.int)) := by rw [← hH2, upd_same]; rfl
    have g2 : Gro [b] H H2 := g1.trans (by rw [← hH2]; exact Gro.set (by simp) hb1 _)
    have box2 : BoxAt H2 b := ⟨n / m :: r, hb2, by simpa using hl⟩
    have hpop : ∀ Q' : V → Hp → Prop, Q' (.int (n / m)) (upd H2 b (.lst (r.map V.int))) → rPopAt (.ref b) [.int 0] H2 Q' := fun Q' hq =>
      ⟨b, _, 0, 0, _, rfl, rfl, hb2, by decide, by decide, seqIndex_of (by omega) (by rw [List.length_cons]; omega), rfl, hq⟩
    have box3 : BoxAt (upd H2 b (.lst (r.map V.int))) b := ⟨r, upd_same, by simp at hl; omega⟩
    have g3 : Gro [b] H (upd H2 b (.lst (r.map V.int))) := g2.trans (Gro.set (by simp) hb2 _)
    have ty2 : tyV K "list" (.ref b) H2 := .inl ⟨rfl, _, SqL.of hb2⟩
    refine ⟨_, rfl, b, _, _, _, rfl, rfl, SqL.of hb2, at0, rfl, _, rfl, ?_⟩
    refine ite2 (fun c => ?_) (fun c => ?_)
    · refine iteT ⟨_, rfl, ty2, ?_⟩
      refine hpop _ ?_
      refine ⟨_, rfl, _, rfl, _, _, rfl, rfl, h0, ?_⟩
      exact q _ _ hm0 hm1 box3 g3
    · refine ⟨_, rfl, b, _, _, _, rfl, rfl, SqL.of hb2, at0, _, rfl, rfl, _, rfl, ?_⟩
      refine ite2 (fun c => ?_) (fun c => ?_)
      · refine ⟨_, rfl, ty2, ?_⟩
        refine hpop _ ?_
        refine ⟨_, rfl, _, rfl, _, _, rfl, rfl, h0, ?_⟩
        exact q _ _ hm0 hm1 box3 g3
      · refine ⟨_, rfl, _, rfl, _, _, rfl, rfl, h0, ?_⟩
        exact q _ _ hm0 hm1 box2 g2

/-! ### a sign, three signs -/
def spSign : Sp := fun vs H Q _ => ∃ c : Int, vs = [.int c] ∧ ∀ s : Str, s.length = 1 → Q (.str s) H
abbrev s_l_sign : Stmt := top 9
theorem sc_l_sign : FnScope ["_law_cell", "_law_some"] ["_law_cell"] (defScope s_l_sign) := ⟨rfl, rfl, rfl, by decide +kernel, rfl, by decide +kernel, by decide +kernel⟩
theorem ok_sign (F : Fun K "_law_sign" "_law_sign" s_l_sign f fd) : FnOk P w K mg base CX0 1 f fd ["_law_cell"] spSign := by
  refine F.ok sc_l_sign (fun vs H Q E h => ?_) (fun cdv A outer s H vs Q E hr h => ?_)
  · obtain ⟨c, rfl, _⟩ := h
    rfl
  obtain ⟨c, rfl, q⟩ := h
  refine ⟨_, (pss_cons (ps_set (i := 1) sc_l_sign.nd rfl (by first | exact Or.inl rfl | exact Or.inr rfl) pe_str)
    (pss_cons (ps_set (i := 1) sc_l_sign.nd rfl (by first | exact Or.inl rfl | exact Or.inr rfl) (pe_op op_add_str (pv 1) pe_str))
    (pss_one (ps_ret (pe_ix ix_str (pv 1) (pe_op op_mod (pv 0) pe_int) (fun _ _ => rfl)))))), ?_⟩
  refine ⟨_, rfl, _, _, rfl, rfl, sz, ?_⟩
  refine ⟨_, rfl, _, rfl, _, _, rfl, rfl, (by decide : (0 : Int) < 94), ?_⟩
  generalize hz : (Str.ofString _ ++ Str.ofString _ : Str) = z
  have hlen : z.cps.toList.length = 94 := by rw [← hz]; decide +kernel
  have h0 : 0 ≤ c % 94 := Int.emod_nonneg _ (by omega)
  have h1 : c % 94 < 94 := Int.emod_lt_of_pos _ (by omega)
  have hlt : (c % 94).toNat < z.cps.toList.length := by omega
  have e : atI z.cps.toList (c % 94) = some (z.cps.toList[(c % 94).toNat]) := by
    have := atI_nat (xs := z.cps.toList) (j := (c % 94).toNat) (List.getElem?_eq_getElem hlt)
    rw [Int.toNat_of_nonneg h0] at this
    exact this
  refine ⟨z, _, _, rfl, rfl, ?_, e, q _ rfl⟩
  have : z.length = 94 := by rw [← hlen]; simp [Str.length]
  rw [this]; exact sz
def spLetters : Sp := fun vs H Q _ => ∃ b : Addr, vs = [.ref b] ∧ BoxAt H b ∧ ∀ (l : Addr) (H' : Hp), BoxAt H' b → LetAt H' l → Gro [b] H H' → Q (.ref l) H'
abbrev s_l_letters : Stmt := top 10
theorem sc_l_letters : FnScope ["_law_box"] ["_law_box"] (defScope s_l_letters) := ⟨rfl, rfl, rfl, by decide +kernel, rfl, by decide +kernel, by decide +kernel⟩
theorem ok_letters (T : Blt mg) (O_l_take : Own P w K mg base 1 "_law_take" ["_law_box", "_law_many"] spTake) (O_l_sign : Own P w K mg base 1 "_law_sign" ["_law_cell"] spSign) (F : Fun K "_law_letters" "_law_letters" s_l_letters f fd) :
    FnOk P w K mg base CX0 2 f fd ["_law_box"] spLetters := by
  refine F.ok sc_l_letters (fun vs H Q E h => ?_) (fun cdv A outer s H vs Q E hr h => ?_)
  · obtain ⟨b, rfl, _⟩ := h
    rfl
  obtain ⟨b, rfl, hb, q⟩ := h
  refine ⟨_, (pss_one (ps_ret (pe_lcomp rfl (show CScope _ ["_law_box"] (defScope s_l_letters) _ from ⟨rfl, by decide +kernel, rfl, by decide +kernel, by decide +kernel, by decide +kernel, by decide +kernel⟩) (pi_range1 rfl T.b_range (pa_cons pe_int pa_nil)) (fun _ _ _ _ => pts_nil) (fun _ _ _ _ => (pe_own (O_l_sign.mono (by omega)) hr rfl (pa_cons (pe_own (O_l_take.mono (by omega)) hr rfl (pa_cons (pv 1) (pa_cons pe_int pa_nil))) pa_nil)))))), ?_⟩
  refine ⟨3, rfl, by decide, by decide, ?_⟩
  refine lc_range (n := 3) (fun i ys H' => (∃ xs : List Str, ys = xs.map V.str ∧ xs.length = i ∧ ∀ x ∈ xs, x.length = 1) ∧ BoxAt H' b ∧ Gro [b] H H') ⟨⟨[], rfl, rfl, by simp⟩, hb, Gro.refl⟩ (small1000 (by decide)) (fun i ys H' ⟨⟨xs, e1, e2, _⟩, _⟩ => by rw [e1, List.length_map, e2]; exact Nat.le_refl _) ?_ ?_
  · rintro i ys H1 hi ⟨⟨xs, rfl, e2, e3⟩, hb1, g1⟩
    refine ⟨_, rfl, b, 94, rfl, hb1, by decide, by decide, fun r H2 h0 h1 hb2 g2 => ?_⟩
    refine ⟨r, rfl, fun s hs => ⟨⟨xs ++ [s], by simp, by simp [e2], fun x hx => ?_⟩, hb2, g1.trans g2⟩⟩
    rcases List.mem_append.mp hx with z | z
    · exact e3 x z
    · rw [List.mem_singleton.mp z]; exact hs
  · rintro ys H1 ⟨⟨xs, rfl, e2, e3⟩, hb1, g1⟩ l hl
    match xs, e2, e3 with
    | [x, y, z], _, e3 =>
      exact q l _ (hb1.new hl) ⟨x, y, z, upd_same, e3 x (by simp), e3 y (by simp), e3 z (by simp)⟩ (g1.trans (Gro.new hl _))
end
end Seek

set_option maxRecDepth 100000
set_option maxHeartbeats 4000000
namespace Seek
open PySem PySem.Spec PyProof.Rows L2
/-! ### the numbers in a pattern -/
def Hd.nm (n : Int) : Hd → Prop
  | .grp k => 1 ≤ k ∧ k ≤ n | .again k => 1 ≤ k ∧ k ≤ n | .hav k => 1 ≤ k ∧ k ≤ n | _ => True
mutual
def Pat.nm (n : Int) : Pat → Prop
  | .node h ks => h.nm n ∧ nmL n ks
def nmL (n : Int) : List Pat → Prop
  | [] => True
  | k :: ks => k.nm n ∧ nmL n ks
end
theorem nmL_iff {n : Int} : ∀ {ks : List Pat}, nmL n ks ↔ ∀ k ∈ ks, k.nm n
  | [] => by simp [nmL]
  | k :: ks => by rw [nmL, nmL_iff (ks := ks)]; simp
theorem nm_node {n : Int} {h : Hd} {ks : List Pat} : (Pat.node h ks).nm n ↔ h.nm n ∧ ∀ k ∈ ks, k.nm n := by rw [Pat.nm, nmL_iff]
theorem Hd.nm_le {n m : Int} (h : n ≤ m) : ∀ {x : Hd}, x.nm n → x.nm m
  | .grp k, q => ⟨q.1, Int.le_trans q.2 h⟩ | .again k, q => ⟨q.1, Int.le_trans q.2 h⟩ | .hav k, q => ⟨q.1, Int.le_trans q.2 h⟩
  | .sign _, _ => trivial | .any, _ => trivial | .inn _, _ => trivial | .out _, _ => trivial | .beg, _ => trivial | .fin, _ => trivial | .row, _ => trivial | .alt, _ => trivial | .times _ _ _, _ => trivial | .look _, _ => trivial
mutual
theorem Pat.nm_le {n m : Int} (h : n ≤ m) : ∀ (p : Pat), p.nm n → p.nm m
  | .node x ks, q => by
    rw [Pat.nm] at q ⊢
    exact ⟨Hd.nm_le h q.1, nmL_le h ks q.2⟩
theorem nmL_le {n m : Int} (h : n ≤ m) : ∀ (ks : List Pat), nmL n ks → nmL m ks
  | [], _ => by rw [nmL]; trivial
  | k :: ks, q => by
    rw [nmL] at q ⊢
    exact ⟨Pat.nm_le h k q.1, nmL_le h ks q.2⟩
end
theorem nm0 {n : Int} {h : Hd} (e : h.nm n) : (Pat.node h []).nm n := nm_node.mpr ⟨e, fun k hk => by simp at hk⟩
theorem nm1 {n : Int} {h : Hd} {p : Pat} (e : h.nm n) (q : p.nm n) : (Pat.node h [p]).nm n := nm_node.mpr ⟨e, fun k hk => by rw [List.mem_singleton.mp hk]; exact q⟩
theorem nm2 {n : Int} {h : Hd} {p p' : Pat} (e : h.nm n) (q : p.nm n) (q' : p'.nm n) : (Pat.node h [p, p']).nm n := nm_node.mpr ⟨e, fun k hk => by
  rcases List.mem_cons.mp hk with rfl | hk
  · exact q
  · rw [List.mem_singleton.mp hk]; exact q'⟩
/-- the count: n groups so far -/
def CntN (H : Hp) (c : Addr) (n : Int) : Prop := ∃ p : Int, H c = some (.lst [.int n, .int p]) ∧ 0 ≤ n ∧ n ≤ 9
theorem CntN.at_ {H : Hp} {c : Addr} {n : Int} (h : CntN H c n) : CntAt H c := by
  obtain ⟨p, e, r⟩ := h
  exact ⟨n, p, e, r⟩
theorem CntN.ne_let {H : Hp} {b l : Addr} {n : Int} (h : CntN H b n) (h' : LetAt H l) : b ≠ l := h.at_.ne_let h'
theorem CntN.gro {S : List Addr} {H H' : Hp} {l : Addr} {n : Int} (h : CntN H l n) (g : Gro S H H') (hl : l ∉ S) : CntN H' l n := by
  obtain ⟨y, e, r⟩ := h
  exact ⟨y, g.keep _ _ e hl, r⟩
theorem CntN.new {H : Hp} {l p : Addr} {o : HO} {n : Int} (h : CntN H l n) (hp : H p = none) : CntN (upd H p o) l n := h.gro (S := []) (Gro.new hp o) (by simp)
section
variable {P : Program} {w : World} {K : PySem.W.Frag} {mg : Str → Option Value} {base : Heap} {f : Addr} {fd : FuncData}
def spRuns : Sp := fun vs H Q _ => ∃ b l : Addr, vs = [.ref b, .ref l] ∧ BoxAt H b ∧ LetAt H l ∧ ∀ (r : Addr) (rs : List (Str × Str)) (H' : Hp), BoxAt H' b → RunsAt H' r rs → 1 ≤ rs.length → rs.length ≤ 2 → Gro [b] H H' → Q (.ref r) H'
abbrev s_l_runs : Stmt := top 13
theorem sc_l_runs : FnScope ["_law_box", "_law_letters_here", "_law_runs_here", "_law_k", "_law_one", "_law_two"] ["_law_box", "_law_letters_here"] (defScope s_l_runs) := ⟨rfl, rfl, rfl, by decide +kernel, rfl, by decide +kernel, by decide +kernel⟩
theorem ok_runs (T : Blt mg) (O_l_take : Own P w K mg base 1 "_law_take" ["_law_box", "_law_many"] spTake) (F : Fun K "_law_runs" "_law_runs" s_l_runs f fd) :
    FnOk P w K mg base CX0 2 f fd ["_law_box", "_law_letters_here"] spRuns := by
  refine F.ok sc_l_runs (fun vs H Q E h => ?_) (fun cdv A outer s H vs Q E hr h => ?_)
  · obtain ⟨b, l, rfl, _⟩ := h
    rfl
  obtain ⟨b, l, rfl, hb, hl, q⟩ := h
  refine ⟨_, (pss_cons (ps_set (i := 2) sc_l_runs.nd rfl (by first | exact Or.inl rfl | exact Or.inr rfl) (pe_lst pa_nil))
    (pss_cons (ps_for PassesOwn.never rfl (pi_range1 rfl T.b_range (pa_cons (pe_op op_add pe_int (pe_own (O_l_take.mono (by omega)) hr rfl (pa_cons (pv 0) (pa_cons pe_int pa_nil)))) pa_nil)) (pg_name (i := 3) sc_l_runs.nd rfl (by first | exact Or.inl rfl | exact Or.inr rfl)) (pss_cons (ps_set (i := 4) sc_l_runs.nd rfl (by first | exact Or.inl rfl | exact Or.inr rfl) (pe_ix ix_list (pv 1) (pe_own (O_l_take.mono (by omega)) hr rfl (pa_cons (pv 0) (pa_cons pe_int pa_nil))) (fun _ _ => rfl)))
    (pss_cons (ps_set (i := 5) sc_l_runs.nd rfl (by first | exact Or.inl rfl | exact Or.inr rfl) (pe_ix ix_list (pv 1) (pe_own (O_l_take.mono (by omega)) hr rfl (pa_cons (pv 0) (pa_cons pe_int pa_nil))) (fun _ _ => rfl)))
    (pss_one (ps_if (pt_cmpR op_gt (pe_callB call_ord rfl T.b_ord PyProof.Rows.Boot.«ord» (pa_cons (pv 4) pa_nil)) (pe_callB call_ord rfl T.b_ord PyProof.Rows.Boot.«ord» (pa_cons (pv 5) pa_nil)) (nomark _)) (pss_one (ps_expr (pe_bm PySem.F.plainAttrs_list PySem.F.slot_list_append PySem.F.type_list_append mt_append (pv 2) (pa_cons (pe_tup (pa_cons (pv 5) (pa_cons (pv 4) pa_nil))) pa_nil)))) (pss_one (ps_expr (pe_bm PySem.F.plainAttrs_list PySem.F.slot_list_append PySem.F.type_list_append mt_append (pv 2) (pa_cons (pe_tup (pa_cons (pv 4) (pa_cons (pv 5) pa_nil))) pa_nil)))))))))
    (pss_one (ps_ret (pe_callTy call_tuple_of rfl T.b_tuple PyProof.Rows.Boot.«tuple» (pa_cons (pv 2) pa_nil)))))), ?_⟩
  have bl : b ≠ l := hb.ne_let hl
  refine ⟨sz, fun a ha => ?_⟩
  refine ⟨_, rfl, b, 2, rfl, hb.new ha, by decide, by decide, fun r H1 h0 h1 hb1 g1 => ?_⟩
  refine ⟨_, _, rfl, rfl, _, rfl, by omega, by omega, ?_⟩
  have g1' : Gro [b] H H1 := (Gro.new ha _).trans g1
  have ha1 : H1 a = some (.lst []) := g1.keep a _ upd_same (by rw [List.mem_singleton]; exact Ne.symm (ne_of_none hb.choose_spec.1 ha))
  refine for_range (fun i σ H' => ∃ (vs : List V) (rs : List (Str × Str)) (k o t : Option V), σ = [some (.ref b), some (.ref l), some (.ref a), k, o, t] ∧ H' a = some (.lst vs) ∧ Paired (RunP H') vs rs ∧ rs.length = i ∧ BoxAt H' b ∧ Gro [b] H H')
    ⟨[], [], none, none, none, rfl, ha1, .nil, rfl, hb1, g1'⟩ ?_ ?_
  · rintro i σ H2 hi ⟨vs, rs, k, o, t, rfl, ha2, hp2, hl2, hb2, g2⟩
    have ba : b ≠ a := ne_of_none hb.choose_spec.1 ha
    have l2 : LetAt H2 l := hl.gro g2 (by simpa using Ne.symm bl)
    refine ⟨_, rfl, _, rfl, b, 3, rfl, hb2, by decide, by decide, fun r3 H3 h30 h31 hb3 g3 => ?_⟩
    have l3 : LetAt H3 l := l2.gro g3 (by simpa using Ne.symm bl)
    refine letS l3 h30 h31 fun s1 hs1 => ?_
    refine ⟨_, rfl, _, rfl, b, 3, rfl, hb3, by decide, by decide, fun r4 H4 h40 h41 hb4 g4 => ?_⟩
    have l4 : LetAt H4 l := l3.gro g4 (by simpa using Ne.symm bl)
    refine letS l4 h40 h41 fun s2 hs2 => ?_
    have g24 := g3.trans g4
    have ha4 : H4 a = some (.lst vs) := g24.keep a _ ha2 (by simpa using Ne.symm ba)
    have hp4 : Paired (RunP H4) vs rs := paired_mono g24.tups hp2
    have hvl : vs.length ≤ 2 := by have := Paired.length hp2; omega
    refine ⟨_, rfl, s1, rfl, hs1, _, rfl, s2, rfl, hs2, _, _, rfl, rfl, _, rfl, ?_⟩
    have fin : ∀ (x y : Str), x.length = 1 → y.length = 1 → ∀ p, H4 p = none → ∃ (vs' : List V) (rs' : List (Str × Str)) (k o t : Option V),
        [some (V.ref b), some (.ref l), some (.ref a), some (.int (0 + (i : Int))), some (.str s1), some (.str s2)] = [some (.ref b), some (.ref l), some (.ref a), k, o, t] ∧ (upd (upd H4 p (.tup [.str x, .str y])) a (.lst (vs ++ [.ref p]))) a = some (.lst vs') ∧
        Paired (RunP (upd (upd H4 p (.tup [.str x, .str y])) a (.lst (vs ++ [.ref p])))) vs' rs' ∧ rs'.length = i + 1 ∧ BoxAt (upd (upd H4 p (.tup [.str x, .str y])) a (.lst (vs ++ [.ref p]))) b ∧ Gro [b] H (upd (upd H4 p (.tup [.str x, .str y])) a (.lst (vs ++ [.ref p]))) := by
      intro x y hx hy p hp
      have hpa : p ≠ a := Ne.symm (ne_of_none ha4 hp)
      have ha5 : (upd H4 p (.tup [.str x, .str y])) a = some (.lst vs) := by rw [upd_ne (Ne.symm hpa)]; exact ha4
      have t5 : Gro [a] H4 (upd (upd H4 p (.tup [.str x, .str y])) a (.lst (vs ++ [.ref p]))) := (Gro.new hp _).trans (Gro.set (by simp) ha5 _)
      refine ⟨vs ++ [.ref p], rs ++ [(x, y)], _, _, _, rfl, upd_same, ?_, by simp [hl2], ?_, ?_⟩
      · exact (paired_mono t5.tups hp4).snoc ⟨hx, hy, p, rfl, by rw [upd_ne hpa]; exact upd_same⟩
      · exact (hb4.new hp).gro (S := [a]) (Gro.set (by simp) ha5 _) (by simpa using ba)
      · exact ((g2.trans g24).tup hp).fresh ha _
    refine ite2 (fun c => ?_) (fun c => ?_)
    · refine ⟨_, rfl, .inl ⟨rfl, _, SqL.of ha4⟩, _, rfl, _, rfl, sz, fun p hp => ?_⟩
      refine ⟨a, vs, _, rfl, rfl, by rw [upd_ne (ne_of_none ha4 hp)]; exact ha4, small1000 (by omega), ?_⟩
      exact fin s2 s1 hs2 hs1 p hp
    · refine ⟨_, rfl, .inl ⟨rfl, _, SqL.of ha4⟩, _, rfl, _, rfl, sz, fun p hp => ?_⟩
      refine ⟨a, vs, _, rfl, rfl, by rw [upd_ne (ne_of_none ha4 hp)]; exact ha4, small1000 (by omega), ?_⟩
      exact fin s1 s2 hs1 hs2 p hp
  · rintro σ H2 ⟨vs, rs, k, o, t, rfl, ha2, hp2, hl2, hb2, g2⟩
    refine ⟨_, rfl, a, _, rfl, .inl ⟨SqL.of ha2, fun r hr => ?_⟩⟩
    exact q r rs _ (hb2.new hr) ⟨vs, upd_same, paired_mono (Gro.new (S := []) hr _).tups hp2, by omega⟩ (by omega) (by omega) (g2.tup hr)
/-- what a leaf, a pattern promises -/
def spLeaf : Sp := fun vs H Q _ => ∃ (b l c : Addr) (cn : Int), vs = [.ref b, .ref l, .ref c] ∧ BoxAt H b ∧ LetAt H l ∧ CntN H c cn ∧ b ≠ c ∧ ∀ (v : V) (p : Pat) (H' : Hp), BoxAt H' b → PatAt H' 1 v p → p.nm cn → Gro [b] H H' → Q v H'
abbrev s_l_leaf : Stmt := top 14
theorem sc_l_leaf : FnScope ["_law_box", "_law_letters_here", "_law_count", "_law_kind"] ["_law_box", "_law_letters_here", "_law_count"] (defScope s_l_leaf) := ⟨rfl, rfl, rfl, by decide +kernel, rfl, by decide +kernel, by decide +kernel⟩
theorem ok_leaf (T : Blt mg) (O_l_take : Own P w K mg base 1 "_law_take" ["_law_box", "_law_many"] spTake) (O_l_runs : Own P w K mg base 2 "_law_runs" ["_law_box", "_law_letters_here"] spRuns) (F : Fun K "_law_leaf" "_law_leaf" s_l_leaf f fd) :
    FnOk P w K mg base CX0 3 f fd ["_law_box", "_law_letters_here", "_law_count"] spLeaf := by
  refine F.ok sc_l_leaf (fun vs H Q E h => ?_) (fun cdv A outer s H vs Q E hr h => ?_)
  · obtain ⟨b, l, c, cn, rfl, _⟩ := h
    rfl
  obtain ⟨b, l, c, cn, rfl, hb, hl, hc, bc, q⟩ := h
  refine ⟨_, (pss_cons (ps_set (i := 3) sc_l_leaf.nd rfl (by first | exact Or.inl rfl | exact Or.inr rfl) (pe_own (O_l_take.mono (by omega)) hr rfl (pa_cons (pv 0) (pa_cons pe_int pa_nil))))
    (pss_cons (ps_if (pt_cmpR op_lt (pv 3) pe_int (nomark _)) (pss_one (ps_ret (pe_tup (pa_cons pe_str (pa_cons (pe_ix ix_list (pv 1) (pe_own (O_l_take.mono (by omega)) hr rfl (pa_cons (pv 0) (pa_cons pe_int pa_nil))) (fun _ _ => rfl)) pa_nil))))) pss_nil)
    (pss_cons (ps_if (pt_cmpR op_eq (pv 3) pe_int (nomark _)) (pss_one (ps_ret (pe_tup (pa_cons pe_str pa_nil)))) pss_nil)
    (pss_cons (ps_if (pt_cmpR op_lt (pv 3) pe_int (nomark _)) (pss_one (ps_ret (pe_tup (pa_cons (pe_ix ix_list (pe_lst (pa_cons pe_str (pa_cons pe_str pa_nil))) (pe_op op_sub (pv 3) pe_int) (fun _ _ => rfl)) (pa_cons (pe_own (O_l_runs.mono (by omega)) hr rfl (pa_cons (pv 0) (pa_cons (pv 1) pa_nil))) pa_nil))))) pss_nil)
    (pss_cons (ps_if (PW.pt (pw_or (pt_cmpR op_eq (pv 3) pe_int (nomark _)) (pw_or (pt_cmpR op_eq (pe_ix ix_list (pv 2) pe_int (fun _ _ => rfl)) pe_int (nomark _)) (pw_or1 (pt_cmpR op_eq (pe_ix ix_list (pv 2) pe_int (fun _ _ => rfl)) pe_int (nomark _)))))) (pss_one (ps_ret (pe_tup (pa_cons (pe_ix ix_list (pe_lst (pa_cons pe_str (pa_cons pe_str pa_nil))) (pe_own (O_l_take.mono (by omega)) hr rfl (pa_cons (pv 0) (pa_cons pe_int pa_nil))) (fun _ _ => rfl)) pa_nil)))) pss_nil)
    (pss_one (ps_ret (pe_tup (pa_cons pe_str (pa_cons (pe_op op_add pe_int (pe_own (O_l_take.mono (by omega)) hr rfl (pa_cons (pv 0) (pa_cons (pe_ix ix_list (pv 2) pe_int (fun _ _ => rfl)) pa_nil)))) pa_nil)))))))))), ?_⟩
  have bl : b ≠ l := hb.ne_let hl
  have lS : l ∉ [b] := by simpa using Ne.symm bl
  have cS : c ∉ [b] := by simpa using Ne.symm bc
  refine ⟨_, rfl, b, 8, rfl, hb, by decide, by decide, fun k H1 h0 h1 hb1 g1 => ?_⟩
  have l1 := hl.gro g1 lS
  have c1 := hc.gro g1 cS
  refine ⟨_, rfl, _, _, rfl, rfl, _, rfl, ite2 (fun _ => ?_) (fun k3 => ?_)⟩
  · refine ⟨_, rfl, _, rfl, b, 3, rfl, hb1, by decide, by decide, fun r H2 h20 h21 hb2 g2 => ?_⟩
    refine letS (l1.gro g2 lS) h20 h21 fun s hs => ⟨sz, fun p hp => ?_⟩
    exact q _ (.node (.sign s) []) _ (hb2.new hp) ⟨p, [], rfl, ⟨rfl, hs, upd_same⟩, .nil⟩ (nm0 trivial) ((g1.trans g2).tup hp)
  refine ⟨_, rfl, rfl, _, rfl, ite2 (fun _ => ?_) (fun k4 => ?_)⟩
  · exact ⟨sz, fun p hp => q _ (.node .any []) _ (hb1.new hp) ⟨p, [], rfl, ⟨rfl, upd_same⟩, .nil⟩ (nm0 trivial) (g1.tup hp)⟩
  refine ⟨_, rfl, _, _, rfl, rfl, _, rfl, ite2 (fun k6 => ?_) (fun k6 => ?_)⟩
  · refine ⟨sz, fun a ha => ⟨_, rfl, _, _, rfl, rfl, ?_⟩⟩
    have hk3 : ¬ k < 3 := fun z => k3 (decide_eq_true z)
    have hk4 : ¬ k = 3 := fun z => k4 (decide_eq_true (by rw [z]))
    have hk6 : k < 6 := of_decide_eq_true k6
    have e45 : k = 4 ∨ k = 5 := by omega
    have run : ∀ (word : Str) (hd : List (Str × Str) → Hd), (∀ rs, (hd rs).nm cn) → (∀ H' p r rs, H' p = some (.tup [.str word, .ref r]) → RunsAt H' r rs → Lay H' p (hd rs) []) → ∀ H2 : Hp, H2 = upd H1 a (.lst [.str "in", .str "out"]) →
        (tCall spRuns [] E0 (tCons (tVar 0) (tCons (tVar 1) tNil))) [some (.ref b), some (.ref l), some (.ref c), some (.int k)] H2 (fun x H3 => (tNil) [some (.ref b), some (.ref l), some (.ref c), some (.int k)] H3 fun xs H4 => (V.str word :: x :: xs).length ≤ sizeLine ∧ ∀ p, H4 p = none → Q (.ref p) (upd H4 p (.tup (V.str word :: x :: xs)))) := by
      rintro word hd hnm lay H2 rfl
      refine ⟨_, rfl, _, rfl, b, l, rfl, hb1.new ha, l1.new ha, fun r rs H3 hb3 hr3 _ _ g3 => ⟨sz, fun p hp => ?_⟩⟩
      exact q _ (.node (hd rs) []) _ (hb3.new hp) ⟨p, [], rfl, lay _ _ _ _ upd_same (hr3.mono (Gro.new (S := []) hp _).tups), .nil⟩ (nm0 (hnm rs)) (((g1.tup ha).trans g3).tup hp)
    rcases e45 with rfl | rfl
    · exact ⟨a, _, _, _, rfl, rfl, SqL.of upd_same, rfl, run "in" .inn (fun _ => trivial) (fun H' p r rs e h => ⟨rfl, r, e, h⟩) _ rfl⟩
    · exact ⟨a, _, _, _, rfl, rfl, SqL.of upd_same, rfl, run "out" .out (fun _ => trivial) (fun H' p r rs e h => ⟨rfl, r, e, h⟩) _ rfl⟩
  obtain ⟨cp, hcl, hcn⟩ := c1
  have bare : (tTup (tCons (tOp (rIxL K) (tLst (tCons (tC (.str "begin")) (tCons (tC (.str "end")) tNil))) (tCall spTake [] E0 (tCons (tVar 0) (tCons (tC (.int 2)) tNil)))) tNil)) [some (.ref b), some (.ref l), some (.ref c), some (.int k)] H1 Q := by
    refine ⟨sz, fun a ha => ⟨_, rfl, b, 2, rfl, hb1.new ha, by decide, by decide, fun r H2 h20 h21 hb2 g2 => ?_⟩⟩
    have ha2 : H2 a = some (.lst [.str "begin", .str "end"]) := g2.keep a _ upd_same (by simpa using Ne.symm (ne_of_none hb1.choose_spec.1 ha))
    have e01 : r = 0 ∨ r = 1 := by omega
    rcases e01 with rfl | rfl
    · exact ⟨a, _, _, _, rfl, rfl, SqL.of ha2, rfl, sz, fun p hp => q _ (.node .beg []) _ (hb2.new hp) ⟨p, [], rfl, ⟨rfl, upd_same⟩, .nil⟩ (nm0 trivial) (((g1.tup ha).trans g2).tup hp)⟩
    · exact ⟨a, _, _, _, rfl, rfl, SqL.of ha2, rfl, sz, fun p hp => q _ (.node .fin []) _ (hb2.new hp) ⟨p, [], rfl, ⟨rfl, upd_same⟩, .nil⟩ (nm0 trivial) (((g1.tup ha).trans g2).tup hp)⟩
  refine ⟨_, rfl, rfl, _, rfl, ite2 (fun _ => iteT bare) (fun _ => ?_)⟩
  refine ⟨_, rfl, c, _, _, _, rfl, rfl, SqL.of hcl, rfl, rfl, _, rfl, ite2 (fun _ => iteT bare) (fun c0 => ?_)⟩
  refine ⟨_, rfl, c, _, _, _, rfl, rfl, SqL.of hcl, rfl, rfl, _, rfl, ite2 (fun _ => bare) (fun _ => ?_)⟩
  have cn0 : ¬ cn = 0 := fun z => c0 (decide_eq_true (by rw [z]))
  refine ⟨_, rfl, _, rfl, c, _, _, _, rfl, rfl, SqL.of hcl, rfl, b, cn, rfl, hb1, by omega, by omega, fun r H2 h20 h21 hb2 g2 => ?_⟩
  refine ⟨_, _, rfl, rfl, sz, fun p hp => ?_⟩
  exact q _ (.node (.again (1 + r)) []) _ (hb2.new hp) ⟨p, [], rfl, ⟨⟨by omega, by omega⟩, rfl, upd_same⟩, .nil⟩ (nm0 ⟨by omega, by omega⟩) ((g1.trans g2).tup hp)
end
end Seek

set_option maxRecDepth 100000
set_option maxHeartbeats 4000000
namespace Seek
open PySem PySem.Spec PyProof.Rows L2
section
variable {P : Program} {w : World} {K : PySem.W.Frag} {mg : Str → Option Value} {base : Heap} {f : Addr} {fd : FuncData}
/-- a pattern of less than n levels -/
def spPat (n : Nat) : Sp := fun vs H Q _ => ∃ (b l c : Addr) (cn : Int) (d : Nat), d < n ∧ vs = [.ref b, .ref l, .ref c, .int d] ∧ BoxAt H b ∧ LetAt H l ∧ CntN H c cn ∧ b ≠ c ∧
  ∀ (v : V) (p : Pat) (H' : Hp) (cm : Int), BoxAt H' b → CntN H' c cm → cn ≤ cm → p.nm cm → PatS H' (2 * d + 1) v p → Gro [b, c] H H' → Q v H'
def spParts (n : Nat) : Sp := fun vs H Q _ => ∃ (b l c : Addr) (cn : Int) (d : Nat) (wd : Str), d < n ∧ vs = [.ref b, .ref l, .ref c, .int ((d : Int) + 1), .str wd] ∧ (wd = "row" ∨ wd = "or") ∧ BoxAt H b ∧ LetAt H l ∧ CntN H c cn ∧ b ≠ c ∧
  ∀ (v : V) (p : Pat) (H' : Hp) (cm : Int), BoxAt H' b → CntN H' c cm → cn ≤ cm → p.nm cm → PatS H' (2 * d + 3) v p → Gro [b, c] H H' → Q v H'
def spTimes (n : Nat) : Sp := fun vs H Q _ => ∃ (b l c : Addr) (cn : Int) (d : Nat), d < n ∧ vs = [.ref b, .ref l, .ref c, .int ((d : Int) + 1)] ∧ BoxAt H b ∧ LetAt H l ∧ CntN H c cn ∧ b ≠ c ∧
  ∀ (v : V) (p : Pat) (H' : Hp) (cm : Int), BoxAt H' b → CntN H' c cm → cn ≤ cm → p.nm cm → PatS H' (2 * d + 3) v p → Gro [b, c] H H' → Q v H'
abbrev s_l_parts : Stmt := top 15
theorem sc_l_parts : FnScope ["_law_box", "_law_letters_here", "_law_count", "_law_deep", "_law_word", "_law_parts_here", "_law_k", "_law_part"] ["_law_box", "_law_letters_here", "_law_count", "_law_deep", "_law_word"] (defScope s_l_parts) := ⟨rfl, rfl, rfl, by decide +kernel, rfl, by decide +kernel, by decide +kernel⟩
theorem ok_parts {n : Nat} (T : Blt mg) (O_l_take : Own P w K mg base 1 "_law_take" ["_law_box", "_law_many"] spTake) (O_l_pattern : Own P w K mg base (4 + 2 * n) "_law_pattern" ["_law_box", "_law_letters_here", "_law_count", "_law_deep"] (spPat n)) (F : Fun K "_law_parts" "_law_parts" s_l_parts f fd) :
    FnOk P w K mg base CX0 (4 + 2 * n + 1) f fd ["_law_box", "_law_letters_here", "_law_count", "_law_deep", "_law_word"] (spParts n) := by
  refine F.ok sc_l_parts (fun vs H Q E h => ?_) (fun cdv A outer s H vs Q E hr h => ?_)
  · obtain ⟨b, l, c, cn, d, wd, _, rfl, _⟩ := h
    rfl
  obtain ⟨b, l, c, cn, d, wd, hd, rfl, hwd, hb, hl, hc, bc, q⟩ := h
  refine ⟨_, (pss_cons (ps_set (i := 5) sc_l_parts.nd rfl (by first | exact Or.inl rfl | exact Or.inr rfl) (pe_lst pa_nil))
    (pss_cons (ps_for PassesOwn.never rfl (pi_range1 rfl T.b_range (pa_cons (pe_op op_add pe_int (pe_op op_mul (pe_callTy call_int1 rfl T.b_int PyProof.Rows.Boot.«int» (pa_cons (pe_cmpR op_gt (pv 3) pe_int (nomark _)) pa_nil)) (pe_own (O_l_take.mono (by omega)) hr rfl (pa_cons (pv 0) (pa_cons pe_int pa_nil))))) pa_nil)) (pg_name (i := 6) sc_l_parts.nd rfl (by first | exact Or.inl rfl | exact Or.inr rfl)) (pss_cons (ps_set (i := 7) sc_l_parts.nd rfl (by first | exact Or.inl rfl | exact Or.inr rfl) (pe_own (O_l_pattern.mono (by omega)) hr rfl (pa_cons (pv 0) (pa_cons (pv 1) (pa_cons (pv 2) (pa_cons (pe_op op_sub (pv 3) pe_int) pa_nil))))))
    (pss_cons (ps_if (pt_cmpR op_eq (pe_ix ix_tup (pv 7) pe_int (fun _ _ => rfl)) (pv 4) (nomark _)) (pss_one (ps_set (i := 7) sc_l_parts.nd rfl (by first | exact Or.inl rfl | exact Or.inr rfl) (pe_tup (pa_cons pe_str (pa_cons pe_int (pa_cons pe_int (pa_cons pe_str (pa_cons (pv 7) pa_nil)))))))) pss_nil)
    (pss_one (ps_expr (pe_bm PySem.F.plainAttrs_list PySem.F.slot_list_append PySem.F.type_list_append mt_append (pv 5) (pa_cons (pv 7) pa_nil)))))))
    (pss_one (ps_ret (pe_tup (pa_cons (pv 4) (pa_cons (pe_callTy call_tuple_of rfl T.b_tuple PyProof.Rows.Boot.«tuple» (pa_cons (pv 5) pa_nil)) pa_nil))))))), ?_⟩
  have bl : b ≠ l := hb.ne_let hl
  have cl : c ≠ l := hc.ne_let hl
  have lS : l ∉ [b, c] := by simp only [List.mem_cons, List.not_mem_nil, or_false, not_or]; exact ⟨Ne.symm bl, Ne.symm cl⟩
  have hd1 : (d : Int) + 1 - 1 = d := by omega
  refine ⟨sz, fun a ha => ?_⟩
  have ba : b ≠ a := ne_of_none hb.choose_spec.1 ha
  have ca : c ≠ a := by obtain ⟨_, e, _⟩ := hc; exact ne_of_none e ha
  have aS : a ∉ [b, c] := by simp only [List.mem_cons, List.not_mem_nil, or_false, not_or]; exact ⟨Ne.symm ba, Ne.symm ca⟩
  refine ⟨_, rfl, _, _, rfl, rfl, .inr ⟨_, rfl, _, rfl, b, 2, rfl, hb.new ha, by decide, by decide, fun r H1 h0 h1 hb1 g1 => ?_⟩⟩
  have g1' : Gro [b, c] H H1 := (Gro.new ha _).trans (g1.mono (by simp))
  have ha1 : H1 a = some (.lst []) := g1.keep a _ upd_same (by simpa using Ne.symm ba)
  have hc1 : CntN H1 c cn := (hc.new ha).gro g1 (by simpa using Ne.symm bc)
  generalize hj : (if decide ((2 : Int) < (d : Int) + 1) = true then (1 : Int) else 0) = jj
  have hjj : jj = 0 ∨ jj = 1 := by rw [← hj]; split <;> simp
  refine ⟨_, _, rfl, rfl, .inl (by rcases hjj with z | z <;> rw [z] <;> constructor <;> decide), _, _, rfl, rfl, ?_⟩
  have hm : 0 ≤ jj * r ∧ jj * r ≤ 1 := by rcases hjj with z | z <;> rw [z] <;> omega
  generalize hmm : jj * r = mm at hm
  refine ⟨_, rfl, by omega, by omega, ?_⟩
  refine for_range (fun i σ H' => ∃ (vs : List V) (ps : List Pat) (cx : Int) (k pt : Option V), σ = [some (.ref b), some (.ref l), some (.ref c), some (.int ((d : Int) + 1)), some (.str wd), some (.ref a), k, pt] ∧ H' a = some (.lst vs) ∧
      Paired (PatAt H' (2 * d + 2)) vs ps ∧ sizeL ps ≤ i * (B (2 * d + 1) + 1) ∧ vs.length = i ∧ BoxAt H' b ∧ CntN H' c cx ∧ cn ≤ cx ∧ (∀ z ∈ ps, z.nm cx) ∧ Gro [b, c] H H')
    ⟨[], [], cn, none, none, rfl, ha1, .nil, by simp [sizeL], rfl, hb1, hc1, Int.le_refl _, fun z hz => by simp at hz, g1'⟩ ?_ ?_
  · rintro i σ H2 hi ⟨vs, ps, cx, k, pt, rfl, ha2, hp2, hsz, hl2, hb2, hc2, hcx, hnx, g2⟩
    have l2 : LetAt H2 l := hl.gro g2 lS
    refine ⟨_, rfl, _, rfl, _, rfl, _, rfl, _, _, rfl, rfl, b, l, c, _, d, hd, congrArg (fun z => [V.ref b, V.ref l, V.ref c, V.int z]) hd1, hb2, l2, hc2, bc, fun v p H3 cm hb3 hc3 hcm hnm hp3 g3 => ?_⟩
    have g23 := g2.trans g3
    have ha3 : H3 a = some (.lst vs) := g3.keep a _ ha2 aS
    have hps3 := pats_mono g3.tups hp2
    obtain ⟨hp3, hs3⟩ := hp3
    obtain ⟨av, x, r', rfl, hv⟩ := hp3.head
    have fin : ∀ (v' : V) (p' : Pat) (H4 : Hp), p'.nm cm → H4 a = some (.lst vs) → Gro [b, c] H H4 → BoxAt H4 b → CntN H4 c cm → (∀ b xs, H3 b = some (.tup xs) → H4 b = some (.tup xs)) → PatAt H4 (2 * d + 2) v' p' → p'.size ≤ B (2 * d + 1) + 1 →
        ∃ (vs' : List V) (ps' : List Pat) (cx' : Int) (k' pt' : Option V), [some (V.ref b), some (.ref l), some (.ref c), some (.int ((d : Int) + 1)), some (.str wd), some (.ref a), some (.int (0 + (i : Int))), some v'] = [some (V.ref b), some (.ref l), some (.ref c), some (.int ((d : Int) + 1)), some (.str wd), some (.ref a), k', pt'] ∧
          (upd H4 a (.lst (vs ++ [v']))) a = some (.lst vs') ∧ Paired (PatAt (upd H4 a (.lst (vs ++ [v']))) (2 * d + 2)) vs' ps' ∧ sizeL ps' ≤ (i + 1) * (B (2 * d + 1) + 1) ∧ vs'.length = i + 1 ∧ BoxAt (upd H4 a (.lst (vs ++ [v']))) b ∧ CntN (upd H4 a (.lst (vs ++ [v']))) c cx' ∧ cn ≤ cx' ∧ (∀ z ∈ ps', z.nm cx') ∧ Gro [b, c] H (upd H4 a (.lst (vs ++ [v']))) := by
      intro v' p' H4 hn4 ha4 g4 hb4 hc4 t4 hp4 hs4
      have t5 : Gro [a] H4 (upd H4 a (.lst (vs ++ [v']))) := Gro.set (by simp) ha4 _
      refine ⟨vs ++ [v'], ps ++ [p'], cm, _, _, rfl, upd_same, (pats_mono t5.tups (pats_mono t4 hps3)).snoc (hp4.mono t5.tups), by rw [sizeL_append, sizeL_one, Nat.add_mul]; omega, by simp [hl2], hb4.gro t5 (by simpa using ba), hc4.gro t5 (by simpa using ca), by omega, fun z hz => ?_, g4.fresh ha _⟩
      rcases List.mem_append.mp hz with hz | hz
      · exact Pat.nm_le hcm z (hnx z hz)
      · rw [List.mem_singleton.mp hz]; exact hn4
    refine ⟨_, rfl, av, _, _, _, rfl, rfl, SqT.of hv, at0, _, rfl, rfl, _, rfl, ite2 (fun _ => ?_) (fun _ => ?_)⟩
    · refine ⟨_, rfl, sz, fun p1 hp1 => ?_⟩
      have ha4 : (upd H3 p1 (.tup [.str "times", .int 1, .int 1, .str "much", .ref av])) a = some (.lst vs) := by rw [upd_ne (ne_of_none ha3 hp1)]; exact ha3
      refine ⟨_, rfl, .inl ⟨rfl, _, SqL.of ha4⟩, _, rfl, a, vs, _, rfl, rfl, ha4, small1000 (by omega), ?_⟩
      refine fin _ (.node (.times 1 (some 1) .much) [p]) _ (nm1 trivial hnm) ha4 (g23.tup hp1) (hb3.new hp1) (hc3.new hp1) (Gro.new (S := []) hp1 _).tups ⟨p1, [.ref av], rfl, ⟨⟨by decide, by decide, fun h e => by cases e; decide⟩, _, rfl, upd_same⟩, .cons (hp3.mono (Gro.new (S := []) hp1 _).tups) .nil⟩ (by rw [size_node, sizeL_one]; omega)
    · refine ⟨_, rfl, .inl ⟨rfl, _, SqL.of ha3⟩, _, rfl, a, vs, _, rfl, rfl, ha3, small1000 (by omega), ?_⟩
      exact fin _ p _ hnm ha3 g23 hb3 hc3 (fun _ _ e => e) (hp3.deep (by omega)) (by omega)
  · rintro σ H2 ⟨vs, ps, cx, k, pt, rfl, ha2, hp2, hsz, hl2, hb2, hc2, hcx, hnx, g2⟩
    refine ⟨_, rfl, _, rfl, a, _, rfl, .inl ⟨SqL.of ha2, fun r2 hr2 => ⟨sz, fun p1 hp1 => ?_⟩⟩⟩
    have g3 : Gro [] H2 (upd (upd H2 r2 (.tup vs)) p1 (.tup [.str wd, .ref r2])) := (Gro.new hr2 _).tup hp1
    have e1 : (upd (upd H2 r2 (.tup vs)) p1 (.tup [.str wd, .ref r2])) r2 = some (.tup vs) := by rw [upd_ne (ne_of_none upd_same hp1)]; exact upd_same
    have hps : 1 + sizeL ps ≤ B (2 * d + 3) := by
      have h1 := B_pos (2 * d + 1)
      rw [show 2 * d + 3 = 2 * d + 1 + 1 + 1 from rfl, B_succ, B_succ]
      have h3 : sizeL ps ≤ 3 * (B (2 * d + 1) + 1) := Nat.le_trans hsz (Nat.mul_le_mul_right _ (by omega))
      omega
    rcases hwd with rfl | rfl
    · exact q _ (.node .row ps) _ cx (hb2.gro g3 (by simp)) (hc2.gro g3 (by simp)) hcx (nm_node.mpr ⟨trivial, hnx⟩) ⟨⟨p1, vs, rfl, ⟨by omega, r2, upd_same, e1⟩, pats_mono g3.tups hp2⟩, by rw [size_node]; exact hps⟩ ((g2.tup hr2).tup hp1)
    · exact q _ (.node .alt ps) _ cx (hb2.gro g3 (by simp)) (hc2.gro g3 (by simp)) hcx (nm_node.mpr ⟨trivial, hnx⟩) ⟨⟨p1, vs, rfl, ⟨by omega, by omega, r2, upd_same, e1⟩, pats_mono g3.tups hp2⟩, by rw [size_node]; exact hps⟩ ((g2.tup hr2).tup hp1)
/-- the last row of times -/
def cutTimes (b l c : Addr) (cn : Int) (d : Nat) (H : Hp) : TS := fun D σ H1 => ∃ (lo : Int) (hi : Option Int) (how : How), σ = [some (.ref b), some (.ref l), some (.ref c), some (.int ((d : Int) + 1)), some (.int lo), some (optV hi), some (.str how.text)] ∧
  0 ≤ lo ∧ lo ≤ 2 ∧ (∀ h, hi = some h → 1 ≤ h ∧ h ≤ 4) ∧ BoxAt H1 b ∧ LetAt H1 l ∧ CntN H1 c cn ∧ Gro [b] H H1 ∧ ∀ (v : V) (p : Pat) (H' : Hp) (cm : Int), BoxAt H' b → CntN H' c cm → cn ≤ cm → p.nm cm → PatS H' (2 * d + 3) v p → Gro [b, c] H H' → D.rt v H'
abbrev s_l_times : Stmt := top 16
theorem sc_l_times : FnScope ["_law_box", "_law_letters_here", "_law_count", "_law_deep", "_law_low", "_law_high", "_law_how"] ["_law_box", "_law_letters_here", "_law_count", "_law_deep"] (defScope s_l_times) := ⟨rfl, rfl, rfl, by decide +kernel, rfl, by decide +kernel, by decide +kernel⟩
theorem ok_times {n : Nat} (T : Blt mg) (O_l_take : Own P w K mg base 1 "_law_take" ["_law_box", "_law_many"] spTake) (O_l_pattern : Own P w K mg base (4 + 2 * n) "_law_pattern" ["_law_box", "_law_letters_here", "_law_count", "_law_deep"] (spPat n)) (F : Fun K "_law_times" "_law_times" s_l_times f fd) :
    FnOk P w K mg base CX0 (4 + 2 * n + 1) f fd ["_law_box", "_law_letters_here", "_law_count", "_law_deep"] (spTimes n) := by
  refine F.ok sc_l_times (fun vs H Q E h => ?_) (fun cdv A outer s H vs Q E hr h => ?_)
  · obtain ⟨b, l, c, cn, d, _, rfl, _⟩ := h
    rfl
  obtain ⟨b, l, c, cn, d, hd, rfl, hb, hl, hc, bc, q⟩ := h
  have bl : b ≠ l := hb.ne_let hl
  have lS : l ∉ [b] := by simpa using Ne.symm bl
  have cS : c ∉ [b] := by simpa using Ne.symm bc
  have hd1 : (d : Int) + 1 - 1 = d := by omega
  refine ⟨_, (pss_cons (ps_set (i := 4) sc_l_times.nd rfl (by first | exact Or.inl rfl | exact Or.inr rfl) (pe_own (O_l_take.mono (by omega)) hr rfl (pa_cons (pv 0) (pa_cons pe_int pa_nil))))
    (pss_cons (ps_set (i := 5) sc_l_times.nd rfl (by first | exact Or.inl rfl | exact Or.inr rfl) (pe_ix ix_list (pe_lst (pa_cons pe_non (pa_cons (pe_op op_add (pv 4) pe_int) (pa_cons (pe_op op_add (pv 4) pe_int) (pa_cons (pe_callB (call_max2 rfl) rfl T.b_max PyProof.Rows.Boot.«max» (pa_cons (pv 4) (pa_cons pe_int pa_nil))) pa_nil))))) (pe_own (O_l_take.mono (by omega)) hr rfl (pa_cons (pv 0) (pa_cons pe_int pa_nil))) (fun _ _ => rfl)))
    (pss_cons (ps_set (i := 6) sc_l_times.nd rfl (by first | exact Or.inl rfl | exact Or.inr rfl) (pe_ix ix_list (pe_lst (pa_cons pe_str (pa_cons pe_str (pa_cons pe_str pa_nil)))) (pe_own (O_l_take.mono (by omega)) hr rfl (pa_cons (pv 0) (pa_cons pe_int pa_nil))) (fun _ _ => rfl)))
    (pss_cons (ps_if (PW.pt (pw_and (pt_cmpR op_eq (pv 6) pe_str (nomark _)) (pw_and1 (pt_cmpR op_eq (pe_ix ix_list (pv 2) pe_int (fun _ _ => rfl)) pe_int (nomark _))))) (pss_one (ps_set (i := 6) sc_l_times.nd rfl (by first | exact Or.inl rfl | exact Or.inr rfl) pe_str)) pss_nil)
    (pss_cut (cutTimes b l c cn d H) (pss_one (ps_ret (pe_tup (pa_cons pe_str (pa_cons (pv 4) (pa_cons (pv 5) (pa_cons (pv 6) (pa_cons (pe_own (O_l_pattern.mono (by omega)) hr rfl (pa_cons (pv 0) (pa_cons (pv 1) (pa_cons (pv 2) (pa_cons (pe_op op_sub (pv 3) pe_int) pa_nil))))) pa_nil)))))))) (fun D1 σ1 H1 hcut => ?cut4)))))), ?_⟩
  case cut4 =>
    obtain ⟨lo, hi, how, rfl, h0, h1, hh, hb1, hl1, hc1, g1, q⟩ := hcut
    refine ⟨_, rfl, _, rfl, _, rfl, _, rfl, _, rfl, _, rfl, _, rfl, _, _, rfl, rfl, b, l, c, _, d, hd, congrArg (fun z => [V.ref b, V.ref l, V.ref c, V.int z]) hd1, hb1, hl1, hc1, bc, fun v p H3 cm hb3 hc3 hcm hnm hp3 g3 => ⟨sz, fun p1 hp1 => ?_⟩⟩
    refine q _ (.node (.times lo hi how) [p]) _ cm (hb3.new hp1) (hc3.new hp1) hcm (nm1 trivial hnm) ⟨⟨p1, [v], rfl, ⟨⟨h0, by omega, fun h e => by have := hh h e; omega⟩, v, rfl, upd_same⟩, .cons ((hp3.1.mono (Gro.new (S := []) hp1 _).tups).deep (by omega)) .nil⟩, one_size hp3.2 (by omega)⟩ (((g1.mono (by simp)).trans g3).tup hp1)
  refine ⟨_, rfl, b, 3, rfl, hb, by decide, by decide, fun lo H1 h0 h1 hb1 g1 => ?_⟩
  refine ⟨_, rfl, _, _, rfl, rfl, _, rfl, _, _, rfl, rfl, _, rfl, _, _, rfl, sz, fun a ha => ?_⟩
  have ba : b ≠ a := ne_of_none hb1.choose_spec.1 ha
  refine ⟨_, rfl, b, 4, rfl, hb1.new ha, by decide, by decide, fun r H2 h20 h21 hb2 g2 => ?_⟩
  have ha2 := g2.keep a _ (upd_same (H := H1)) (by simpa using Ne.symm ba)
  have high : ∃ hi : Option Int, (∀ h, hi = some h → 1 ≤ h ∧ h ≤ 4) ∧ atI [V.non, V.int (lo + 1), V.int (lo + 2), V.int (if (1 : Int) > lo then 1 else lo)] r = some (optV hi) := by
    have : r = 0 ∨ r = 1 ∨ r = 2 ∨ r = 3 := by omega
    rcases this with rfl | rfl | rfl | rfl
    · exact ⟨none, (fun h e => by cases e), rfl⟩
    · exact ⟨some (lo + 1), (fun h e => by cases e; omega), rfl⟩
    · exact ⟨some (lo + 2), (fun h e => by cases e; omega), rfl⟩
    · exact ⟨some (if (1 : Int) > lo then 1 else lo), (fun h e => by cases e; split <;> omega), rfl⟩
  obtain ⟨hi, hhi, ehi⟩ := high
  refine ⟨a, _, _, _, rfl, rfl, SqL.of ha2, ehi, sz, fun a2 ha2n => ?_⟩
  have ba2 : b ≠ a2 := ne_of_none hb2.choose_spec.1 ha2n
  refine ⟨_, rfl, b, 3, rfl, hb2.new ha2n, by decide, by decide, fun r2 H3 h30 h31 hb3 g3 => ?_⟩
  have ha3 := g3.keep a2 _ (upd_same (H := H2)) (by simpa using Ne.symm ba2)
  have g13 : Gro [b] H H3 := ((g1.tup ha).trans (g2.tup ha2n)).trans g3
  have hl3 := hl.gro g13 lS
  have hc3 := hc.gro g13 cS
  obtain ⟨cp, hcl, hcn⟩ := id hc3
  have howE : ∃ how : How, atI [V.str "much", V.str "little", V.str "keep"] r2 = some (.str how.text) := by
    have : r2 = 0 ∨ r2 = 1 ∨ r2 = 2 := by omega
    rcases this with rfl | rfl | rfl
    · exact ⟨.much, rfl⟩
    · exact ⟨.little, rfl⟩
    · exact ⟨.keep, rfl⟩
  obtain ⟨how, ehow⟩ := howE
  refine ⟨a2, _, _, _, rfl, rfl, SqL.of ha3, ehow, ?_⟩
  have q' : ∀ (v : V) (p : Pat) (H' : Hp) (cm : Int), BoxAt H' b → CntN H' c cm → cn ≤ cm → p.nm cm → PatS H' (2 * d + 3) v p → Gro [b, c] H H' → Q v H' := q
  refine ⟨_, rfl, rfl, _, rfl, ite2 (fun _ => ?_) (fun _ => iteF ⟨lo, hi, how, rfl, h0, by omega, hhi, hb3, hl3, hc3, g13, q'⟩)⟩
  refine ⟨_, rfl, c, _, _, _, rfl, rfl, SqL.of hcl, rfl, rfl, _, rfl, ite2 (fun _ => ?_) (fun _ => ⟨lo, hi, how, rfl, h0, by omega, hhi, hb3, hl3, hc3, g13, q'⟩)⟩
  exact ⟨lo, hi, .much, rfl, h0, by omega, hhi, hb3, hl3, hc3, g13, q'⟩
end
end Seek

set_option maxRecDepth 100000
set_option maxHeartbeats 4000000
namespace Seek
open PySem PySem.Spec PyProof.Rows L2
section
variable {P : Program} {w : World} {K : PySem.W.Frag} {mg : Str → Option Value} {base : Heap} {f : Addr} {fd : FuncData}
def cutPat (b l c : Addr) (cn : Int) (d : Nat) (H : Hp) : TS := fun D σ H1 => ∃ k : Int, σ = [some (.ref b), some (.ref l), some (.ref c), some (.int d), some (.int k), none, none, none] ∧ 2 ≤ k ∧ k < 12 ∧ 1 ≤ d ∧ BoxAt H1 b ∧ LetAt H1 l ∧ CntN H1 c cn ∧ Gro [b] H H1 ∧
  ∀ (v : V) (p : Pat) (H' : Hp) (cm : Int), BoxAt H' b → CntN H' c cm → cn ≤ cm → p.nm cm → PatS H' (2 * d + 1) v p → Gro [b, c] H H' → D.rt v H'
abbrev s_l_pattern : Stmt := top 17
theorem sc_l_pattern : FnScope ["_law_box", "_law_letters_here", "_law_count", "_law_deep", "_law_kind", "_law_number", "_law_yes", "_law_word"] ["_law_box", "_law_letters_here", "_law_count", "_law_deep"] (defScope s_l_pattern) := ⟨rfl, rfl, rfl, by decide +kernel, rfl, by decide +kernel, by decide +kernel⟩
theorem ok_pattern {n : Nat} (T : Blt mg) (O_l_take : Own P w K mg base 1 "_law_take" ["_law_box", "_law_many"] spTake) (O_l_leaf : Own P w K mg base 3 "_law_leaf" ["_law_box", "_law_letters_here", "_law_count"] spLeaf) (O_l_parts : Own P w K mg base (4 + 2 * n + 1) "_law_parts" ["_law_box", "_law_letters_here", "_law_count", "_law_deep", "_law_word"] (spParts n))
    (O_l_times : Own P w K mg base (4 + 2 * n + 1) "_law_times" ["_law_box", "_law_letters_here", "_law_count", "_law_deep"] (spTimes n)) (O_l_pattern : Own P w K mg base (4 + 2 * n) "_law_pattern" ["_law_box", "_law_letters_here", "_law_count", "_law_deep"] (spPat n)) (F : Fun K "_law_pattern" "_law_pattern" s_l_pattern f fd) :
    FnOk P w K mg base CX0 (4 + 2 * n + 1 + 1) f fd ["_law_box", "_law_letters_here", "_law_count", "_law_deep"] (spPat (n + 1)) := by
  refine F.ok sc_l_pattern (fun vs H Q E h => ?_) (fun cdv A outer s H vs Q E hr h => ?_)
  · obtain ⟨b, l, c, cn, d, _, rfl, _⟩ := h
    rfl
  obtain ⟨b, l, c, cn, d, hd, rfl, hb, hl, hc, bc, q⟩ := h
  have bl : b ≠ l := hb.ne_let hl
  have cl : c ≠ l := hc.ne_let hl
  have lS : l ∉ [b] := by simpa using Ne.symm bl
  have cS : c ∉ [b] := by simpa using Ne.symm bc
  have lS2 : l ∉ [b, c] := by simp only [List.mem_cons, List.not_mem_nil, or_false, not_or]; exact ⟨Ne.symm bl, Ne.symm cl⟩
  refine ⟨_, (pss_cons (ps_set (i := 4) sc_l_pattern.nd rfl (by first | exact Or.inl rfl | exact Or.inr rfl) (pe_own (O_l_take.mono (by omega)) hr rfl (pa_cons (pv 0) (pa_cons pe_int pa_nil))))
    (pss_cons (ps_if (PW.pt (pw_or (pt_cmpR op_eq (pv 3) pe_int (nomark _)) (pw_or1 (pt_cmpR op_lt (pv 4) pe_int (nomark _))))) (pss_one (ps_ret (pe_own (O_l_leaf.mono (by omega)) hr rfl (pa_cons (pv 0) (pa_cons (pv 1) (pa_cons (pv 2) pa_nil)))))) pss_nil)
    (pss_cons (ps_if (PW.pt (pw_and (pt_cmpR op_eq (pv 4) pe_int (nomark _)) (pw_and1 (pt_cmpR op_eq (pe_own (O_l_take.mono (by omega)) hr rfl (pa_cons (pv 0) (pa_cons pe_int pa_nil))) pe_int (nomark _))))) (pss_one (ps_ret (pe_tup (pa_cons pe_str (pa_cons (pe_tup pa_nil) pa_nil))))) pss_nil)
    (pss_cut (cutPat b l c cn d H) (pss_cons (ps_if (pt_cmpR op_lt (pv 4) pe_int (nomark _)) (pss_one (ps_ret (pe_own (O_l_parts.mono (by omega)) hr rfl (pa_cons (pv 0) (pa_cons (pv 1) (pa_cons (pv 2) (pa_cons (pv 3) (pa_cons (pe_ix ix_list (pe_lst (pa_cons pe_str (pa_cons pe_str pa_nil))) (pe_op op_fdiv (pv 4) pe_int) (fun _ _ => rfl)) pa_nil)))))))) pss_nil)
    (pss_cons (ps_if (pt_cmpR op_lt (pv 4) pe_int (nomark _)) (pss_one (ps_ret (pe_own (O_l_times.mono (by omega)) hr rfl (pa_cons (pv 0) (pa_cons (pv 1) (pa_cons (pv 2) (pa_cons (pv 3) pa_nil))))))) pss_nil)
    (pss_cons (ps_if (PW.pt (pw_or (pt_cmpR op_eq (pv 4) pe_int (nomark _)) (pw_or1 (pt_cmpR op_eq (pe_ix ix_list (pv 2) pe_int (fun _ _ => rfl)) pe_int (nomark _))))) (pss_cons (ps_if (pt_cmpR op_eq (pe_ix ix_list (pv 2) pe_int (fun _ _ => rfl)) pe_int (nomark _)) (pss_one (ps_ret (pe_tup (pa_cons pe_str pa_nil)))) pss_nil)
    (pss_cons (ps_asg (pe_op op_add (pe_ix ix_list (pv 2) pe_int (fun _ _ => rfl)) pe_int) (pg_sub (pv 2) pe_int set_list))
    (pss_cons (ps_set (i := 5) sc_l_pattern.nd rfl (by first | exact Or.inl rfl | exact Or.inr rfl) (pe_ix ix_list (pv 2) pe_int (fun _ _ => rfl)))
    (pss_one (ps_ret (pe_tup (pa_cons pe_str (pa_cons (pv 5) (pa_cons (pe_own (O_l_pattern.mono (by omega)) hr rfl (pa_cons (pv 0) (pa_cons (pv 1) (pa_cons (pv 2) (pa_cons (pe_op op_sub (pv 3) pe_int) pa_nil))))) pa_nil))))))))) pss_nil)
    (pss_cons (ps_if (PW.pt (pw_and (pt_cmpR op_eq (pv 4) pe_int (nomark _)) (pw_and1 (pt_cmpR op_gt (pe_ix ix_list (pv 2) pe_int (fun _ _ => rfl)) pe_int (nomark _))))) (pss_cons (ps_set (i := 5) sc_l_pattern.nd rfl (by first | exact Or.inl rfl | exact Or.inr rfl) (pe_op op_add pe_int (pe_own (O_l_take.mono (by omega)) hr rfl (pa_cons (pv 0) (pa_cons (pe_ix ix_list (pv 2) pe_int (fun _ _ => rfl)) pa_nil)))))
    (pss_cons (ps_set (i := 6) sc_l_pattern.nd rfl (by first | exact Or.inl rfl | exact Or.inr rfl) (pe_own (O_l_pattern.mono (by omega)) hr rfl (pa_cons (pv 0) (pa_cons (pv 1) (pa_cons (pv 2) (pa_cons (pe_op op_sub (pv 3) pe_int) pa_nil))))))
    (pss_one (ps_ret (pe_tup (pa_cons pe_str (pa_cons (pv 5) (pa_cons (pv 6) (pa_cons (pe_own (O_l_pattern.mono (by omega)) hr rfl (pa_cons (pv 0) (pa_cons (pv 1) (pa_cons (pv 2) (pa_cons (pe_op op_sub (pv 3) pe_int) pa_nil))))) pa_nil))))))))) pss_nil)
    (pss_cons (ps_set (i := 7) sc_l_pattern.nd rfl (by first | exact Or.inl rfl | exact Or.inr rfl) (pe_ix ix_list (pe_lst (pa_cons pe_str (pa_cons pe_str (pa_cons pe_str (pa_cons pe_str (pa_cons pe_str pa_nil)))))) (pe_own (O_l_take.mono (by omega)) hr rfl (pa_cons (pv 0) (pa_cons pe_int pa_nil))) (fun _ _ => rfl)))
    (pss_one (ps_ret (pe_tup (pa_cons (pv 7) (pa_cons (pe_own (O_l_pattern.mono (by omega)) hr rfl (pa_cons (pv 0) (pa_cons (pv 1) (pa_cons (pv 2) (pa_cons (pe_op op_sub (pv 3) pe_int) pa_nil))))) pa_nil)))))))))) (fun D1 σ1 H1 hcut => ?cut3))))), ?_⟩
  case cut3 =>
    obtain ⟨k, rfl, hk2, hk12, hd1, hb1, hl1, hc1, g1, q⟩ := hcut
    obtain ⟨e, rfl⟩ : ∃ e, d = e + 1 := ⟨d - 1, by omega⟩
    have he : e < n := by omega
    have ea : ((e + 1 : Nat) : Int) - 1 = e := by omega
    have g1c : Gro [b, c] H H1 := g1.mono (by simp)
    obtain ⟨cp, hcl, hcn⟩ := id hc1
    -- kind < 6
    refine ⟨_, rfl, _, _, rfl, rfl, _, rfl, ite2 (fun k6 => ?_) (fun k6 => ?_)⟩
    · have hk6 : k < 6 := of_decide_eq_true k6
      refine ⟨_, rfl, _, rfl, _, rfl, _, rfl, sz, fun a ha => ⟨_, rfl, _, _, rfl, rfl, ⟨by decide, by decide⟩, ?_⟩⟩
      have e01 : k / 4 = 0 ∨ k / 4 = 1 := by omega
      have go : ∀ wd : Str, (wd = "row" ∨ wd = "or") → spParts n ([V.ref b, V.ref l, V.ref c, V.int ((e + 1 : Nat) : Int), V.str wd] ++ []) (upd H1 a (.lst [.str "row", .str "or"])) D1.rt E0 := fun wd hwd =>
        ⟨b, l, c, cn, e, wd, he, rfl, hwd, hb1.new ha, hl1.new ha, hc1.new ha, bc, fun v p H' cm hb' hc' hcm hnm hp' g' => q v p H' cm hb' hc' hcm hnm (hp'.deep (by omega)) ((g1c.tup ha).trans g')⟩
      rcases e01 with z | z
      · exact ⟨a, _, _, _, rfl, rfl, SqL.of upd_same, (by rw [z]; rfl), go "row" (.inl rfl)⟩
      · exact ⟨a, _, _, _, rfl, rfl, SqL.of upd_same, (by rw [z]; rfl), go "or" (.inr rfl)⟩
    -- kind < 9
    refine ⟨_, rfl, _, _, rfl, rfl, _, rfl, ite2 (fun _ => ?_) (fun _ => ?_)⟩
    · exact ⟨_, rfl, _, rfl, _, rfl, _, rfl, b, l, c, cn, e, he, rfl, hb1, hl1, hc1, bc, fun v p H' cm hb' hc' hcm hnm hp' g' => q v p H' cm hb' hc' hcm hnm (hp'.deep (by omega)) (g1c.trans g')⟩
    -- kind == 9 or count[1] == 1
    dsimp only [tNext, tSeq, tIfS]
    refine or_any (fun R h1 h2 => ⟨_, rfl, rfl, _, rfl, bool2 h1 h2⟩) (fun R h1 h2 => ⟨_, rfl, c, _, _, _, rfl, rfl, SqL.of hcl, rfl, rfl, _, rfl, bool2 h1 h2⟩) (iteT ?_) (iteF ?_)
    · refine ⟨_, rfl, c, _, _, _, rfl, rfl, SqL.of hcl, rfl, rfl, _, rfl, ite2 (fun _ => ?_) (fun c9 => ?_)⟩
      · exact ⟨sz, fun p hp => q _ (.node .any []) _ cn (hb1.new hp) (hc1.new hp) (Int.le_refl _) (nm0 trivial) ⟨⟨p, [], rfl, ⟨rfl, upd_same⟩, .nil⟩, nil_size⟩ (g1c.tup hp)⟩
      have hcn9 : ¬ cn = 9 := fun z => c9 (decide_eq_true (by rw [z]))
      refine ⟨_, rfl, c, _, _, _, rfl, rfl, SqL.of hcl, rfl, _, _, rfl, rfl, _, rfl, c, _, _, 0, rfl, rfl, hcl, rfl, ?_⟩
      have gs : Gro [c] H1 (upd H1 c (.lst [.int (cn + 1), .int cp])) := Gro.set (by simp) hcl _
      have hc2 : CntN (upd H1 c (.lst [.int (cn + 1), .int cp])) c (cn + 1) := ⟨cp, upd_same, by omega, by omega⟩
      have hb2 : BoxAt (upd H1 c (.lst [.int (cn + 1), .int cp])) b := hb1.gro gs (by simpa using bc)
      have hl2 : LetAt (upd H1 c (.lst [.int (cn + 1), .int cp])) l := hl1.gro gs (by simpa using Ne.symm cl)
      refine ⟨_, rfl, c, _, _, _, rfl, rfl, SqL.of upd_same, rfl, ?_⟩
      refine ⟨_, rfl, _, rfl, _, rfl, _, rfl, _, rfl, _, _, rfl, rfl, b, l, c, _, e, he, congrArg (fun z => [V.ref b, V.ref l, V.ref c, V.int z]) ea, hb2, hl2, hc2, bc, fun v p H' cm hb' hc' hcm hnm hp' g' => ⟨sz, fun p1 hp1 => ?_⟩⟩
      exact q _ (.node (.grp (cn + 1)) [p]) _ cm (hb'.new hp1) (hc'.new hp1) (by omega) (nm1 ⟨by omega, hcm⟩ hnm) ⟨⟨p1, [v], rfl, ⟨⟨by omega, by omega⟩, v, rfl, upd_same⟩, .cons ((hp'.1.mono (Gro.new (S := []) hp1 _).tups).deep (by omega)) .nil⟩, one_size hp'.2 (by omega)⟩ (((g1c.trans (gs.mono (by simp))).trans g').tup hp1)
    -- the last two rows
    have looks : ∀ (H2 : Hp), BoxAt H2 b → LetAt H2 l → CntN H2 c cn → Gro [b] H H2 → ∀ kk : Option V, (tSeq (tAsg (tOp (rIxL K) (tLst (tCons (tC (.str "once")) (tCons (tC (.str "ahead")) (tCons (tC (.str "notahead")) (tCons (tC (.str "behind")) (tCons (tC (.str "notbehind")) tNil)))))) (tCall spTake [] E0 (tCons (tVar 0) (tCons (tC (.int 5)) tNil)))) (gName 7))
        (tRet (tTup (tCons (tVar 7) (tCons (tCall (spPat n) [] E0 (tCons (tVar 0) (tCons (tVar 1) (tCons (tVar 2) (tCons (tOp (rI0 fun i j => .int (i - j)) (tVar 3) (tC (.int 1))) tNil))))) tNil))))) D1 [some (.ref b), some (.ref l), some (.ref c), some (.int ((e + 1 : Nat) : Int)), kk, none, none, none] H2 := by
      intro H2 hb2 hl2 hc2 g2 kk
      refine ⟨sz, fun a ha => ⟨_, rfl, b, 5, rfl, hb2.new ha, by decide, by decide, fun r H3 h30 h31 hb3 g3 => ?_⟩⟩
      have ba : b ≠ a := ne_of_none hb2.choose_spec.1 ha
      have ha3 := g3.keep a _ (upd_same (H := H2)) (by simpa using Ne.symm ba)
      have lw : ∃ lk : Lk, atI [V.str "once", V.str "ahead", V.str "notahead", V.str "behind", V.str "notbehind"] r = some (.str lk.text) := by
        have : r = 0 ∨ r = 1 ∨ r = 2 ∨ r = 3 ∨ r = 4 := by omega
        rcases this with rfl | rfl | rfl | rfl | rfl
        · exact ⟨.once, rfl⟩
        · exact ⟨.ahead, rfl⟩
        · exact ⟨.notahead, rfl⟩
        · exact ⟨.behind, rfl⟩
        · exact ⟨.notbehind, rfl⟩
      obtain ⟨lk, elk⟩ := lw
      have g23 : Gro [b] H H3 := (g2.tup ha).trans g3
      refine ⟨a, _, _, _, rfl, rfl, SqL.of ha3, elk, _, rfl, _, rfl, _, rfl, _, rfl, _, rfl, _, _, rfl, rfl, b, l, c, _, e, he, congrArg (fun z => [V.ref b, V.ref l, V.ref c, V.int z]) ea, hb3, hl.gro g23 lS, hc.gro g23 cS, bc, fun v p H' cm hb' hc' hcm hnm hp' g' => ⟨sz, fun p1 hp1 => ?_⟩⟩
      exact q _ (.node (.look lk) [p]) _ cm (hb'.new hp1) (hc'.new hp1) hcm (nm1 trivial hnm) ⟨⟨p1, [v], rfl, ⟨v, rfl, upd_same⟩, .cons ((hp'.1.mono (Gro.new (S := []) hp1 _).tups).deep (by omega)) .nil⟩, one_size hp'.2 (by omega)⟩ (((g23.mono (by simp)).trans g').tup hp1)
    -- kind == 10 and count[0] > 0
    refine ⟨_, rfl, rfl, _, rfl, ite2 (fun _ => ?_) (fun _ => iteF (looks H1 hb1 hl1 hc1 g1 _))⟩
    refine ⟨_, rfl, c, _, _, _, rfl, rfl, SqL.of hcl, rfl, _, _, rfl, rfl, _, rfl, ite2 (fun c0 => ?_) (fun _ => looks H1 hb1 hl1 hc1 g1 _)⟩
    have hc0 : 0 < cn := of_decide_eq_true c0
    refine ⟨_, rfl, _, rfl, c, _, _, _, rfl, rfl, SqL.of hcl, rfl, b, cn, rfl, hb1, hc0, by omega, fun r H2 h20 h21 hb2 g2 => ⟨_, _, rfl, rfl, ?_⟩⟩
    have g12 := g1.trans g2
    refine ⟨_, rfl, _, rfl, _, rfl, _, rfl, _, _, rfl, rfl, b, l, c, _, e, he, congrArg (fun z => [V.ref b, V.ref l, V.ref c, V.int z]) ea, hb2, hl.gro g12 lS, hc.gro g12 cS, bc, fun v1 p1 H3 cm3 hb3 hc3 hcm3 hnm3 hp3 g3 => ?_⟩
    have g13 : Gro [b, c] H H3 := (g12.mono (by simp)).trans g3
    refine ⟨_, rfl, _, rfl, _, rfl, _, rfl, _, rfl, _, rfl, _, _, rfl, rfl, b, l, c, _, e, he, congrArg (fun z => [V.ref b, V.ref l, V.ref c, V.int z]) ea, hb3, hl.gro g13 lS2, hc3, bc, fun v2 p2 H4 cm4 hb4 hc4 hcm4 hnm4 hp4 g4 => ⟨sz, fun p5 hp5 => ?_⟩⟩
    have t5 := (Gro.new (S := []) hp5 (.tup [.str "have", .int (1 + r), v1, v2])).tups
    exact q _ (.node (.hav (1 + r)) [p1, p2]) _ cm4 (hb4.new hp5) (hc4.new hp5) (by omega) (nm2 ⟨by omega, by omega⟩ (Pat.nm_le hcm4 _ hnm3) hnm4) ⟨⟨p5, [v1, v2], rfl, ⟨⟨by omega, by omega⟩, v1, v2, rfl, upd_same⟩, .cons (((hp3.1.mono g4.tups).mono t5).deep (by omega)) (.cons ((hp4.1.mono t5).deep (by omega)) .nil)⟩, two_size hp3.2 hp4.2 (by omega)⟩ ((g13.trans g4).tup hp5)
  refine ⟨_, rfl, b, 12, rfl, hb, by decide, by decide, fun k H1 h0 h1 hb1 g1 => ?_⟩
  have l1 := hl.gro g1 lS
  have c1 := hc.gro g1 cS
  have lf : (tCall spLeaf [] E0 (tCons (tVar 0) (tCons (tVar 1) (tCons (tVar 2) tNil)))) [some (.ref b), some (.ref l), some (.ref c), some (.int d), some (.int k), none, none, none] H1 Q :=
    ⟨_, rfl, _, rfl, _, rfl, b, l, c, cn, rfl, hb1, l1, c1, bc, fun v p H' hb' hp hnm g => q v p H' cn hb' (c1.gro g cS) (Int.le_refl _) hnm (hp.leafS.deep (by omega)) ((g1.trans g).mono (by simp))⟩
  refine ⟨_, rfl, rfl, _, rfl, ite2 (fun _ => iteT lf) (fun d0 => ⟨_, rfl, _, _, rfl, rfl, _, rfl, ite2 (fun _ => lf) (fun k2 => ?_)⟩)⟩
  have hd1 : 1 ≤ d := by
    cases d with
    | zero => exact absurd (decide_eq_true rfl) d0
    | succ e => omega
  have hk2 : 2 ≤ k := by
    have : ¬ k < 2 := fun z => k2 (decide_eq_true z)
    omega
  refine ⟨_, rfl, rfl, _, rfl, ite2 (fun _ => ?_) (fun _ => iteF ⟨k, rfl, hk2, h1, hd1, hb1, l1, c1, g1, q⟩)⟩
  refine ⟨_, rfl, b, 5, rfl, hb1, by decide, by decide, fun r H2 h20 h21 hb2 g2 => ⟨rfl, _, rfl, ite2 (fun _ => ?_) (fun _ => ⟨k, rfl, hk2, h1, hd1, hb2, l1.gro g2 lS, c1.gro g2 cS, g1.trans g2, q⟩)⟩⟩
  refine ⟨sz, fun r1 hr1 => ⟨sz, fun p1 hp1 => ?_⟩⟩
  have g3 : Gro [b, c] H2 (upd (upd H2 r1 (.tup [])) p1 (.tup [.str "row", .ref r1])) := (Gro.new hr1 _).tup hp1
  refine q _ (.node .row []) _ cn ((hb2.new hr1).new hp1) (((c1.gro g2 cS).new hr1).new hp1) (Int.le_refl _) (nm0 trivial) ⟨⟨p1, [], rfl, ⟨by simp, r1, upd_same, by rw [upd_ne (ne_of_none upd_same hp1)]; exact upd_same⟩, .nil⟩, nil_size⟩ (((g1.trans g2).mono (by simp)).trans g3)
theorem own_pattern (T : Blt mg) (O_l_take : Own P w K mg base 1 "_law_take" ["_law_box", "_law_many"] spTake) (O_l_leaf : Own P w K mg base 3 "_law_leaf" ["_law_box", "_law_letters_here", "_law_count"] spLeaf) (D1 : Def K mg "_law_parts" s_l_parts ["_law_box", "_law_letters_here", "_law_count", "_law_deep", "_law_word"]) (D2 : Def K mg "_law_times" s_l_times ["_law_box", "_law_letters_here", "_law_count", "_law_deep"]) (D3 : Def K mg "_law_pattern" s_l_pattern ["_law_box", "_law_letters_here", "_law_count", "_law_deep"]) :
    ∀ n, Own P w K mg base (4 + 2 * n) "_law_pattern" ["_law_box", "_law_letters_here", "_law_count", "_law_deep"] (spPat n)
  | 0 => D3.own fun f fd F => FnOk.never fun vs H Q E h => by
    obtain ⟨_, _, _, _, d, hd, _⟩ := h
    omega
  | n + 1 => by
    have ih := own_pattern T O_l_take O_l_leaf D1 D2 D3 n
    exact D3.own fun f fd F => ok_pattern T O_l_take O_l_leaf (D1.own fun f fd F => ok_parts T O_l_take ih F) (D2.own fun f fd F => ok_times T O_l_take ih F) ih F
end
end Seek

set_option maxRecDepth 100000
set_option maxHeartbeats 4000000
namespace Seek
open PySem PySem.Spec PyProof.Rows L2
section
variable {P : Program} {w : World} {K : PySem.W.Frag} {mg : Str → Option Value} {base : Heap} {f : Addr} {fd : FuncData}
/-! ### a drawn pattern, with as many nones as it has groups -/
def spDrawn : Sp := fun vs H Q _ => ∃ (b l : Addr) (pl : Int), vs = [.ref b, .ref l, .int pl] ∧ BoxAt H b ∧ LetAt H l ∧ ∀ (t g : Addr) (v : V) (p : Pat) (n : Nat) (H' : Hp), BoxAt H' b → H' t = some (.tup [v, .ref g]) → H' g = some (.tup (List.replicate n .non)) → n ≤ 9 → p.nm n → PatS H' 7 v p → Gro [b] H H' → Q (.ref t) H'
def cutDrawn (b l c : Addr) (pl : Int) (H : Hp) : TS := fun D σ H1 => ∃ (v : V) (p : Pat) (cn : Int) (one two : Option V), σ = [some (.ref b), some (.ref l), some (.int pl), some (.ref c), some v, one, two] ∧ PatS H1 7 v p ∧ p.nm cn ∧ BoxAt H1 b ∧ CntN H1 c cn ∧ Gro [b] H H1 ∧
  ∀ (t g : Addr) (v : V) (p : Pat) (n : Nat) (H' : Hp), BoxAt H' b → H' t = some (.tup [v, .ref g]) → H' g = some (.tup (List.replicate n .non)) → n ≤ 9 → p.nm n → PatS H' 7 v p → Gro [b] H H' → D.rt (.ref t) H'
abbrev s_l_drawn : Stmt := top 18
theorem sc_l_drawn : FnScope ["_law_box", "_law_letters_here", "_law_plain", "_law_count", "_law_p", "_law_one", "_law_two"] ["_law_box", "_law_letters_here", "_law_plain"] (defScope s_l_drawn) := ⟨rfl, rfl, rfl, by decide +kernel, rfl, by decide +kernel, by decide +kernel⟩
theorem ok_drawn (T : Blt mg) (O_l_take : Own P w K mg base 1 "_law_take" ["_law_box", "_law_many"] spTake) (O_l_runs : Own P w K mg base 2 "_law_runs" ["_law_box", "_law_letters_here"] spRuns) (O_l_pattern : Own P w K mg base 12 "_law_pattern" ["_law_box", "_law_letters_here", "_law_count", "_law_deep"] (spPat 4)) (F : Fun K "_law_drawn" "_law_drawn" s_l_drawn f fd) :
    FnOk P w K mg base CX0 13 f fd ["_law_box", "_law_letters_here", "_law_plain"] spDrawn := by
  refine F.ok sc_l_drawn (fun vs H Q E h => ?_) (fun cdv A outer s H vs Q E hr h => ?_)
  · obtain ⟨b, l, pl, rfl, _⟩ := h
    rfl
  obtain ⟨b, l, pl, rfl, hb, hl, q⟩ := h
  have bl : b ≠ l := hb.ne_let hl
  have lS : l ∉ [b] := by simpa using Ne.symm bl
  refine ⟨_, (pss_cons (ps_set (i := 3) sc_l_drawn.nd rfl (by first | exact Or.inl rfl | exact Or.inr rfl) (pe_lst (pa_cons pe_int (pa_cons (pv 2) pa_nil))))
    (pss_cons (ps_set (i := 4) sc_l_drawn.nd rfl (by first | exact Or.inl rfl | exact Or.inr rfl) (pe_own (O_l_pattern.mono (by omega)) hr rfl (pa_cons (pv 0) (pa_cons (pv 1) (pa_cons (pv 3) (pa_cons pe_int pa_nil))))))
    (pss_cons (ps_if (PW.pt (pw_and (pt_cmpR op_eq (pe_own (O_l_take.mono (by omega)) hr rfl (pa_cons (pv 0) (pa_cons pe_int pa_nil))) pe_int (nomark _)) (pw_and1 (pt_cmpR op_eq (pv 2) pe_int (nomark _))))) (pss_cons (ps_set (i := 5) sc_l_drawn.nd rfl (by first | exact Or.inl rfl | exact Or.inr rfl) (pe_tup (pa_cons pe_str (pa_cons (pe_tup (pa_cons (pe_tup (pa_cons pe_str (pa_cons pe_int pa_nil))) (pa_cons (pe_tup (pa_cons pe_str (pa_cons (pe_ix ix_list (pv 1) (pe_own (O_l_take.mono (by omega)) hr rfl (pa_cons (pv 0) (pa_cons pe_int pa_nil))) (fun _ _ => rfl)) pa_nil))) pa_nil))) pa_nil))))
    (pss_cons (ps_set (i := 6) sc_l_drawn.nd rfl (by first | exact Or.inl rfl | exact Or.inr rfl) (pe_tup (pa_cons pe_str (pa_cons pe_int (pa_cons (pe_tup (pa_cons pe_str (pa_cons (pe_own (O_l_runs.mono (by omega)) hr rfl (pa_cons (pv 0) (pa_cons (pv 1) pa_nil))) pa_nil))) pa_nil)))))
    (pss_cons (ps_set (i := 4) sc_l_drawn.nd rfl (by first | exact Or.inl rfl | exact Or.inr rfl) (pe_tup (pa_cons pe_str (pa_cons pe_int (pa_cons pe_non (pa_cons (pe_ix ix_list (pe_lst (pa_cons pe_str (pa_cons pe_str pa_nil))) (pe_own (O_l_take.mono (by omega)) hr rfl (pa_cons (pv 0) (pa_cons pe_int pa_nil))) (fun _ _ => rfl)) (pa_cons (pe_tup (pa_cons pe_str (pa_cons (pe_tup (pa_cons (pv 5) (pa_cons (pv 6) pa_nil))) pa_nil))) pa_nil)))))))
    (pss_one (ps_asg pe_int (pg_sub (pv 3) pe_int set_list)))))) pss_nil)
    (pss_cut (fun D σ H1 => ∃ c, cutDrawn b l c pl H D σ H1) (pss_one (ps_ret (pe_tup (pa_cons (pv 4) (pa_cons (pe_callTy call_tuple_of rfl T.b_tuple PyProof.Rows.Boot.«tuple» (pa_cons (pe_lcomp rfl (show CScope _ ["_law_box", "_law_letters_here", "_law_plain", "_law_count", "_law_p", "_law_one", "_law_two"] (defScope s_l_drawn) _ from ⟨rfl, by decide +kernel, rfl, by decide +kernel, by decide +kernel, by decide +kernel, by decide +kernel⟩) (pi_range1 rfl T.b_range (pa_cons (pe_ix ix_list (pv 3) pe_int (fun _ _ => rfl)) pa_nil)) (fun _ _ _ _ => pts_nil) (fun _ _ _ _ => pe_non)) pa_nil)) pa_nil))))) (fun D1 σ1 H1 hcut => ?cut3))))), ?_⟩
  case cut3 =>
    obtain ⟨c, v, p, cn, one, two, rfl, hp, hnm, hb1, ⟨cp, hcl, hcn⟩, g1, q⟩ := hcut
    refine ⟨_, rfl, _, rfl, c, _, _, _, rfl, rfl, SqL.of hcl, rfl, _, rfl, by omega, by omega, ?_⟩
    refine lc_range (n := cn.toNat) (fun i ys H' => ys = List.replicate i V.non ∧ H' = H1) ⟨rfl, rfl⟩ (small1000 (by omega)) (fun i ys H' ⟨e, _⟩ => by rw [e, List.length_replicate]; exact Nat.le_refl _) ?_ ?_
    · rintro i ys H2 hi ⟨rfl, rfl⟩
      exact ⟨by rw [List.replicate_succ'], rfl⟩
    · rintro ys H2 ⟨rfl, rfl⟩ a ha
      refine ⟨a, _, rfl, .inl ⟨SqL.of upd_same, fun g hg => ⟨sz, fun t ht => ?_⟩⟩⟩
      have gg : Gro [b] H2 (upd (upd (upd H2 a (.lst (List.replicate cn.toNat .non))) g (.tup (List.replicate cn.toNat .non))) t (.tup [v, .ref g])) := ((Gro.new ha _).tup hg).tup ht
      exact q t g v p cn.toNat _ (((hb1.new ha).new hg).new ht) upd_same (by rw [upd_ne (ne_of_none upd_same ht)]; exact upd_same) (by omega) (by rw [show ((cn.toNat : Nat) : Int) = cn by omega]; exact hnm) (hp.mono gg.tups) (g1.trans gg)
  refine ⟨_, rfl, sz, fun c hc => ?_⟩
  have bc : b ≠ c := ne_of_none hb.choose_spec.1 hc
  have cS : c ∉ [b] := by simpa using Ne.symm bc
  refine ⟨_, rfl, _, rfl, _, rfl, b, l, c, 0, 3, by decide, rfl, hb.new hc, hl.new hc, ⟨pl, upd_same, by decide, by decide⟩, bc, fun v p H1 cm hb1 hc1 hcm hnm hp1 g1 => ?_⟩
  have g1' : Gro [b] H H1 := g1.drop hc
  refine ⟨_, rfl, b, 8, rfl, hb1, by decide, by decide, fun r H2 h20 h21 hb2 g2 => ⟨rfl, _, rfl, ?_⟩⟩
  have base2 : cutDrawn b l c pl H { nx := fun _ H' => Q .non H', rt := Q } [some (.ref b), some (.ref l), some (.int pl), some (.ref c), some v, none, none] H2 := ⟨v, p, cm, none, none, rfl, hp1.mono g2.tups, hnm, hb2, hc1.gro g2 cS, g1'.trans g2, q⟩
  refine ite2 (fun _ => ⟨_, rfl, rfl, _, rfl, ite2 (fun _ => ?_) (fun _ => ⟨c, base2⟩)⟩) (fun _ => iteF ⟨c, base2⟩)
  have l2 : LetAt H2 l := (hl.gro g1' lS).gro g2 lS
  -- one
  refine ⟨sz, fun p1 hp1n => ⟨_, rfl, _, rfl, b, 3, rfl, hb2.new hp1n, by decide, by decide, fun r3 H3 h30 h31 hb3 g3 => ?_⟩⟩
  refine letS ((l2.new hp1n).gro g3 lS) h30 h31 fun s hs => ⟨sz, fun p2 hp2 => ⟨sz, fun p3 hp3 => ⟨sz, fun p4 hp4 => ?_⟩⟩⟩
  have e1 : H3 p1 = some (.tup [.str "again", .int 1]) := g3.tups _ _ upd_same
  generalize hH4 : upd (upd (upd H3 p2 (.tup [.str "sign", .str s])) p3 (.tup [.ref p1, .ref p2])) p4 (.tup [.str "row", .ref p3]) = H4
  have g34 : Gro [b] H3 H4 := by rw [← hH4]; exact ((Gro.new hp2 _).tup hp3).tup hp4
  have e4 : H4 p4 = some (.tup [.str "row", .ref p3]) := by rw [← hH4]; exact upd_same
  have e3 : H4 p3 = some (.tup [.ref p1, .ref p2]) := by rw [← hH4, upd_ne (ne_of_none upd_same hp4)]; exact upd_same
  have e2 : H4 p2 = some (.tup [.str "sign", .str s]) := by rw [← hH4, upd_ne (ne_of_none (by rw [upd_ne (ne_of_none upd_same hp3)]; exact upd_same) hp4), upd_ne (ne_of_none upd_same hp3)]; exact upd_same
  have g24 : Gro [b] H2 H4 := ((Gro.new hp1n _).trans g3).trans g34
  have hb4 : BoxAt H4 b := by rw [← hH4]; exact ((hb3.new hp2).new hp3).new hp4
  have l4 := l2.gro g24 lS
  have P1 : PatAt H4 4 (.ref p4) (.node .row [.node (.again 1) [], .node (.sign s) []]) :=
    ⟨p4, [.ref p1, .ref p2], rfl, ⟨by simp, p3, e4, e3⟩, .cons ⟨p1, [], rfl, ⟨⟨by decide, by decide⟩, rfl, g34.tups _ _ e1⟩, .nil⟩ (.cons ⟨p2, [], rfl, ⟨rfl, hs, e2⟩, .nil⟩ .nil)⟩
  -- two
  refine ⟨_, rfl, _, rfl, b, l, rfl, hb4, l4, fun rr rs H5 hb5 hr5 _ _ g5 => ⟨sz, fun p5 hp5 => ⟨sz, fun p6 hp6 => ?_⟩⟩⟩
  generalize hH6 : upd (upd H5 p5 (.tup [.str "in", .ref rr])) p6 (.tup [.str "group", .int 1, .ref p5]) = H6
  have g56 : Gro [b] H5 H6 := by rw [← hH6]; exact (Gro.new hp5 _).tup hp6
  have e6 : H6 p6 = some (.tup [.str "group", .int 1, .ref p5]) := by rw [← hH6]; exact upd_same
  have e5 : H6 p5 = some (.tup [.str "in", .ref rr]) := by rw [← hH6, upd_ne (ne_of_none upd_same hp6)]; exact upd_same
  have hb6 : BoxAt H6 b := by rw [← hH6]; exact (hb5.new hp5).new hp6
  have P2 : PatAt H6 4 (.ref p6) (.node (.grp 1) [.node (.inn rs) []]) := ⟨p6, [.ref p5], rfl, ⟨⟨by decide, by decide⟩, _, rfl, e6⟩, .cons ⟨p5, [], rfl, ⟨rfl, rr, e5, hr5.mono g56.tups⟩, .nil⟩ .nil⟩
  -- p
  refine ⟨sz, fun a ha => ⟨_, rfl, b, 2, rfl, hb6.new ha, by decide, by decide, fun r7 H7 h70 h71 hb7 g7 => ?_⟩⟩
  have ba : b ≠ a := ne_of_none hb6.choose_spec.1 ha
  have ha7 := g7.keep a _ (upd_same (H := H6)) (by simpa using Ne.symm ba)
  have howE : ∃ how : How, atI [V.str "much", V.str "little"] r7 = some (.str how.text) := by
    have : r7 = 0 ∨ r7 = 1 := by omega
    rcases this with rfl | rfl
    · exact ⟨.much, rfl⟩
    · exact ⟨.little, rfl⟩
  obtain ⟨how, ehow⟩ := howE
  refine ⟨a, _, _, _, rfl, rfl, SqL.of ha7, ehow, _, rfl, _, rfl, sz, fun p8 hp8 => ⟨sz, fun p9 hp9 => ⟨sz, fun p10 hp10 => ?_⟩⟩⟩
  generalize hH10 : upd (upd (upd H7 p8 (.tup [.ref p4, .ref p6])) p9 (.tup [.str "or", .ref p8])) p10 (.tup [.str "times", .int 0, .non, .str how.text, .ref p9]) = H10
  have g710 : Gro [b] H7 H10 := by rw [← hH10]; exact ((Gro.new hp8 _).tup hp9).tup hp10
  have e10 : H10 p10 = some (.tup [.str "times", .int 0, .non, .str how.text, .ref p9]) := by rw [← hH10]; exact upd_same
  have e9 : H10 p9 = some (.tup [.str "or", .ref p8]) := by rw [← hH10, upd_ne (ne_of_none upd_same hp10)]; exact upd_same
  have e8 : H10 p8 = some (.tup [.ref p4, .ref p6]) := by rw [← hH10, upd_ne (ne_of_none (by rw [upd_ne (ne_of_none upd_same hp9)]; exact upd_same) hp10), upd_ne (ne_of_none upd_same hp9)]; exact upd_same
  have g67 : Gro [b] H6 H7 := (Gro.new ha _).trans g7
  have g410 : Gro [b] H4 H10 := ((g5.trans g56).trans g67).trans g710
  have g610 : Gro [b] H6 H10 := g67.trans g710
  have hb10 : BoxAt H10 b := by rw [← hH10]; exact ((hb7.new hp8).new hp9).new hp10
  have P3 : PatAt H10 7 (.ref p10) (.node (.times 0 none how) [.node .alt [.node .row [.node (.again 1) [], .node (.sign s) []], .node (.grp 1) [.node (.inn rs) []]]]) :=
    ⟨p10, [.ref p9], rfl, ⟨⟨by decide, by decide, fun h e => by cases e⟩, _, rfl, e10⟩, .cons ⟨p9, [.ref p4, .ref p6], rfl, ⟨by simp, by simp, p8, e9, e8⟩, .cons ((P1.mono g410.tups).deep (by decide)) (.cons ((P2.mono g610.tups).deep (by decide)) .nil)⟩ .nil⟩
  have hc10 : CntN H10 c cm := hc1.gro ((g2.trans g24).trans g410) cS
  obtain ⟨cp, hcl, hcn⟩ := id hc10
  refine ⟨_, rfl, c, _, _, 0, rfl, rfl, hcl, rfl, ?_⟩
  have gs : Gro [c] H10 (upd H10 c (.lst [.int 1, .int cp])) := Gro.set (by simp) hcl _
  refine ⟨c, _, _, 1, _, _, rfl, ⟨P3.mono gs.tups, by simp [size_node, sizeL, B]⟩, nm1 trivial (nm2 trivial (nm2 trivial (nm0 ⟨by decide, by decide⟩) (nm0 trivial)) (nm1 ⟨by decide, by decide⟩ (nm0 trivial))), hb10.gro gs (by simpa using bc), ⟨cp, upd_same, by decide, by decide⟩, ?_, q⟩
  exact (((g1'.trans g2).trans g24).trans g410).fresh hc _
end
end Seek

set_option maxRecDepth 100000
set_option maxHeartbeats 4000000
namespace Seek
open PySem PySem.Spec PyProof.Rows L2
section
variable {P : Program} {w : World} {K : PySem.W.Frag} {mg : Str → Option Value} {base : Heap} {f : Addr} {fd : FuncData}
/-! ### the parts of a pattern, by the program -/
abbrev lastWords : List V := [.str "times", .str "group", .str "once", .str "ahead", .str "notahead", .str "behind", .str "notbehind"]
def spPartsOf : Sp := fun vs H Q _ => ∃ (d : Nat) (v : V) (h : Hd) (ks : List Pat), vs = [v] ∧ PatAt H (d + 1) v (.node h ks) ∧ ∀ (r : Addr) (kv : List V) (H' : Hp), H' r = some (.tup kv) → kv.length ≤ 10 → Paired (PatAt H' d) kv ks → Gro [] H H' → Q (.ref r) H'
abbrev s_parts_of : Stmt := top 4
theorem sc_parts_of : FnScope ["pattern", "kind"] ["pattern"] (defScope s_parts_of) := ⟨rfl, rfl, rfl, by decide +kernel, rfl, by decide +kernel, by decide +kernel⟩
theorem ok_parts_of {pl : Addr} (c_PART_LAST : mg "PART_LAST" = some (.ref pl)) (hPL : ∀ H, SqT K H pl lastWords) (F : Fun K "parts_of" "parts_of" s_parts_of f fd) : FnOk P w K mg base CX0 1 f fd ["pattern"] spPartsOf := by
  refine F.ok sc_parts_of (fun vs H Q E h => ?_) (fun cdv A outer s H vs Q E hr h => ?_)
  · obtain ⟨d, v, h, ks, rfl, _⟩ := h
    rfl
  obtain ⟨d, v, h, ks, rfl, hp, q⟩ := h
  refine ⟨_, (pss_cons (ps_set (i := 1) sc_parts_of.nd rfl (by first | exact Or.inl rfl | exact Or.inr rfl) (pe_ix ix_tup (pv 0) pe_int (fun _ _ => rfl)))
    (pss_cons (ps_if (PW.pt (pw_or (pt_cmpR op_eq (pv 1) pe_str (nomark _)) (pw_or1 (pt_cmpR op_eq (pv 1) pe_str (nomark _))))) (pss_one (ps_ret (pe_ix ix_tup (pv 0) pe_int (fun _ _ => rfl)))) pss_nil)
    (pss_cons (ps_if (pt_cmpR op_eq (pv 1) pe_str (nomark _)) (pss_one (ps_ret (pe_slice sl_tup (pv 0) (po_some pe_int) po_none))) pss_nil)
    (pss_cons (ps_if (pt_cmpR op_in_seq (pv 1) (pe_glob (v := .ref _) rfl c_PART_LAST rfl) (by with_unfolding_all rfl)) (pss_one (ps_ret (pe_slice sl_tup (pv 0) (po_some (pe_un un_neg pe_int)) po_none))) pss_nil)
    (pss_one (ps_ret (pe_tup pa_nil))))))), ?_⟩
  obtain ⟨a, kv, rfl, lay, hk⟩ := hp
  have q0 : ∀ (r : Addr) (H' : Hp), H' r = some (.tup kv) → kv.length ≤ 10 → Gro [] H H' → Q (.ref r) H' := fun r H' e z g => q r kv H' e z (pats_mono g.tups hk) g
  -- a head without parts
  have leaf : ∀ {x : Str} {r : List V}, kv = [] → H a = some (.tup (.str x :: r)) → decide (V.str x = V.str "row") = false → decide (V.str x = V.str "or") = false → decide (V.str x = V.str "have") = false → inV (.str x) lastWords = false →
      (tSeq (tAsg (tOp (rIxT K) (tVar 0) (tC (.int 0))) (gName 1)) (tSeq (tIfS (tOr (tTest (tOp rEq (tVar 1) (tC (.str "row")))) (tTest (tOp rEq (tVar 1) (tC (.str "or"))))) (tRet (tOp (rIxT K) (tVar 0) (tC (.int 1)))) tNext)
        (tSeq (tIfS (tTest (tOp rEq (tVar 1) (tC (.str "have")))) (tRet (tSl (rSlT K) (tVar 0) (tPart (tC (.int 2))) tNoPart)) tNext) (tSeq (tIfS (tTest (tOp (rIn K false) (tVar 1) (tC (.ref pl)))) (tRet (tSl (rSlT K) (tVar 0) (tPart (tUn (rU fun i => .int (-i)) (tC (.int 1)))) tNoPart)) tNext) (tRet (tTup tNil))))))
        { nx := fun _ H' => Q .non H', rt := Q } [some (.ref a), none] H := by
    intro x r e0 ea e1 e2 e3 e4
    refine ⟨_, rfl, a, _, _, _, rfl, rfl, SqT.of ea, at0, ?_⟩
    refine ⟨_, rfl, rfl, _, rfl, ite_no (by rw [e1]; decide) ⟨_, rfl, rfl, _, rfl, ite_no (by rw [e2]; decide) ?_⟩⟩
    refine ⟨_, rfl, rfl, _, rfl, ite_no (by rw [e3]; decide) ?_⟩
    refine ⟨_, rfl, pl, lastWords, rfl, .inr (hPL _), rfl, rfl, _, rfl, ite_no (by rw [e4]; decide) ?_⟩
    exact ⟨sz, fun p1 hp1 => q0 p1 _ (by rw [e0]; exact upd_same) (by simp [e0]) (Gro.new hp1 _)⟩
  have last : ∀ {x : Str} {r : List V} {k : V}, kv = [k] → H a = some (.tup (.str x :: r)) → cutV (.str x :: r) (some (-1)) none = [k] → ¬ (HT.sIx (V.str x :: r).length 0 (some (-1)) = 0 ∧ HT.sIx (V.str x :: r).length (V.str x :: r).length none = (V.str x :: r).length) → decide (V.str x = V.str "row") = false → decide (V.str x = V.str "or") = false → decide (V.str x = V.str "have") = false → inV (.str x) lastWords = true →
      (tSeq (tAsg (tOp (rIxT K) (tVar 0) (tC (.int 0))) (gName 1)) (tSeq (tIfS (tOr (tTest (tOp rEq (tVar 1) (tC (.str "row")))) (tTest (tOp rEq (tVar 1) (tC (.str "or"))))) (tRet (tOp (rIxT K) (tVar 0) (tC (.int 1)))) tNext)
        (tSeq (tIfS (tTest (tOp rEq (tVar 1) (tC (.str "have")))) (tRet (tSl (rSlT K) (tVar 0) (tPart (tC (.int 2))) tNoPart)) tNext) (tSeq (tIfS (tTest (tOp (rIn K false) (tVar 1) (tC (.ref pl)))) (tRet (tSl (rSlT K) (tVar 0) (tPart (tUn (rU fun i => .int (-i)) (tC (.int 1)))) tNoPart)) tNext) (tRet (tTup tNil))))))
        { nx := fun _ H' => Q .non H', rt := Q } [some (.ref a), none] H := by
    intro x r k e0 ea ec hw e1 e2 e3 e4
    refine ⟨_, rfl, a, _, _, _, rfl, rfl, SqT.of ea, at0, ?_⟩
    refine ⟨_, rfl, rfl, _, rfl, ite_no (by rw [e1]; decide) ⟨_, rfl, rfl, _, rfl, ite_no (by rw [e2]; decide) ?_⟩⟩
    refine ⟨_, rfl, rfl, _, rfl, ite_no (by rw [e3]; decide) ?_⟩
    refine ⟨_, rfl, pl, lastWords, rfl, .inr (hPL _), rfl, rfl, _, rfl, ite_yes (by show inV _ _ = true; exact e4) ?_⟩
    exact ⟨_, rfl, _, rfl, _, rfl, a, _, rfl, SqT.of ea, hw, fun p1 hp1 => q0 p1 _ (by rw [e0, ← ec]; exact upd_same) (by simp [e0]) (Gro.new hp1 _)⟩
  cases h with
  | sign s => exact leaf lay.1 lay.2.2 (by decide +kernel) (by decide +kernel) (by decide +kernel) (by decide +kernel)
  | any => exact leaf lay.1 lay.2 (by decide +kernel) (by decide +kernel) (by decide +kernel) (by decide +kernel)
  | inn rs =>
    obtain ⟨e0, r, e, _⟩ := lay
    exact leaf e0 e (by decide +kernel) (by decide +kernel) (by decide +kernel) (by decide +kernel)
  | out rs =>
    obtain ⟨e0, r, e, _⟩ := lay
    exact leaf e0 e (by decide +kernel) (by decide +kernel) (by decide +kernel) (by decide +kernel)
  | beg => exact leaf lay.1 lay.2 (by decide +kernel) (by decide +kernel) (by decide +kernel) (by decide +kernel)
  | fin => exact leaf lay.1 lay.2 (by decide +kernel) (by decide +kernel) (by decide +kernel) (by decide +kernel)
  | again n => exact leaf lay.2.1 lay.2.2 (by decide +kernel) (by decide +kernel) (by decide +kernel) (by decide +kernel)
  | row =>
    obtain ⟨z, r, e, er⟩ := lay
    refine ⟨_, rfl, a, _, _, _, rfl, rfl, SqT.of e, at0, ?_⟩
    refine ⟨_, rfl, rfl, _, rfl, ite_yes (by decide +kernel) (iteT ?_)⟩
    exact ⟨_, rfl, a, _, _, _, rfl, rfl, SqT.of e, rfl, q0 r H er z Gro.refl⟩
  | alt =>
    obtain ⟨_, z, r, e, er⟩ := lay
    refine ⟨_, rfl, a, _, _, _, rfl, rfl, SqT.of e, at0, ?_⟩
    refine ⟨_, rfl, rfl, _, rfl, ite_no (by decide +kernel) ⟨_, rfl, rfl, _, rfl, ite_yes (by decide +kernel) ?_⟩⟩
    exact ⟨_, rfl, a, _, _, _, rfl, rfl, SqT.of e, rfl, q0 r H er z Gro.refl⟩
  | times lo hi how =>
    obtain ⟨_, k, e0, e⟩ := lay
    exact last e0 e rfl (fun z => absurd (show HT.sIx 5 0 (some (-1)) = 0 from z.1) (by decide +kernel)) (by decide +kernel) (by decide +kernel) (by decide +kernel) (by decide +kernel)
  | grp n =>
    obtain ⟨_, k, e0, e⟩ := lay
    exact last e0 e rfl (fun z => absurd (show HT.sIx 3 0 (some (-1)) = 0 from z.1) (by decide +kernel)) (by decide +kernel) (by decide +kernel) (by decide +kernel) (by decide +kernel)
  | hav n =>
    obtain ⟨_, y, z, e0, e⟩ := lay
    refine ⟨_, rfl, a, _, _, _, rfl, rfl, SqT.of e, at0, ?_⟩
    refine ⟨_, rfl, rfl, _, rfl, ite_no (by decide +kernel) ⟨_, rfl, rfl, _, rfl, ite_no (by decide +kernel) ?_⟩⟩
    refine ⟨_, rfl, rfl, _, rfl, ite_yes (by decide +kernel) ?_⟩
    exact ⟨_, rfl, _, rfl, a, _, rfl, SqT.of e, fun z => absurd (show HT.sIx 4 0 (some 2) = 0 from z.1) (by decide +kernel), fun p1 hp1 => q0 p1 _ (by rw [e0]; exact upd_same) (by simp [e0]) (Gro.new hp1 _)⟩
  | look lk =>
    obtain ⟨k, e0, e⟩ := lay
    cases lk <;> exact last e0 e rfl (fun z => absurd (show HT.sIx 2 0 (some (-1)) = 0 from z.1) (by decide +kernel)) (by decide +kernel) (by decide +kernel) (by decide +kernel) (by decide +kernel)
/-! ### the law's own -/
end
end Seek

set_option maxRecDepth 100000
set_option maxHeartbeats 4000000
namespace Seek
open PySem PySem.Spec PyProof.Rows L2
/-! ### spans, as a function of the pattern -/
abbrev Sn := Int × Option Int
def sumO (ms : List (Option Int)) : Option Int := if ms.any Option.isNone = true then none else some ((ms.map (·.getD 0)).sum)
def mxO (ms : List (Option Int)) : Option Int := if ms.any Option.isNone = true then none else some (mxL (ms.map (·.getD 0)))
def genS (qs : List Sn) : Sn := (mnL (qs.map (·.1)), mxO (qs.map (·.2)))
def rowS (qs : List Sn) : Sn := ((qs.map (·.1)).sum, sumO (qs.map (·.2)))
def turnS (lo : Int) (hi : Option Int) (q : Sn) : Sn := if q.2 = some 0 then (0, some 0) else match hi, q.2 with
  | some h, some m => (lo * q.1, some (h * m))
  | _, _ => (lo * q.1, none)
def Hd.spn (h : Hd) (qs : List Sn) : Sn := match h with
  | .sign _ => (1, some 1) | .any => (1, some 1) | .inn _ => (1, some 1) | .out _ => (1, some 1) | .beg => (0, some 0) | .fin => (0, some 0)
  | .look .once => genS qs | .look _ => (0, some 0) | .again _ => (0, none) | .times lo hi _ => turnS lo hi (qs.headD (0, none)) | .row => rowS qs | .alt => genS qs | .grp _ => genS qs | .hav _ => genS qs
mutual
def Pat.spn : Pat → Sn
  | .node h ks => h.spn (spnL ks)
def spnL : List Pat → List Sn
  | [] => []
  | k :: ks => k.spn :: spnL ks
end
theorem spnL_map (ks : List Pat) : spnL ks = ks.map Pat.spn := by
  induction ks with
  | nil => rfl
  | cons k ks ih => rw [spnL, ih]; rfl
theorem spn_node (h : Hd) (ks : List Pat) : (Pat.node h ks).spn = h.spn (ks.map Pat.spn) := by rw [Pat.spn, spnL_map]
def SpanAt (H : Hp) (v : V) (q : Sn) : Prop := ∃ a, v = .ref a ∧ H a = some (.tup [.int q.1, optV q.2])
theorem SpanAt.mono {H H' : Hp} (t : ∀ b xs, H b = some (.tup xs) → H' b = some (.tup xs)) {v : V} {q : Sn} (h : SpanAt H v q) : SpanAt H' v q := by
  obtain ⟨a, e, h⟩ := h
  exact ⟨a, e, t _ _ h⟩
theorem spans_mono {H H' : Hp} (t : ∀ b xs, H b = some (.tup xs) → H' b = some (.tup xs)) {vs : List V} {qs : List Sn} (h : Paired (SpanAt H) vs qs) : Paired (SpanAt H') vs qs := Paired.mapP h fun _ _ q => q.mono t
theorem flat_opt (ms : List (Option Int)) : (ms.map optV).all flatV = true := by
  induction ms with
  | nil => rfl
  | cons m ms ih => rw [List.map_cons, List.all_cons, ih]; cases m <;> rfl
theorem in_non (ms : List (Option Int)) : inV .non (ms.map optV) = ms.any Option.isNone := by
  induction ms with
  | nil => rfl
  | cons m ms ih =>
    unfold inV at *
    rw [List.map_cons, List.any_cons, List.any_cons, ih]
    cases m <;> rfl
theorem all_some {ms : List (Option Int)} (h : ms.any Option.isNone = false) : ms.map optV = (ms.map (·.getD 0)).map V.int := by
  induction ms with
  | nil => rfl
  | cons m ms ih =>
    rw [List.any_cons, Bool.or_eq_false_iff] at h
    rw [List.map_cons, List.map_cons, List.map_cons, ih h.2]
    cases m with
    | none => exact absurd h.1 (by decide)
    | some x => rfl
/-! ### the words' classes -/
abbrev oneSign : List V := [.str "sign", .str "any", .str "in", .str "out"]
abbrev nothing : List V := [.str "begin", .str "end", .str "ahead", .str "notahead", .str "behind", .str "notbehind"]
inductive Cl where | one | no | again | times | row | gen
  deriving DecidableEq
def Wd.cl : Wd → Cl
  | .sign => .one | .any => .one | .inn => .one | .out => .one | .beg => .no | .fin => .no | .ahead => .no | .notahead => .no | .behind => .no | .notbehind => .no
  | .again => .again | .times => .times | .row => .row | .alt => .gen | .grp => .gen | .hav => .gen | .once => .gen
theorem w_one (h : Hd) : inV (.str h.word) oneSign = decide (h.wd.cl = .one) := by rw [h.word_wd]; cases h.wd <;> decide +kernel
theorem w_no (h : Hd) : inV (.str h.word) nothing = decide (h.wd.cl = .no) := by rw [h.word_wd]; cases h.wd <;> decide +kernel
theorem w_again (h : Hd) : isw h.word "again" = decide (h.wd.cl = .again) := by rw [h.word_wd]; cases h.wd <;> decide +kernel
theorem w_times (h : Hd) : isw h.word "times" = decide (h.wd.cl = .times) := by rw [h.word_wd]; cases h.wd <;> decide +kernel
theorem w_row (h : Hd) : isw h.word "row" = decide (h.wd.cl = .row) := by rw [h.word_wd]; cases h.wd <;> decide +kernel
theorem spn_cl (h : Hd) (qs : List Sn) : match h.wd.cl with
    | .one => h.spn qs = (1, some 1) | .no => h.spn qs = (0, some 0) | .again => h.spn qs = (0, none) | .times => ∃ lo hi how, h = .times lo hi how | .row => h = .row | .gen => h.spn qs = genS qs := by
  cases h with
  | look lk => cases lk <;> rfl
  | times lo hi how => exact ⟨lo, hi, how, rfl⟩
  | _ => rfl
/-- what has at least one part -/
theorem Lay.some_kid {H : Hp} {a : Addr} {kv : List V} {h : Hd} (l : Lay H a h kv) (e : h.wd.cl = .gen) : kv ≠ [] := by
  cases h with
  | alt => obtain ⟨z, _⟩ := l; intro q; rw [q] at z; exact absurd z (by decide)
  | grp n => obtain ⟨_, k, e0, _⟩ := l; rw [e0]; simp
  | hav n => obtain ⟨_, y, z, e0, _⟩ := l; rw [e0]; simp
  | look lk => obtain ⟨k, e0, _⟩ := l; rw [e0]; simp
  | _ => exact absurd e (by simp [Hd.wd, Wd.cl])
section
variable {P : Program} {w : World} {K : PySem.W.Frag} {mg : Str → Option Value} {base : Heap} {f : Addr} {fd : FuncData}
def spTS : Sp := fun vs H Q _ => ∃ (lo : Int) (hi : Option Int) (v : V) (q : Sn), vs = [.int lo, optV hi, v] ∧ SpanAt H v q ∧ 0 ≤ lo ∧ lo ≤ 20 ∧ (∀ h, hi = some h → 0 ≤ h ∧ h ≤ 20) ∧ ∀ (v' : V) (H' : Hp), SpanAt H' v' (turnS lo hi q) → Gro [] H H' → Q v' H'
theorem small_mul {i j : Int} (h0 : 0 ≤ i) (h1 : i ≤ 20) : CMul i j := .inl ⟨by omega, by omega⟩
theorem turn0 (lo : Int) (hi : Option Int) (l : Int) : turnS lo hi (l, some 0) = (0, some 0) := by unfold turnS; rw [if_pos rfl]
theorem turnN (lo : Int) (hi : Option Int) (l : Int) : turnS lo hi (l, none) = (lo * l, none) := by unfold turnS; rw [if_neg (by simp)]; cases hi <;> rfl
theorem turnM (lo : Int) (l m : Int) (h : m ≠ 0) : turnS lo none (l, some m) = (lo * l, none) := by unfold turnS; rw [if_neg (by simpa using h)]
theorem turnS_ (lo x : Int) (l m : Int) (h : m ≠ 0) : turnS lo (some x) (l, some m) = (lo * l, some (x * m)) := by unfold turnS; rw [if_neg (by simpa using h)]
abbrev s_times_spans : Stmt := top 6
theorem sc_times_spans : FnScope ["low", "high", "inner", "least", "most"] ["low", "high", "inner"] (defScope s_times_spans) := ⟨rfl, rfl, rfl, by decide +kernel, rfl, by decide +kernel, by decide +kernel⟩
theorem ok_times_spans (F : Fun K "times_spans" "times_spans" s_times_spans f fd) : FnOk P w K mg base CX0 1 f fd ["low", "high", "inner"] spTS := by
  refine F.ok sc_times_spans (fun vs H Q E h => ?_) (fun cdv A outer s H vs Q E hr h => ?_)
  · obtain ⟨lo, hi, v, q, rfl, _⟩ := h
    rfl
  obtain ⟨lo, hi, v, ⟨l, m⟩, rfl, ⟨a, rfl, ha⟩, h0, h1, hh, q⟩ := h
  refine ⟨_, (pss_cons (ps_set (i := 3) sc_times_spans.nd rfl (by first | exact Or.inl rfl | exact Or.inr rfl) (pe_ix ix_tup (pv 2) pe_int (fun _ _ => rfl)))
    (pss_cons (ps_set (i := 4) sc_times_spans.nd rfl (by first | exact Or.inl rfl | exact Or.inr rfl) (pe_ix ix_tup (pv 2) pe_int (fun _ _ => rfl)))
    (pss_cons (ps_if (pt_cmpR op_eq (pv 4) pe_int (nomark _)) (pss_one (ps_ret (pe_tup (pa_cons pe_int (pa_cons pe_int pa_nil))))) pss_nil)
    (pss_cons (ps_if (PW.pt (pw_or (pt_cmp (pc_isN (pv 1))) (pw_or1 (pt_cmp (pc_isN (pv 4)))))) (pss_one (ps_ret (pe_tup (pa_cons (pe_op op_mul (pv 0) (pv 3)) (pa_cons pe_non pa_nil))))) pss_nil)
    (pss_one (ps_ret (pe_tup (pa_cons (pe_op op_mul (pv 0) (pv 3)) (pa_cons (pe_op op_mul (pv 1) (pv 4)) pa_nil))))))))), ?_⟩
  refine ⟨_, rfl, a, _, _, _, rfl, rfl, SqT.of ha, at0, _, rfl, a, _, _, _, rfl, rfl, SqT.of ha, rfl, ?_⟩
  cases m with
  | none =>
    refine ⟨_, rfl, rfl, _, rfl, ite_no (by show ¬ decide (V.non = V.int 0) = true; simp) ?_⟩
    have fin : ∀ p, H p = none → Q (.ref p) (upd H p (.tup [.int (lo * l), .non])) := fun p hp => q _ _ (by rw [turnN]; exact ⟨p, rfl, upd_same⟩) (Gro.new hp _)
    cases hi with
    | none => exact ⟨_, rfl, _, rfl, ite_yes (by show decide (V.non = V.non) = true; simp) (iteT ⟨_, rfl, _, rfl, _, _, rfl, rfl, small_mul h0 h1, sz, fin⟩)⟩
    | some x => exact ⟨_, rfl, _, rfl, ite_no (by show ¬ decide (V.int x = V.non) = true; simp) ⟨_, rfl, _, rfl, ite_yes (by show decide (V.non = V.non) = true; simp) ⟨_, rfl, _, rfl, _, _, rfl, rfl, small_mul h0 h1, sz, fin⟩⟩⟩
  | some m =>
    refine ⟨_, rfl, rfl, _, rfl, ite2 (fun z => ?_) (fun z => ?_)⟩
    · have hm : m = 0 := by have := of_decide_eq_true z; simpa [optV] using this
      subst hm
      exact ⟨sz, fun p hp => q _ _ (by rw [turn0]; exact ⟨p, rfl, upd_same⟩) (Gro.new hp _)⟩
    · have hm : m ≠ 0 := fun e => z (by rw [e]; exact decide_eq_true rfl)
      cases hi with
      | none => exact ⟨_, rfl, _, rfl, ite_yes (by show decide (V.non = V.non) = true; simp) (iteT ⟨_, rfl, _, rfl, _, _, rfl, rfl, small_mul h0 h1, sz, fun p hp => q _ _ (by rw [turnM _ _ _ hm]; exact ⟨p, rfl, upd_same⟩) (Gro.new hp _)⟩)⟩
      | some x =>
        have := hh x rfl
        exact ⟨_, rfl, _, rfl, ite_no (by show ¬ decide (V.int x = V.non) = true; simp) ⟨_, rfl, _, rfl, ite_no (by show ¬ decide (V.int m = V.non) = true; simp) ⟨_, rfl, _, rfl, _, _, rfl, rfl, small_mul h0 h1, _, rfl, _, rfl, _, _, rfl, rfl, small_mul this.1 this.2, sz, fun p hp => q _ _ (by rw [turnS_ _ _ _ _ hm]; exact ⟨p, rfl, upd_same⟩) (Gro.new hp _)⟩⟩⟩
def spS (n : Nat) : Sp := fun vs H Q _ => ∃ (v : V) (p : Pat), vs = [v] ∧ PatAt H n v p ∧ ∀ (v' : V) (H' : Hp), SpanAt H' v' p.spn → Gro [] H H' → Q v' H'
def cutS (n : Nat) : TS := fun D σ H1 => ∃ (v : V) (h : Hd) (ks : List Pat), σ = [some v, some (.str h.word), none, none, none] ∧ (h.wd.cl = .row ∨ h.wd.cl = .gen) ∧ PatAt H1 (n + 1) v (.node h ks) ∧ ∀ (v' : V) (H' : Hp), SpanAt H' v' (Pat.node h ks).spn → Gro [] H1 H' → D.rt v' H'
abbrev s_spans : Stmt := top 5
theorem sc_spans : FnScope ["pattern", "kind", "inner", "leasts", "mosts"] ["pattern"] (defScope s_spans) := ⟨rfl, rfl, rfl, by decide +kernel, rfl, by decide +kernel, by decide +kernel⟩
theorem ok_spans {n : Nat} {os nt : Addr} (T : Blt mg) (c_ONE_SIGN : mg "ONE_SIGN" = some (.ref os)) (hOS : ∀ H, SqT K H os oneSign) (c_NOTHING_TAKEN : mg "NOTHING_TAKEN" = some (.ref nt)) (hNT : ∀ H, SqT K H nt nothing) (O_parts_of : Own P w K mg base 1 "parts_of" ["pattern"] spPartsOf)
    (O_times_spans : Own P w K mg base 1 "times_spans" ["low", "high", "inner"] spTS) (O_spans : Own P w K mg base (2 + n) "spans" ["pattern"] (spS n)) (F : Fun K "spans" "spans" s_spans f fd) : FnOk P w K mg base CX0 (2 + n + 1) f fd ["pattern"] (spS (n + 1)) := by
  refine F.ok sc_spans (fun vs H Q E h => ?_) (fun cdv A outer s H vs Q E hr h => ?_)
  · obtain ⟨v, p, rfl, _⟩ := h
    rfl
  obtain ⟨v, ⟨h, ks⟩, rfl, hp, q⟩ := h
  refine ⟨_, (pss_cons (ps_set (i := 1) sc_spans.nd rfl (by first | exact Or.inl rfl | exact Or.inr rfl) (pe_ix ix_tup (pv 0) pe_int (fun _ _ => rfl)))
    (pss_cons (ps_if (pt_cmpR op_in_seq (pv 1) (pe_glob (v := .ref _) rfl c_ONE_SIGN rfl) (by with_unfolding_all rfl)) (pss_one (ps_ret (pe_tup (pa_cons pe_int (pa_cons pe_int pa_nil))))) pss_nil)
    (pss_cons (ps_if (pt_cmpR op_in_seq (pv 1) (pe_glob (v := .ref _) rfl c_NOTHING_TAKEN rfl) (by with_unfolding_all rfl)) (pss_one (ps_ret (pe_tup (pa_cons pe_int (pa_cons pe_int pa_nil))))) pss_nil)
    (pss_cons (ps_if (pt_cmpR op_eq (pv 1) pe_str (nomark _)) (pss_one (ps_ret (pe_tup (pa_cons pe_int (pa_cons pe_non pa_nil))))) pss_nil)
    (pss_cons (ps_if (pt_cmpR op_eq (pv 1) pe_str (nomark _)) (pss_one (ps_ret (pe_own (O_times_spans.mono (by omega)) hr rfl (pa_cons (pe_ix ix_tup (pv 0) pe_int (fun _ _ => rfl)) (pa_cons (pe_ix ix_tup (pv 0) pe_int (fun _ _ => rfl)) (pa_cons (pe_own (O_spans.mono (by omega)) hr rfl (pa_cons (pe_ix ix_tup (pv 0) pe_int (fun _ _ => rfl)) pa_nil)) pa_nil)))))) pss_nil)
    (pss_cut (cutS n) (pss_cons (ps_setLC (i := 2) sc_spans.nd rfl rfl rfl (show CScope _ ["pattern", "kind", "inner", "leasts", "mosts"] (defScope s_spans) _ from ⟨rfl, by decide +kernel, rfl, by decide +kernel, by decide +kernel, by decide +kernel, by decide +kernel⟩) (pi_tup (pe_own (O_parts_of.mono (by omega)) hr rfl (pa_cons (pv 0) pa_nil))) (fun _ _ _ _ => pts_nil) (fun _ _ _ _ => (pe_own (O_spans.mono (by omega)) hr rfl (pa_cons (pv 0) pa_nil))) rfl)
    (pss_cons (ps_setLC (i := 3) sc_spans.nd rfl rfl rfl (show CScope _ ["pattern", "kind", "inner", "leasts", "mosts"] (defScope s_spans) _ from ⟨rfl, by decide +kernel, rfl, by decide +kernel, by decide +kernel, by decide +kernel, by decide +kernel⟩) (pi_list (pv 2)) (fun _ _ _ _ => pts_nil) (fun _ _ _ _ => (pe_ix (r := rIxT K) ix_tup (pv 0) pe_int (fun _ _ => rfl))) rfl)
    (pss_cons (ps_setLC (i := 4) sc_spans.nd rfl rfl rfl (show CScope _ ["pattern", "kind", "inner", "leasts", "mosts"] (defScope s_spans) _ from ⟨rfl, by decide +kernel, rfl, by decide +kernel, by decide +kernel, by decide +kernel, by decide +kernel⟩) (pi_list (pv 2)) (fun _ _ _ _ => pts_nil) (fun _ _ _ _ => (pe_ix (r := rIxT K) ix_tup (pv 0) pe_int (fun _ _ => rfl))) rfl)
    (pss_cons (ps_if (pt_cmpR op_eq (pv 1) pe_str (nomark _)) (pss_one (ps_ret (pe_tup (pa_cons (pe_callB (call_sum rfl) rfl T.b_sum PyProof.Rows.Boot.«sum» (pa_cons (pv 3) pa_nil)) (pa_cons (pe_ifExp (pt_cmpR op_in_seq pe_non (pv 4) (by with_unfolding_all rfl)) pe_non (pe_callB (call_sum rfl) rfl T.b_sum PyProof.Rows.Boot.«sum» (pa_cons (pv 4) pa_nil))) pa_nil))))) pss_nil)
    (pss_one (ps_ret (pe_tup (pa_cons (pe_callB (call_minL rfl) rfl T.b_min PyProof.Rows.Boot.«min» (pa_cons (pv 3) pa_nil)) (pa_cons (pe_ifExp (pt_cmpR op_in_seq pe_non (pv 4) (by with_unfolding_all rfl)) pe_non (pe_callB (call_maxL rfl) rfl T.b_max PyProof.Rows.Boot.«max» (pa_cons (pv 4) pa_nil))) pa_nil))))))))) (fun D1 σ1 H1 hcut => ?cut5))))))), ?_⟩
  case cut5 =>
    obtain ⟨v, h, ks, rfl, hcl, hp, q⟩ := hcut
    obtain ⟨a0, kv0, rfl, lay0, hk0⟩ := id hp
    have hne : h.wd.cl = .gen → ks ≠ [] := fun e z => lay0.some_kid e (by have := Paired.length hk0; rw [z] at this; exact List.length_eq_zero_iff.mp this)
    refine ⟨_, rfl, n, .ref a0, h, ks, rfl, hp, fun r kv H2 hr hlen hk g1 => ⟨r, rfl, ⟨kv, SqT.of hr⟩, ?_⟩⟩
    have hkl := Paired.length hk
    refine lc_tup (xs := kv) (fun i ys H' => Paired (SpanAt H') ys ((ks.take i).map Pat.spn) ∧ ys.length = i ∧ Gro [] H2 H') ⟨.nil, rfl, Gro.refl⟩ (small1000 (by omega)) (fun i ys H' ⟨_, e, _⟩ => by omega) (fun i ys H' ⟨_, _, g⟩ => SqT.of (g.tups _ _ hr)) ?_ ?_
    · rintro i ys H3 x hx ⟨hq3, e2, g3⟩
      obtain ⟨p, hpi, hpx⟩ := paired_get hk hx
      refine ⟨_, rfl, x, p, rfl, hpx.mono g3.tups, fun v' H4 hv' g4 => ⟨?_, by simp [e2], g3.trans g4⟩⟩
      rw [lift_map hpi]
      exact (spans_mono g4.tups hq3).snoc hv'
    rintro ys H3 ⟨hq3, e2, g3⟩ l1 hl1
    rw [hkl, List.take_length] at hq3
    generalize hqs : ks.map Pat.spn = qs at hq3
    have hql := Paired.length hq3
    have qsne : h.wd.cl = .gen → qs ≠ [] := fun e z => hne e (by rw [z] at hqs; exact List.map_eq_nil_iff.mp hqs)
    have g13 := g1.trans g3
    have gl1 : Gro [] H3 (upd H3 l1 (.lst ys)) := Gro.new hl1 _
    -- leasts
    refine ⟨_, rfl, l1, rfl, ⟨ys, SqL.of upd_same⟩, lc_list (xs := ys) (fun i zs H' => zs = ((qs.take i).map (·.1)).map V.int ∧ H' = upd H3 l1 (.lst ys)) ⟨rfl, rfl⟩ (small1000 (by omega)) (fun i zs H' ⟨e, _⟩ => by rw [e]; simp; omega) (fun i zs H' ⟨_, e⟩ => by rw [e]; exact SqL.of upd_same) ?_ ?_⟩
    · rintro i zs H4 x hx ⟨rfl, rfl⟩
      obtain ⟨q', hqi, ax, rfl, hax⟩ := paired_get hq3 hx
      refine ⟨_, rfl, ax, _, _, _, rfl, rfl, SqT.of (gl1.tups _ _ hax), at0, ?_, rfl⟩
      rw [lift_map hqi, List.map_append]; rfl
    rintro zs H4 ⟨rfl, rfl⟩ l2 hl2
    have gl2 : Gro [] H3 (upd (upd H3 l1 (.lst ys)) l2 (.lst (((qs.take ys.length).map (·.1)).map V.int))) := gl1.tup hl2
    have e1 : (upd (upd H3 l1 (.lst ys)) l2 (.lst (((qs.take ys.length).map (·.1)).map V.int))) l1 = some (.lst ys) := by rw [upd_ne (ne_of_none upd_same hl2)]; exact upd_same
    rw [hql, List.take_length] at gl2 e1 ⊢
    -- mosts
    refine ⟨_, rfl, l1, rfl, ⟨ys, SqL.of e1⟩, lc_list (xs := ys) (fun i zs H' => zs = ((qs.take i).map (·.2)).map optV ∧ H' = upd (upd H3 l1 (.lst ys)) l2 (.lst ((qs.map (·.1)).map V.int))) ⟨rfl, rfl⟩ (small1000 (by omega)) (fun i zs H' ⟨e, _⟩ => by rw [e]; simp; omega) (fun i zs H' ⟨_, e⟩ => by rw [e]; exact SqL.of e1) ?_ ?_⟩
    · rintro i zs H5 x hx ⟨rfl, rfl⟩
      obtain ⟨q', hqi, ax, rfl, hax⟩ := paired_get hq3 hx
      refine ⟨_, rfl, ax, _, _, _, rfl, rfl, SqT.of (gl2.tups _ _ hax), rfl, ?_, rfl⟩
      rw [lift_map hqi, List.map_append]; rfl
    rintro zs H5 ⟨rfl, rfl⟩ l3 hl3
    rw [hql, List.take_length]
    generalize hH6 : upd (upd (upd H3 l1 (.lst ys)) l2 (.lst ((qs.map (·.1)).map V.int))) l3 (.lst ((qs.map (·.2)).map optV)) = H6
    have g36 : Gro [] H3 H6 := by rw [← hH6]; exact gl2.tup hl3
    have e2' : H6 l2 = some (.lst ((qs.map (·.1)).map V.int)) := by rw [← hH6, upd_ne (ne_of_none upd_same hl3)]; exact upd_same
    have e3 : H6 l3 = some (.lst ((qs.map (·.2)).map optV)) := by rw [← hH6]; exact upd_same
    have g16 := g13.trans g36
    have q' : ∀ p H', Gro [] H6 H' → H' p = some (.tup [.int (h.spn qs).1, optV (h.spn qs).2]) → D1.rt (.ref p) H' := fun p H' g e => q (.ref p) H' ⟨p, rfl, by rw [spn_node, hqs]; exact e⟩ (g16.trans g)
    have hS := spn_cl h qs
    refine ⟨_, rfl, rfl, _, rfl, ite2 (fun z => ?_) (fun z => ?_)⟩
    · have hrow : h.wd.cl = .row := of_decide_eq_true (by rw [← w_row]; exact z)
      rw [hrow] at hS
      have hh : h.spn qs = rowS qs := by rw [show h = .row from hS]; rfl
      rw [hh] at q'
      refine ⟨_, rfl, l2, _, rfl, SqL.of e2', _, rfl, l3, _, rfl, .inl (SqL.of e3), rfl, flat_opt _, _, rfl, ?_⟩
      show if inV .non ((qs.map (·.2)).map optV) = true then _ else _
      rw [in_non]
      refine ite2 (fun y => ?_) (fun y => ?_)
      · exact ⟨sz, fun p hp => q' p _ (Gro.new hp _) (by rw [upd_same, rowS, sumO, if_pos y]; rfl)⟩
      · have e4 := e3
        rw [all_some (Bool.eq_false_iff.mpr y)] at e4
        exact ⟨_, rfl, l3, _, rfl, SqL.of e4, sz, fun p hp => q' p _ (Gro.new hp _) (by rw [upd_same, rowS, sumO, if_neg y]; rfl)⟩
    · have hgen : h.wd.cl = .gen := by
        rcases hcl with e | e
        · exact absurd (show isw h.word "row" = true by rw [w_row, e]; rfl) z
        · exact e
      rw [hgen] at hS
      rw [show h.spn qs = genS qs from hS] at q'
      have n1 : qs.map (·.1) ≠ [] := fun z => qsne hgen (List.map_eq_nil_iff.mp z)
      have n2 : (qs.map (·.2)).map (·.getD 0) ≠ [] := fun z => qsne hgen (List.map_eq_nil_iff.mp (List.map_eq_nil_iff.mp z))
      refine ⟨_, rfl, l2, _, rfl, SqL.of e2', n1, _, rfl, l3, _, rfl, .inl (SqL.of e3), rfl, flat_opt _, _, rfl, ?_⟩
      show if inV .non ((qs.map (·.2)).map optV) = true then _ else _
      rw [in_non]
      refine ite2 (fun y => ?_) (fun y => ?_)
      · exact ⟨sz, fun p hp => q' p _ (Gro.new hp _) (by rw [upd_same, genS, mxO, if_pos y]; rfl)⟩
      · have e4 := e3
        rw [all_some (Bool.eq_false_iff.mpr y)] at e4
        exact ⟨_, rfl, l3, _, rfl, SqL.of e4, n2, sz, fun p hp => q' p _ (Gro.new hp _) (by rw [upd_same, genS, mxO, if_neg y]; rfl)⟩
  obtain ⟨a, kv, rfl, lay, hk⟩ := id hp
  obtain ⟨r, ea⟩ := lay.head
  have hS := spn_cl h (ks.map Pat.spn)
  have q' : ∀ p H', Gro [] H H' → H' p = some (.tup [.int (h.spn (ks.map Pat.spn)).1, optV (h.spn (ks.map Pat.spn)).2]) → Q (.ref p) H' := fun p H' g e => q (.ref p) H' ⟨p, rfl, by rw [spn_node]; exact e⟩ g
  refine ⟨_, rfl, a, _, _, _, rfl, rfl, SqT.of ea, at0, ?_⟩
  refine ⟨_, rfl, os, oneSign, rfl, .inr (hOS _), rfl, rfl, _, rfl, ?_⟩
  show if inV (.str h.word) oneSign = true then _ else _
  rw [w_one]
  refine ite2 (fun z => ?_) (fun z1 => ?_)
  · rw [of_decide_eq_true z] at hS
    rw [show h.spn (ks.map Pat.spn) = (1, some 1) from hS] at q'
    exact ⟨sz, fun p hp => q' p _ (Gro.new hp _) upd_same⟩
  refine ⟨_, rfl, nt, nothing, rfl, .inr (hNT _), rfl, rfl, _, rfl, ?_⟩
  show if inV (.str h.word) nothing = true then _ else _
  rw [w_no]
  refine ite2 (fun z => ?_) (fun z2 => ?_)
  · rw [of_decide_eq_true z] at hS
    rw [show h.spn (ks.map Pat.spn) = (0, some 0) from hS] at q'
    exact ⟨sz, fun p hp => q' p _ (Gro.new hp _) upd_same⟩
  refine ⟨_, rfl, rfl, _, rfl, ?_⟩
  show if isw h.word "again" = true then _ else _
  rw [w_again]
  refine ite2 (fun z => ?_) (fun z3 => ?_)
  · rw [of_decide_eq_true z] at hS
    rw [show h.spn (ks.map Pat.spn) = (0, none) from hS] at q'
    exact ⟨sz, fun p hp => q' p _ (Gro.new hp _) upd_same⟩
  refine ⟨_, rfl, rfl, _, rfl, ?_⟩
  show if isw h.word "times" = true then _ else _
  rw [w_times]
  refine ite2 (fun z => ?_) (fun z4 => ?_)
  · rw [of_decide_eq_true z] at hS
    obtain ⟨lo, hi, how, rfl⟩ := hS
    obtain ⟨⟨h0, h1, hh⟩, k, e0, e⟩ := lay
    subst e0
    match ks, hk with
    | [p], .cons hpk _ =>
      refine ⟨_, rfl, a, _, _, _, rfl, rfl, SqT.of e, rfl, _, rfl, a, _, _, _, rfl, rfl, SqT.of e, rfl, _, rfl, a, _, _, _, rfl, rfl, SqT.of e, rfl, k, p, rfl, hpk, fun v' H1 hv' g1 => ?_⟩
      refine ⟨lo, hi, v', p.spn, rfl, hv', h0, h1, hh, fun v2 H2 hv2 g2 => ?_⟩
      obtain ⟨b, rfl, hb⟩ := hv2
      exact q' b H2 (g1.trans g2) hb
  · refine ⟨.ref a, h, ks, rfl, ?_, hp, fun v' H' hv' g' => q v' H' hv' g'⟩
    revert z1 z2 z3 z4
    cases h.wd.cl <;> simp
end
end Seek

set_option maxRecDepth 100000
set_option maxHeartbeats 4000000
namespace Seek
open PySem PySem.Spec PyProof.Rows L2
theorem join_len : ∀ xs : List Str, (Txt.join "" xs).length = (xs.map (·.length)).sum := by
  have fold : ∀ (xs : List Str) (acc : Array Nat), (xs.foldl (fun a p => a ++ ("" : Str).cps ++ p.cps) acc).size = acc.size + (xs.map (·.length)).sum := by
    intro xs
    induction xs with
    | nil => intro acc; simp
    | cons x xs ih =>
      intro acc
      rw [List.foldl_cons, ih, Array.size_append, Array.size_append, List.map_cons, List.sum_cons]
      show acc.size + 0 + x.length + _ = _
      omega
  intro xs
  cases xs with
  | nil => rfl
  | cons x xs =>
    show (xs.foldl (fun a p => a ++ ("" : Str).cps ++ p.cps) x.cps).size = _
    rw [fold, List.map_cons, List.sum_cons]
    rfl
theorem ones_sum : ∀ {xs : List Str}, (∀ x ∈ xs, x.length = 1) → (xs.map (·.length)).sum = xs.length
  | [], _ => rfl
  | x :: xs, h => by
    rw [List.map_cons, List.sum_cons, ones_sum (fun y hy => h y (by simp [hy])), h x (by simp), List.length_cons]
    omega
section
variable {P : Program} {w : World} {K : PySem.W.Frag} {mg : Str → Option Value} {base : Heap} {f C : Addr} {fd : FuncData}
def spText : Sp := fun vs H Q _ => ∃ (b l : Addr) (n : Int), vs = [.ref b, .ref l, .int n] ∧ BoxAt H b ∧ LetAt H l ∧ 0 ≤ n ∧ n ≤ 1000 ∧ ∀ (t : Str) (H' : Hp), (t.length : Int) = n → BoxAt H' b → Gro [b] H H' → Q (.str t) H'
abbrev s_l_text : Stmt := top 11
theorem sc_l_text : FnScope ["_law_box", "_law_letters_here", "_law_size"] ["_law_box", "_law_letters_here", "_law_size"] (defScope s_l_text) := ⟨rfl, rfl, rfl, by decide +kernel, rfl, by decide +kernel, by decide +kernel⟩
theorem ok_text (T : Blt mg) (O_l_take : Own P w K mg base 1 "_law_take" ["_law_box", "_law_many"] spTake) (F : Fun K "_law_text" "_law_text" s_l_text f fd) : FnOk P w K mg base CX0 2 f fd ["_law_box", "_law_letters_here", "_law_size"] spText := by
  refine F.ok sc_l_text (fun vs H Q E h => ?_) (fun cdv A outer s H vs Q E hr h => ?_)
  · obtain ⟨b, l, n, rfl, _⟩ := h
    rfl
  obtain ⟨b, l, n, rfl, hb, hl, h0, h1, q⟩ := h
  have bl : b ≠ l := hb.ne_let hl
  have lS : l ∉ [b] := by simpa using Ne.symm bl
  refine ⟨_, (pss_one (ps_ret (pe_bm PySem.F.plainAttrs_str PySem.F.slot_str_join PySem.F.type_str_join mt_join pe_str (pa_cons (pe_lcomp rfl (show CScope _ ["_law_box", "_law_letters_here", "_law_size"] (defScope s_l_text) _ from ⟨rfl, by decide +kernel, rfl, by decide +kernel, by decide +kernel, by decide +kernel, by decide +kernel⟩) (pi_range1 rfl T.b_range (pa_cons (pv 2) pa_nil)) (fun _ _ _ _ => pts_nil) (fun _ _ _ _ => (pe_ix (r := rIxL K) ix_list (pv 2) (pe_own (O_l_take.mono (by omega)) hr rfl (pa_cons (pv 1) (pa_cons pe_int pa_nil))) (fun _ _ => rfl)))) pa_nil)))), ?_⟩
  refine ⟨rfl, _, rfl, _, rfl, by omega, by omega, ?_⟩
  refine lc_range (n := n.toNat) (fun i ys H' => (∃ xs : List Str, ys = xs.map V.str ∧ xs.length = i ∧ ∀ x ∈ xs, x.length = 1) ∧ BoxAt H' b ∧ Gro [b] H H') ⟨⟨[], rfl, rfl, by simp⟩, hb, Gro.refl⟩ (small1000 (by omega)) (fun i ys H' ⟨⟨xs, e1, e2, _⟩, _⟩ => by rw [e1, List.length_map, e2]; exact Nat.le_refl _) ?_ ?_
  · rintro i ys H1 hi ⟨⟨xs, rfl, e2, e3⟩, hb1, g1⟩
    refine ⟨_, rfl, _, rfl, b, 3, rfl, hb1, by decide, by decide, fun r H2 h20 h21 hb2 g2 => ?_⟩
    refine letS ((hl.gro g1 lS).gro g2 lS) h20 h21 fun s hs => ⟨⟨xs ++ [s], by simp, by simp [e2], fun x hx => ?_⟩, hb2, g1.trans g2⟩
    rcases List.mem_append.mp hx with z | z
    · exact e3 x z
    · rw [List.mem_singleton.mp z]; exact hs
  · rintro ys H1 ⟨⟨xs, rfl, e2, e3⟩, hb1, g1⟩ a ha
    have hs := ones_sum e3
    have e0 : ("" : Str).length = 0 := rfl
    refine ⟨_, a, xs, rfl, rfl, SqL.of upd_same, by rw [hs, e0]; omega, ?_⟩
    exact q _ _ (by rw [join_len, hs]; omega) (hb1.new ha) (g1.tup ha)
end
end Seek

set_option maxRecDepth 100000
set_option maxHeartbeats 4000000
namespace Seek
open PySem PySem.Spec PyProof.Rows L2
/-! ### ways -/
def InS (q : Sn) (i j : Int) : Prop := i + q.1 ≤ j ∧ ∀ h, q.2 = some h → j ≤ i + h
def EnAt (H : Hp) (e : V) : Prop := e = .non ∨ ∃ (a : Addr) (x y : Int), e = .ref a ∧ H a = some (.tup [.int x, .int y]) ∧ 0 ≤ x ∧ 0 ≤ y
def GA (H : Hp) (n : Nat) (v : V) : Prop := ∃ (g : Addr) (es : List V), v = .ref g ∧ H g = some (.tup es) ∧ (es.length = n ∧ n ≤ 900) ∧ ∀ e ∈ es, EnAt H e
def WyAt (n : Nat) (H : Hp) (v : V) (j : Int) : Prop := ∃ (a : Addr) (gv : V), v = .ref a ∧ H a = some (.tup [.int j, gv]) ∧ GA H n gv
theorem EnAt.mono {H H' : Hp} (t : ∀ b xs, H b = some (.tup xs) → H' b = some (.tup xs)) {e : V} (h : EnAt H e) : EnAt H' e := by
  rcases h with h | ⟨a, x, y, e1, e2, r⟩
  · exact .inl h
  · exact .inr ⟨a, x, y, e1, t _ _ e2, r⟩
theorem GA.mono {H H' : Hp} (t : ∀ b xs, H b = some (.tup xs) → H' b = some (.tup xs)) {n : Nat} {v : V} (h : GA H n v) : GA H' n v := by
  obtain ⟨g, es, e1, e2, e3, e4⟩ := h
  exact ⟨g, es, e1, t _ _ e2, e3, fun e he => (e4 e he).mono t⟩
theorem WyAt.mono {H H' : Hp} (t : ∀ b xs, H b = some (.tup xs) → H' b = some (.tup xs)) {n : Nat} {v : V} {j : Int} (h : WyAt n H v j) : WyAt n H' v j := by
  obtain ⟨a, gv, e1, e2, e3⟩ := h
  exact ⟨a, gv, e1, t _ _ e2, e3.mono t⟩
theorem ways_mono {H H' : Hp} (t : ∀ b xs, H b = some (.tup xs) → H' b = some (.tup xs)) {n : Nat} {vs : List V} {js : List Int} (h : Paired (WyAt n H) vs js) : Paired (WyAt n H') vs js := Paired.mapP h fun _ _ q => q.mono t
theorem ways_ne {H : Hp} {n : Nat} {r lf : Addr} {vs : List V} {js : List Int} {f : Int} (h : Paired (WyAt n H) vs js) (hr : H r = some (.lst vs)) (hf : H lf = some (.lst [.int f])) : r ≠ lf := by
  refine ne_of hr hf fun q => ?_
  injection q with q'
  subst q'
  cases h with
  | cons x _ =>
    obtain ⟨a, gv, e, _⟩ := x
    cases e
/-- what a list of ways is wanted for: S of each, no more of them than was spent -/
def WR (n : Nat) (lf : Addr) (S : Int → Prop) (f : Int) (Q : VK) (H : Hp) : Prop := ∀ (r : Addr) (vs : List V) (js : List Int) (f' : Int) (H' : Hp), H' r = some (.lst vs) → Paired (WyAt n H') vs js → (∀ j ∈ js, S j) → H' lf = some (.lst [.int f']) → js.length + f'.toNat ≤ f.toNat → f' ≤ f → Gro [lf] H H' → Q (.ref r) H'
/-- less is wanted -/
theorem WR.nil {n : Nat} {lf : Addr} {S : Int → Prop} {f f' : Int} {Q : VK} {H H' : Hp} {r : Addr} (h : WR n lf S f Q H) (hr : H' r = none) (g : Gro [lf] H H') (hf : H' lf = some (.lst [.int f'])) (hl : f' ≤ f) : Q (.ref r) (upd H' r (.lst [])) :=
  h r [] [] f' _ upd_same .nil (fun j hj => by simp at hj) (by rw [upd_ne (ne_of_none hf hr)]; exact hf) (by simp; omega) hl (g.trans (Gro.new hr _))
theorem WR.one {n : Nat} {lf : Addr} {S : Int → Prop} {f f' : Int} {Q : VK} {H H' : Hp} {t r : Addr} {j : Int} {gv : V} (h : WR n lf S f Q H) (ht : H' t = none) (hr : (upd H' t (.tup [.int j, gv])) r = none) (g : Gro [lf] H H') (hf : H' lf = some (.lst [.int f'])) (hl : f' < f) (h0 : 0 ≤ f') (hg : GA H' n gv) (hs : S j) :
    Q (.ref r) (upd (upd H' t (.tup [.int j, gv])) r (.lst [.ref t])) := by
  have g1 : Gro [] H' (upd (upd H' t (.tup [.int j, gv])) r (.lst [.ref t])) := (Gro.new ht _).tup hr
  refine h r [.ref t] [j] f' _ upd_same (.cons ⟨t, gv, rfl, ?_, hg.mono g1.tups⟩ .nil) (fun k hk => by rw [List.mem_singleton.mp hk]; exact hs) (g1.keep _ _ hf (by simp)) (by simp; omega) (by omega) (g.trans (g1.mono (by simp)))
  rw [upd_ne (ne_of_none upd_same hr)]
  exact upd_same
section
variable {P : Program} {w : World} {K : PySem.W.Frag} {mg : Str → Option Value} {base : Heap} {f : Addr} {fd : FuncData}
def Hd.sg : Hd → Bool
  | .sign _ => true | .any => true | .inn _ => true | .out _ => true | _ => false
def spTk : Sp := fun vs H Q _ => ∃ (d : Nat) (v : V) (h : Hd) (ks : List Pat) (c : Str), vs = [v, .str c] ∧ PatAt H d v (.node h ks) ∧ h.sg = true ∧ c.length = 1 ∧ ∀ (b : Bool) (H' : Hp), Gro [] H H' → Q (.bl b) H'
abbrev rOrd : List V → Hp → VK → Prop := fun xs H Q => ∃ x, xs = [.str x] ∧ x.length = 1 ∧ Q (.int (x.cps.getD 0 0 : Nat)) H
theorem lies_lc {K : PySem.W.Frag} {H : Hp} {σ : L2.St} {r : Addr} {rs : List (Str × Str)} {c : Str} {ts : TE} {Fin : List V → Hp → Prop} (hr : RunsAt H r rs) (hc : c.length = 1) (hts : ∀ (x : V) (Q : VK), Q (.str c) H → ts (some x :: σ) H Q)
    (fin : ∀ zs : List V, Fin zs H) :
    LCW (Itt K r) σ (tAnd (tTest (tOp (rI0 fun i j => V.bl (decide (i ≤ j))) (tCB rOrd (tCons (tOp (rIxT K) (tVar 0) (tC (.int 0))) tNil)) (tCB rOrd (tCons ts tNil))))
      (tTest (tOp (rI0 fun i j => V.bl (decide (i ≤ j))) (tCB rOrd (tCons ts tNil)) (tCB rOrd (tCons (tOp (rIxT K) (tVar 0) (tC (.int 1))) tNil))))) (tVar 0) Fin H := by
  obtain ⟨vs, hv, hp, hz⟩ := hr
  have hl := Paired.length hp
  refine lc_gen (n := vs.length) (fun j zs H' => H' = H ∧ zs.length ≤ j) ⟨rfl, Nat.le_refl _⟩ (small1000 (by omega)) (fun j zs H' ⟨_, h⟩ => h) (fun j zs H' hj ⟨e, _⟩ => by rw [e]; exact ⟨vs, vs[j], SqT.of hv, by simp [hj]⟩) (fun zs H' ⟨e, _⟩ => by rw [e]; exact ⟨vs, SqT.of hv, Nat.le_refl _⟩) ?_ ?_
  · rintro j zs H' x H'' hj ⟨rfl, hzl⟩ ⟨rfl, hx⟩
    have hx' := hx vs (SqT.of hv)
    obtain ⟨p, hpi, h1, h2, a, rfl, ha⟩ := paired_get hp hx'
    refine ⟨_, rfl, a, _, _, _, rfl, rfl, SqT.of ha, at0, p.1, rfl, h1, ?_⟩
    refine hts _ _ ⟨c, rfl, hc, _, _, rfl, rfl, _, rfl, ?_⟩
    refine ite2 (fun z => ?_) (fun z => iteF ⟨rfl, by omega⟩)
    refine hts _ _ ⟨c, rfl, hc, ?_⟩
    refine ⟨_, rfl, a, _, _, _, rfl, rfl, SqT.of ha, rfl, p.2, rfl, h2, _, _, rfl, rfl, _, rfl, ?_⟩
    exact ite2 (fun z2 => ⟨_, rfl, rfl, by simp; omega⟩) (fun z2 => ⟨rfl, by omega⟩)
  · rintro zs H' ⟨rfl, _⟩
    exact fin zs
abbrev s_l_takes : Stmt := top 19
theorem sc_l_takes : FnScope ["_law_p", "_law_sign_here", "_law_lies"] ["_law_p", "_law_sign_here"] (defScope s_l_takes) := ⟨rfl, rfl, rfl, by decide +kernel, rfl, by decide +kernel, by decide +kernel⟩
theorem ok_tk (T : Blt mg) (F : Fun K "_law_takes" "_law_takes" s_l_takes f fd) : FnOk P w K mg base CX0 1 f fd ["_law_p", "_law_sign_here"] spTk := by
  refine F.ok sc_l_takes (fun vs H Q E h => ?_) (fun cdv A outer s H vs Q E hr h => ?_)
  · obtain ⟨d, v, h, ks, c, rfl, _⟩ := h
    rfl
  obtain ⟨d, v, h, ks, c, rfl, hp, hs, hc, q⟩ := h
  refine ⟨_, (pss_cons (ps_if (PW.pt (pw_or (pt_cmpR op_eq (pe_ix ix_tup (pv 0) pe_int (fun _ _ => rfl)) pe_str (nomark _)) (pw_or1 (pt_cmpR op_eq (pe_ix ix_tup (pv 0) pe_int (fun _ _ => rfl)) pe_str (nomark _))))) (pss_one (ps_ret (pe_or (pe_cmpR op_eq (pe_ix ix_tup (pv 0) pe_int (fun _ _ => rfl)) pe_str (nomark _)) (pe_one (pe_cmpR op_eq (pe_ix ix_tup (pv 0) pe_int (fun _ _ => rfl)) (pv 1) (nomark _)))))) pss_nil)
    (pss_cons (ps_setLC (i := 2) sc_l_takes.nd rfl rfl rfl (show CScope _ ["_law_p", "_law_sign_here", "_law_lies"] (defScope s_l_takes) _ from ⟨rfl, by decide +kernel, rfl, by decide +kernel, by decide +kernel, by decide +kernel, by decide +kernel⟩) (pi_tup (pe_ix ix_tup (pv 0) pe_int (fun _ _ => rfl))) (fun _ _ _ _ => (pts_one (PW.pt (pw_and (pt_cmpR op_le (pe_callB call_ord rfl T.b_ord PyProof.Rows.Boot.«ord» (pa_cons (pe_ix (r := rIxT K) ix_tup (pv 0) pe_int (fun _ _ => rfl)) pa_nil)) (pe_callB call_ord rfl T.b_ord PyProof.Rows.Boot.«ord» (pa_cons (pv 2) pa_nil)) (nomark _)) (pw_and1 (pt_cmpR op_le (pe_callB call_ord rfl T.b_ord PyProof.Rows.Boot.«ord» (pa_cons (pv 2) pa_nil)) (pe_callB call_ord rfl T.b_ord PyProof.Rows.Boot.«ord» (pa_cons (pe_ix (r := rIxT K) ix_tup (pv 0) pe_int (fun _ _ => rfl)) pa_nil)) (nomark _))))))) (fun _ _ _ _ => (pv 0)) rfl)
    (pss_one (ps_ret (pe_cmpR op_eq (pe_cmpR (op_neNil hr.units0) (pv 2) (pe_lst pa_nil) (nomark _)) (pe_cmpR op_eq (pe_ix ix_tup (pv 0) pe_int (fun _ _ => rfl)) pe_str (nomark _)) (nomark _)))))), ?_⟩
  cases d with
  | zero => exact hp.elim
  | succ d =>
  obtain ⟨a, kv, rfl, lay, hk⟩ := hp
  obtain ⟨r0, ea⟩ := lay.head
  have kinds : (∃ x, h = .sign x) ∨ h = .any ∨ ∃ (rs : List (Str × Str)) (r : Addr) (w1 : Str), H a = some (.tup [.str w1, .ref r]) ∧ RunsAt H r rs ∧ isw w1 "any" = false ∧ isw w1 "sign" = false := by
    cases h with
    | sign x => exact .inl ⟨x, rfl⟩
    | any => exact .inr (.inl rfl)
    | inn rs =>
      obtain ⟨_, r, e, hr'⟩ := lay
      exact .inr (.inr ⟨rs, r, "in", e, hr', by decide +kernel, by decide +kernel⟩)
    | out rs =>
      obtain ⟨_, r, e, hr'⟩ := lay
      exact .inr (.inr ⟨rs, r, "out", e, hr', by decide +kernel, by decide +kernel⟩)
    | _ => cases hs
  rcases kinds with ⟨x, rfl⟩ | rfl | ⟨rs, r, w1, e, hr', n1, n2⟩
  · refine ⟨_, rfl, a, _, _, _, rfl, rfl, SqT.of ea, at0, rfl, _, rfl, ite_no (show ¬ isw "sign" "any" = true by decide +kernel) ?_⟩
    refine ⟨_, rfl, a, _, _, _, rfl, rfl, SqT.of ea, at0, rfl, _, rfl, ite_yes (show isw "sign" "sign" = true by decide +kernel) ?_⟩
    refine ⟨_, rfl, a, _, _, _, rfl, rfl, SqT.of ea, at0, rfl, _, rfl, ite_no (show ¬ isw "sign" "any" = true by decide +kernel) ?_⟩
    exact ⟨_, rfl, a, _, _, _, rfl, rfl, SqT.of lay.2.2, rfl, _, rfl, rfl, q _ _ Gro.refl⟩
  · refine ⟨_, rfl, a, _, _, _, rfl, rfl, SqT.of ea, at0, rfl, _, rfl, ite_yes (show isw "any" "any" = true by decide +kernel) (iteT ?_)⟩
    exact ⟨_, rfl, a, _, _, _, rfl, rfl, SqT.of ea, at0, rfl, _, rfl, ite_yes (show isw "any" "any" = true by decide +kernel) (q _ _ Gro.refl)⟩
  · refine ⟨_, rfl, a, _, _, _, rfl, rfl, SqT.of e, at0, rfl, _, rfl, ite_no (by show ¬ isw w1 "any" = true; rw [n1]; decide) ?_⟩
    refine ⟨_, rfl, a, _, _, _, rfl, rfl, SqT.of e, at0, rfl, _, rfl, ite_no (by show ¬ isw w1 "sign" = true; rw [n2]; decide) ?_⟩
    refine ⟨_, rfl, a, _, _, _, rfl, rfl, SqT.of e, rfl, r, rfl, ?_⟩
    obtain ⟨vs, hv, hp, hz⟩ := id hr'
    refine ⟨⟨vs, SqT.of hv⟩, ?_⟩
    refine lies_lc (K := K) hr' hc (fun x Q' q' => ⟨_, rfl, q'⟩) (fun zs l hl2 => ?_)
    refine ⟨_, rfl, sz, fun l2 hl3 => ?_⟩
    have g2 : Gro [] H (upd (upd H l (.lst zs)) l2 (.lst [])) := (Gro.new hl2 _).tup hl3
    refine ⟨l, l2, zs, rfl, rfl, SqL.of (by rw [upd_ne (ne_of_none upd_same hl3)]; exact upd_same), SqL.of upd_same, ?_⟩
    exact ⟨_, rfl, a, _, _, _, rfl, rfl, SqT.of (g2.tups _ _ e), at0, rfl, rfl, q _ _ g2⟩
def spWays (d : Nat) : Sp := fun vs H Q _ => ∃ (pv gv : V) (p : Pat) (t : Str) (i f : Int) (n : Nat) (lf : Addr), vs = [pv, .str t, .int i, gv, .ref lf] ∧ PatAt H d pv p ∧ p.nm n ∧ t.length ≤ 7 ∧ 0 ≤ i ∧ i ≤ t.length ∧ GA H n gv ∧ H lf = some (.lst [.int f]) ∧ f ≤ 1500 ∧ WR n lf (fun j => InS p.spn i j ∧ j ≤ t.length) f Q H
def spEach (d : Nat) : Sp := fun vs H Q _ => ∃ (pv : V) (p : Pat) (t : Str) (f : Int) (n : Nat) (wr lf : Addr) (us : List V) (is : List Int), vs = [pv, .str t, .ref wr, .ref lf] ∧ PatAt H d pv p ∧ p.nm n ∧ t.length ≤ 7 ∧ H wr = some (.lst us) ∧ Paired (WyAt n H) us is ∧ us.length ≤ 1500 ∧ (∀ i ∈ is, 0 ≤ i ∧ i ≤ t.length) ∧ H lf = some (.lst [.int f]) ∧ f ≤ 1500 ∧
  WR n lf (fun j => ∃ i ∈ is, InS p.spn i j ∧ j ≤ t.length) f Q H
abbrev s_l_each : Stmt := top 20
theorem sc_l_each : FnScope ["_law_part", "_law_text_here", "_law_ways_here", "_law_left", "_law_found", "_law_way"] ["_law_part", "_law_text_here", "_law_ways_here", "_law_left"] (defScope s_l_each) := ⟨rfl, rfl, rfl, by decide +kernel, rfl, by decide +kernel, by decide +kernel⟩
theorem ok_each {d k : Nat} (O_l_ways : Own P w K mg base k "_law_ways" ["_law_p", "_law_text_here", "_law_i", "_law_g", "_law_left"] (spWays d)) (F : Fun K "_law_each" "_law_each" s_l_each f fd) : FnOk P w K mg base CX0 (k + 1) f fd ["_law_part", "_law_text_here", "_law_ways_here", "_law_left"] (spEach d) := by
  refine F.ok sc_l_each (fun vs H Q E h => ?_) (fun cdv A outer s H vs Q E hr h => ?_)
  · obtain ⟨v0, p, t, f, n, wr, lf, us, is, rfl, _⟩ := h
    rfl
  obtain ⟨v0, p, t, f0, n, wr, lf, us, is, rfl, hp, hnm, ht, hwr, hus, hul, his, hlf, hf, q⟩ := h
  refine ⟨_, (pss_cons (ps_set (i := 4) sc_l_each.nd rfl (by first | exact Or.inl rfl | exact Or.inr rfl) (pe_lst pa_nil))
    (pss_cons (ps_for PassesOwn.never rfl (pi_list (pv 2)) (pg_name (i := 5) sc_l_each.nd rfl (by first | exact Or.inl rfl | exact Or.inr rfl)) (pss_one (ps_set (i := 4) sc_l_each.nd rfl (by first | exact Or.inl rfl | exact Or.inr rfl) (pe_op op_cat (pv 4) (pe_own (O_l_ways.mono (by omega)) hr rfl (pa_cons (pv 0) (pa_cons (pv 1) (pa_cons (pe_ix ix_tup (pv 5) pe_int (fun _ _ => rfl)) (pa_cons (pe_ix ix_tup (pv 5) pe_int (fun _ _ => rfl)) (pa_cons (pv 3) pa_nil))))))))))
    (pss_one (ps_ret (pv 4))))), ?_⟩
  have hne := ways_ne hus hwr hlf
  refine ⟨sz, fun a ha => ?_⟩
  have na : wr ≠ a := ne_of_none hwr ha
  have nf : lf ≠ a := ne_of_none hlf ha
  refine ⟨_, rfl, wr, rfl, ⟨us, SqL.of (by rw [upd_ne na]; exact hwr)⟩, ?_⟩
  refine for_list (xs := us) (fun k σ H' => ∃ (fr : Addr) (vs : List V) (js : List Int) (f' : Int) (wy : Option V), σ = [some v0, some (.str t), some (.ref wr), some (.ref lf), some (.ref fr), wy] ∧ H' fr = some (.lst vs) ∧ Paired (WyAt n H') vs js ∧ (∀ j ∈ js, ∃ i ∈ is, InS p.spn i j ∧ j ≤ t.length) ∧ H' lf = some (.lst [.int f']) ∧ js.length + f'.toNat ≤ f0.toNat ∧ f' ≤ f0 ∧ Gro [lf] H H')
    ⟨a, [], [], f0, none, rfl, upd_same, .nil, (fun j hj => by simp at hj), by rw [upd_ne nf]; exact hlf, by simp, Int.le_refl _, Gro.new ha _⟩ (fun k σ H' _ ⟨_, _, _, _, _, _, _, _, _, _, _, _, g⟩ => SqL.of (g.keep _ _ hwr (by simpa using hne))) ?_ ?_
  · rintro k x σ H1 hx ⟨fr, vs, js, f1, wy, rfl, hfr, hvs, hjs, hl1, hlen, hf1, g1⟩
    obtain ⟨i, hii, hw⟩ := paired_get hus hx
    have him := List.mem_of_getElem? hii
    obtain ⟨b, gv, rfl, hb, hg⟩ := hw.mono g1.tups
    refine ⟨_, rfl, _, rfl, _, rfl, _, rfl, b, _, _, _, rfl, rfl, SqT.of hb, at0, _, rfl, b, _, _, _, rfl, rfl, SqT.of hb, rfl, _, rfl, v0, gv, p, t, i, f1, n, lf, rfl, hp.mono g1.tups, hnm, ht, (his i him).1, (his i him).2, hg, hl1, by omega, fun r2 vs2 js2 f2 H2 hr2 hv2 hs2 hl2 hlen2 hf2 g2 => ?_⟩
    have nr : fr ≠ lf := ways_ne hvs hfr hl1
    have hfr2 := g2.keep _ _ hfr (by simpa using nr)
    have e1 := Paired.length hvs
    have e2 := Paired.length hv2
    refine ⟨fr, r2, vs, vs2, rfl, rfl, hfr2, hr2, Nat.le_of_lt (big (n := vs.length + vs2.length) (by omega)), fun c hc => ?_⟩
    have g3 := Gro.new (S := [lf]) hc (.lst (vs ++ vs2))
    refine ⟨c, vs ++ vs2, js ++ js2, f2, _, rfl, upd_same, paired_append (ways_mono (fun b xs h => g3.tups _ _ (g2.tups _ _ h)) hvs) (ways_mono g3.tups hv2), fun j hj => ?_, by rw [upd_ne (ne_of_none hl2 hc)]; exact hl2, by rw [List.length_append]; omega, by omega, (g1.trans g2).trans g3⟩
    rcases List.mem_append.mp hj with z | z
    · exact hjs j z
    · exact ⟨i, him, hs2 j z⟩
  · rintro σ H1 ⟨fr, vs, js, f1, wy, rfl, hfr, hvs, hjs, hl1, hlen, hf1, g1⟩
    exact ⟨_, rfl, q fr vs js f1 H1 hfr hvs hjs hl1 hlen hf1 g1⟩
end
end Seek

set_option maxRecDepth 100000
set_option maxHeartbeats 4000000
namespace Seek
open PySem PySem.Spec PyProof.Rows L2
/-! ### spans -/
theorem getD_at {ns : List Int} {x : Int} (h : x ∈ ns) : ∃ j, j ≤ ns.length - 1 ∧ ns.getD j 0 = x := by
  obtain ⟨j, hj, e⟩ := List.mem_iff_getElem.mp h
  refine ⟨j, by omega, ?_⟩
  rw [List.getD_eq_getElem?_getD, List.getElem?_eq_getElem hj, e]
  rfl
theorem mnL_le {ns : List Int} {x : Int} (h : x ∈ ns) : mnL ns ≤ x := by
  obtain ⟨j, hj, e⟩ := getD_at h
  have := (argBest_lt (fun i => ns.getD i 0) (ns.length - 1)).2 j hj
  rw [← e]
  exact this
theorem le_mxL {ns : List Int} {x : Int} (h : x ∈ ns) : x ≤ mxL ns := by
  obtain ⟨j, hj, e⟩ := getD_at h
  have := (argBest_gt (fun i => ns.getD i 0) (ns.length - 1)).2 j hj
  rw [← e]
  exact this
theorem getD_nn {ns : List Int} (h : ∀ x ∈ ns, 0 ≤ x) (i : Nat) : 0 ≤ ns.getD i 0 := by
  rw [List.getD_eq_getElem?_getD]
  cases e : ns[i]? with
  | none => exact Int.le_refl _
  | some x => exact h x (List.mem_of_getElem? e)
theorem sum_nn : ∀ {ns : List Int}, (∀ x ∈ ns, 0 ≤ x) → 0 ≤ ns.sum
  | [], _ => Int.le_refl _
  | x :: ns, h => by
    have h1 := h x (by simp)
    have h2 := sum_nn (ns := ns) fun y hy => h y (by simp [hy])
    rw [List.sum_cons]
    omega
def SnOk (q : Sn) : Prop := 0 ≤ q.1 ∧ ∀ h, q.2 = some h → 0 ≤ h
theorem nn1 {qs : List Sn} (h : ∀ q ∈ qs, SnOk q) : ∀ x ∈ qs.map (·.1), 0 ≤ x := fun x hx => by
  obtain ⟨q, hq, rfl⟩ := List.mem_map.mp hx
  exact (h q hq).1
theorem nn2 {qs : List Sn} (h : ∀ q ∈ qs, SnOk q) : ∀ x ∈ (qs.map (·.2)).map (·.getD 0), 0 ≤ x := fun x hx => by
  obtain ⟨m, hm, rfl⟩ := List.mem_map.mp hx
  obtain ⟨q, hq, rfl⟩ := List.mem_map.mp hm
  cases e : q.2 with
  | none => exact Int.le_refl _
  | some y => exact (h q hq).2 y e
theorem gen_ok {qs : List Sn} (h : ∀ q ∈ qs, SnOk q) : SnOk (genS qs) := by
  refine ⟨getD_nn (nn1 h) _, fun m hm => ?_⟩
  have hm' : mxO (qs.map (·.2)) = some m := hm
  unfold mxO at hm'
  split at hm'
  · cases hm'
  · injection hm' with hm'
    rw [← hm']
    exact getD_nn (nn2 h) _
theorem row_ok {qs : List Sn} (h : ∀ q ∈ qs, SnOk q) : SnOk (rowS qs) := by
  refine ⟨sum_nn (nn1 h), fun m hm => ?_⟩
  have hm' : sumO (qs.map (·.2)) = some m := hm
  unfold sumO at hm'
  split at hm'
  · cases hm'
  · injection hm' with hm'
    rw [← hm']
    exact sum_nn (nn2 h)
theorem turn_ok {lo : Int} {hi : Option Int} {q : Sn} (h0 : 0 ≤ lo) (hh : ∀ h, hi = some h → 0 ≤ h) (h : SnOk q) : SnOk (turnS lo hi q) := by
  obtain ⟨l, m⟩ := q
  have hl : 0 ≤ lo * l := Int.mul_nonneg h0 h.1
  unfold turnS
  split
  · exact ⟨Int.le_refl _, fun x e => by cases e; exact Int.le_refl _⟩
  · cases hi with
    | none => exact ⟨hl, fun x e => by cases e⟩
    | some y =>
      cases m with
      | none => exact ⟨hl, fun x e => by cases e⟩
      | some z => exact ⟨hl, fun x e => by cases e; exact Int.mul_nonneg (hh y rfl) (h.2 z rfl)⟩
theorem one_ok {i : Int} (h : 0 ≤ i) : SnOk (i, some i) := ⟨h, fun x e => by cases e; exact h⟩
theorem spn_ok {H : Hp} : ∀ {d : Nat} {v : V} {p : Pat}, PatAt H d v p → SnOk p.spn
  | 0, _, _, h => h.elim
  | d + 1, v, .node h ks, ⟨a, kv, e, l, p⟩ => by
    have ih : ∀ q ∈ ks.map Pat.spn, SnOk q := fun q hq => by
      obtain ⟨k, hk, rfl⟩ := List.mem_map.mp hq
      obtain ⟨x, _, hx⟩ := paired_mem p k hk
      exact spn_ok hx
    rw [spn_node]
    cases h with
    | sign s => exact one_ok (by decide)
    | any => exact one_ok (by decide)
    | inn s => exact one_ok (by decide)
    | out s => exact one_ok (by decide)
    | beg => exact one_ok (by decide)
    | fin => exact one_ok (by decide)
    | row => exact row_ok ih
    | alt => exact gen_ok ih
    | grp k => exact gen_ok ih
    | hav k => exact gen_ok ih
    | again k => exact ⟨by show (0 : Int) ≤ 0; decide, fun x e => by cases e⟩
    | look lk =>
      cases lk with
      | once => exact gen_ok ih
      | _ => exact one_ok (by decide)
    | times lo hi how =>
      refine turn_ok l.1.1 (fun h e => (l.1.2.2 h e).1) ?_
      cases hq : ks.map Pat.spn with
      | nil => exact ⟨by show (0 : Int) ≤ 0; decide, fun x e => by cases e⟩
      | cons q qs => exact ih q (by rw [hq]; simp)
theorem InS.gen {qs : List Sn} {q : Sn} {i j : Int} (hq : q ∈ qs) (h : InS q i j) : InS (genS qs) i j := by
  refine ⟨?_, fun m hm => ?_⟩
  · have h1 := mnL_le (List.mem_map.mpr ⟨q, hq, rfl⟩ : q.1 ∈ qs.map (·.1))
    have h2 := h.1
    show i + mnL (qs.map (·.1)) ≤ j
    omega
  · have hm' : mxO (qs.map (·.2)) = some m := hm
    have hmem : q.2 ∈ qs.map (·.2) := List.mem_map.mpr ⟨q, hq, rfl⟩
    unfold mxO at hm'
    split at hm'
    · cases hm'
    · rename_i hn
      injection hm' with hm'
      cases e : q.2 with
      | none => exact absurd (List.any_eq_true.mpr ⟨none, by rw [← e]; exact hmem, rfl⟩) hn
      | some x =>
        have h1 := le_mxL (List.mem_map.mpr ⟨some x, by rw [← e]; exact hmem, rfl⟩ : x ∈ (qs.map (·.2)).map (·.getD 0))
        have h2 := h.2 x e
        omega
theorem InS.snoc {qs : List Sn} {q : Sn} {i k j : Int} (h1 : InS (rowS qs) i k) (h2 : InS q k j) : InS (rowS (qs ++ [q])) i j := by
  refine ⟨?_, fun m hm => ?_⟩
  · have a := h1.1
    have b := h2.1
    show i + ((qs ++ [q]).map (·.1)).sum ≤ j
    rw [List.map_append, List.sum_append]
    have a' : i + (qs.map (·.1)).sum ≤ k := a
    simp only [List.map_cons, List.map_nil, List.sum_cons, List.sum_nil]
    omega
  · have hm' : sumO ((qs ++ [q]).map (·.2)) = some m := hm
    unfold sumO at hm'
    split at hm'
    · cases hm'
    · rename_i hn
      injection hm' with hm'
      rw [List.map_append, List.any_append] at hn
      have hn1 : ¬ (qs.map (·.2)).any Option.isNone = true := fun z => hn (by rw [z]; rfl)
      cases e : q.2 with
      | none => exact absurd (by simp [e]) hn
      | some x =>
        have b := h2.2 x e
        have a := h1.2 (((qs.map (·.2)).map (·.getD 0)).sum) (by show sumO (qs.map (·.2)) = _; unfold sumO; rw [if_neg hn1])
        rw [List.map_append, List.map_append, List.sum_append] at hm'
        simp only [List.map_cons, List.map_nil, List.sum_cons, List.sum_nil, e, Option.getD_some] at hm'
        omega
/-- what m turns ahead and then some more give -/
structure Tn (lo : Int) (hi : Option Int) (q : Sn) (m j k : Int) : Prop where
  le : j ≤ k
  lo : m < lo → j + (lo - m) * q.1 ≤ k
  hi : ∀ h x, hi = some h → q.2 = some x → k ≤ j + (h - m) * x
  no : q.2 = some 0 → k ≤ j
theorem Tn.base {lo : Int} {hi : Option Int} {q : Sn} {m j : Int} (hq : SnOk q) (h1 : ¬ m < lo) (h2 : ∀ h, hi = some h → m ≤ h) : Tn lo hi q m j j := by
  refine ⟨Int.le_refl _, fun z => absurd z h1, fun h x e1 e2 => ?_, fun _ => Int.le_refl _⟩
  have := Int.mul_nonneg (show 0 ≤ h - m by have := h2 h e1; omega) (hq.2 x e2)
  omega
theorem mul_step (a b : Int) : (a + 1) * b = a * b + b := by rw [Int.add_mul, Int.one_mul]
theorem Tn.step {lo : Int} {hi : Option Int} {q : Sn} {m j i k : Int} (hq : SnOk q) (h1 : InS q j i) (h2 : Tn lo hi q (m + 1) i k) : Tn lo hi q m j k := by
  have a := h1.1
  have b := hq.1
  have c := h2.le
  refine ⟨by omega, fun z => ?_, fun h x e1 e2 => ?_, fun e => ?_⟩
  · by_cases z2 : m + 1 < lo
    · have d := h2.lo z2
      have e := mul_step (lo - (m + 1)) q.1
      rw [show lo - (m + 1) + 1 = lo - m by omega] at e
      omega
    · rw [show lo - m = 1 by omega, Int.one_mul]
      omega
  · have d := h2.hi h x e1 e2
    have f := h1.2 x e2
    have e := mul_step (h - (m + 1)) x
    rw [show h - (m + 1) + 1 = h - m by omega] at e
    omega
  · have d := h2.no e
    have f := h1.2 0 e
    omega
theorem Tn.span {lo : Int} {hi : Option Int} {q : Sn} {j k : Int} (h0 : 0 ≤ lo) (h : Tn lo hi q 0 j k) : InS (turnS lo hi q) j k := by
  obtain ⟨l, mm⟩ := q
  have hl : j + lo * l ≤ k := by
    by_cases z : 0 < lo
    · have := h.lo z
      rw [Int.sub_zero] at this
      exact this
    · rw [show lo = 0 by omega, Int.zero_mul]
      have := h.le
      omega
  unfold turnS
  split
  · rename_i z
    exact ⟨by have := h.le; show j + 0 ≤ k; omega, fun x e => by cases e; have := h.no z; omega⟩
  · cases hi with
    | none => exact ⟨hl, fun x e => by cases e⟩
    | some y =>
      cases mm with
      | none => exact ⟨hl, fun x e => by cases e⟩
      | some z =>
        refine ⟨hl, fun x e => ?_⟩
        cases e
        have := h.hi y z rfl rfl
        rw [Int.sub_zero] at this
        exact this
section
variable {P : Program} {w : World} {K : PySem.W.Frag} {mg : Str → Option Value} {base : Heap} {f : Addr} {fd : FuncData}
def spBeh (d : Nat) : Sp := fun vs H Q _ => ∃ (v0 gv : V) (p : Pat) (t : Str) (i f : Int) (n : Nat) (lf : Addr), vs = [v0, .str t, .int i, gv, .ref lf] ∧ PatAt H d v0 p ∧ p.nm n ∧ t.length ≤ 7 ∧ 0 ≤ i ∧ i ≤ t.length ∧ GA H n gv ∧ H lf = some (.lst [.int f]) ∧ f ≤ 1500 ∧ WR n lf (fun j => j = i) f Q H
abbrev s_l_behind : Stmt := top 22
theorem sc_l_behind : FnScope ["_law_p", "_law_text_here", "_law_i", "_law_g", "_law_left", "_law_found", "_law_k"] ["_law_p", "_law_text_here", "_law_i", "_law_g", "_law_left"] (defScope s_l_behind) := ⟨rfl, rfl, rfl, by decide +kernel, rfl, by decide +kernel, by decide +kernel⟩
theorem ok_beh {d k : Nat} (T : Blt mg) (O_l_ways : Own P w K mg base k "_law_ways" ["_law_p", "_law_text_here", "_law_i", "_law_g", "_law_left"] (spWays d)) (F : Fun K "_law_behind" "_law_behind" s_l_behind f fd) : FnOk P w K mg base CX0 (k + 1) f fd ["_law_p", "_law_text_here", "_law_i", "_law_g", "_law_left"] (spBeh d) := by
  refine F.ok sc_l_behind (fun vs H Q E h => ?_) (fun cdv A outer s H vs Q E hr h => ?_)
  · obtain ⟨v0, gv, p, t, i, f, n, lf, rfl, _⟩ := h
    rfl
  obtain ⟨v0, gv, p, t, i, f0, n, lf, rfl, hp, hnm, ht, hi0, hi1, hg, hlf, hf, q⟩ := h
  refine ⟨_, (pss_cons (ps_set (i := 5) sc_l_behind.nd rfl (by first | exact Or.inl rfl | exact Or.inr rfl) (pe_lst pa_nil))
    (pss_cons (ps_for PassesOwn.never rfl (pi_range1 rfl T.b_range (pa_cons (pe_op op_add (pv 2) pe_int) pa_nil)) (pg_name (i := 6) sc_l_behind.nd rfl (by first | exact Or.inl rfl | exact Or.inr rfl)) (pss_one (ps_if (pt_cmpR (op_eqNil hr.units0) (pv 5) (pe_lst pa_nil) (nomark _)) (pss_one (ps_setLC (i := 5) sc_l_behind.nd rfl rfl rfl (show CScope _ ["_law_p", "_law_text_here", "_law_i", "_law_g", "_law_left", "_law_found", "_law_k"] (defScope s_l_behind) _ from ⟨rfl, by decide +kernel, rfl, by decide +kernel, by decide +kernel, by decide +kernel, by decide +kernel⟩) (pi_list (pe_own (O_l_ways.mono (by omega)) hr rfl (pa_cons (pv 0) (pa_cons (pv 1) (pa_cons (pe_op op_sub (pv 2) (pv 6)) (pa_cons (pv 3) (pa_cons (pv 4) pa_nil))))))) (fun _ _ _ _ => (pts_one (pt_cmpR op_eq (pe_ix (r := rIxT K) ix_tup (pv 0) pe_int (fun _ _ => rfl)) (pv 3) (nomark _)))) (fun _ _ _ _ => (pv 0)) rfl)) pss_nil)))
    (pss_one (ps_ret (pv 5))))), ?_⟩
  refine ⟨sz, fun a ha => ?_⟩
  have nf : lf ≠ a := ne_of_none hlf ha
  refine ⟨_, rfl, _, _, rfl, rfl, _, rfl, by omega, by omega, ?_⟩
  refine for_range (n := (i + 1).toNat) (fun k σ H' => ∃ (fr : Addr) (vs : List V) (js : List Int) (f' : Int) (kv : Option V), σ = [some v0, some (.str t), some (.int i), some gv, some (.ref lf), some (.ref fr), kv] ∧ H' fr = some (.lst vs) ∧ Paired (WyAt n H') vs js ∧ (∀ j ∈ js, j = i) ∧ H' lf = some (.lst [.int f']) ∧ js.length + f'.toNat ≤ f0.toNat ∧ f' ≤ f0 ∧ Gro [lf] H H')
    ⟨a, [], [], f0, none, rfl, upd_same, .nil, (fun j hj => by simp at hj), by rw [upd_ne nf]; exact hlf, by simp, Int.le_refl _, Gro.new ha _⟩ ?_ ?_
  · rintro k σ H1 hk ⟨fr, vs, js, f1, kv, rfl, hfr, hvs, hjs, hl1, hlen, hf1, g1⟩
    refine ⟨_, rfl, sz, fun b hb => ?_⟩
    have g2 := Gro.new (S := [lf]) hb (.lst [])
    have hl2 : (upd H1 b (.lst [])) lf = some (.lst [.int f1]) := by rw [upd_ne (ne_of_none hl1 hb)]; exact hl1
    have hfr2 : (upd H1 b (.lst [])) fr = some (.lst vs) := by rw [upd_ne (ne_of_none hfr hb)]; exact hfr
    have hvs2 := ways_mono g2.tups hvs
    refine ⟨fr, b, vs, rfl, rfl, SqL.of hfr2, SqL.of upd_same, _, rfl, ite2 (fun z => ?_) (fun z => ?_)⟩
    · have hv0 : vs = [] := List.isEmpty_iff.mp z
      have hj0 : js.length = 0 := by rw [← Paired.length hvs, hv0]; rfl
      generalize upd H1 b (.lst []) = H2 at *
      have g12 := g1.trans g2
      refine ⟨_, rfl, _, rfl, _, rfl, _, rfl, _, _, rfl, rfl, _, rfl, _, rfl, v0, gv, p, t, i - (0 + (k : Int)), f1, n, lf, rfl, hp.mono g12.tups, hnm, ht, by omega, by omega, hg.mono g12.tups, hl2, by omega, fun r3 vs3 js3 f3 H3 hr3 hv3 hs3 hl3 hlen3 hf3 g3 => ?_⟩
      have e3 := Paired.length hv3
      have nr := ways_ne hv3 hr3 hl3
      refine ⟨r3, rfl, ⟨vs3, SqL.of hr3⟩, ?_⟩
      refine lc_listF (xs := vs3) (fun x ys H' => (∃ zs : List Int, Paired (WyAt n H') ys zs ∧ (∀ j ∈ zs, j = i) ∧ zs.length ≤ x) ∧ H' = H3) ⟨⟨[], .nil, (fun j hj => by simp at hj), Nat.le_refl _⟩, rfl⟩ (big (by omega)) (fun x ys H' ⟨⟨zs, hz, _, hl⟩, _⟩ => by rw [Paired.length hz]; exact hl) (fun x ys H' ⟨_, e⟩ => by rw [e]; exact SqL.of hr3) ?_ ?_
      · rintro x ys H' v hv ⟨⟨zs, hz, hzs, hzl⟩, rfl⟩
        obtain ⟨j, hj, ⟨b2, gv2, rfl, hb2, hg2⟩⟩ := paired_get hv3 hv
        refine ⟨_, rfl, b2, _, _, _, rfl, rfl, SqT.of hb2, at0, _, rfl, rfl, _, rfl, ite2 (fun z => ?_) (fun z => ?_)⟩
        · have hji : j = i := by
            have : V.int j = V.int i := of_decide_eq_true z
            injection this
          refine ⟨_, rfl, ⟨zs ++ [j], hz.snoc ⟨b2, gv2, rfl, hb2, hg2⟩, fun y hy => ?_, by simp; omega⟩, rfl⟩
          rcases List.mem_append.mp hy with z | z
          · exact hzs y z
          · rw [List.mem_singleton.mp z]; exact hji
        · exact ⟨⟨zs, hz, hzs, by omega⟩, rfl⟩
      · rintro ys H' ⟨⟨zs, hz, hzs, hzl⟩, rfl⟩ c hc
        have g4 := Gro.new (S := [lf]) hc (.lst ys)
        exact ⟨c, ys, zs, f3, _, rfl, upd_same, ways_mono g4.tups hz, hzs, by rw [upd_ne (ne_of_none hl3 hc)]; exact hl3, by omega, by omega, (g12.trans g3).trans g4⟩
    · exact ⟨fr, vs, js, f1, _, rfl, hfr2, hvs2, hjs, hl2, hlen, hf1, g1.trans g2⟩
  · rintro σ H1 ⟨fr, vs, js, f1, kv, rfl, hfr, hvs, hjs, hl1, hlen, hf1, g1⟩
    exact ⟨_, rfl, q fr vs js f1 H1 hfr hvs hjs hl1 hlen hf1 g1⟩
def spTurns (d e : Nat) : Sp := fun vs H Q _ => ∃ (v0 gv : V) (p : Pat) (lo : Int) (hi : Option Int) (how : How) (t : Str) (m j f : Int) (n : Nat) (lf : Addr), vs = [v0, .str t, .int m, .int j, gv, .ref lf] ∧ PatAt H (d + 1) v0 (.node (.times lo hi how) [p]) ∧ p.nm n ∧ t.length ≤ 7 ∧ (∀ h, hi = some h → m ≤ h) ∧ 0 ≤ j ∧ j ≤ t.length ∧ GA H n gv ∧ H lf = some (.lst [.int f]) ∧ f ≤ 1500 ∧
  (lo - m).toNat + ((t.length : Int) - j).toNat < e ∧ WR n lf (fun k => Tn lo hi p.spn m j k ∧ k ≤ t.length) f Q H
/-- behind the loop -/
def cutT (v0 gv : V) (p : Pat) (lo : Int) (hi : Option Int) (t : Str) (m j f : Int) (n : Nat) (lf : Addr) (H : Hp) : TS := fun D σ H1 => ∃ (ar : Addr) (vs : List V) (js : List Int) (f' : Int) (wy : Option V), σ = [some v0, some (.str t), some (.int m), some (.int j), some gv, some (.ref lf), some (.ref ar), wy] ∧ H1 ar = some (.lst vs) ∧ Paired (WyAt n H1) vs js ∧ (∀ k ∈ js, Tn lo hi p.spn m j k ∧ k ≤ t.length) ∧ H1 lf = some (.lst [.int f']) ∧ js.length + 1 + f'.toNat ≤ f.toNat ∧ f' ≤ f ∧ Gro [lf] H H1 ∧ WR n lf (fun k => Tn lo hi p.spn m j k ∧ k ≤ t.length) f D.rt H
abbrev s_l_turns : Stmt := top 21
theorem sc_l_turns : FnScope ["_law_p", "_law_text_here", "_law_n", "_law_j", "_law_g", "_law_left", "_law_on", "_law_way"] ["_law_p", "_law_text_here", "_law_n", "_law_j", "_law_g", "_law_left"] (defScope s_l_turns) := ⟨rfl, rfl, rfl, by decide +kernel, rfl, by decide +kernel, by decide +kernel⟩
theorem ok_turns {d e k : Nat} (O_l_ways : Own P w K mg base k "_law_ways" ["_law_p", "_law_text_here", "_law_i", "_law_g", "_law_left"] (spWays d)) (O_l_turns : Own P w K mg base k "_law_turns" ["_law_p", "_law_text_here", "_law_n", "_law_j", "_law_g", "_law_left"] (spTurns d e)) (F : Fun K "_law_turns" "_law_turns" s_l_turns f fd) : FnOk P w K mg base CX0 (k + 1) f fd ["_law_p", "_law_text_here", "_law_n", "_law_j", "_law_g", "_law_left"] (spTurns d (e + 1)) := by
  refine F.ok sc_l_turns (fun vs H Q E h => ?_) (fun cdv A outer s H vs Q E hr h => ?_)
  · obtain ⟨v0, gv, p, lo, hi, how, t, m, j, f, n, lf, rfl, _⟩ := h
    rfl
  obtain ⟨v0, gv, p, lo, hi, how, t, m, j, f0, n, lf, rfl, hp, hnm, ht, hmh, hj0, hj1, hg, hlf, hf, hme, q⟩ := h
  obtain ⟨a0, kv, rfl, ⟨⟨hlo0, hlo1, hhi⟩, k0, rfl, ea⟩, hk⟩ := id hp
  have hp1 : PatAt H d k0 p := by
    cases hk with
    | cons h _ => exact h
  have hok := spn_ok hp1
  refine ⟨_, (pss_cons (ps_asg (pe_op op_sub (pe_ix ix_list (pv 5) pe_int (fun _ _ => rfl)) pe_int) (pg_sub (pv 5) pe_int set_list))
    (pss_cons (ps_if (pt_cmpR op_lt (pe_ix ix_list (pv 5) pe_int (fun _ _ => rfl)) pe_int (nomark _)) (pss_one (ps_ret (pe_lst pa_nil))) pss_nil)
    (pss_cons (ps_set (i := 6) sc_l_turns.nd rfl (by first | exact Or.inl rfl | exact Or.inr rfl) (pe_lst pa_nil))
    (pss_cons (ps_if (PW.pt (pw_or (pt_cmp (pc_isN (pe_ix ix_tup (pv 0) pe_int (fun _ _ => rfl)))) (pw_or1 (pt_cmpR op_lt (pv 2) (pe_ix ix_tup (pv 0) pe_int (fun _ _ => rfl)) (nomark _))))) (pss_one (ps_for PassesOwn.never rfl (pi_list (pe_own (O_l_ways.mono (by omega)) hr rfl (pa_cons (pe_ix ix_tup (pv 0) pe_int (fun _ _ => rfl)) (pa_cons (pv 1) (pa_cons (pv 3) (pa_cons (pv 4) (pa_cons (pv 5) pa_nil))))))) (pg_name (i := 7) sc_l_turns.nd rfl (by first | exact Or.inl rfl | exact Or.inr rfl)) (pss_one (ps_if (PW.pt (pw_or (pt_cmpR op_lt (pv 2) (pe_ix ix_tup (pv 0) pe_int (fun _ _ => rfl)) (nomark _)) (pw_or1 (pt_cmpR op_gt (pe_ix ix_tup (pv 7) pe_int (fun _ _ => rfl)) (pv 3) (nomark _))))) (pss_one (ps_set (i := 6) sc_l_turns.nd rfl (by first | exact Or.inl rfl | exact Or.inr rfl) (pe_op op_cat (pv 6) (pe_own (O_l_turns.mono (by omega)) hr rfl (pa_cons (pv 0) (pa_cons (pv 1) (pa_cons (pe_op op_add (pv 2) pe_int) (pa_cons (pe_ix ix_tup (pv 7) pe_int (fun _ _ => rfl)) (pa_cons (pe_ix ix_tup (pv 7) pe_int (fun _ _ => rfl)) (pa_cons (pv 5) pa_nil)))))))))) pss_nil)))) pss_nil)
    (pss_cut (cutT (.ref a0) gv p lo hi t m j f0 n lf H) (pss_cons (ps_if (pt_cmpR op_lt (pv 2) (pe_ix ix_tup (pv 0) pe_int (fun _ _ => rfl)) (nomark _)) (pss_one (ps_ret (pv 6))) pss_nil)
    (pss_cons (ps_if (pt_cmpR op_eq (pe_ix ix_tup (pv 0) pe_int (fun _ _ => rfl)) pe_str (nomark _)) (pss_one (ps_ret (pe_op op_cat (pe_lst (pa_cons (pe_tup (pa_cons (pv 3) (pa_cons (pv 4) pa_nil))) pa_nil)) (pv 6)))) pss_nil)
    (pss_one (ps_ret (pe_op op_cat (pv 6) (pe_lst (pa_cons (pe_tup (pa_cons (pv 3) (pa_cons (pv 4) pa_nil))) pa_nil))))))) (fun D1 σ1 H1 hcut => ?cut4)))))), ?_⟩
  case cut4 =>
    obtain ⟨ar, vs, js, f1, wy, rfl, har, hvs, hjs, hl1, hlen, hf1, g1, q⟩ := hcut
    have ea1 := g1.tups _ _ ea
    have el := Paired.length hvs
    refine ⟨_, rfl, _, rfl, a0, _, _, _, rfl, rfl, SqT.of ea1, rfl, _, _, rfl, rfl, _, rfl, ite2 (fun z => ?_) (fun z => ?_)⟩
    · exact ⟨_, rfl, q ar vs js f1 H1 har hvs hjs hl1 (by omega) hf1 g1⟩
    have hml : ¬ m < lo := fun z' => z (decide_eq_true z')
    have hb : Tn lo hi p.spn m j j ∧ j ≤ t.length := ⟨Tn.base hok hml hmh, hj1⟩
    have nar := ways_ne hvs har hl1
    refine ⟨_, rfl, a0, _, _, _, rfl, rfl, SqT.of ea1, rfl, rfl, _, rfl, ite2 (fun _ => ?_) (fun _ => ?_)⟩
    · refine ⟨_, rfl, _, rfl, sz, fun t1 ht1 => ⟨sz, fun r1 hr1 => ?_⟩⟩
      have g2 : Gro [] H1 (upd (upd H1 t1 (.tup [.int j, gv])) r1 (.lst [.ref t1])) := (Gro.new ht1 _).tup hr1
      have et : (upd (upd H1 t1 (.tup [.int j, gv])) r1 (.lst [.ref t1])) t1 = some (.tup [.int j, gv]) := by rw [upd_ne (ne_of_none upd_same hr1)]; exact upd_same
      have er : (upd (upd H1 t1 (.tup [.int j, gv])) r1 (.lst [.ref t1])) r1 = some (.lst [.ref t1]) := upd_same
      generalize upd (upd H1 t1 (.tup [.int j, gv])) r1 (.lst [.ref t1]) = H2 at *
      refine ⟨_, rfl, r1, ar, [.ref t1], vs, rfl, rfl, er, g2.keep _ _ har (by simp), Nat.le_of_lt (big (n := 1 + vs.length) (by omega)), fun r2 hr2 => ?_⟩
      have g3 := Gro.new (S := []) hr2 (.lst ([.ref t1] ++ vs))
      refine q r2 ([.ref t1] ++ vs) (j :: js) f1 _ upd_same (.cons ⟨t1, gv, rfl, g3.tups _ _ et, hg.mono fun b xs h => g3.tups _ _ (g2.tups _ _ (g1.tups _ _ h))⟩ (ways_mono (fun b xs h => g3.tups _ _ (g2.tups _ _ h)) hvs)) (fun k hk => ?_) ((g2.trans g3).keep _ _ hl1 (by simp)) (by simp; omega) hf1 (g1.trans ((g2.trans g3).mono (by simp)))
      rcases List.mem_cons.mp hk with rfl | hk
      · exact hb
      · exact hjs k hk
    · refine ⟨_, rfl, _, rfl, _, rfl, sz, fun t1 ht1 => ⟨sz, fun r1 hr1 => ?_⟩⟩
      have g2 : Gro [] H1 (upd (upd H1 t1 (.tup [.int j, gv])) r1 (.lst [.ref t1])) := (Gro.new ht1 _).tup hr1
      have et : (upd (upd H1 t1 (.tup [.int j, gv])) r1 (.lst [.ref t1])) t1 = some (.tup [.int j, gv]) := by rw [upd_ne (ne_of_none upd_same hr1)]; exact upd_same
      have er : (upd (upd H1 t1 (.tup [.int j, gv])) r1 (.lst [.ref t1])) r1 = some (.lst [.ref t1]) := upd_same
      generalize upd (upd H1 t1 (.tup [.int j, gv])) r1 (.lst [.ref t1]) = H2 at *
      refine ⟨ar, r1, vs, [.ref t1], rfl, rfl, g2.keep _ _ har (by simp), er, Nat.le_of_lt (big (n := vs.length + 1) (by omega)), fun r2 hr2 => ?_⟩
      have g3 := Gro.new (S := []) hr2 (.lst (vs ++ [.ref t1]))
      refine q r2 (vs ++ [.ref t1]) (js ++ [j]) f1 _ upd_same ((ways_mono (fun b xs h => g3.tups _ _ (g2.tups _ _ h)) hvs).snoc ⟨t1, gv, rfl, g3.tups _ _ et, hg.mono fun b xs h => g3.tups _ _ (g2.tups _ _ (g1.tups _ _ h))⟩) (fun k hk => ?_) ((g2.trans g3).keep _ _ hl1 (by simp)) (by simp; omega) hf1 (g1.trans ((g2.trans g3).mono (by simp)))
      rcases List.mem_append.mp hk with hk | hk
      · exact hjs k hk
      · rw [List.mem_singleton.mp hk]; exact hb
  refine ⟨_, rfl, lf, _, _, _, rfl, rfl, SqL.of hlf, rfl, _, _, rfl, rfl, _, rfl, lf, _, _, 0, rfl, rfl, hlf, rfl, ?_⟩
  have g1 : Gro [lf] H (upd H lf (.lst [.int (f0 - 1)])) := Gro.set (by simp) hlf _
  have hl1 : (upd H lf (.lst [.int (f0 - 1)])) lf = some (.lst [.int (f0 - 1)]) := upd_same
  show _
  refine ⟨_, rfl, lf, _, _, _, rfl, rfl, SqL.of hl1, rfl, _, _, rfl, rfl, _, rfl, ite2 (fun z => ?_) (fun z => ?_)⟩
  · exact ⟨sz, fun r hr => q.nil hr g1 hl1 (by omega)⟩
  have hf0 : 0 ≤ f0 - 1 := by
    have : ¬ f0 - 1 < 0 := fun z' => z (decide_eq_true z')
    omega
  refine ⟨sz, fun ar har => ?_⟩
  have g2 := Gro.new (S := [lf]) har (.lst [])
  have hl2 : (upd (upd H lf (.lst [.int (f0 - 1)])) ar (.lst [])) lf = some (.lst [.int (f0 - 1)]) := by rw [upd_ne (ne_of_none hl1 har)]; exact hl1
  have ear : (upd (upd H lf (.lst [.int (f0 - 1)])) ar (.lst [])) ar = some (.lst []) := upd_same
  have g12 : Gro [lf] H (upd (upd H lf (.lst [.int (f0 - 1)])) ar (.lst [])) := g1.trans g2
  have ea2 := g12.tups _ _ ea
  have nar : ar ≠ lf := ne_of ear hl2 (by intro z; cases z)
  refine ⟨_, rfl, a0, _, _, _, rfl, rfl, SqT.of ea2, rfl, _, rfl, ?_⟩
  by_cases hb : ∀ h, hi = some h → m < h
  · refine ite2 (fun z => iteT ?_) (fun z => ?_)
    rotate_left
    obtain ⟨h, hh⟩ : ∃ h, hi = some h := by
      cases hi with
      | none => exact absurd (decide_eq_true rfl) z
      | some h => exact ⟨h, rfl⟩
    refine ⟨_, rfl, _, rfl, a0, _, _, _, rfl, rfl, SqT.of ea2, (show atI [V.str "times", .int lo, optV hi, .str how.text, k0] 2 = some (.int h) by rw [hh]; rfl), _, _, rfl, rfl, _, rfl, ite_yes (decide_eq_true (hb h hh)) ?_⟩
    all_goals
      refine ⟨_, rfl, a0, _, _, _, rfl, rfl, SqT.of ea2, rfl, _, rfl, _, rfl, _, rfl, _, rfl, k0, gv, p, t, j, f0 - 1, n, lf, rfl, hp1.mono g12.tups, hnm, ht, hj0, hj1, hg.mono g12.tups, hl2, by omega, fun r3 vs3 js3 f3 H3 hr3 hv3 hs3 hl3 hlen3 hf3 g3 => ?_⟩
      have g13 := g12.trans g3
      have nr3 := ways_ne hv3 hr3 hl3
      refine ⟨r3, rfl, ⟨vs3, SqL.of hr3⟩, ?_⟩
      refine for_list (xs := vs3) (fun x σ H' => ∃ (ar' : Addr) (vs : List V) (js : List Int) (f' : Int) (wy : Option V), σ = [some (.ref a0), some (.str t), some (.int m), some (.int j), some gv, some (.ref lf), some (.ref ar'), wy] ∧ H' ar' = some (.lst vs) ∧ Paired (WyAt n H') vs js ∧ (∀ k ∈ js, Tn lo hi p.spn m j k ∧ k ≤ t.length) ∧ H' lf = some (.lst [.int f']) ∧ js.length + f'.toNat ≤ f3.toNat ∧ f' ≤ f3 ∧ Gro [lf] H3 H')
        ⟨ar, [], [], f3, none, rfl, g3.keep _ _ ear (by simpa using nar), .nil, (fun k hk => by simp at hk), hl3, by simp, Int.le_refl _, Gro.refl⟩ (fun x σ H' _ ⟨_, _, _, _, _, _, _, _, _, _, _, _, g⟩ => SqL.of (g.keep _ _ hr3 (by simpa using nr3))) ?_ ?_
      · rintro x v σ H4 hv ⟨ar4, vs4, js4, f4, wy, rfl, har4, hvs4, hjs4, hl4, hlen4, hf4, g4⟩
        obtain ⟨i, hi3, hw⟩ := paired_get hv3 hv
        obtain ⟨b4, gv4, rfl, hb4, hg4⟩ := hw.mono g4.tups
        obtain ⟨hin, hit⟩ := hs3 i (List.mem_of_getElem? hi3)
        have ea4 := g4.tups _ _ (g3.tups _ _ ea2)
        have nar4 := ways_ne hvs4 har4 hl4
        have hji : j ≤ i := by have := hin.1; have := hok.1; omega
        refine ⟨_, rfl, _, rfl, a0, _, _, _, rfl, rfl, SqT.of ea4, rfl, _, _, rfl, rfl, _, rfl, ?_⟩
        by_cases hc : m < lo ∨ j < i
        · refine ite2 (fun z => iteT ?_) (fun z => ⟨_, rfl, b4, _, _, _, rfl, rfl, SqT.of hb4, at0, _, rfl, _, _, rfl, rfl, _, rfl, ite_yes (decide_eq_true (by rcases hc with hc | hc <;> first | exact hc | exact absurd (decide_eq_true hc) z)) ?_⟩)
          all_goals
            refine ⟨_, rfl, _, rfl, _, rfl, _, rfl, _, _, rfl, rfl, _, rfl, b4, _, _, _, rfl, rfl, SqT.of hb4, at0, _, rfl, b4, _, _, _, rfl, rfl, SqT.of hb4, rfl, _, rfl, .ref a0, gv4, p, lo, hi, how, t, m + 1, i, f4, n, lf, rfl, hp.mono (fun b xs h => g4.tups _ _ (g13.tups _ _ h)), hnm, ht, (fun h e => by have := hb h e; omega), by omega, hit, hg4, hl4, by omega, by omega, fun r5 vs5 js5 f5 H5 hr5 hv5 hs5 hl5 hlen5 hf5 g5 => ?_⟩
            have e4 := Paired.length hvs4
            have e5 := Paired.length hv5
            refine ⟨ar4, r5, vs4, vs5, rfl, rfl, g5.keep _ _ har4 (by simpa using nar4), hr5, Nat.le_of_lt (big (n := vs4.length + vs5.length) (by omega)), fun c hc => ?_⟩
            have g6 := Gro.new (S := [lf]) hc (.lst (vs4 ++ vs5))
            refine ⟨c, vs4 ++ vs5, js4 ++ js5, f5, _, rfl, upd_same, paired_append (ways_mono (fun b xs h => g6.tups _ _ (g5.tups _ _ h)) hvs4) (ways_mono g6.tups hv5), fun y hy => ?_, by rw [upd_ne (ne_of_none hl5 hc)]; exact hl5, by rw [List.length_append]; omega, by omega, (g4.trans g5).trans g6⟩
            rcases List.mem_append.mp hy with hy | hy
            · exact hjs4 y hy
            · exact ⟨Tn.step hok hin (hs5 y hy).1, (hs5 y hy).2⟩
        · refine ite_no (fun z => hc (.inl (of_decide_eq_true z))) ⟨_, rfl, b4, _, _, _, rfl, rfl, SqT.of hb4, at0, _, rfl, _, _, rfl, rfl, _, rfl, ite_no (fun z => hc (.inr (of_decide_eq_true z))) ?_⟩
          exact ⟨ar4, vs4, js4, f4, _, rfl, har4, hvs4, hjs4, hl4, hlen4, hf4, g4⟩
      · rintro σ H4 ⟨ar4, vs4, js4, f4, wy, rfl, har4, hvs4, hjs4, hl4, hlen4, hf4, g4⟩
        exact ⟨ar4, vs4, js4, f4, wy, rfl, har4, hvs4, hjs4, hl4, by omega, by omega, g13.trans g4, q⟩
  · obtain ⟨h, hh, hmh3⟩ : ∃ h, hi = some h ∧ ¬ m < h := by
      apply Classical.byContradiction
      intro hn
      exact hb fun h e => Classical.byContradiction fun z => hn ⟨h, e, z⟩
    refine ite_no (by rw [hh]; intro z; have z' : V.int h = V.non := of_decide_eq_true z; cases z') ?_
    refine ⟨_, rfl, _, rfl, a0, _, _, _, rfl, rfl, SqT.of ea2, (show atI [V.str "times", .int lo, optV hi, .str how.text, k0] 2 = some (.int h) by rw [hh]; rfl), _, _, rfl, rfl, _, rfl, ite_no (fun z => hmh3 (of_decide_eq_true z)) ?_⟩
    exact ⟨ar, [], [], f0 - 1, none, rfl, ear, .nil, (fun k hk => by simp at hk), hl2, by simp; omega, by omega, g12, q⟩
theorem own_turns {d k : Nat} (O_l_ways : Own P w K mg base k "_law_ways" ["_law_p", "_law_text_here", "_law_i", "_law_g", "_law_left"] (spWays d)) (D : Def K mg "_law_turns" s_l_turns ["_law_p", "_law_text_here", "_law_n", "_law_j", "_law_g", "_law_left"]) : ∀ e, Own P w K mg base (k + e) "_law_turns" ["_law_p", "_law_text_here", "_law_n", "_law_j", "_law_g", "_law_left"] (spTurns d e)
  | 0 => D.own fun f fd F => FnOk.never fun vs H Q E ⟨_, _, _, _, _, _, _, _, _, _, _, _, _, _, _, _, _, _, _, _, _, _, h, _⟩ => by omega
  | e + 1 => D.own fun f fd F => ok_turns (O_l_ways.mono (Nat.le_add_right _ _)) (own_turns O_l_ways D e) F
end
end Seek

set_option maxRecDepth 100000
set_option maxHeartbeats 4000000
namespace Seek
open PySem PySem.Spec PyProof.Rows L2
theorem catA_to {K : PySem.W.Frag} {a b : Addr} {xs ys : List V} {H : Hp} {Q : VK} (ha : H a = some (.tup xs)) (hb : H b = some (.tup ys)) (hz : xs.length + ys.length ≤ 1000) (h : ∀ (r : Addr) (H' : Hp), H' r = some (.tup (xs ++ ys)) → Gro [] H H' → Q (.ref r) H') : rCatA K (.ref a) (.ref b) H Q :=
  ⟨a, b, xs, ys, rfl, rfl, SqT.of ha, SqT.of hb, small hz, fun e => h b H (by rw [e]; exact hb) Gro.refl, fun _ e => h a H (by rw [e, List.append_nil]; exact ha) Gro.refl, fun _ _ p hp => h p _ upd_same (Gro.new hp _)⟩
inductive Kd where | one | edge | row | alt | times | grp | mem
  deriving DecidableEq
def Wd.kd : Wd → Kd
  | .sign => .one | .any => .one | .inn => .one | .out => .one | .beg => .edge | .fin => .edge | .row => .row | .alt => .alt | .times => .times | .grp => .grp | _ => .mem
theorem k_one (h : Hd) : inV (.str h.word) oneSign = decide (h.wd.kd = .one) := by rw [h.word_wd]; cases h.wd <;> decide +kernel
theorem k_edge (h : Hd) : (isw h.word "begin" || isw h.word "end") = decide (h.wd.kd = .edge) := by rw [h.word_wd]; cases h.wd <;> decide +kernel
theorem k_row (h : Hd) : isw h.word "row" = decide (h.wd.kd = .row) := by rw [h.word_wd]; cases h.wd <;> decide +kernel
theorem k_alt (h : Hd) : isw h.word "or" = decide (h.wd.kd = .alt) := by rw [h.word_wd]; cases h.wd <;> decide +kernel
theorem k_times (h : Hd) : isw h.word "times" = decide (h.wd.kd = .times) := by rw [h.word_wd]; cases h.wd <;> decide +kernel
theorem k_grp (h : Hd) : isw h.word "group" = decide (h.wd.kd = .grp) := by rw [h.word_wd]; cases h.wd <;> decide +kernel
theorem sub_le {t : Str} {a b : Nat} : (sub t a b).length ≤ t.length - a := by
  show ((t.cps.toList.drop a).take (b - a)).toArray.size ≤ _
  rw [List.size_toArray, List.length_take, List.length_drop]
  have : t.cps.toList.length = t.length := by simp [Str.length]
  omega
section
variable {P : Program} {w : World} {K : PySem.W.Frag} {mg : Str → Option Value} {base : Heap} {f : Addr} {fd : FuncData}
def spMem (d : Nat) : Sp := fun vs H Q _ => ∃ (v0 gv : V) (h : Hd) (ks : List Pat) (t : Str) (i f : Int) (n : Nat) (lf : Addr), vs = [v0, .str t, .int i, gv, .ref lf] ∧ PatAt H (d + 1) v0 (.node h ks) ∧ h.wd.kd = .mem ∧ (Pat.node h ks).nm n ∧ t.length ≤ 7 ∧ 0 ≤ i ∧ i ≤ t.length ∧ GA H n gv ∧ H lf = some (.lst [.int f]) ∧ 0 ≤ f ∧ f ≤ 1500 ∧ WR n lf (fun j => InS (Pat.node h ks).spn i j ∧ j ≤ t.length) (f + 1) Q H
/-- an entry of the groups -/
theorem GA.at_ {H : Hp} {n : Nat} {v : V} {k : Int} (h : GA H n v) (h1 : 1 ≤ k) (h2 : k ≤ n) : ∃ (g : Addr) (es : List V) (e : V), v = .ref g ∧ H g = some (.tup es) ∧ atI es (k - 1) = some e ∧ EnAt H e := by
  obtain ⟨g, es, e1, e2, e3, e4⟩ := h
  have hl : (k - 1).toNat < es.length := by omega
  have ha := atI_nat (List.getElem?_eq_getElem hl)
  rw [show (((k - 1).toNat : Nat) : Int) = k - 1 by omega] at ha
  exact ⟨g, es, _, e1, e2, ha, e4 _ (List.getElem_mem hl)⟩
/-- behind the ways of what is looked for -/
def cutL (v0 gv : V) (h : Hd) (t : Str) (i f : Int) (n : Nat) (lf : Addr) (H : Hp) : TS := fun D σ H1 => ∃ (wr : Addr) (vs : List V) (js : List Int) (f' : Int), σ = [some v0, some (.str t), some (.int i), some gv, some (.ref lf), some (.str h.word), none, none, some (.ref wr)] ∧ H1 wr = some (.lst vs) ∧ Paired (WyAt n H1) vs js ∧ H1 lf = some (.lst [.int f']) ∧ js.length + f'.toNat ≤ f.toNat ∧ f' ≤ f ∧ Gro [lf] H H1 ∧ WR n lf (fun j => j = i) (f + 1) D.rt H
abbrev s_l_memory : Stmt := top 23
theorem sc_l_memory : FnScope ["_law_p", "_law_text_here", "_law_i", "_law_g", "_law_left", "_law_word", "_law_pair", "_law_told", "_law_ways_here"] ["_law_p", "_law_text_here", "_law_i", "_law_g", "_law_left"] (defScope s_l_memory) := ⟨rfl, rfl, rfl, by decide +kernel, rfl, by decide +kernel, by decide +kernel⟩
theorem ok_mem {d k : Nat} (T : Blt mg) (O_l_ways : Own P w K mg base k "_law_ways" ["_law_p", "_law_text_here", "_law_i", "_law_g", "_law_left"] (spWays d)) (O_l_behind : Own P w K mg base k "_law_behind" ["_law_p", "_law_text_here", "_law_i", "_law_g", "_law_left"] (spBeh d)) (F : Fun K "_law_memory" "_law_memory" s_l_memory f fd) : FnOk P w K mg base CX0 (k + 1) f fd ["_law_p", "_law_text_here", "_law_i", "_law_g", "_law_left"] (spMem d) := by
  refine F.ok sc_l_memory (fun vs H Q E h => ?_) (fun cdv A outer s H vs Q E hr h => ?_)
  · obtain ⟨v0, gv, h, ks, t, i, f, n, lf, rfl, _⟩ := h
    rfl
  obtain ⟨v0, gv, h, ks, t, i, f0, n, lf, rfl, hp, hkd, hnm, ht, hi0, hi1, hg, hlf, hf0, hf, q⟩ := h
  refine ⟨_, (pss_cons (ps_set (i := 5) sc_l_memory.nd rfl (by first | exact Or.inl rfl | exact Or.inr rfl) (pe_ix ix_tup (pv 0) pe_int (fun _ _ => rfl)))
    (pss_cons (ps_if (pt_cmpR op_eq (pv 5) pe_str (nomark _)) (pss_cons (ps_set (i := 6) sc_l_memory.nd rfl (by first | exact Or.inl rfl | exact Or.inr rfl) (pe_ix ix_tup (pv 3) (pe_op op_sub (pe_ix ix_tup (pv 0) pe_int (fun _ _ => rfl)) pe_int) (fun _ _ => rfl)))
    (pss_cons (ps_if (pt_cmp (pc_isN (pv 6))) (pss_one (ps_ret (pe_lst pa_nil))) pss_nil)
    (pss_cons (ps_set (i := 7) sc_l_memory.nd rfl (by first | exact Or.inl rfl | exact Or.inr rfl) (pe_slice sl_str (pv 1) (po_some (pe_ix ix_tup (pv 6) pe_int (fun _ _ => rfl))) (po_some (pe_ix ix_tup (pv 6) pe_int (fun _ _ => rfl)))))
    (pss_cons (ps_if (pt_cmpR op_eq (pe_slice sl_str (pv 1) (po_some (pv 2)) (po_some (pe_op op_add (pv 2) (pe_callB call_len_str rfl T.b_len PyProof.Rows.Boot.«len» (pa_cons (pv 7) pa_nil))))) (pv 7) (nomark _)) (pss_one (ps_ret (pe_lst (pa_cons (pe_tup (pa_cons (pe_op op_add (pv 2) (pe_callB call_len_str rfl T.b_len PyProof.Rows.Boot.«len» (pa_cons (pv 7) pa_nil))) (pa_cons (pv 3) pa_nil))) pa_nil)))) pss_nil)
    (pss_one (ps_ret (pe_lst pa_nil))))))) pss_nil)
    (pss_cons (ps_if (pt_cmpR op_eq (pv 5) pe_str (nomark _)) (pss_one (ps_ret (pe_own (O_l_ways.mono (by omega)) hr rfl (pa_cons (pe_ix ix_tup (pv 0) (pe_op op_add pe_int (pe_callTy call_int1 rfl T.b_int PyProof.Rows.Boot.«int» (pa_cons (pe_cmp (pc_isN (pe_ix ix_tup (pv 3) (pe_op op_sub (pe_ix ix_tup (pv 0) pe_int (fun _ _ => rfl)) pe_int) (fun _ _ => rfl)))) pa_nil))) (fun _ _ => rfl)) (pa_cons (pv 1) (pa_cons (pv 2) (pa_cons (pv 3) (pa_cons (pv 4) pa_nil)))))))) pss_nil)
    (pss_cons (ps_if (pt_cmpR op_eq (pv 5) pe_str (nomark _)) (pss_one (ps_ret (pe_slice sl_list (pe_own (O_l_ways.mono (by omega)) hr rfl (pa_cons (pe_ix ix_tup (pv 0) pe_int (fun _ _ => rfl)) (pa_cons (pv 1) (pa_cons (pv 2) (pa_cons (pv 3) (pa_cons (pv 4) pa_nil)))))) po_none (po_some pe_int)))) pss_nil)
    (pss_cons (ps_if (PW.pt (pw_or (pt_cmpR op_eq (pv 5) pe_str (nomark _)) (pw_or1 (pt_cmpR op_eq (pv 5) pe_str (nomark _))))) (pss_one (ps_set (i := 8) sc_l_memory.nd rfl (by first | exact Or.inl rfl | exact Or.inr rfl) (pe_own (O_l_ways.mono (by omega)) hr rfl (pa_cons (pe_ix ix_tup (pv 0) pe_int (fun _ _ => rfl)) (pa_cons (pv 1) (pa_cons (pv 2) (pa_cons (pv 3) (pa_cons (pv 4) pa_nil)))))))) (pss_one (ps_set (i := 8) sc_l_memory.nd rfl (by first | exact Or.inl rfl | exact Or.inr rfl) (pe_own (O_l_behind.mono (by omega)) hr rfl (pa_cons (pe_ix ix_tup (pv 0) pe_int (fun _ _ => rfl)) (pa_cons (pv 1) (pa_cons (pv 2) (pa_cons (pv 3) (pa_cons (pv 4) pa_nil)))))))))
    (pss_cut (cutL v0 gv h t i f0 n lf H) (pss_cons (ps_if (PW.pt (pw_or (pt_cmpR op_eq (pv 5) pe_str (nomark _)) (pw_or1 (pt_cmpR op_eq (pv 5) pe_str (nomark _))))) (pss_one (ps_ret (pe_lcomp rfl (show CScope _ ["_law_p", "_law_text_here", "_law_i", "_law_g", "_law_left", "_law_word", "_law_pair", "_law_told", "_law_ways_here"] (defScope s_l_memory) _ from ⟨rfl, by decide +kernel, rfl, by decide +kernel, by decide +kernel, by decide +kernel, by decide +kernel⟩) (pi_list (pe_slice sl_list (pv 8) po_none (po_some pe_int))) (fun _ _ _ _ => pts_nil) (fun _ _ _ _ => (pe_tup (pa_cons (pv 3) (pa_cons (pe_ix (r := rIxT K) ix_tup (pv 0) pe_int (fun _ _ => rfl)) pa_nil))))))) pss_nil)
    (pss_cons (ps_if (pt_cmpR (op_neNil hr.units0) (pv 8) (pe_lst pa_nil) (nomark _)) (pss_one (ps_ret (pe_lst pa_nil))) pss_nil)
    (pss_one (ps_ret (pe_lst (pa_cons (pe_tup (pa_cons (pv 2) (pa_cons (pv 3) pa_nil))) pa_nil)))))) (fun D1 σ1 H1 hcut => ?cut5))))))), ?_⟩
  case cut5 =>
    obtain ⟨wr, vs, js, f1, rfl, hwr, hvs, hl1, hlen, hf1, g1, q⟩ := hcut
    have el := Paired.length hvs
    by_cases hpos : isw h.word "ahead" = true ∨ isw h.word "behind" = true
    · refine ⟨_, rfl, rfl, _, rfl, ?_⟩
      refine ite2 (fun z => iteT ?_) (fun z => ⟨_, rfl, rfl, _, rfl, ite_yes (by rcases hpos with hpos | hpos <;> first | exact hpos | exact absurd hpos z) ?_⟩)
      all_goals
        refine ⟨_, rfl, _, rfl, wr, vs, rfl, SqL.of hwr, fun c hc => ?_⟩
        rw [cut_one]
        have g2 := Gro.new (S := []) hc (.lst (vs.take 1))
        have hl2 : (upd H1 c (.lst (vs.take 1))) lf = some (.lst [.int f1]) := g2.keep _ _ hl1 (by simp)
        have hc2 : (upd H1 c (.lst (vs.take 1))) c = some (.lst (vs.take 1)) := upd_same
        have hv2 := ways_mono g2.tups (paired_take 1 hvs)
        generalize upd H1 c (.lst (vs.take 1)) = H2 at *
        refine ⟨c, rfl, ⟨vs.take 1, SqL.of hc2⟩, ?_⟩
        refine lc_list (xs := vs.take 1) (fun x ys H' => (∃ zs : List Int, Paired (WyAt n H') ys zs ∧ (∀ j ∈ zs, j = i) ∧ zs.length = x) ∧ Gro [] H2 H') ⟨⟨[], .nil, (fun j hj => by simp at hj), rfl⟩, Gro.refl⟩ (small1000 (by rw [List.length_take]; omega)) (fun x ys H' ⟨⟨zs, hz, _, hl⟩, _⟩ => by rw [Paired.length hz, hl]; exact Nat.le_refl _) (fun x ys H' ⟨_, g⟩ => SqL.of (g.keep _ _ hc2 (by simp))) ?_ ?_
        · rintro x ys H' v hv ⟨⟨zs, hz, hzs, hzl⟩, g3⟩
          obtain ⟨j, hj, hw⟩ := paired_get hv2 hv
          obtain ⟨b2, gv2, rfl, hb2, hg2⟩ := hw.mono g3.tups
          refine ⟨_, rfl, _, rfl, b2, _, _, _, rfl, rfl, SqT.of hb2, rfl, sz, fun t1 ht1 => ?_⟩
          have g4 := Gro.new (S := []) ht1 (.tup [.int i, gv2])
          refine ⟨⟨zs ++ [i], (ways_mono g4.tups hz).snoc ⟨t1, gv2, rfl, upd_same, hg2.mono g4.tups⟩, fun y hy => ?_, by simp [hzl]⟩, g3.trans g4⟩
          rcases List.mem_append.mp hy with z | z
          · exact hzs y z
          · exact List.mem_singleton.mp z
        · rintro ys H' ⟨⟨zs, hz, hzs, hzl⟩, g3⟩ c2 hc3
          have g4 := Gro.new (S := []) hc3 (.lst ys)
          have hzl2 : zs.length ≤ 1 := by rw [hzl, List.length_take]; omega
          exact q c2 ys zs f1 _ upd_same (ways_mono g4.tups hz) hzs ((g3.trans g4).keep _ _ hl2 (by simp)) (by omega) (by omega) (g1.trans (((g2.trans g3).trans g4).mono (by simp)))
    · refine ⟨_, rfl, rfl, _, rfl, ite_no (fun z => hpos (.inl z)) ⟨_, rfl, rfl, _, rfl, ite_no (fun z => hpos (.inr z)) ?_⟩⟩
      refine ⟨_, rfl, sz, fun c hc => ?_⟩
      have g2 := Gro.new (S := []) hc (.lst [])
      have hl2 : (upd H1 c (.lst [])) lf = some (.lst [.int f1]) := g2.keep _ _ hl1 (by simp)
      have hw2 : (upd H1 c (.lst [])) wr = some (.lst vs) := g2.keep _ _ hwr (by simp)
      refine ⟨wr, c, vs, rfl, rfl, SqL.of hw2, SqL.of upd_same, _, rfl, ite2 (fun _ => ?_) (fun _ => ?_)⟩
      · exact ⟨sz, fun r hr => q.nil hr (g1.trans (g2.mono (by simp))) hl2 (by omega)⟩
      · refine ⟨_, rfl, _, rfl, sz, fun t1 ht1 => ⟨sz, fun r hr => ?_⟩⟩
        have hg2 := hg.mono fun b xs h => g2.tups _ _ (g1.tups _ _ h)
        have g12 := g1.trans (g2.mono (S' := [lf]) (by simp))
        have g3 : Gro [] (upd H1 c (.lst [])) (upd (upd (upd H1 c (.lst [])) t1 (.tup [.int i, gv])) r (.lst [.ref t1])) := (Gro.new ht1 _).tup hr
        refine q r [.ref t1] [i] f1 _ upd_same (.cons ⟨t1, gv, rfl, ?_, hg2.mono g3.tups⟩ .nil) (fun j hj => List.mem_singleton.mp hj) (g3.keep _ _ hl2 (by simp)) (by simp; omega) (by omega) (g12.trans (g3.mono (by simp)))
        rw [upd_ne (ne_of_none upd_same hr)]
        exact upd_same
  obtain ⟨a0, kv, rfl, lay, hk⟩ := id hp
  obtain ⟨r0, ea⟩ := lay.head
  refine ⟨_, rfl, a0, _, _, _, rfl, rfl, SqT.of ea, at0, ?_⟩
  have hnm' := nm_node.mp hnm
  cases h with
  | again x =>
    obtain ⟨hx, _, ea'⟩ := lay
    obtain ⟨hx1, hx2⟩ : 1 ≤ x ∧ x ≤ n := hnm'.1
    obtain ⟨g, es, en, rfl, hge, hat, hen⟩ := hg.at_ hx1 hx2
    refine ⟨_, rfl, rfl, _, rfl, ite_yes (show isw "again" "again" = true by decide +kernel) ?_⟩
    refine ⟨_, rfl, _, rfl, a0, _, _, _, rfl, rfl, SqT.of ea', rfl, _, _, rfl, rfl, g, es, _, _, rfl, rfl, SqT.of hge, hat, ?_⟩
    refine ⟨_, rfl, _, rfl, ?_⟩
    rcases hen with rfl | ⟨pa, y, z, rfl, hpa, hy, hz⟩
    · exact ite_yes (by decide) ⟨sz, fun r hr => q.nil hr Gro.refl hlf (by omega)⟩
    refine ite_no (by intro z; have z' := of_decide_eq_true z; cases z') ?_
    refine ⟨_, rfl, _, rfl, pa, _, _, _, rfl, rfl, SqT.of hpa, at0, _, rfl, _, rfl, pa, _, _, _, rfl, rfl, SqT.of hpa, rfl, _, rfl, t, rfl, small (by omega), ?_⟩
    have hsl : Txt.slice t (some y) (some z) = sub t y.toNat z.toNat := slice_sub hy hz
    rw [hsl]
    have hs1 := sub_le (t := t) (a := y.toNat) (b := z.toNat)
    generalize sub t y.toNat z.toNat = told at *
    refine ⟨_, rfl, _, rfl, _, rfl, _, rfl, _, rfl, _, rfl, small (by omega), _, _, rfl, rfl, _, rfl, t, rfl, small (by omega), _, rfl, rfl, _, rfl, ite2 (fun z2 => ?_) (fun _ => ⟨sz, fun r hr => q.nil hr Gro.refl hlf (by omega)⟩)⟩
    have heq : Txt.slice t (some i) (some (i + told.length)) = told := by
      have z3 := of_decide_eq_true z2
      injection z3
    rw [slice_sub hi0 (by omega)] at heq
    have hs2 := sub_le (t := t) (a := i.toNat) (b := (i + told.length).toNat)
    rw [heq] at hs2
    refine ⟨_, rfl, _, rfl, _, rfl, small (by omega), _, _, rfl, rfl, _, rfl, sz, fun t1 ht1 => ⟨sz, fun r hr => ?_⟩⟩
    refine q.one ht1 hr Gro.refl hlf (by omega) hf0 ⟨g, es, rfl, hge, ?_⟩ ⟨⟨?_, fun x e => by cases e⟩, by omega⟩
    · obtain ⟨g', es', e1, e2, e3, e4⟩ := hg
      cases e1
      rw [hge] at e2
      cases e2
      exact ⟨e3, e4⟩
    · show i + 0 ≤ i + _
      omega
  | hav x =>
    obtain ⟨hx, y, z, rfl, ea'⟩ := lay
    obtain ⟨hx1, hx2⟩ : 1 ≤ x ∧ x ≤ n := hnm'.1
    obtain ⟨g, es, en, rfl, hge, hat, hen⟩ := hg.at_ hx1 hx2
    cases hk with
    | cons hp1 hk2 =>
    cases hk2 with
    | cons hp2 hk3 =>
    cases hk3
    rename_i p1 p2
    refine ⟨_, rfl, rfl, _, rfl, ite_no (show ¬ isw "have" "again" = true by decide +kernel) ?_⟩
    refine ⟨_, rfl, rfl, _, rfl, ite_yes (show isw "have" "have" = true by decide +kernel) ?_⟩
    refine ⟨_, rfl, _, rfl, _, rfl, a0, _, _, _, rfl, rfl, SqT.of ea', rfl, _, _, rfl, rfl, g, es, _, _, rfl, rfl, SqT.of hge, hat, .inr ⟨_, rfl, _, _, rfl, rfl, ?_⟩⟩
    have fin : ∀ (pp : Pat), pp ∈ [p1, p2] → WR n lf (fun j => InS pp.spn i j ∧ j ≤ t.length) f0 Q H := fun pp hpp r vs js f' H' h1 h2 h3 h4 h5 h6 h7 =>
      q r vs js f' H' h1 h2 (fun j hj => ⟨by rw [spn_node]; exact InS.gen (List.mem_map.mpr ⟨pp, hpp, rfl⟩) (h3 j hj).1, (h3 j hj).2⟩) h4 (by omega) (by omega) h7
    by_cases hn : en = V.non
    · rw [decide_eq_true hn]
      exact ⟨a0, _, _, _, rfl, rfl, SqT.of ea', rfl, _, rfl, _, rfl, _, rfl, _, rfl, z, _, p2, t, i, f0, n, lf, rfl, hp2, hnm'.2 p2 (by simp), ht, hi0, hi1, hg, hlf, hf, fin p2 (by simp)⟩
    · rw [decide_eq_false hn]
      exact ⟨a0, _, _, _, rfl, rfl, SqT.of ea', rfl, _, rfl, _, rfl, _, rfl, _, rfl, y, _, p1, t, i, f0, n, lf, rfl, hp1, hnm'.2 p1 (by simp), ht, hi0, hi1, hg, hlf, hf, fin p1 (by simp)⟩
  | look lk =>
    obtain ⟨k0, rfl, ea'⟩ := lay
    cases hk with
    | cons hp1 hk2 =>
    cases hk2
    rename_i p1
    have hnm1 := hnm'.2 p1 (by simp)
    have q0 : (∀ j : Int, j = i → InS (Pat.node (.look lk) [p1]).spn i j) → WR n lf (fun j => j = i) (f0 + 1) Q H := fun hz r vs js f' H' h1 h2 h3 h4 h5 h6 h7 => q r vs js f' H' h1 h2 (fun j hj => ⟨hz j (h3 j hj), by rw [h3 j hj]; exact hi1⟩) h4 h5 h6 h7
    have z0 : ∀ j : Int, j = i → InS (0, some 0) i j := fun j e => ⟨by show i + 0 ≤ j; omega, fun x e => by cases e; omega⟩
    cases lk with
    | once =>
      refine ⟨_, rfl, rfl, _, rfl, ite_no (show ¬ isw "once" "again" = true by decide +kernel) ?_⟩
      refine ⟨_, rfl, rfl, _, rfl, ite_no (show ¬ isw "once" "have" = true by decide +kernel) ?_⟩
      refine ⟨_, rfl, rfl, _, rfl, ite_yes (show isw "once" "once" = true by decide +kernel) ?_⟩
      refine ⟨_, rfl, a0, _, _, _, rfl, rfl, SqT.of ea', rfl, _, rfl, _, rfl, _, rfl, _, rfl, k0, gv, p1, t, i, f0, n, lf, rfl, hp1, hnm1, ht, hi0, hi1, hg, hlf, hf, fun r vs js f1 H1 hr1 hv1 hs1 hl1 hlen1 hf1 g1 => ?_⟩
      refine ⟨_, rfl, r, vs, rfl, SqL.of hr1, fun c hc => ?_⟩
      rw [cut_one]
      have g2 := Gro.new (S := [lf]) hc (.lst (vs.take 1))
      exact q c (vs.take 1) (js.take 1) f1 _ upd_same (ways_mono g2.tups (paired_take 1 hv1)) (fun j hj => ⟨by rw [spn_node]; exact InS.gen (List.mem_map.mpr ⟨p1, by simp, rfl⟩) (hs1 j (List.mem_of_mem_take hj)).1, (hs1 j (List.mem_of_mem_take hj)).2⟩) (by rw [upd_ne (ne_of_none hl1 hc)]; exact hl1) (by rw [List.length_take]; omega) (by omega) (g1.trans g2)
    | ahead =>
      refine ⟨_, rfl, rfl, _, rfl, ite_no (show ¬ isw "ahead" "again" = true by decide +kernel) ?_⟩
      refine ⟨_, rfl, rfl, _, rfl, ite_no (show ¬ isw "ahead" "have" = true by decide +kernel) ?_⟩
      refine ⟨_, rfl, rfl, _, rfl, ite_no (show ¬ isw "ahead" "once" = true by decide +kernel) ?_⟩
      refine ⟨_, rfl, rfl, _, rfl, ite_yes (show isw "ahead" "ahead" = true by decide +kernel) (iteT ?_)⟩
      exact ⟨_, rfl, a0, _, _, _, rfl, rfl, SqT.of ea', rfl, _, rfl, _, rfl, _, rfl, _, rfl, k0, gv, p1, t, i, f0, n, lf, rfl, hp1, hnm1, ht, hi0, hi1, hg, hlf, hf, fun r vs js f1 H1 hr1 hv1 hs1 hl1 hlen1 hf1 g1 => ⟨r, vs, js, f1, rfl, hr1, hv1, hl1, hlen1, hf1, g1, q0 z0⟩⟩
    | notahead =>
      refine ⟨_, rfl, rfl, _, rfl, ite_no (show ¬ isw "notahead" "again" = true by decide +kernel) ?_⟩
      refine ⟨_, rfl, rfl, _, rfl, ite_no (show ¬ isw "notahead" "have" = true by decide +kernel) ?_⟩
      refine ⟨_, rfl, rfl, _, rfl, ite_no (show ¬ isw "notahead" "once" = true by decide +kernel) ?_⟩
      refine ⟨_, rfl, rfl, _, rfl, ite_no (show ¬ isw "notahead" "ahead" = true by decide +kernel) ⟨_, rfl, rfl, _, rfl, ite_yes (show isw "notahead" "notahead" = true by decide +kernel) ?_⟩⟩
      exact ⟨_, rfl, a0, _, _, _, rfl, rfl, SqT.of ea', rfl, _, rfl, _, rfl, _, rfl, _, rfl, k0, gv, p1, t, i, f0, n, lf, rfl, hp1, hnm1, ht, hi0, hi1, hg, hlf, hf, fun r vs js f1 H1 hr1 hv1 hs1 hl1 hlen1 hf1 g1 => ⟨r, vs, js, f1, rfl, hr1, hv1, hl1, hlen1, hf1, g1, q0 z0⟩⟩
    | behind =>
      refine ⟨_, rfl, rfl, _, rfl, ite_no (show ¬ isw "behind" "again" = true by decide +kernel) ?_⟩
      refine ⟨_, rfl, rfl, _, rfl, ite_no (show ¬ isw "behind" "have" = true by decide +kernel) ?_⟩
      refine ⟨_, rfl, rfl, _, rfl, ite_no (show ¬ isw "behind" "once" = true by decide +kernel) ?_⟩
      refine ⟨_, rfl, rfl, _, rfl, ite_no (show ¬ isw "behind" "ahead" = true by decide +kernel) ⟨_, rfl, rfl, _, rfl, ite_no (show ¬ isw "behind" "notahead" = true by decide +kernel) ?_⟩⟩
      exact ⟨_, rfl, a0, _, _, _, rfl, rfl, SqT.of ea', rfl, _, rfl, _, rfl, _, rfl, _, rfl, k0, gv, p1, t, i, f0, n, lf, rfl, hp1, hnm1, ht, hi0, hi1, hg, hlf, hf, fun r vs js f1 H1 hr1 hv1 hs1 hl1 hlen1 hf1 g1 => ⟨r, vs, js, f1, rfl, hr1, hv1, hl1, hlen1, hf1, g1, q0 z0⟩⟩
    | notbehind =>
      refine ⟨_, rfl, rfl, _, rfl, ite_no (show ¬ isw "notbehind" "again" = true by decide +kernel) ?_⟩
      refine ⟨_, rfl, rfl, _, rfl, ite_no (show ¬ isw "notbehind" "have" = true by decide +kernel) ?_⟩
      refine ⟨_, rfl, rfl, _, rfl, ite_no (show ¬ isw "notbehind" "once" = true by decide +kernel) ?_⟩
      refine ⟨_, rfl, rfl, _, rfl, ite_no (show ¬ isw "notbehind" "ahead" = true by decide +kernel) ⟨_, rfl, rfl, _, rfl, ite_no (show ¬ isw "notbehind" "notahead" = true by decide +kernel) ?_⟩⟩
      exact ⟨_, rfl, a0, _, _, _, rfl, rfl, SqT.of ea', rfl, _, rfl, _, rfl, _, rfl, _, rfl, k0, gv, p1, t, i, f0, n, lf, rfl, hp1, hnm1, ht, hi0, hi1, hg, hlf, hf, fun r vs js f1 H1 hr1 hv1 hs1 hl1 hlen1 hf1 g1 => ⟨r, vs, js, f1, rfl, hr1, hv1, hl1, hlen1, hf1, g1, q0 z0⟩⟩
  | _ => cases hkd
end
end Seek

set_option maxRecDepth 100000
set_option maxHeartbeats 4000000
namespace Seek
open PySem PySem.Spec PyProof.Rows L2
section
variable {P : Program} {w : World} {K : PySem.W.Frag} {mg : Str → Option Value} {base : Heap} {f : Addr} {fd : FuncData}
theorem chr_at {t : Str} {i : Int} (h0 : 0 ≤ i) (h1 : i < t.length) : atI t.cps.toList i = some (t.cps.toList.getD i.toNat 0) := by
  have hl : i.toNat < t.cps.toList.length := by
    have : t.cps.toList.length = t.length := by simp [Str.length]
    omega
  have := atI_nat (xs := t.cps.toList) (j := i.toNat) (v := t.cps.toList.getD i.toNat 0) (by rw [List.getD_eq_getElem?_getD, List.getElem?_eq_getElem hl]; rfl)
  rw [Int.toNat_of_nonneg h0] at this
  exact this
theorem kd_one {h : Hd} {qs : List Sn} (e : h.wd.kd = .one) : h.sg = true ∧ h.spn qs = (1, some 1) := by
  cases h with
  | look lk => cases lk <;> cases e
  | _ => first | cases e; done | exact ⟨rfl, rfl⟩
theorem kd_edge {h : Hd} {qs : List Sn} (e : h.wd.kd = .edge) : (h = .beg ∨ h = .fin) ∧ h.spn qs = (0, some 0) := by
  cases h with
  | look lk => cases lk <;> cases e
  | beg => exact ⟨.inl rfl, rfl⟩
  | fin => exact ⟨.inr rfl, rfl⟩
  | _ => cases e
theorem kd_row {h : Hd} (e : h.wd.kd = .row) : h = .row := by
  cases h with
  | look lk => cases lk <;> cases e
  | row => rfl
  | _ => cases e
theorem kd_alt {h : Hd} (e : h.wd.kd = .alt) : h = .alt := by
  cases h with
  | look lk => cases lk <;> cases e
  | alt => rfl
  | _ => cases e
theorem kd_grp {h : Hd} (e : h.wd.kd = .grp) : ∃ k, h = .grp k := by
  cases h with
  | look lk => cases lk <;> cases e
  | grp k => exact ⟨k, rfl⟩
  | _ => cases e
theorem kd_times {h : Hd} (e : h.wd.kd = .times) : ∃ lo hi how, h = .times lo hi how := by
  cases h with
  | look lk => cases lk <;> cases e
  | times lo hi how => exact ⟨lo, hi, how, rfl⟩
  | _ => cases e
theorem ga_put {H H' : Hp} {n k : Nat} {es : List V} {p : Addr} {i j : Int} (t : ∀ b xs, H b = some (.tup xs) → H' b = some (.tup xs)) (hl : es.length = n) (hk : k < n) (he : ∀ e ∈ es, EnAt H e) (hp : H' p = some (.tup [.int i, .int j])) (hi : 0 ≤ i) (hj : 0 ≤ j) :
    (es.take k ++ [V.ref p] ++ es.drop (k + 1)).length = n ∧ ∀ e ∈ es.take k ++ [V.ref p] ++ es.drop (k + 1), EnAt H' e := by
  refine ⟨by simp only [List.length_append, List.length_take, List.length_drop, List.length_singleton]; omega, fun e h => ?_⟩
  rcases List.mem_append.mp h with h | h
  · rcases List.mem_append.mp h with h | h
    · exact (he e (List.mem_of_mem_take h)).mono t
    · rw [List.mem_singleton.mp h]
      exact .inr ⟨p, i, j, rfl, hp, hi, hj⟩
  · exact (he e (List.mem_of_mem_drop h)).mono t
abbrev s_l_ways : Stmt := top 24
theorem sc_l_ways : FnScope ["_law_p", "_law_text_here", "_law_i", "_law_g", "_law_left", "_law_word", "_law_ways_here", "_law_part"] ["_law_p", "_law_text_here", "_law_i", "_law_g", "_law_left"] (defScope s_l_ways) := ⟨rfl, rfl, rfl, by decide +kernel, rfl, by decide +kernel, by decide +kernel⟩
theorem ok_ways {d k : Nat} (T : Blt mg) (O_l_takes : Own P w K mg base k "_law_takes" ["_law_p", "_law_sign_here"] spTk) (O_l_each : Own P w K mg base k "_law_each" ["_law_part", "_law_text_here", "_law_ways_here", "_law_left"] (spEach d)) (O_l_turns : Own P w K mg base k "_law_turns" ["_law_p", "_law_text_here", "_law_n", "_law_j", "_law_g", "_law_left"] (spTurns d 28)) (O_l_memory : Own P w K mg base k "_law_memory" ["_law_p", "_law_text_here", "_law_i", "_law_g", "_law_left"] (spMem d)) (O_l_ways : Own P w K mg base k "_law_ways" ["_law_p", "_law_text_here", "_law_i", "_law_g", "_law_left"] (spWays d)) (F : Fun K "_law_ways" "_law_ways" s_l_ways f fd) :
    FnOk P w K mg base CX0 (k + 1) f fd ["_law_p", "_law_text_here", "_law_i", "_law_g", "_law_left"] (spWays (d + 1)) := by
  refine F.ok sc_l_ways (fun vs H Q E h => ?_) (fun cdv A outer s H vs Q E hr h => ?_)
  · obtain ⟨v0, gv, p, t, i, f, n, lf, rfl, _⟩ := h
    rfl
  obtain ⟨v0, gv, p, t, i, f0, n, lf, rfl, hp, hnm, ht, hi0, hi1, hg, hlf, hf, q⟩ := h
  refine ⟨_, (pss_cons (ps_asg (pe_op op_sub (pe_ix ix_list (pv 4) pe_int (fun _ _ => rfl)) pe_int) (pg_sub (pv 4) pe_int set_list))
    (pss_cons (ps_if (pt_cmpR op_lt (pe_ix ix_list (pv 4) pe_int (fun _ _ => rfl)) pe_int (nomark _)) (pss_one (ps_ret (pe_lst pa_nil))) pss_nil)
    (pss_cons (ps_set (i := 5) sc_l_ways.nd rfl (by first | exact Or.inl rfl | exact Or.inr rfl) (pe_ix ix_tup (pv 0) pe_int (fun _ _ => rfl)))
    (pss_cons (ps_if (pt_cmpR op_in_seq (pv 5) (pe_tup (pa_cons pe_str (pa_cons pe_str (pa_cons pe_str (pa_cons pe_str pa_nil))))) (by with_unfolding_all rfl)) (pss_cons (ps_if (PW.pt (pw_and (pt_cmpR op_lt (pv 2) (pe_callB call_len_str rfl T.b_len PyProof.Rows.Boot.«len» (pa_cons (pv 1) pa_nil)) (nomark _)) (pw_and1 (pt_val (pe_own (O_l_takes.mono (by omega)) hr rfl (pa_cons (pv 0) (pa_cons (pe_ix ix_str (pv 1) (pv 2) (fun _ _ => rfl)) pa_nil))))))) (pss_one (ps_ret (pe_lst (pa_cons (pe_tup (pa_cons (pe_op op_add (pv 2) pe_int) (pa_cons (pv 3) pa_nil))) pa_nil)))) pss_nil)
    (pss_one (ps_ret (pe_lst pa_nil)))) pss_nil)
    (pss_cons (ps_if (PW.pt (pw_or (pt_cmpR op_eq (pv 5) pe_str (nomark _)) (pw_or1 (pt_cmpR op_eq (pv 5) pe_str (nomark _))))) (pss_cons (ps_if (pt_cmpR op_eq (pv 2) (pe_ix ix_list (pe_lst (pa_cons pe_int (pa_cons (pe_callB call_len_str rfl T.b_len PyProof.Rows.Boot.«len» (pa_cons (pv 1) pa_nil)) pa_nil))) (pe_callTy call_int1 rfl T.b_int PyProof.Rows.Boot.«int» (pa_cons (pe_cmpR op_eq (pv 5) pe_str (nomark _)) pa_nil)) (fun _ _ => rfl)) (nomark _)) (pss_one (ps_ret (pe_lst (pa_cons (pe_tup (pa_cons (pv 2) (pa_cons (pv 3) pa_nil))) pa_nil)))) pss_nil)
    (pss_one (ps_ret (pe_lst pa_nil)))) pss_nil)
    (pss_cons (ps_if (pt_cmpR op_eq (pv 5) pe_str (nomark _)) (pss_cons (ps_set (i := 6) sc_l_ways.nd rfl (by first | exact Or.inl rfl | exact Or.inr rfl) (pe_lst (pa_cons (pe_tup (pa_cons (pv 2) (pa_cons (pv 3) pa_nil))) pa_nil)))
    (pss_cons (ps_for PassesOwn.never rfl (pi_tup (pe_ix ix_tup (pv 0) pe_int (fun _ _ => rfl))) (pg_name (i := 7) sc_l_ways.nd rfl (by first | exact Or.inl rfl | exact Or.inr rfl)) (pss_one (ps_set (i := 6) sc_l_ways.nd rfl (by first | exact Or.inl rfl | exact Or.inr rfl) (pe_own (O_l_each.mono (by omega)) hr rfl (pa_cons (pv 7) (pa_cons (pv 1) (pa_cons (pv 6) (pa_cons (pv 4) pa_nil))))))))
    (pss_one (ps_ret (pv 6))))) pss_nil)
    (pss_cons (ps_if (pt_cmpR op_eq (pv 5) pe_str (nomark _)) (pss_cons (ps_set (i := 6) sc_l_ways.nd rfl (by first | exact Or.inl rfl | exact Or.inr rfl) (pe_lst pa_nil))
    (pss_cons (ps_for PassesOwn.never rfl (pi_tup (pe_ix ix_tup (pv 0) pe_int (fun _ _ => rfl))) (pg_name (i := 7) sc_l_ways.nd rfl (by first | exact Or.inl rfl | exact Or.inr rfl)) (pss_one (ps_set (i := 6) sc_l_ways.nd rfl (by first | exact Or.inl rfl | exact Or.inr rfl) (pe_op op_cat (pv 6) (pe_own (O_l_ways.mono (by omega)) hr rfl (pa_cons (pv 7) (pa_cons (pv 1) (pa_cons (pv 2) (pa_cons (pv 3) (pa_cons (pv 4) pa_nil))))))))))
    (pss_one (ps_ret (pv 6))))) pss_nil)
    (pss_cons (ps_if (pt_cmpR op_eq (pv 5) pe_str (nomark _)) (pss_cons (ps_set (i := 6) sc_l_ways.nd rfl (by first | exact Or.inl rfl | exact Or.inr rfl) (pe_own (O_l_turns.mono (by omega)) hr rfl (pa_cons (pv 0) (pa_cons (pv 1) (pa_cons pe_int (pa_cons (pv 2) (pa_cons (pv 3) (pa_cons (pv 4) pa_nil))))))))
    (pss_cons (ps_if (pt_cmpR op_eq (pe_ix ix_tup (pv 0) pe_int (fun _ _ => rfl)) pe_str (nomark _)) (pss_one (ps_ret (pe_slice sl_list (pv 6) po_none (po_some pe_int)))) pss_nil)
    (pss_one (ps_ret (pv 6))))) pss_nil)
    (pss_cons (ps_if (pt_cmpR op_eq (pv 5) pe_str (nomark _)) (pss_cons (ps_set (i := 6) sc_l_ways.nd rfl (by first | exact Or.inl rfl | exact Or.inr rfl) (pe_own (O_l_ways.mono (by omega)) hr rfl (pa_cons (pe_ix ix_tup (pv 0) pe_int (fun _ _ => rfl)) (pa_cons (pv 1) (pa_cons (pv 2) (pa_cons (pv 3) (pa_cons (pv 4) pa_nil)))))))
    (pss_one (ps_ret (pe_lcomp rfl (show CScope _ ["_law_p", "_law_text_here", "_law_i", "_law_g", "_law_left", "_law_word", "_law_ways_here", "_law_part"] (defScope s_l_ways) _ from ⟨rfl, by decide +kernel, rfl, by decide +kernel, by decide +kernel, by decide +kernel, by decide +kernel⟩) (pi_list (pv 6)) (fun _ _ _ _ => pts_nil) (fun _ _ _ _ => (pe_tup (pa_cons (pe_ix (r := rIxT K) ix_tup (pv 0) pe_int (fun _ _ => rfl)) (pa_cons (pe_op (r := rCatA K) op_catA (pe_op (r := rCatA K) op_catA (pe_slice (r := rSlT K) sl_tup (pe_ix (r := rIxT K) ix_tup (pv 0) pe_int (fun _ _ => rfl)) po_none (po_some (pe_op op_sub (pe_ix (r := rIxT K) ix_tup (pv 1) pe_int (fun _ _ => rfl)) pe_int))) (pe_tup (pa_cons (pe_tup (pa_cons (pv 3) (pa_cons (pe_ix (r := rIxT K) ix_tup (pv 0) pe_int (fun _ _ => rfl)) pa_nil))) pa_nil))) (pe_slice (r := rSlT K) sl_tup (pe_ix (r := rIxT K) ix_tup (pv 0) pe_int (fun _ _ => rfl)) (po_some (pe_ix (r := rIxT K) ix_tup (pv 1) pe_int (fun _ _ => rfl))) po_none)) pa_nil)))))))) pss_nil)
    (pss_one (ps_ret (pe_own (O_l_memory.mono (by omega)) hr rfl (pa_cons (pv 0) (pa_cons (pv 1) (pa_cons (pv 2) (pa_cons (pv 3) (pa_cons (pv 4) pa_nil))))))))))))))))), ?_⟩
  refine ⟨_, rfl, lf, _, _, _, rfl, rfl, SqL.of hlf, rfl, _, _, rfl, rfl, _, rfl, lf, _, _, 0, rfl, rfl, hlf, rfl, ?_⟩
  have g1 : Gro [lf] H (upd H lf (.lst [.int (f0 - 1)])) := Gro.set (by simp) hlf _
  have hl1 : (upd H lf (.lst [.int (f0 - 1)])) lf = some (.lst [.int (f0 - 1)]) := upd_same
  refine ⟨_, rfl, lf, _, _, _, rfl, rfl, SqL.of hl1, rfl, _, _, rfl, rfl, _, rfl, ite2 (fun z => ?_) (fun z => ?_)⟩
  · exact ⟨sz, fun r hr => q.nil hr g1 hl1 (by omega)⟩
  have hf0 : 0 ≤ f0 - 1 := by
    have : ¬ f0 - 1 < 0 := fun z' => z (decide_eq_true z')
    omega
  obtain ⟨h, ks⟩ := p
  obtain ⟨a0, kv, rfl, lay, hk⟩ := id hp
  obtain ⟨r0, ea⟩ := lay.head
  refine ⟨_, rfl, a0, _, _, _, rfl, rfl, SqT.of (g1.tups _ _ ea), at0, ?_⟩
  refine ⟨_, rfl, sz, fun tp htp => ?_⟩
  have g2 : Gro [lf] H (upd (upd H lf (.lst [.int (f0 - 1)])) tp (.tup oneSign)) := g1.trans (Gro.new htp _)
  have hl2 : (upd (upd H lf (.lst [.int (f0 - 1)])) tp (.tup oneSign)) lf = some (.lst [.int (f0 - 1)]) := by rw [upd_ne (ne_of_none hl1 htp)]; exact hl1
  refine ⟨tp, oneSign, rfl, .inr (SqT.of upd_same), rfl, rfl, _, rfl, ?_⟩
  show if inV (.str h.word) oneSign = true then _ else _
  rw [k_one]
  have hp2 := hp.mono g2.tups
  have lay2 := lay.mono g2.tups
  have hk2 : Paired (PatAt (upd (upd H lf (.lst [.int (f0 - 1)])) tp (.tup oneSign)) d) kv ks := Paired.mapP hk fun _ _ h => h.mono g2.tups
  have hg2 := hg.mono g2.tups
  have hnm' := nm_node.mp hnm
  have q2 : WR n lf (fun j => InS (Pat.node h ks).spn i j ∧ j ≤ t.length) f0 Q (upd (upd H lf (.lst [.int (f0 - 1)])) tp (.tup oneSign)) := fun r vs js f' H' h1 h2 h3 h4 h5 h6 h7 => q r vs js f' H' h1 h2 h3 h4 h5 h6 (g2.trans h7)
  have no_ : ∀ {A B : Prop} (x : Kd), h.wd.kd ≠ x → B → if decide (h.wd.kd = x) = true then A else B := fun x hx b => ite_no (fun z => hx (of_decide_eq_true z)) b
  have yes_ : ∀ {A B : Prop} (x : Kd), h.wd.kd = x → A → if decide (h.wd.kd = x) = true then A else B := fun x hx a => ite_yes (decide_eq_true hx) a
  by_cases c1 : h.wd.kd = .one
  · refine yes_ _ c1 ?_
    obtain ⟨hsg, hsp⟩ := kd_one (qs := ks.map Pat.spn) c1
    refine ⟨_, rfl, _, rfl, t, rfl, small (by omega), _, _, rfl, rfl, _, rfl, ite2 (fun z => ?_) (fun z => iteF ⟨sz, fun r hr => q2.nil hr Gro.refl hl2 (by omega)⟩)⟩
    have hlt : i < t.length := of_decide_eq_true z
    refine ⟨_, rfl, _, rfl, _, rfl, t, i, _, rfl, rfl, small (by omega), chr_at hi0 hlt, d + 1, _, h, ks, _, rfl, hp2, hsg, rfl, fun b H3 g3 => ⟨_, rfl, ?_⟩⟩
    have hl3 := g3.keep _ _ hl2 (by simp)
    refine ite2 (fun _ => ?_) (fun _ => ⟨sz, fun r hr => q2.nil hr (g3.mono (by simp)) hl3 (by omega)⟩)
    refine ⟨_, rfl, _, _, rfl, rfl, _, rfl, sz, fun t1 ht1 => ⟨sz, fun r hr => ?_⟩⟩
    refine q2.one ht1 hr (g3.mono (by simp)) hl3 (by omega) hf0 (hg2.mono g3.tups) ⟨?_, by omega⟩
    rw [spn_node, hsp]
    exact ⟨by show i + 1 ≤ i + 1; omega, fun x e => by cases e; omega⟩
  refine no_ _ c1 ?_
  by_cases c2 : h.wd.kd = .edge
  · obtain ⟨he, hsp⟩ := kd_edge (qs := ks.map Pat.spn) c2
    have hz : InS (Pat.node h ks).spn i i ∧ i ≤ t.length := by
      rw [spn_node, hsp]
      exact ⟨⟨by show i + 0 ≤ i; omega, fun x e => by cases e; omega⟩, hi1⟩
    have hor : isw h.word "begin" = true ∨ isw h.word "end" = true := by
      have := k_edge h
      rw [decide_eq_true c2] at this
      simpa using this
    refine ⟨_, rfl, rfl, _, rfl, ?_⟩
    refine ite2 (fun z => iteT ?_) (fun z => ⟨_, rfl, rfl, _, rfl, ite_yes (by rcases hor with hor | hor <;> first | exact hor | exact absurd hor z) ?_⟩)
    all_goals
      refine ⟨_, rfl, _, rfl, t, rfl, small (by omega), sz, fun l hl => ?_⟩
      refine ⟨_, rfl, rfl, .inr ⟨_, rfl, ?_⟩⟩
      have g3 := Gro.new (S := [lf]) hl (.lst [.int 0, .int t.length])
      have hl3 := (Gro.new (S := []) hl (.lst [.int 0, .int t.length])).keep _ _ hl2 (by simp)
      cases hw : decide (V.str h.word = V.str "end")
      all_goals
        refine ⟨l, _, _, _, rfl, rfl, SqL.of upd_same, rfl, rfl, _, rfl, ite2 (fun _ => ?_) (fun _ => ⟨sz, fun r hr => q2.nil hr g3 hl3 (by omega)⟩)⟩
        exact ⟨_, rfl, _, rfl, sz, fun t1 ht1 => ⟨sz, fun r hr => q2.one ht1 hr g3 hl3 (by omega) hf0 (hg2.mono g3.tups) hz⟩⟩
  have hno : isw h.word "begin" = false ∧ isw h.word "end" = false := by
    have := k_edge h
    rw [decide_eq_false c2] at this
    exact Bool.or_eq_false_iff.mp this
  refine ⟨_, rfl, rfl, _, rfl, ite_no (fun z => by rw [show isw h.word "begin" = true from z] at hno; cases hno.1) ⟨_, rfl, rfl, _, rfl, ite_no (fun z => by rw [show isw h.word "end" = true from z] at hno; cases hno.2) ?_⟩⟩
  refine ⟨_, rfl, rfl, _, rfl, ?_⟩
  show if isw h.word "row" = true then _ else _
  rw [k_row]
  by_cases c3 : h.wd.kd = .row
  · refine yes_ _ c3 ?_
    obtain rfl := kd_row c3
    obtain ⟨hkv, r, ea', er⟩ := lay2
    refine ⟨_, rfl, _, rfl, sz, fun t1 ht1 => ⟨sz, fun l1 hl1' => ?_⟩⟩
    have g3 : Gro [] (upd (upd H lf (.lst [.int (f0 - 1)])) tp (.tup oneSign)) (upd (upd (upd (upd H lf (.lst [.int (f0 - 1)])) tp (.tup oneSign)) t1 (.tup [.int i, gv])) l1 (.lst [.ref t1])) := (Gro.new ht1 _).tup hl1'
    have et : (upd (upd (upd (upd H lf (.lst [.int (f0 - 1)])) tp (.tup oneSign)) t1 (.tup [.int i, gv])) l1 (.lst [.ref t1])) t1 = some (.tup [.int i, gv]) := by rw [upd_ne (ne_of_none upd_same hl1')]; exact upd_same
    refine ⟨_, rfl, a0, _, _, _, rfl, rfl, SqT.of (g3.tups _ _ ea'), rfl, r, rfl, ⟨kv, SqT.of (g3.tups _ _ er)⟩, ?_⟩
    have hkl := Paired.length hk
    refine for_tup (xs := kv) (fun x σ H' => ∃ (wr : Addr) (vs : List V) (js : List Int) (f' : Int) (pt : Option V), σ = [some (.ref a0), some (.str t), some (.int i), some gv, some (.ref lf), some (.str (Hd.word .row)), some (.ref wr), pt] ∧ H' wr = some (.lst vs) ∧ Paired (WyAt n H') vs js ∧ (∀ j ∈ js, InS (rowS ((ks.take x).map Pat.spn)) i j ∧ j ≤ t.length) ∧ H' lf = some (.lst [.int f']) ∧ js.length + f'.toNat ≤ f0.toNat ∧ f' ≤ f0 - 1 ∧ Gro [lf] (upd (upd H lf (.lst [.int (f0 - 1)])) tp (.tup oneSign)) H')
      ⟨l1, [.ref t1], [i], f0 - 1, none, rfl, upd_same, .cons ⟨t1, gv, rfl, et, hg2.mono g3.tups⟩ .nil, (fun j hj => by rw [List.mem_singleton.mp hj]; exact ⟨⟨by show i + 0 ≤ i; omega, fun x e => by cases e; show i ≤ i + 0; omega⟩, hi1⟩), g3.keep _ _ hl2 (by simp), by simp; omega, Int.le_refl _, g3.mono (by simp)⟩ (fun x σ H' _ ⟨_, _, _, _, _, _, _, _, _, _, _, _, g⟩ => SqT.of (g.tups _ _ er)) ?_ ?_
    · rintro x v σ H4 hv ⟨wr, vs, js, f4, pt, rfl, hwr, hvs, hjs, hl4, hlen4, hf4, g4⟩
      obtain ⟨pp, hpp, hpv⟩ := paired_get hk2 hv
      have hmem := List.mem_of_getElem? hpp
      have hok : SnOk (rowS ((ks.take x).map Pat.spn)) := row_ok fun y hy => by
        obtain ⟨z, hz, rfl⟩ := List.mem_map.mp hy
        obtain ⟨_, _, hz'⟩ := paired_mem hk z (List.mem_of_mem_take hz)
        exact spn_ok hz'
      refine ⟨_, rfl, _, rfl, _, rfl, _, rfl, v, pp, t, f4, n, wr, lf, vs, js, rfl, hpv.mono g4.tups, hnm'.2 pp hmem, ht, hwr, hvs, by rw [Paired.length hvs]; omega, fun j hj => ⟨by have := (hjs j hj).1.1; have := hok.1; omega, (hjs j hj).2⟩, hl4, by omega, fun r5 vs5 js5 f5 H5 hr5 hv5 hs5 hl5 hlen5 hf5 g5 => ?_⟩
      refine ⟨r5, vs5, js5, f5, _, rfl, hr5, hv5, fun j hj => ?_, hl5, by omega, by omega, g4.trans g5⟩
      obtain ⟨j0, hj0, h1, h2⟩ := hs5 j hj
      rw [lift_map hpp]
      exact ⟨InS.snoc (hjs j0 hj0).1 h1, h2⟩
    · rintro σ H4 ⟨wr, vs, js, f4, pt, rfl, hwr, hvs, hjs, hl4, hlen4, hf4, g4⟩
      rw [List.take_of_length_le (by omega)] at hjs
      refine ⟨_, rfl, q2 wr vs js f4 H4 hwr hvs (fun j hj => ?_) hl4 hlen4 (by omega) g4⟩
      rw [spn_node]
      exact hjs j hj
  refine no_ _ c3 ?_
  refine ⟨_, rfl, rfl, _, rfl, ?_⟩
  show if isw h.word "or" = true then _ else _
  rw [k_alt]
  by_cases c4 : h.wd.kd = .alt
  · refine yes_ _ c4 ?_
    obtain rfl := kd_alt c4
    obtain ⟨_, hkv, r, ea', er⟩ := lay2
    refine ⟨sz, fun l1 hl1' => ?_⟩
    have g3 := Gro.new (S := []) hl1' (.lst [])
    refine ⟨_, rfl, a0, _, _, _, rfl, rfl, SqT.of (g3.tups _ _ ea'), rfl, r, rfl, ⟨kv, SqT.of (g3.tups _ _ er)⟩, ?_⟩
    refine for_tup (xs := kv) (fun x σ H' => ∃ (wr : Addr) (vs : List V) (js : List Int) (f' : Int) (pt : Option V), σ = [some (.ref a0), some (.str t), some (.int i), some gv, some (.ref lf), some (.str (Hd.word .alt)), some (.ref wr), pt] ∧ H' wr = some (.lst vs) ∧ Paired (WyAt n H') vs js ∧ (∀ j ∈ js, InS (Pat.node .alt ks).spn i j ∧ j ≤ t.length) ∧ H' lf = some (.lst [.int f']) ∧ js.length + f'.toNat ≤ f0.toNat ∧ f' ≤ f0 - 1 ∧ Gro [lf] (upd (upd H lf (.lst [.int (f0 - 1)])) tp (.tup oneSign)) H')
      ⟨l1, [], [], f0 - 1, none, rfl, upd_same, .nil, (fun j hj => by simp at hj), g3.keep _ _ hl2 (by simp), by show 0 + (f0 - 1).toNat ≤ f0.toNat; omega, Int.le_refl _, g3.mono (by simp)⟩ (fun x σ H' _ ⟨_, _, _, _, _, _, _, _, _, _, _, _, g⟩ => SqT.of (g.tups _ _ er)) ?_ ?_
    · rintro x v σ H4 hv ⟨wr, vs, js, f4, pt, rfl, hwr, hvs, hjs, hl4, hlen4, hf4, g4⟩
      obtain ⟨pp, hpp, hpv⟩ := paired_get hk2 hv
      have hmem := List.mem_of_getElem? hpp
      have nwr := ways_ne hvs hwr hl4
      refine ⟨_, rfl, _, rfl, _, rfl, _, rfl, _, rfl, _, rfl, v, gv, pp, t, i, f4, n, lf, rfl, hpv.mono g4.tups, hnm'.2 pp hmem, ht, hi0, hi1, hg2.mono g4.tups, hl4, by omega, fun r5 vs5 js5 f5 H5 hr5 hv5 hs5 hl5 hlen5 hf5 g5 => ?_⟩
      have e4 := Paired.length hvs
      have e5 := Paired.length hv5
      refine ⟨wr, r5, vs, vs5, rfl, rfl, g5.keep _ _ hwr (by simpa using nwr), hr5, Nat.le_of_lt (big (n := vs.length + vs5.length) (by omega)), fun c hc => ?_⟩
      have g6 := Gro.new (S := [lf]) hc (.lst (vs ++ vs5))
      refine ⟨c, vs ++ vs5, js ++ js5, f5, _, rfl, upd_same, paired_append (ways_mono (fun b xs h => g6.tups _ _ (g5.tups _ _ h)) hvs) (ways_mono g6.tups hv5), fun y hy => ?_, by rw [upd_ne (ne_of_none hl5 hc)]; exact hl5, by rw [List.length_append]; omega, by omega, (g4.trans g5).trans g6⟩
      rcases List.mem_append.mp hy with hy | hy
      · exact hjs y hy
      · refine ⟨?_, (hs5 y hy).2⟩
        rw [spn_node]
        exact InS.gen (List.mem_map.mpr ⟨pp, hmem, rfl⟩) (hs5 y hy).1
    · rintro σ H4 ⟨wr, vs, js, f4, pt, rfl, hwr, hvs, hjs, hl4, hlen4, hf4, g4⟩
      exact ⟨_, rfl, q2 wr vs js f4 H4 hwr hvs hjs hl4 hlen4 (by omega) g4⟩
  refine no_ _ c4 ?_
  refine ⟨_, rfl, rfl, _, rfl, ?_⟩
  show if isw h.word "times" = true then _ else _
  rw [k_times]
  by_cases c5 : h.wd.kd = .times
  · refine yes_ _ c5 ?_
    obtain ⟨lo, hi, how, rfl⟩ := kd_times c5
    obtain ⟨⟨hlo0, hlo1, hhi⟩, k0, rfl, ea'⟩ := lay2
    cases hk2 with
    | cons hp1 hk3 =>
    cases hk3
    rename_i p1
    refine ⟨_, rfl, _, rfl, _, rfl, _, rfl, _, rfl, .ref a0, gv, p1, lo, hi, how, t, 0, i, f0 - 1, n, lf, rfl, hp2, hnm'.2 p1 (by simp), ht, (fun h e => (hhi h e).1), hi0, hi1, hg2, hl2, by omega, by omega, fun r vs js f1 H3 hr1 hv1 hs1 hl3 hlen1 hf1 g3 => ?_⟩
    have sp : ∀ j ∈ js, InS (Pat.node (.times lo hi how) [p1]).spn i j ∧ j ≤ t.length := fun j hj => by
      refine ⟨?_, (hs1 j hj).2⟩
      rw [spn_node]
      exact (hs1 j hj).1.span hlo0
    refine ⟨_, rfl, a0, _, _, _, rfl, rfl, SqT.of (g3.tups _ _ ea'), rfl, rfl, _, rfl, ite2 (fun _ => ?_) (fun _ => ⟨_, rfl, q2 r vs js f1 H3 hr1 hv1 sp hl3 (by omega) (by omega) g3⟩)⟩
    refine ⟨_, rfl, _, rfl, r, vs, rfl, SqL.of hr1, fun c hc => ?_⟩
    rw [cut_one]
    have g4 := Gro.new (S := [lf]) hc (.lst (vs.take 1))
    exact q2 c (vs.take 1) (js.take 1) f1 _ upd_same (ways_mono g4.tups (paired_take 1 hv1)) (fun j hj => sp j (List.mem_of_mem_take hj)) (by rw [upd_ne (ne_of_none hl3 hc)]; exact hl3) (by rw [List.length_take]; omega) (by omega) (g3.trans g4)
  refine no_ _ c5 ?_
  refine ⟨_, rfl, rfl, _, rfl, ?_⟩
  show if isw h.word "group" = true then _ else _
  rw [k_grp]
  by_cases c6 : h.wd.kd = .grp
  · refine yes_ _ c6 ?_
    obtain ⟨x, rfl⟩ := kd_grp c6
    obtain ⟨_, k0, rfl, ea'⟩ := lay2
    obtain ⟨hx1, hx2⟩ : 1 ≤ x ∧ x ≤ n := hnm'.1
    obtain ⟨m, rfl⟩ : ∃ m : Nat, x = ((m + 1 : Nat) : Int) := ⟨(x - 1).toNat, by omega⟩
    cases hk2 with
    | cons hp1 hk3 =>
    cases hk3
    rename_i p1
    refine ⟨_, rfl, a0, _, _, _, rfl, rfl, SqT.of ea', rfl, _, rfl, _, rfl, _, rfl, _, rfl, k0, gv, p1, t, i, f0 - 1, n, lf, rfl, hp1, hnm'.2 p1 (by simp), ht, hi0, hi1, hg2, hl2, by omega, fun r vs js f1 H3 hr1 hv1 hs1 hl3 hlen1 hf1 g3 => ?_⟩
    have el := Paired.length hv1
    have hok := spn_ok hp1
    refine ⟨_, rfl, r, rfl, ⟨vs, SqL.of hr1⟩, ?_⟩
    refine lc_list (xs := vs) (fun y ys H' => Paired (WyAt n H') ys (js.take y) ∧ ys.length = y ∧ Gro [] H3 H') ⟨.nil, rfl, Gro.refl⟩ (big (by omega)) (fun y ys H' ⟨_, e, _⟩ => by omega) (fun y ys H' ⟨_, _, g⟩ => SqL.of (g.keep _ _ hr1 (by simp))) ?_ ?_
    · rintro y ys H4 v hv ⟨hys, hyl, g4⟩
      obtain ⟨j, hj, hw⟩ := paired_get hv1 hv
      obtain ⟨b, gv2, rfl, hb, hga⟩ := hw.mono g4.tups
      obtain ⟨g, es, rfl, hge, hel, hen⟩ := id hga
      have ea4 := g4.tups _ _ (g3.tups _ _ ea')
      have hj0 : 0 ≤ j := by have := (hs1 j (List.mem_of_getElem? hj)).1.1; have := hok.1; omega
      refine ⟨_, rfl, b, _, _, _, rfl, rfl, SqT.of hb, at0, ?_⟩
      refine ⟨_, rfl, b, _, _, _, rfl, rfl, SqT.of hb, rfl, _, rfl, a0, _, _, _, rfl, rfl, SqT.of ea4, rfl, _, _, rfl, rfl, _, rfl, g, es, rfl, SqT.of hge, ?nw1, fun p1' hp1' => ?_⟩
      case nw1 =>
        rw [show ((m + 1 : Nat) : Int) - 1 = (m : Nat) by omega, HT.sIx_nat]
        omega
      rw [show ((m + 1 : Nat) : Int) - 1 = (m : Nat) by omega, cut_to (by omega)]
      have g5 := Gro.new (S := []) hp1' (.tup (es.take m))
      have e5 : (upd H4 p1' (.tup (es.take m))) p1' = some (.tup (es.take m)) := upd_same
      generalize upd H4 p1' (.tup (es.take m)) = H5 at *
      refine ⟨_, rfl, _, rfl, b, _, _, _, rfl, rfl, SqT.of (g5.tups _ _ hb), at0, sz, fun p2 hp2' => ⟨sz, fun p3 hp3 => ?_⟩⟩
      have g6 : Gro [] H5 (upd (upd H5 p2 (.tup [.int i, .int j])) p3 (.tup [.ref p2])) := (Gro.new hp2' _).tup hp3
      have e6 : (upd (upd H5 p2 (.tup [.int i, .int j])) p3 (.tup [.ref p2])) p3 = some (.tup [.ref p2]) := upd_same
      have e7 : (upd (upd H5 p2 (.tup [.int i, .int j])) p3 (.tup [.ref p2])) p2 = some (.tup [.int i, .int j]) := by rw [upd_ne (ne_of_none upd_same hp3)]; exact upd_same
      generalize upd (upd H5 p2 (.tup [.int i, .int j])) p3 (.tup [.ref p2]) = H6 at *
      refine catA_to (g6.tups _ _ e5) e6 (by rw [List.length_take, List.length_singleton]; omega) fun r7 H7 hr7 g7 => ?_
      have t47 : ∀ b xs, H4 b = some (.tup xs) → H7 b = some (.tup xs) := fun b xs h => g7.tups _ _ (g6.tups _ _ (g5.tups _ _ h))
      refine ⟨_, rfl, b, _, _, _, rfl, rfl, SqT.of (t47 _ _ hb), rfl, _, rfl, a0, _, _, _, rfl, rfl, SqT.of (t47 _ _ ea4), rfl, _, rfl, g, es, rfl, SqT.of (t47 _ _ hge), ?nw2, fun p8 hp8 => ?_⟩
      case nw2 =>
        rw [HT.sIx_nat]
        omega
      rw [cut_from (by omega)]
      have g8 := Gro.new (S := []) hp8 (.tup (es.drop (m + 1)))
      refine catA_to (g8.tups _ _ hr7) upd_same (by simp only [List.length_append, List.length_take, List.length_drop, List.length_singleton]; omega) fun r9 H9 hr9 g9 => ⟨sz, fun t1 ht1 => ?_⟩
      have g10 := Gro.new (S := []) ht1 (.tup [.int j, .ref r9])
      have gg : Gro [] H4 (upd H9 t1 (.tup [.int j, .ref r9])) := ((((g5.trans g6).trans g7).trans g8).trans g9).trans g10
      have gp := ga_put (p := p2) (i := i) (j := j) gg.tups hel.1 (show m < n by omega) hen (g10.tups _ _ (g9.tups _ _ (g8.tups _ _ (g7.tups _ _ e7)))) hi0 hj0
      refine ⟨?_, by simp [hyl], g4.trans gg⟩
      rw [take_snoc hj]
      exact (ways_mono gg.tups hys).snoc ⟨t1, .ref r9, rfl, upd_same, r9, _, rfl, g10.tups _ _ hr9, ⟨gp.1, hel.2⟩, gp.2⟩
    · rintro ys H4 ⟨hys, hyl, g4⟩ c hc
      rw [List.take_of_length_le (by omega)] at hys
      have g5 := Gro.new (S := []) hc (.lst ys)
      refine q2 c ys js f1 _ upd_same (ways_mono g5.tups hys) (fun j hj => ⟨?_, (hs1 j hj).2⟩) ((g4.trans g5).keep _ _ hl3 (by simp)) (by omega) (by omega) (g3.trans ((g4.trans g5).mono (by simp)))
      rw [spn_node]
      exact InS.gen (List.mem_map.mpr ⟨p1, by simp, rfl⟩) (hs1 j hj).1
  refine no_ _ c6 ?_
  have hkd : h.wd.kd = .mem := by
    cases hh : h.wd.kd <;> first | rfl | exact absurd hh c1 | exact absurd hh c2 | exact absurd hh c3 | exact absurd hh c4 | exact absurd hh c5 | exact absurd hh c6
  exact ⟨_, rfl, _, rfl, _, rfl, _, rfl, _, rfl, .ref a0, gv, h, ks, t, i, f0 - 1, n, lf, rfl, hp2, hkd, hnm, ht, hi0, hi1, hg2, hl2, hf0, by omega, by rw [show f0 - 1 + 1 = f0 by omega]; exact q2⟩
end
end Seek

set_option maxRecDepth 100000
set_option maxHeartbeats 4000000
namespace Seek
open PySem PySem.Spec PyProof.Rows L2
section
variable {P : Program} {w : World} {K : PySem.W.Frag} {mg : Str → Option Value} {base : Heap} {f : Addr} {fd : FuncData}
theorem own_ways (T : Blt mg) (O_l_takes : Own P w K mg base 1 "_law_takes" ["_law_p", "_law_sign_here"] spTk) (D1 : Def K mg "_law_each" s_l_each ["_law_part", "_law_text_here", "_law_ways_here", "_law_left"]) (D2 : Def K mg "_law_turns" s_l_turns ["_law_p", "_law_text_here", "_law_n", "_law_j", "_law_g", "_law_left"]) (D3 : Def K mg "_law_behind" s_l_behind ["_law_p", "_law_text_here", "_law_i", "_law_g", "_law_left"]) (D4 : Def K mg "_law_memory" s_l_memory ["_law_p", "_law_text_here", "_law_i", "_law_g", "_law_left"]) (D5 : Def K mg "_law_ways" s_l_ways ["_law_p", "_law_text_here", "_law_i", "_law_g", "_law_left"]) :
    ∀ d, Own P w K mg base (2 + 29 * d) "_law_ways" ["_law_p", "_law_text_here", "_law_i", "_law_g", "_law_left"] (spWays d)
  | 0 => D5.own fun f fd F => FnOk.never fun vs H Q E ⟨_, _, _, _, _, _, _, _, _, h, _⟩ => h.elim
  | d + 1 => by
    have ih := own_ways T O_l_takes D1 D2 D3 D4 D5 d
    have ea : Own P w K mg base (2 + 29 * d + 1) "_law_each" ["_law_part", "_law_text_here", "_law_ways_here", "_law_left"] (spEach d) := D1.own fun f fd F => ok_each ih F
    have be : Own P w K mg base (2 + 29 * d + 1) "_law_behind" ["_law_p", "_law_text_here", "_law_i", "_law_g", "_law_left"] (spBeh d) := D3.own fun f fd F => ok_beh T ih F
    have me : Own P w K mg base (2 + 29 * d + 1 + 1) "_law_memory" ["_law_p", "_law_text_here", "_law_i", "_law_g", "_law_left"] (spMem d) := D4.own fun f fd F => ok_mem T (ih.mono (by omega)) be F
    have tu := own_turns ih D2 28
    have := D5.own (P := P) (w := w) (base := base) (sp := spWays (d + 1)) fun f fd F => ok_ways (k := 2 + 29 * d + 28) T (O_l_takes.mono (by omega)) (ea.mono (by omega)) tu (me.mono (by omega)) (ih.mono (by omega)) F
    exact this
def spLaw (K : PySem.W.Frag) : Sp := fun vs H Q _ => ∃ (a : Addr) (ns : List Int), vs = [.ref a] ∧ SqL K H a (ns.map V.int) ∧ ns.length ≤ 63 ∧ ∀ H', Q (.bl true) H'
abbrev s_law : Stmt := top 25
theorem sc_law : FnScope ["_law_script", "_law_box", "_law_letters_here", "_law_text_here", "_law_at", "_law_drawn_here", "_law_left", "_law_ways_here", "_law_told", "_law_way"] ["_law_script"] (defScope s_law) := ⟨rfl, rfl, rfl, by decide +kernel, rfl, by decide +kernel, by decide +kernel⟩
theorem ok_law (T : Blt mg) (O_l_letters : Own P w K mg base 2 "_law_letters" ["_law_box"] spLetters) (O_l_take : Own P w K mg base 1 "_law_take" ["_law_box", "_law_many"] spTake) (O_l_text : Own P w K mg base 2 "_law_text" ["_law_box", "_law_letters_here", "_law_size"] spText) (O_l_drawn : Own P w K mg base 13 "_law_drawn" ["_law_box", "_law_letters_here", "_law_plain"] spDrawn)
    (O_l_ways : Own P w K mg base 205 "_law_ways" ["_law_p", "_law_text_here", "_law_i", "_law_g", "_law_left"] (spWays 7)) (O_spans : Own P w K mg base 9 "spans" ["pattern"] (spS 7)) (F : Fun K "law" "law" s_law f fd) : FnOk P w K mg base CX0 210 f fd ["_law_script"] (spLaw K) := by
  refine F.ok sc_law (fun vs H Q E h => ?_) (fun cdv A outer s H vs Q E hr h => ?_)
  · obtain ⟨a, ns, rfl, _⟩ := h
    rfl
  obtain ⟨a, ns, rfl, hS, h63, q⟩ := h
  refine ⟨_, (pss_cons (ps_set (i := 1) sc_law.nd rfl (by first | exact Or.inl rfl | exact Or.inr rfl) (pe_callTy call_list_of rfl T.b_list PyProof.Rows.Boot.«list» (pa_cons (pv 0) pa_nil)))
    (pss_cons (ps_set (i := 2) sc_law.nd rfl (by first | exact Or.inl rfl | exact Or.inr rfl) (pe_own (O_l_letters.mono (by omega)) hr rfl (pa_cons (pv 1) pa_nil)))
    (pss_cons (ps_set (i := 3) sc_law.nd rfl (by first | exact Or.inl rfl | exact Or.inr rfl) (pe_own (O_l_text.mono (by omega)) hr rfl (pa_cons (pv 1) (pa_cons (pv 2) (pa_cons (pe_own (O_l_take.mono (by omega)) hr rfl (pa_cons (pv 1) (pa_cons pe_int pa_nil))) pa_nil)))))
    (pss_cons (ps_set (i := 4) sc_law.nd rfl (by first | exact Or.inl rfl | exact Or.inr rfl) (pe_own (O_l_take.mono (by omega)) hr rfl (pa_cons (pv 1) (pa_cons (pe_op op_add (pe_callB call_len_str rfl T.b_len PyProof.Rows.Boot.«len» (pa_cons (pv 3) pa_nil)) pe_int) pa_nil))))
    (pss_cons (ps_set (i := 5) sc_law.nd rfl (by first | exact Or.inl rfl | exact Or.inr rfl) (pe_own (O_l_drawn.mono (by omega)) hr rfl (pa_cons (pv 1) (pa_cons (pv 2) (pa_cons pe_int pa_nil)))))
    (pss_cons (ps_set (i := 6) sc_law.nd rfl (by first | exact Or.inl rfl | exact Or.inr rfl) (pe_lst (pa_cons pe_int pa_nil)))
    (pss_cons (ps_set (i := 7) sc_law.nd rfl (by first | exact Or.inl rfl | exact Or.inr rfl) (pe_own (O_l_ways.mono (by omega)) hr rfl (pa_cons (pe_ix ix_tup (pv 5) pe_int (fun _ _ => rfl)) (pa_cons (pv 3) (pa_cons (pv 4) (pa_cons (pe_ix ix_tup (pv 5) pe_int (fun _ _ => rfl)) (pa_cons (pv 6) pa_nil)))))))
    (pss_cons (ps_if (pt_cmpR op_lt (pe_ix ix_list (pv 6) pe_int (fun _ _ => rfl)) pe_int (nomark _)) (pss_one (ps_ret pe_bl)) pss_nil)
    (pss_cons (ps_set (i := 8) sc_law.nd rfl (by first | exact Or.inl rfl | exact Or.inr rfl) (pe_own (O_spans.mono (by omega)) hr rfl (pa_cons (pe_ix ix_tup (pv 5) pe_int (fun _ _ => rfl)) pa_nil)))
    (pss_cons (ps_if (PW.pt (pw_or (pt_not (pt_val (pe_callB (call_isinst (T := "tuple") (isT_ok (by simp))) rfl T.b_isinstance PyProof.Rows.Boot.«isinstance» (pa_cons (pv 8) (pa_cons (pe_bltn (v := .ty "tuple") rfl T.b_tuple PyProof.Rows.Boot.«tuple» rfl) pa_nil))))) (pw_or1 (pt_cmpR op_ne (pe_callB call_len_seq rfl T.b_len PyProof.Rows.Boot.«len» (pa_cons (pv 8) pa_nil)) pe_int (nomark _))))) (pss_one (ps_ret pe_bl)) pss_nil)
    (pss_cons (ps_for PassesOwn.never rfl (pi_list (pv 7)) (pg_name (i := 9) sc_law.nd rfl (by first | exact Or.inl rfl | exact Or.inr rfl)) (pss_cons (ps_if (pt_cmpR op_lt (pe_op op_sub (pe_ix ix_tup (pv 9) pe_int (fun _ _ => rfl)) (pv 4)) (pe_ix ix_tup (pv 8) pe_int (fun _ _ => rfl)) (nomark _)) (pss_one (ps_ret pe_bl)) pss_nil)
    (pss_one (ps_if (PW.pt (pw_and (pt_cmp (pc_notN (pe_ix ix_tup (pv 8) pe_int (fun _ _ => rfl)))) (pw_and1 (pt_cmpR op_gt (pe_op op_sub (pe_ix ix_tup (pv 9) pe_int (fun _ _ => rfl)) (pv 4)) (pe_ix ix_tup (pv 8) pe_int (fun _ _ => rfl)) (nomark _))))) (pss_one (ps_ret pe_bl)) pss_nil))))
    (pss_one (ps_ret pe_bl))))))))))))), ?_⟩
  refine ⟨_, rfl, a, _, rfl, .inl hS, fun b hb => ?_⟩
  refine ⟨_, rfl, b, rfl, ⟨ns, upd_same, h63⟩, fun l H1 hb1 hl1 g1 => ?_⟩
  have bl : b ≠ l := hb1.ne_let hl1
  have lS : l ∉ [b] := by simpa using Ne.symm bl
  refine ⟨_, rfl, _, rfl, _, rfl, b, 8, rfl, hb1, by decide, by decide, fun m H2 hm0 hm1 hb2 g2 => ?_⟩
  have l2 := hl1.gro g2 lS
  refine ⟨b, l, m, rfl, hb2, l2, hm0, by omega, fun t H3 ht hb3 g3 => ?_⟩
  have l3 := l2.gro g3 lS
  refine ⟨_, rfl, _, rfl, _, rfl, small (by omega), _, _, rfl, rfl, b, (t.length : Int) + 1, rfl, hb3, by omega, by omega, fun i H4 hi0 hi1 hb4 g4 => ?_⟩
  have l4 := l3.gro g4 lS
  refine ⟨_, rfl, _, rfl, b, l, 0, rfl, hb4, l4, fun tp g v p n H5 hb5 ht5 hg5 hn5 hnm hp5 g5 => ?_⟩
  refine ⟨sz, fun lf hlf => ?_⟩
  have g6 := Gro.new (S := []) hlf (.lst [.int 1500])
  have hl6 : (upd H5 lf (.lst [.int 1500])) lf = some (.lst [.int 1500]) := upd_same
  have ht6 := g6.tups _ _ ht5
  have hg6 := g6.tups _ _ hg5
  have hp6 := hp5.1.mono g6.tups
  generalize upd H5 lf (.lst [.int 1500]) = H6 at *
  refine ⟨_, rfl, tp, _, _, _, rfl, rfl, SqT.of ht6, at0, _, rfl, _, rfl, _, rfl, tp, _, _, _, rfl, rfl, SqT.of ht6, rfl, _, rfl, v, .ref g, p, t, i, 1500, n, lf, rfl, hp6, hnm, by omega, hi0, by omega, ⟨g, _, rfl, hg6, ⟨List.length_replicate, by omega⟩, fun e he => .inl (List.eq_of_mem_replicate he)⟩, hl6, by decide, fun r vs js f7 H7 hr7 hv7 hs7 hl7 hlen7 hf7 g7 => ?_⟩
  refine ⟨_, rfl, lf, _, _, _, rfl, rfl, SqL.of hl7, rfl, _, _, rfl, rfl, _, rfl, ite2 (fun _ => q _) (fun _ => ?_)⟩
  have ht7 := g7.tups _ _ ht6
  refine ⟨_, rfl, tp, _, _, _, rfl, rfl, SqT.of ht7, at0, v, p, rfl, hp6.mono g7.tups, fun v' H8 hv' g8 => ?_⟩
  obtain ⟨sp, rfl, hsp⟩ := hv'
  refine ⟨_, rfl, _, _, rfl, .inl ⟨_, hsp, rfl⟩, _, rfl, ite_no (by decide) ?_⟩
  refine ⟨_, rfl, sp, _, rfl, .inr (SqT.of hsp), rfl, _, rfl, ite_no (by show ¬ (!decide (V.int 2 = V.int 2)) = true; decide) ?_⟩
  have hr8 := g8.keep _ _ hr7 (by simp)
  have hv8 := ways_mono g8.tups hv7
  refine ⟨_, rfl, r, rfl, ⟨vs, SqL.of hr8⟩, ?_⟩
  refine for_list (xs := vs) (fun x σ H' => (∃ wy : Option V, σ = [some (.ref a), some (.ref b), some (.ref l), some (.str t), some (.int i), some (.ref tp), some (.ref lf), some (.ref r), some (.ref sp), wy]) ∧ H' = H8) ⟨⟨none, rfl⟩, rfl⟩ (fun x σ H' _ ⟨_, e⟩ => by rw [e]; exact SqL.of hr8) ?_ ?_
  · rintro x wv σ H' hx ⟨⟨wy, rfl⟩, rfl⟩
    obtain ⟨j, hj, ⟨b9, gv9, rfl, hb9, _⟩⟩ := paired_get hv8 hx
    obtain ⟨⟨h1, h2⟩, _⟩ := hs7 j (List.mem_of_getElem? hj)
    refine ⟨_, rfl, b9, _, _, _, rfl, rfl, SqT.of hb9, at0, _, rfl, _, _, rfl, rfl, _, rfl, sp, _, _, _, rfl, rfl, SqT.of hsp, at0, _, _, rfl, rfl, _, rfl, ite_no (fun z => by have := of_decide_eq_true z; omega) ?_⟩
    refine ⟨_, rfl, sp, _, _, _, rfl, rfl, SqT.of hsp, rfl, _, rfl, ?_⟩
    cases hh : p.spn.2 with
    | none =>
      exact ite_no (by decide) (ite_no (by decide) ⟨⟨_, rfl⟩, rfl⟩)
    | some y =>
      have h3 := h2 y hh
      refine ite_yes (by rfl) ?_
      refine ⟨_, rfl, b9, _, _, _, rfl, rfl, SqT.of hb9, at0, _, rfl, _, _, rfl, rfl, _, rfl, sp, _, _, _, rfl, rfl, SqT.of hsp, (by rw [hh]; rfl), _, _, rfl, rfl, _, rfl, ite_no (fun z => by have := of_decide_eq_true z; omega) ?_⟩
      exact ⟨⟨_, rfl⟩, rfl⟩
  · rintro σ H' ⟨⟨wy, rfl⟩, rfl⟩
    exact q _
end
end Seek

set_option maxRecDepth 100000
set_option maxHeartbeats 4000000
namespace Seek
open PySem PySem.Spec PyProof.Rows L2
section
variable {K : PySem.W.Frag} {mg : Str → Option Value} {h : Heap}
theorem def_mk {x : Str} {st : Stmt} {ps : List Str} {f : Addr} {oc : Value} {od an : Option Addr} {osl : Array (Option Value)} {kV doc pm cdv ct : Value} (X : K.In h) (G : h.Ns mainGlobals mg) (a : PySem.W.nsIn K mainGlobals x = some (some (.ref f)))
    (l : K.lookup f = some ⟨oc, od, .func (PySem.W.fnOf x x (defArgs st) (defBody st) (defScope st) .none kV doc pm an cdv ct), osl⟩) (c : PySem.W.codeIn K cdv x = true) (k : PySem.W.keepIn K (.ref f) = true)
    (hb : ∀ (kV doc pm : Value) (an : Option Addr) (cdv ct : Value) (us : List Value), us.length = ps.length → bindArgs (PySem.W.fnOf x x (defArgs st) (defBody st) (defScope st) .none kV doc pm an cdv ct) ⟨us, []⟩ = pure (ps.zip us)) : Def K mg x st ps :=
  ⟨f, _, fun_mk (st := st) l c k, PySem.W.mg_of X G a, (fun_mk (st := st) l c k).binds hb⟩
theorem const_mk4 {x : Str} {pl : Addr} {od : Option Addr} {n : Nat} {sl : Array (Option Value)} {x1 x2 x3 x4 : Str} {t1 t2 t3 t4 : Tok} (X : K.In h) (G : h.Ns mainGlobals mg) (a : PySem.W.nsIn K mainGlobals x = some (some (.ref pl))) (l : K.lookup pl = some ⟨.type "tuple", od, .seq #[.str x1 t1, .str x2 t2, .str x3 t3, .str x4 t4] n, sl⟩) :
    ∃ pl, mg x = some (.ref pl) ∧ ∀ H, SqT K H pl [.str x1, .str x2, .str x3, .str x4] := ⟨pl, PySem.W.mg_of X G a, fun H => .inr ⟨_, _, n, l, rfl, rfl, sz, (.cons ⟨_, rfl⟩ (.cons ⟨_, rfl⟩ (.cons ⟨_, rfl⟩ (.cons ⟨_, rfl⟩ .nil))))⟩⟩
theorem const_mk6 {x : Str} {pl : Addr} {od : Option Addr} {n : Nat} {sl : Array (Option Value)} {x1 x2 x3 x4 x5 x6 : Str} {t1 t2 t3 t4 t5 t6 : Tok} (X : K.In h) (G : h.Ns mainGlobals mg) (a : PySem.W.nsIn K mainGlobals x = some (some (.ref pl))) (l : K.lookup pl = some ⟨.type "tuple", od, .seq #[.str x1 t1, .str x2 t2, .str x3 t3, .str x4 t4, .str x5 t5, .str x6 t6] n, sl⟩) :
    ∃ pl, mg x = some (.ref pl) ∧ ∀ H, SqT K H pl [.str x1, .str x2, .str x3, .str x4, .str x5, .str x6] := ⟨pl, PySem.W.mg_of X G a, fun H => .inr ⟨_, _, n, l, rfl, rfl, sz, (.cons ⟨_, rfl⟩ (.cons ⟨_, rfl⟩ (.cons ⟨_, rfl⟩ (.cons ⟨_, rfl⟩ (.cons ⟨_, rfl⟩ (.cons ⟨_, rfl⟩ .nil))))))⟩⟩
theorem const_mk7 {x : Str} {pl : Addr} {od : Option Addr} {n : Nat} {sl : Array (Option Value)} {x1 x2 x3 x4 x5 x6 x7 : Str} {t1 t2 t3 t4 t5 t6 t7 : Tok} (X : K.In h) (G : h.Ns mainGlobals mg) (a : PySem.W.nsIn K mainGlobals x = some (some (.ref pl))) (l : K.lookup pl = some ⟨.type "tuple", od, .seq #[.str x1 t1, .str x2 t2, .str x3 t3, .str x4 t4, .str x5 t5, .str x6 t6, .str x7 t7] n, sl⟩) :
    ∃ pl, mg x = some (.ref pl) ∧ ∀ H, SqT K H pl [.str x1, .str x2, .str x3, .str x4, .str x5, .str x6, .str x7] := ⟨pl, PySem.W.mg_of X G a, fun H => .inr ⟨_, _, n, l, rfl, rfl, sz, (.cons ⟨_, rfl⟩ (.cons ⟨_, rfl⟩ (.cons ⟨_, rfl⟩ (.cons ⟨_, rfl⟩ (.cons ⟨_, rfl⟩ (.cons ⟨_, rfl⟩ (.cons ⟨_, rfl⟩ .nil)))))))⟩⟩
theorem own_rec {P : Program} {w : World} {base : Heap} {x : Str} {st : Stmt} {ps : List Str} {sp : Nat → Sp} (D : Def K mg x st ps) (no : ∀ vs H Q E, ¬ sp 0 vs H Q E) (step : ∀ n f fd, Own P w K mg base (2 + n) x ps (sp n) → Fun K x x st f fd → FnOk P w K mg base CX0 (2 + n + 1) f fd ps (sp (n + 1))) :
    ∀ n, Own P w K mg base (2 + n) x ps (sp n)
  | 0 => D.own fun f fd F => FnOk.never no
  | n + 1 => D.own fun f fd F => step n f fd (own_rec D no step n) F
theorem top_mk {l : PySem.W.OpenLaw} {w : World} {fa f : Addr} {oc : Value} {od an : Option Addr} {osl : Array (Option Value)} {kV doc pm cdv ct : Value} (X : K.In h) (G : h.Ns mainGlobals mg) (hfa : mg "law" = some (.ref fa)) (a : PySem.W.nsIn K mainGlobals "law" = some (some (.ref f)))
    (lk : K.lookup f = some ⟨oc, od, .func (PySem.W.fnOf "law" "law" (defArgs s_law) (defBody s_law) (defScope s_law) .none kV doc pm an cdv ct), osl⟩) (c : PySem.W.codeIn K cdv "law" = true) (k : PySem.W.keepIn K (.ref f) = true)
    (rest : ∀ (base : Heap) (f : Addr) (fd : FuncData), Fun K "law" "law" s_law f fd → FnOk l.prog w K mg base CX0 210 f fd ["_law_script"] (spLaw K)) :
    ∃ fd : FuncData, (∀ (s : Shared) (v : Value), BindsTo s fd ⟨[v], []⟩ [("_law_script", v)]) ∧ ∀ base : Heap, K.In base → base.Ns mainGlobals mg → FnOk l.prog w K mg base CX0 210 fa fd ["_law_script"] (spLaw K) := by
  have e := hfa.symm.trans (PySem.W.mg_of X G a)
  cases e
  exact ⟨PySem.W.fnOf "law" "law" (defArgs s_law) (defBody s_law) (defScope s_law) .none kV doc pm an cdv ct, fun s v => .of_eq rfl, fun base _ _ => rest base _ _ (fun_mk (st := s_law) lk c k)⟩
theorem law_of {P : Program} {w : World} {pl os nt : Addr} (T : Blt mg) (c_PART_LAST : mg "PART_LAST" = some (.ref pl)) (hPL : ∀ H, SqT K H pl lastWords) (c_ONE_SIGN : mg "ONE_SIGN" = some (.ref os)) (hOS : ∀ H, SqT K H os oneSign) (c_NOTHING_TAKEN : mg "NOTHING_TAKEN" = some (.ref nt)) (hNT : ∀ H, SqT K H nt nothing)
    (d1 : Def K mg "parts_of" s_parts_of ["pattern"]) (d2 : Def K mg "times_spans" s_times_spans ["low", "high", "inner"]) (d3 : Def K mg "spans" s_spans ["pattern"])
    (e1 : Def K mg "_law_take" s_l_take ["_law_box", "_law_many"]) (e2 : Def K mg "_law_sign" s_l_sign ["_law_cell"]) (e3 : Def K mg "_law_letters" s_l_letters ["_law_box"]) (e4 : Def K mg "_law_runs" s_l_runs ["_law_box", "_law_letters_here"]) (e5 : Def K mg "_law_leaf" s_l_leaf ["_law_box", "_law_letters_here", "_law_count"]) (e6 : Def K mg "_law_parts" s_l_parts ["_law_box", "_law_letters_here", "_law_count", "_law_deep", "_law_word"]) (e7 : Def K mg "_law_times" s_l_times ["_law_box", "_law_letters_here", "_law_count", "_law_deep"]) (e8 : Def K mg "_law_pattern" s_l_pattern ["_law_box", "_law_letters_here", "_law_count", "_law_deep"]) (e9 : Def K mg "_law_drawn" s_l_drawn ["_law_box", "_law_letters_here", "_law_plain"]) (e10 : Def K mg "_law_text" s_l_text ["_law_box", "_law_letters_here", "_law_size"])
    (f1 : Def K mg "_law_takes" s_l_takes ["_law_p", "_law_sign_here"]) (f2 : Def K mg "_law_each" s_l_each ["_law_part", "_law_text_here", "_law_ways_here", "_law_left"]) (f3 : Def K mg "_law_turns" s_l_turns ["_law_p", "_law_text_here", "_law_n", "_law_j", "_law_g", "_law_left"]) (f4 : Def K mg "_law_behind" s_l_behind ["_law_p", "_law_text_here", "_law_i", "_law_g", "_law_left"]) (f5 : Def K mg "_law_memory" s_l_memory ["_law_p", "_law_text_here", "_law_i", "_law_g", "_law_left"]) (f6 : Def K mg "_law_ways" s_l_ways ["_law_p", "_law_text_here", "_law_i", "_law_g", "_law_left"])
    (base : Heap) (f : Addr) (fd : FuncData) (F : Fun K "law" "law" s_law f fd) : FnOk P w K mg base CX0 210 f fd ["_law_script"] (spLaw K) := by
  have parts : Own P w K mg base 1 "parts_of" ["pattern"] spPartsOf := d1.own fun _ _ F => ok_parts_of c_PART_LAST hPL F
  have ts : Own P w K mg base 1 "times_spans" ["low", "high", "inner"] spTS := d2.own fun _ _ F => ok_times_spans F
  have noS : ∀ vs H Q E, ¬ spS 0 vs H Q E := fun vs H Q E ⟨v, p, _, hp, _⟩ => hp.elim
  have s1 := own_rec (P := P) (w := w) (base := base) (sp := spS) d3 noS (fun n f fd O F => ok_spans T c_ONE_SIGN hOS c_NOTHING_TAKEN hNT parts ts O F) 7
  have ta : Own P w K mg base 1 "_law_take" ["_law_box", "_law_many"] spTake := e1.own fun _ _ F => ok_take F
  have si : Own P w K mg base 1 "_law_sign" ["_law_cell"] spSign := e2.own fun _ _ F => ok_sign F
  have le : Own P w K mg base 2 "_law_letters" ["_law_box"] spLetters := e3.own fun _ _ F => ok_letters T ta si F
  have ru : Own P w K mg base 2 "_law_runs" ["_law_box", "_law_letters_here"] spRuns := e4.own fun _ _ F => ok_runs T ta F
  have lf : Own P w K mg base 3 "_law_leaf" ["_law_box", "_law_letters_here", "_law_count"] spLeaf := e5.own fun _ _ F => ok_leaf T ta ru F
  have pa := own_pattern (P := P) (w := w) (base := base) T ta lf e6 e7 e8 4
  have dr : Own P w K mg base 13 "_law_drawn" ["_law_box", "_law_letters_here", "_law_plain"] spDrawn := e9.own fun _ _ F => ok_drawn T ta ru pa F
  have tx : Own P w K mg base 2 "_law_text" ["_law_box", "_law_letters_here", "_law_size"] spText := e10.own fun _ _ F => ok_text T ta F
  have tk : Own P w K mg base 1 "_law_takes" ["_law_p", "_law_sign_here"] spTk := f1.own fun _ _ F => ok_tk T F
  have wy := own_ways (P := P) (w := w) (base := base) T tk f2 f3 f4 f5 f6 7
  exact ok_law T le ta tx dr wy s1 F
end
theorem walk {l : PySem.W.OpenLaw} {q : Program} {loose : List Str} {XP : (Str → Option Value) → Heap → Prop} {YP : World → Heap → Prop} {d : DefRec} {K : Params → PySem.W.Frag} (hn : l.most = some 63) (hdf : d.params.defaults = [])
    (hY : ∀ (w : World) (h : Heap), YP w h → (K w.params).In h)
    (F : ∀ (w : World) (mg : Str → Option Value) (fa : Addr) (h : Heap), (K w.params).In h → h.Ns mainGlobals mg → mg d.name = some (.ref fa) →
      ∃ fd : FuncData, (∀ (s : Shared) (u : Value), BindsTo s fd ⟨[u], []⟩ [("_law_script", u)]) ∧ ∀ base : Heap, (K w.params).In base → base.Ns mainGlobals mg → FnOk l.prog w (K w.params) mg base CX0 210 fa fd ["_law_script"] (spLaw (K w.params))) :
    PySem.W.WalkO q loose XP YP l.row.toRowW d [] (fun f vs => PySem.call f vs) :=
  L2.walk_of (n := 63) (k := 210) (x := "_law_script") (CX := fun _ => CX0) (sp := fun w => spLaw (K w.params)) hn (by decide) hdf ⟨rfl, by decide, by decide⟩ hY F (fun _ _ a ns hl _ hS => ⟨a, ns, rfl, hS, hl, fun _ => rfl⟩) fun _ _ _ _ _ z => z
end Seek
open PySem PySem.W PyProof.Rows
set_option maxRecDepth 100000 in
set_option maxHeartbeats 0 in
theorem PySem.Challenge.cw_seek_k19_whole_spans_hold_holds : PySem.Challenge.rw_seek_k19_whole_spans_hold.Holds := by
  w_on; o_law; k_head; (case hw => w_witness2)
  k_fill
  refine Seek.walk (l := PySem.Challenge.rw_seek_k19_whole_spans_hold) rfl rfl (fun w h Y => PySem.W.kIn_of Y) ?F
  case F =>
    intro w mg fa h KX G hmg
    have z : ∀ {x : Str} {K : PySem.W.Frag}, K.In h → PySem.W.nsIn K mainGlobals x = some none → mg x = none := fun X e => PySem.W.mg_none_of X G e
    have T : Seek.Blt mg := by
      refine' ⟨z KX ?b1, z KX ?b2, z KX ?b3, z KX ?b4, z KX ?b5, z KX ?b6, z KX ?b7, z KX ?b8, z KX ?b9, z KX ?b10, z KX ?b11, z KX ?b12, z KX ?b13⟩
      (case b1 => k_is); (case b2 => k_is); (case b3 => k_is); (case b4 => k_is); (case b5 => k_is); (case b6 => k_is); (case b7 => k_is); (case b8 => k_is); (case b9 => k_is); (case b10 => k_is); (case b11 => k_is); (case b12 => k_is); (case b13 => k_is)
    have d1 := (by
      refine' Seek.def_mk (x := "parts_of") (st := Seek.s_parts_of) (ps := ["pattern"]) KX G ?a ?l ?c ?k (fun _ _ _ _ _ _ us hl => match us, hl with | [_], _ => rfl)
      (case a => k_is); (case l => k_is); (case c => k_is); (case k => k_is))
    have d2 := (by
      refine' Seek.def_mk (x := "times_spans") (st := Seek.s_times_spans) (ps := ["low", "high", "inner"]) KX G ?a ?l ?c ?k (fun _ _ _ _ _ _ us hl => match us, hl with | [_, _, _], _ => rfl)
      (case a => k_is); (case l => k_is); (case c => k_is); (case k => k_is))
    have d3 := (by
      refine' Seek.def_mk (x := "spans") (st := Seek.s_spans) (ps := ["pattern"]) KX G ?a ?l ?c ?k (fun _ _ _ _ _ _ us hl => match us, hl with | [_], _ => rfl)
      (case a => k_is); (case l => k_is); (case c => k_is); (case k => k_is))
    have e1 := (by
      refine' Seek.def_mk (x := "_law_take") (st := Seek.s_l_take) (ps := ["_law_box", "_law_many"]) KX G ?a ?l ?c ?k (fun _ _ _ _ _ _ us hl => match us, hl with | [_, _], _ => rfl)
      (case a => k_is); (case l => k_is); (case c => k_is); (case k => k_is))
    have e2 := (by
      refine' Seek.def_mk (x := "_law_sign") (st := Seek.s_l_sign) (ps := ["_law_cell"]) KX G ?a ?l ?c ?k (fun _ _ _ _ _ _ us hl => match us, hl with | [_], _ => rfl)
      (case a => k_is); (case l => k_is); (case c => k_is); (case k => k_is))
    have e3 := (by
      refine' Seek.def_mk (x := "_law_letters") (st := Seek.s_l_letters) (ps := ["_law_box"]) KX G ?a ?l ?c ?k (fun _ _ _ _ _ _ us hl => match us, hl with | [_], _ => rfl)
      (case a => k_is); (case l => k_is); (case c => k_is); (case k => k_is))
    have e4 := (by
      refine' Seek.def_mk (x := "_law_runs") (st := Seek.s_l_runs) (ps := ["_law_box", "_law_letters_here"]) KX G ?a ?l ?c ?k (fun _ _ _ _ _ _ us hl => match us, hl with | [_, _], _ => rfl)
      (case a => k_is); (case l => k_is); (case c => k_is); (case k => k_is))
    have e5 := (by
      refine' Seek.def_mk (x := "_law_leaf") (st := Seek.s_l_leaf) (ps := ["_law_box", "_law_letters_here", "_law_count"]) KX G ?a ?l ?c ?k (fun _ _ _ _ _ _ us hl => match us, hl with | [_, _, _], _ => rfl)
      (case a => k_is); (case l => k_is); (case c => k_is); (case k => k_is))
    have e6 := (by
      refine' Seek.def_mk (x := "_law_parts") (st := Seek.s_l_parts) (ps := ["_law_box", "_law_letters_here", "_law_count", "_law_deep", "_law_word"]) KX G ?a ?l ?c ?k (fun _ _ _ _ _ _ us hl => match us, hl with | [_, _, _, _, _], _ => rfl)
      (case a => k_is); (case l => k_is); (case c => k_is); (case k => k_is))
    have e7 := (by
      refine' Seek.def_mk (x := "_law_times") (st := Seek.s_l_times) (ps := ["_law_box", "_law_letters_here", "_law_count", "_law_deep"]) KX G ?a ?l ?c ?k (fun _ _ _ _ _ _ us hl => match us, hl with | [_, _, _, _], _ => rfl)
      (case a => k_is); (case l => k_is); (case c => k_is); (case k => k_is))
    have e8 := (by
      refine' Seek.def_mk (x := "_law_pattern") (st := Seek.s_l_pattern) (ps := ["_law_box", "_law_letters_here", "_law_count", "_law_deep"]) KX G ?a ?l ?c ?k (fun _ _ _ _ _ _ us hl => match us, hl with | [_, _, _, _], _ => rfl)
      (case a => k_is); (case l => k_is); (case c => k_is); (case k => k_is))
    have e9 := (by
      refine' Seek.def_mk (x := "_law_drawn") (st := Seek.s_l_drawn) (ps := ["_law_box", "_law_letters_here", "_law_plain"]) KX G ?a ?l ?c ?k (fun _ _ _ _ _ _ us hl => match us, hl with | [_, _, _], _ => rfl)
      (case a => k_is); (case l => k_is); (case c => k_is); (case k => k_is))
    have e10 := (by
      refine' Seek.def_mk (x := "_law_text") (st := Seek.s_l_text) (ps := ["_law_box", "_law_letters_here", "_law_size"]) KX G ?a ?l ?c ?k (fun _ _ _ _ _ _ us hl => match us, hl with | [_, _, _], _ => rfl)
      (case a => k_is); (case l => k_is); (case c => k_is); (case k => k_is))
    have f1 := (by
      refine' Seek.def_mk (x := "_law_takes") (st := Seek.s_l_takes) (ps := ["_law_p", "_law_sign_here"]) KX G ?a ?l ?c ?k (fun _ _ _ _ _ _ us hl => match us, hl with | [_, _], _ => rfl)
      (case a => k_is); (case l => k_is); (case c => k_is); (case k => k_is))
    have f2 := (by
      refine' Seek.def_mk (x := "_law_each") (st := Seek.s_l_each) (ps := ["_law_part", "_law_text_here", "_law_ways_here", "_law_left"]) KX G ?a ?l ?c ?k (fun _ _ _ _ _ _ us hl => match us, hl with | [_, _, _, _], _ => rfl)
      (case a => k_is); (case l => k_is); (case c => k_is); (case k => k_is))
    have f3 := (by
      refine' Seek.def_mk (x := "_law_turns") (st := Seek.s_l_turns) (ps := ["_law_p", "_law_text_here", "_law_n", "_law_j", "_law_g", "_law_left"]) KX G ?a ?l ?c ?k (fun _ _ _ _ _ _ us hl => match us, hl with | [_, _, _, _, _, _], _ => rfl)
      (case a => k_is); (case l => k_is); (case c => k_is); (case k => k_is))
    have f4 := (by
      refine' Seek.def_mk (x := "_law_behind") (st := Seek.s_l_behind) (ps := ["_law_p", "_law_text_here", "_law_i", "_law_g", "_law_left"]) KX G ?a ?l ?c ?k (fun _ _ _ _ _ _ us hl => match us, hl with | [_, _, _, _, _], _ => rfl)
      (case a => k_is); (case l => k_is); (case c => k_is); (case k => k_is))
    have f5 := (by
      refine' Seek.def_mk (x := "_law_memory") (st := Seek.s_l_memory) (ps := ["_law_p", "_law_text_here", "_law_i", "_law_g", "_law_left"]) KX G ?a ?l ?c ?k (fun _ _ _ _ _ _ us hl => match us, hl with | [_, _, _, _, _], _ => rfl)
      (case a => k_is); (case l => k_is); (case c => k_is); (case k => k_is))
    have f6 := (by
      refine' Seek.def_mk (x := "_law_ways") (st := Seek.s_l_ways) (ps := ["_law_p", "_law_text_here", "_law_i", "_law_g", "_law_left"]) KX G ?a ?l ?c ?k (fun _ _ _ _ _ _ us hl => match us, hl with | [_, _, _, _, _], _ => rfl)
      (case a => k_is); (case l => k_is); (case c => k_is); (case k => k_is))
    have c1 : ∃ pl, mg "PART_LAST" = some (.ref pl) ∧ ∀ H, L2.SqT (L2.KOf KX) H pl Seek.lastWords := by
      dsimp only [L2.KOf]
      refine' Seek.const_mk7 KX G ?a ?l
      (case a => k_is); (case l => k_is)
    have c2 : ∃ pl, mg "ONE_SIGN" = some (.ref pl) ∧ ∀ H, L2.SqT (L2.KOf KX) H pl Seek.oneSign := by
      dsimp only [L2.KOf]
      refine' Seek.const_mk4 KX G ?a ?l
      (case a => k_is); (case l => k_is)
    have c3 : ∃ pl, mg "NOTHING_TAKEN" = some (.ref pl) ∧ ∀ H, L2.SqT (L2.KOf KX) H pl Seek.nothing := by
      dsimp only [L2.KOf]
      refine' Seek.const_mk6 KX G ?a ?l
      (case a => k_is); (case l => k_is)
    obtain ⟨pl, hpl, hPL⟩ := c1
    obtain ⟨os, hos, hOS⟩ := c2
    obtain ⟨nt, hnt, hNT⟩ := c3
    refine' Seek.top_mk KX G hmg ?a ?l ?c ?k (Seek.law_of T hpl hPL hos hOS hnt hNT d1 d2 d3 e1 e2 e3 e4 e5 e6 e7 e8 e9 e10 f1 f2 f3 f4 f5 f6)
    (case a => k_is); (case l => k_is); (case c => k_is); (case k => k_is)

