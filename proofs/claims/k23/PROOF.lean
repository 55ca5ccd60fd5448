import PyProof.Rows.All
import Wide.All
import OpenK.AllK
import Wide.FinOn
import Lean
import PyProof.EqAt
import PyProof.EqKinds
import PyProof.TupleCall
import PyProof.StrLawsIdx
import PySem.Challenge.RW_seek_k23_formed
set_option Elab.async false
set_option linter.all false
set_option maxRecDepth 100000
set_option maxHeartbeats 4000000
namespace L2
open PySem PySem.Spec PyProof.Rows
abbrev Vf:=Sum Int Str
def Z0i:Vf→Value→Bool
 | .inl k,v=>Value.isInt k v
 | .inr x,v=>Value.isStrOf x v
def Z3c (w:World):Vf→Int
 | .inl k=>hashInt k
 | .inr x=>hashStr w x
theorem Zh:∀ {k:Vf} {v:Value},Z0i k v = true→(∃ i t,k = Sum.inl i∧v = Value.int i t) ∨ (∃ x t,k = Sum.inr x∧v = Value.str x t)
 | .inl i,v,h=>by
  obtain ⟨t,e⟩:=Value.isInt_shape (k:=i) (v:=v) h
  exact .inl ⟨i,t,rfl,e⟩
 | .inr x,v,h=>by
  obtain ⟨t,e⟩:=Value.isStrOf_shape (x:=x) (v:=v) h
  exact .inr ⟨x,t,rfl,e⟩
theorem Z1e (a b:Int):decide ((Sum.inl a:Vf) = Sum.inl b) = (a == b):=by
 by_cases e:a = b
 ·subst e; simp
 ·have h:¬ (Sum.inl a:Vf) = Sum.inl b:=fun q=>e (Sum.inl.inj q)
  rw [decide_eq_false h]
  exact (beq_eq_false_iff_ne.mpr e).symm
theorem Z1b (a b:Str):decide ((Sum.inr a:Vf) = Sum.inr b) = decide (a = b):=by
 by_cases e:a = b
 ·subst e; simp
 ·have h:¬ (Sum.inr a:Vf) = Sum.inr b:=fun q=>e (Sum.inr.inj q)
  rw [decide_eq_false h,decide_eq_false e]
theorem Z1d (a:Int) (b:Str):decide ((Sum.inl a:Vf) = Sum.inr b) = false:=decide_eq_false (fun q=>nomatch q)
theorem Z1c (a:Str) (b:Int):decide ((Sum.inr a:Vf) = Sum.inl b) = false:=decide_eq_false (fun q=>nomatch q)
def U9 (prog:Program) (w:World):PySem.KeyKind prog w Vf where
 is:=Z0i
 hash:=Z3c w
 inj:=fun v a b ha hb=>by
  rcases Zh ha with ⟨i,t,rfl,rfl⟩ | ⟨x,t,rfl,rfl⟩
  ·rcases Zh hb with ⟨j,u,rfl,e⟩ | ⟨y,u,rfl,e⟩
   ·injection e with e1 _; rw [e1]
   ·exact nomatch e
  ·rcases Zh hb with ⟨j,u,rfl,e⟩ | ⟨y,u,rfl,e⟩
   ·exact nomatch e
   ·injection e with e1 _; rw [e1]
 byValue:=fun k v h=>by
  rcases Zh h with ⟨i,t,rfl,rfl⟩ | ⟨x,t,rfl,rfl⟩ <;> rfl
 pyHash:=fun hv h=>by
  rcases Zh hv with ⟨i,t,rfl,rfl⟩ | ⟨x,t,rfl,rfl⟩
  ·exact wpAny_pyHash_int h
  ·exact wpAny_pyHash_str h
 eqBool:=fun hu hv h=>by
  rcases Zh hu with ⟨i,t,rfl,rfl⟩ | ⟨x,t,rfl,rfl⟩
  ·rcases Zh hv with ⟨j,u,rfl,rfl⟩ | ⟨y,u,rfl,rfl⟩
   ·rw [Z1e] at h; exact wpAny_eqBool_int h
   ·rw [Z1d] at h; exact SeqAt.EqAt.int_str i t y u _ _ _ _ h
  ·rcases Zh hv with ⟨j,u,rfl,rfl⟩ | ⟨y,u,rfl,rfl⟩
   ·rw [Z1c] at h; exact SeqAt.EqAt.str_int x t j u _ _ _ _ h
   ·rw [Z1b] at h; exact wpAny_eqBool_str h
 «strs»:=fun k x t v h=>by
  rcases Zh h with ⟨i,u,rfl,e⟩ | ⟨y,u,rfl,e⟩
  ·exact nomatch e
  ·injection e with e1 _
   subst e1
   cases v <;> rfl
inductive V where
 | non | bl (b:Bool) | int (i:Int) | str (x:Str) | byt (b:Array UInt8) | flt (b:UInt64) | ref (a:Addr) | ty (n:String)
 deriving DecidableEq
def RelV:V→Value→Prop
 | .non,u=>u = Value.none
 | .bl b,u=>u = Value.bool b
 | .int i,u=>∃ t,u = Value.int i t
 | .str x,u=>∃ t,u = Value.str x t
 | .byt b,u=>∃ t,u = Value.bytes b t
 | .flt b,u=>∃ t,u = Value.float b t
 | .ref a,u=>u = Value.ref a
 | .ty n,u=>u = Value.type n
abbrev Vals:List V→List Value→Prop:=Paired RelV
theorem Vals.length {xs:List V} {us:List Value} (r:Vals xs us):xs.length = us.length:=Paired.length r
theorem Vals.get:∀ {xs:List V} {us:List Value} {i:Nat} {x:V},Vals xs us→xs[i]? = some x→∃ u,us[i]? = some u∧RelV x u
 | _,_,_,_,.nil,e=>by simp at e
 | _,_,0,_,.cons r _,e=>by simp at e; subst e; exact ⟨_,rfl,r⟩
 | _,_,i + 1,x,.cons _ t,e=>by
  obtain ⟨u,h1,h2⟩:=Vals.get (i:=i) (x:=x) t (by simpa using e)
  exact ⟨u,by simpa using h1,h2⟩
theorem Vals.set {x:V} {u:Value} (r:RelV x u):∀ {xs:List V} {us:List Value} (i:Nat),Vals xs us→Vals (xs.set i x) (us.set i u)
 | _,_,_,.nil=>.nil
 | _,_,0,.cons _ t=>.cons r t
 | _,_,i + 1,.cons q t=>.cons q (Vals.set r i t)
theorem Vals.append:∀ {xs ys:List V} {us ws:List Value},Vals xs us→Vals ys ws→Vals (xs ++ ys) (us ++ ws)
 | _,_,_,_,.nil,s=>s
 | _,_,_,_,.cons r t,s=>.cons r (Vals.append t s)
theorem Vals.take:∀ {xs:List V} {us:List Value} (n:Nat),Vals xs us→Vals (xs.take n) (us.take n)
 | _,_,0,_=>.nil
 | _,_,_ + 1,.nil=>.nil
 | _,_,n + 1,.cons r t=>.cons r (Vals.take n t)
theorem Vals.drop:∀ {xs:List V} {us:List Value} (n:Nat),Vals xs us→Vals (xs.drop n) (us.drop n)
 | _,_,0,r=>r
 | _,_,_ + 1,.nil=>.nil
 | _,_,n + 1,.cons _ t=>Vals.drop n t
def Z1p:Option V→Option Value→Prop
 | some v,some u=>RelV v u
 | none,none=>True
 | _,_=>False
def KV {κ:Type}:List (κ × V)→List (κ × Value)→Prop:=Paired fun (p:κ × V) (q:κ × Value)=>p.1 = q.1∧RelV p.2 q.2
def kV:Vf→V
 | .inl i=>.int i
 | .inr x=>.str x
inductive HO where
 /-- a list -/
 | lst (xs:List V)
 /-- a tuple (never changes) -/
 | tup (xs:List V)
 /-- a dict whose keys are ints and texts; one whose keys are tuples of ints and texts (the empty one is both) -/
 | dK (kvs:List (Vf × V)) | dT (kvs:List (List Vf × V))
 /-- a set of ints: its members,its size -/
 | set (S:Int→Bool) (n:Nat)
 /-- an instance of the class at C,its dict at dx,its attributes -/
 | ins (C dx:Addr) (fs:List (Str × V))
 /-- the dict of the instance at x -/
 | own (x:Addr)
 /-- the dict of an exception -/
 | xd (fs:List (Str × V))
 /-- a bound method,f of x -/
 | met (f x:Addr)
 /-- a range object lo,lo + 1,.. below hi -/
 | rng (lo hi:Int)
 /-- a thing that is known to the object (the script; a dict while a loop walks it): read,never written while it is so -/
 | frz (o:Obj) (u:HO)
 /-- a code object's table -/
 | tbl (ps:Array Value)
 /-- any other thing,by what is true of its one object (a def of one's own: SetO a S n:=HO.ext fun h=>..) -/
 | ext (φ:Heap→Prop)
abbrev Hp:=Addr→Option HO
def Zy (H:Hp) (a:Addr) (o:HO):Hp:=fun b=>if b = a then some o else H b
theorem Z8 {H:Hp} {a:Addr} {o:HO}:Zy H a o a = some o:=by unfold Zy; rw [if_pos rfl]
theorem Zb {H:Hp} {a b:Addr} {o:HO} (h:b ≠ a):Zy H a o b = H b:=by unfold Zy; rw [if_neg h]
theorem Z0h {H:Hp} {a b:Addr} {o u:HO} (h:H a = some o) (h':H b = some u) (d:o ≠ u):a ≠ b:=by
 intro e; subst e; rw [h] at h'; exact d (Option.some.inj h')
theorem Z7 {H:Hp} {a b:Addr} {o:HO} (h:H a = some o) (h':H b = none):a ≠ b:=by
 intro e; subst e; rw [h] at h'; cases h'
section
variable (P:Program) (w:World)
def ObjOk (H:Hp) (h:Heap) (a:Addr):HO→Prop
 | .lst xs=>xs.length ≤ sizeLine∧∃ (its:List Value) (n:Nat),Vals xs its∧h.get? a = some { cls:=.type "list",data:=.seq its.toArray n }
 | .tup xs=>xs.length ≤ sizeLine∧∃ its:List Value,Vals xs its∧IsTup h a its.toArray
 | .dK kvs=>kvs.length ≤ sizeLine∧(a == sysModules) = false∧∃ vs,KV kvs vs∧h.DictOf (U9 P w) a vs
 | .dT kvs=>kvs.length ≤ sizeLine∧(a == sysModules) = false∧∃ xs:List (List Vf × Addr × Value),
   Paired (fun (p:List Vf × V) (q:List Vf × Addr × Value)=>p.1 = q.1∧H q.2.1 = some (.tup (p.1.map kV))∧RelV p.2 q.2.2) kvs xs ∧
   ∃ o es ep,h.get? a = some o∧o.ExactDict∧o.data = .dict es ep∧es.toList = xs.map (entryOfKey (tupleKind (U9 P w)))∧(xs.map (·.1)).Nodup
 | .set S n=>h.SetOf (intKind P w) a S n
 | .ins C dx fs=>H dx = some (.own a)∧fs.length ≤ 1000∧dx ≠ a∧h.get? a = some (PySem.W.instObj C dx) ∧
   ∃ mA,h.Ns1 dx mA∧(∀ f,Z1p (fs.lookup f) (mA f))∧PySem.Within mA (fs.map (·.1))
 | .own _=>∃ o,h.get? a = some o
 | .xd fs=>∃ mA,h.Ns1 a mA∧∀ f,Z1p (fs.lookup f) (mA f)
 | .rng lo hi=>∃ t u v,h.get? a = some { cls:=.type "range",data:=.fields #[.int lo t,.int hi u,.int 1 v] }
 | .frz o u=>h.get? a = some o∧ObjOk H h a u
 | .tbl ps=>h.get? a = some { cls:=.none,data:=.fields ps }
 | .met f x=>h.get? a = some (PySem.W.methodObj (.ref f) (.ref x))
 | .ext φ=>φ h∧(∃ o,h.get? a = some o)∧∀ h1 h2:Heap,φ h1→(∀ o,h1.get? a = some o→h2.get? a = some o)→φ h2
def HOk (H:Hp) (h:Heap):Prop:=∀ a o,H a = some o→ObjOk P w H h a o
end
section
variable {P:Program} {w:World} {H H':Hp} {h h':Heap} {a:Addr} {o:HO}
theorem ObjOk.lt (x:ObjOk P w H h a o):a < h.objs.size:=by
 cases o with
 | lst xs=>obtain ⟨_,_,_,_,e⟩:=x; exact Heap.lt_size e
 | tup xs=>obtain ⟨_,_,_,p⟩:=x; exact p.lt
 | dK kvs=>obtain ⟨_,_,_,_,o,_,_,e,_⟩:=x; exact Heap.lt_size e
 | dT kvs=>obtain ⟨_,_,_,_,o,_,_,e,_⟩:=x; exact Heap.lt_size e
 | set S n=>obtain ⟨o,_,_,_,e,_⟩:=x; exact Heap.lt_size e
 | ins C dx fs=>obtain ⟨_,_,_,e,_⟩:=x; exact Heap.lt_size e
 | own y=>obtain ⟨_,e⟩:=x; exact Heap.lt_size e
 | xd fs=>obtain ⟨_,⟨_,_,_,e,_⟩,_⟩:=x; exact Heap.lt_size e
 | rng lo hi=>obtain ⟨_,_,_,e⟩:=x; exact Heap.lt_size e
 | frz ob u=>obtain ⟨e,_⟩:=x; exact Heap.lt_size e
 | tbl ps=>exact Heap.lt_size (show h.get? a = some _ from x)
 | met f y=>exact Heap.lt_size (show h.get? a = some _ from x)
 | ext φ=>obtain ⟨_,⟨_,e⟩,_⟩:=x; exact Heap.lt_size e
theorem Paired.mapP {α β:Type} {F G:α→β→Prop}:∀ {l₁:List α} {l₂:List β},Paired F l₁ l₂→(∀ a b,F a b→G a b)→Paired G l₁ l₂
 | _,_,.nil,_=>.nil
 | _,_,.cons r t,f=>.cons (f _ _ r) (Paired.mapP t f)
theorem ObjOk.stay (x:ObjOk P w H h a o) (k:∀ b u,(b = a ∨ H b = some (.own a))→h.get? b = some u→h'.get? b = some u)
  (ho:∀ b,H b = some (.own a)→H' b = some (.own a)) (ht:∀ b xs,H b = some (.tup xs)→H' b = some (.tup xs)):ObjOk P w H' h' a o:=by
 induction o with
 | lst xs=>obtain ⟨z,its,n,r,e⟩:=x; exact ⟨z,its,n,r,k _ _ (.inl rfl) e⟩
 | tup xs=>obtain ⟨z,its,r,ob,e,c⟩:=x; exact ⟨z,its,r,ob,k _ _ (.inl rfl) e,c⟩
 | dK kvs=>obtain ⟨z,y,vs,r,ob,es,ep,e,c⟩:=x; exact ⟨z,y,vs,r,ob,es,ep,k _ _ (.inl rfl) e,c⟩
 | dT kvs =>
  obtain ⟨z,y,xs,r,ob,es,ep,e,c⟩:=x
  exact ⟨z,y,xs,Paired.mapP r fun p q z=>⟨z.1,ht _ _ z.2.1,z.2.2⟩,ob,es,ep,k _ _ (.inl rfl) e,c⟩
 | set S n=>obtain ⟨ob,es,ep,t,e,c⟩:=x; exact ⟨ob,es,ep,t,k _ _ (.inl rfl) e,c⟩
 | ins C dx fs =>
  obtain ⟨d,z,ne,e,mA,⟨od,es,ep,e2,c⟩,r⟩:=x
  exact ⟨ho _ d,z,ne,k _ _ (.inl rfl) e,mA,⟨od,es,ep,k _ _ (.inr d) e2,c⟩,r⟩
 | own y=>obtain ⟨ob,e⟩:=x; exact ⟨ob,k _ _ (.inl rfl) e⟩
 | xd fs=>obtain ⟨mA,⟨od,es,ep,e,c⟩,r⟩:=x; exact ⟨mA,⟨od,es,ep,k _ _ (.inl rfl) e,c⟩,r⟩
 | rng lo hi=>obtain ⟨t,u,v,e⟩:=x; exact ⟨t,u,v,k _ _ (.inl rfl) e⟩
 | frz ob u ih=>obtain ⟨e,q⟩:=x; exact ⟨k _ _ (.inl rfl) e,ih q⟩
 | tbl ps =>
  have e:h.get? a = some { cls:=.none,data:=.fields ps }:=x
  show h'.get? a = some { cls:=.none,data:=.fields ps }
  exact k a _ (.inl rfl) e
 | met f y =>
  have e:h.get? a = some (PySem.W.methodObj (.ref f) (.ref y)):=x
  show h'.get? a = some (PySem.W.methodObj (.ref f) (.ref y))
  exact k a _ (.inl rfl) e
 | ext φ=>obtain ⟨p,⟨o,e⟩,st⟩:=x; exact ⟨st _ _ p fun o q=>k _ _ (.inl rfl) q,⟨o,k _ _ (.inl rfl) e⟩,st⟩
theorem HOk.lt (x:HOk P w H h) (e:H a = some o):a < h.objs.size:=(x a o e).lt
theorem HOk.fresh (x:HOk P w H h) (e:h.objs.size ≤ a):H a = none:=by
 cases q:H a with
 | none=>rfl
 | some u=>exact absurd (Nat.lt_of_lt_of_le (x.lt q) e) (Nat.lt_irrefl _)
theorem HOk.kept (x:HOk P w H h) (k:∀ b u,h.get? b = some u→h'.get? b = some u):HOk P w H h':=fun a o e =>
 (x a o e).stay (fun b u _ q=>k b u q) (fun _ q=>q) fun _ _ q=>q
theorem HOk.laid (x:HOk P w H h) (k:∀ b u,h.get? b = some u→h'.get? b = some u) (hp:h.objs.size ≤ a) (new:ObjOk P w (Zy H a o) h' a o):HOk P w (Zy H a o) h':=fun b u e=>by
 have hn:=x.fresh hp
 by_cases hb:b = a
 ·subst hb; rw [Z8] at e; cases e; exact new
 ·rw [Zb hb] at e
  exact (x b u e).stay (fun c v _ q=>k c v q) (fun c q=>by rw [Zb (Z7 q hn)]; exact q) fun c xs q=>by rw [Zb (Z7 q hn)]; exact q
end
def Rd (H:Hp) (a:Addr) (u:HO):Prop:=H a = some u ∨ ∃ o,H a = some (.frz o u)
theorem Rd.ok {P:Program} {w:World} {H:Hp} {h:Heap} {a:Addr} {u:HO} (r:Rd H a u) (x:HOk P w H h):ObjOk P w H h a u:=by
 rcases r with r | ⟨o,r⟩
 ·exact x a u r
 ·obtain ⟨_,q⟩:=x a _ r
  exact q
def Z2z:Option HO→Prop
 | some (.lst _)=>True
 | some (.dK _)=>True
 | some (.dT _)=>True
 | some (.set _ _)=>True
 | some (.ins _ _ _)=>True
 | some (.ext _)=>True
 | _=>False
section
variable {P:Program} {w:World} {H:Hp} {h h':Heap} {x e:Addr} {o':HO}
theorem HOk.write (ok:HOk P w H h) (mu:Z2z (H x)) (he:e = x ∨ H e = some (.own x)) (k:∀ b u,b ≠ e→h.get? b = some u→h'.get? b = some u) (heo:∃ u,h'.get? e = some u)
  (new:ObjOk P w (Zy H x o') h' x o'):HOk P w (Zy H x o') h':=fun b u q=>by
 have nown:∀ c y,H c = some (.own y)→c ≠ x:=fun c y r z=>by subst z; rw [r] at mu; exact mu
 have ntup:∀ c xs,H c = some (.tup xs)→c ≠ x:=fun c xs r z=>by subst z; rw [r] at mu; exact mu
 by_cases hb:b = x
 ·subst hb; rw [Z8] at q; cases q; exact new
 ·rw [Zb hb] at q
  by_cases hbe:b = e
  ·have q':H b = some (.own x):=by
    rcases he with z | z
    ·exact absurd (hbe.trans z) hb
    ·rw [hbe]; exact z
   rw [q] at q'; cases q'
   obtain ⟨v,hv⟩:=heo
   exact ⟨v,by rw [hbe]; exact hv⟩
  ·refine (ok b u q).stay (fun c v hc r=>k c v ?_ r) (fun c r=>by rw [Zb (nown c b r)]; exact r) fun c xs r=>by rw [Zb (ntup c xs r)]; exact r
   rcases hc with rfl | hc
   ·exact hbe
   ·rintro rfl
    rcases he with z | z
    ·exact nown c b hc z
    ·rw [hc] at z; cases z; exact hb rfl
end
structure Un (fs ex:List Addr) (H H':Hp) (h h':Heap):Prop where
 keep:∀ b o,h.get? b = some o→H b = none→b ∉ fs→b ∉ ex→h'.get? b = some o
 slot:∀ b o,h.get? b = some o→H b = none→b ∈ fs→b ∉ ex→∃ sl,h'.get? b = some { o with slots:=sl }
 free:∀ b o,h.get? b = some o→H b = none→b ∉ ex→H' b = none
 there:∀ b o,h.get? b = some o→b ∉ ex→∃ o',h'.get? b = some o'
 tups:∀ b xs,H b = some (.tup xs)→H' b = some (.tup xs)
 frzs:∀ b o u,H b = some (.frz o u)→H' b = some (.frz o u)
 tbls:∀ b ps,H b = some (.tbl ps)→∃ more,H' b = some (.tbl (ps ++ more))
section
variable {fs fs' ex ex':List Addr} {H H1 H2:Hp} {h h1 h2 h':Heap} {a x e:Addr} {o:HO}
theorem Un.any (u:Un fs ex H H1 h h1) {b:Addr} {ob:Obj} (q:h.get? b = some ob) (n:H b = none) (hx:b ∉ ex):∃ sl,h1.get? b = some { ob with slots:=sl }:=by
 by_cases hb:b ∈ fs
 ·exact u.slot b ob q n hb hx
 ·exact ⟨ob.slots,u.keep b ob q n hb hx⟩
theorem Un.trans (a:Un fs ex H H1 h h1) (b:Un fs ex H1 H2 h1 h2):Un fs ex H H2 h h2 where
 keep:=fun c ob q n hc hx=>b.keep c ob (a.keep c ob q n hc hx) (a.free c ob q n hx) hc hx
 slot:=fun c ob q n hc hx=>by
  obtain ⟨sl,e1⟩:=a.slot c ob q n hc hx
  obtain ⟨sl',e2⟩:=b.slot c _ e1 (a.free c ob q n hx) hc hx
  exact ⟨sl',e2⟩
 free:=fun c ob q n hx=>by
  obtain ⟨o',e1⟩:=a.there c ob q hx
  exact b.free c o' e1 (a.free c ob q n hx) hx
 there:=fun c ob q hx=>by
  obtain ⟨o',e1⟩:=a.there c ob q hx
  exact b.there c o' e1 hx
 tups:=fun c xs q=>b.tups c xs (a.tups c xs q)
 frzs:=fun c ob xs q=>b.frzs c ob xs (a.frzs c ob xs q)
 tbls:=fun c ps q=>by
  obtain ⟨m1,e1⟩:=a.tbls c ps q
  obtain ⟨m2,e2⟩:=b.tbls c _ e1
  exact ⟨m1 ++ m2,by rw [e2,Array.append_assoc]⟩
theorem Un.kept (k:∀ b u,h.get? b = some u→h'.get? b = some u):Un fs ex H H h h' :=
 ⟨fun b ob q _ _ _=>k b ob q,fun b ob q _ _ _=>⟨ob.slots,k b ob q⟩,fun _ _ _ n _=>n,fun b ob q _=>⟨ob,k b ob q⟩,fun _ _ q=>q,fun _ _ _ q=>q,fun _ ps q=>⟨#[],by rw [q]; simp⟩⟩
theorem Un.refl:Un fs ex H H h h:=Un.kept fun _ _ q=>q
theorem Un.laid (k:∀ b u,h.get? b = some u→h'.get? b = some u) (hp:h.objs.size ≤ a) (hn:H a = none):Un fs ex H (Zy H a o) h h' where
 keep:=fun b u q _ _ _=>k b u q
 slot:=fun b u q _ _ _=>⟨u.slots,k b u q⟩
 free:=fun b u q n _=>by rw [Zb (Nat.ne_of_lt (Nat.lt_of_lt_of_le (Heap.lt_size q) hp))]; exact n
 there:=fun b u q _=>⟨u,k b u q⟩
 tups:=fun b xs q=>by rw [Zb (Z7 q hn)]; exact q
 frzs:=fun b u xs q=>by rw [Zb (Z7 q hn)]; exact q
 tbls:=fun b ps q=>⟨#[],by rw [Zb (Z7 q hn),q]; simp⟩
theorem Un.write (mu:Z2z (H x)) (he:e = x ∨ H e = some (.own x)) (k:∀ b u,b ≠ e→h.get? b = some u→h'.get? b = some u) (heo:∃ u,h'.get? e = some u):Un fs ex H (Zy H x o) h h':=by
 have hx:∀ b,H b = none→b ≠ x:=fun b n z=>by subst z; rw [n] at mu; exact mu
 have hb:∀ b,H b = none→b ≠ e:=fun b n z=>by
  subst z
  rcases he with r | r
  ·exact hx b n r
  ·rw [n] at r; cases r
 have hm:∀ b u,H b = some u→¬ Z2z (some u)→b ≠ x:=fun b u q nm z=>by subst z; rw [q] at mu; exact nm mu
 refine ⟨fun b u q n _ _=>k b u (hb b n) q,fun b u q n _ _=>⟨u.slots,k b u (hb b n) q⟩,fun b u q n _=>by rw [Zb (hx b n)]; exact n,fun b u q _=>?_,
  fun b xs q=>by rw [Zb (hm b _ q fun z=>z)]; exact q,fun b u xs q=>by rw [Zb (hm b _ q fun z=>z)]; exact q,fun b ps q=>⟨#[],by rw [Zb (hm b _ q fun z=>z),q]; simp⟩⟩
 by_cases hbe:b = e
 ·subst hbe; exact heo
 ·exact ⟨u,k b u hbe q⟩
end
def Z2u (h:Heap) (H:Hp):List Addr:=(List.range h.objs.size).filter fun a=>(H a).isSome
def Ve (h:Heap) (H:Hp):Heap:=PySem.W.hideAll h (Z2u h H)
theorem T3 (h:Heap) (H:Hp):(Ve h H).objs.size = h.objs.size:=PySem.W.hideAll_size _ _
theorem Tj {h:Heap} {H:Hp} {b:Addr} {o:Obj} (e:h.get? b = some o) (n:H b = none):(Ve h H).get? b = some o :=
 PySem.W.hideAll_get _ e fun hm=>by
  have q:(H b).isSome = true:=(List.mem_filter.mp hm).2
  rw [n] at q; simp at q
theorem Z01 {h:Heap} {H:Hp} {b:Addr} {o:Obj} (e:(Ve h H).get? b = some o):h.get? b = some o∧H b = none:=by
 have e':h.get? b = some o:=PySem.W.of_hideAll (Z2u h H) e
 refine ⟨e',?_⟩
 cases q:H b with
 | none=>rfl
 | some x =>
  have hm:b ∈ Z2u h H:=List.mem_filter.mpr ⟨List.mem_range.mpr (Heap.lt_size e'),by simp [q]⟩
  have z:(Ve h H).get? b = none:=PySem.W.hideAll_none (Z2u h H) hm
  rw [z] at e; cases e
def Z06 (g h:Heap) (L:Addr):List (Addr × Obj):=(List.range h.objs.size).filterMap fun a=>if a = L ∨ (g.get? a).isSome = true then none else (h.get? a).map fun o=>(a,o)
def rest (g h:Heap) (L d:Addr):List (Addr × Obj):=(Z06 g h L).filter fun p=>decide (p.1 ≠ d)
structure Mod (K:PySem.W.Frag) (mg:Str→Option Value) (base:Heap):Prop where
 kin:K.In base
 glob:base.Ns mainGlobals mg
 blt:∃ mb,base.Ns builtinsNs mb∧∀ x:Str,x ≠ "__name__"→mb x = bootBuiltins x
 nolimit:base.NoLimit
structure Cx where
 prog:Program
 w:World
 K:PySem.W.Frag
 mg:Str→Option Value
 base:Heap
 A:Around
 N:List Str
 s₀:Shared
 H₀:Hp
 env:Env
 outer:List Env
 stack:List Env
 ex:List Addr
 fn:Str→Bool
 calm:Bool
 pn:List (Addr × Obj)
 xe:Value→Shared→Prop
def Xg (l:List Env):List Addr:=l.filterMap (·.frame)
abbrev Cx.fs (X:Cx):List Addr:=Xg X.outer
def Z2w (sc:Scope) (x:Str):Prop:=sc.names.lookup x = some .local ∨ sc.names.lookup x = some .cell ∨ sc.names.lookup x = some .free
def Z1r (sc:Scope) (x:Str):Prop:=sc.names.lookup x = some .local ∨ sc.names.lookup x = some .cell
def Z3f (env:Env) (h:Heap) (m:Str→Option Value) (x:Str) (u:Value):Prop :=
 (env.kindOf x = some .local∧m x = some u) ∨ ((env.kindOf x = some .cell ∨ env.kindOf x = some .free)∧∃ c,env.cells.lookup x = some c∧h.IsCell c (some u))
structure Cx.Ok (X:Cx):Prop where
 mod:Mod X.K X.mg X.base
 kind:X.env.scope.kind = .function
 glob:X.env.globals = mainGlobals
 blt:X.env.builtins = builtinsNs
 above:X.s₀.heap.objs.size ≤ X.env.locals
 inj:∀ x y c,X.env.cells.lookup x = some c→X.env.cells.lookup y = some c→x = y
 has:∀ x,(X.env.kindOf x = some .cell ∨ X.env.kindOf x = some .free)→∃ c,X.env.cells.lookup x = some c
 cab:∀ x c,X.fn x = true→X.env.cells.lookup x = some c→X.s₀.heap.objs.size ≤ c
 hd:X.calm = true→X.A.handled = none
 frames:X.A.frames = some X.stack
 stk:X.stack = X.outer ∨ (X.stack = X.env :: X.outer∧X.env.frame = some X.env.locals)
 exf:∀ b ∈ X.ex,b ≠ X.env.locals∧∀ x c,X.env.cells.lookup x = some c→c ≠ b
 bs:∀ b o,X.base.get? b = some o→X.s₀.heap.get? b = some o∧X.H₀ b = none
 bsz:X.base.objs.size ≤ X.s₀.heap.objs.size
 noex:∀ b o,X.base.get? b = some o→b ∉ X.ex
 exfs:∀ b ∈ X.ex,b ∉ X.fs
 funs:X.s₀.heap.FunFrames X.base X.outer
 frf:∀ b ∈ X.fs,X.H₀ b = none
structure Inv (X:Cx) (Z0:List (Addr × Obj)) (σ:List (Option V)) (H:Hp) (s:Shared):Prop where
 ok:X.Ok
 os:s.os = X.s₀.os
 bare:AllBare s.gens
 base:Un X.fs X.ex X.H₀ H X.s₀.heap s.heap
 loc:∃ m,s.heap.Ns X.env.locals m∧∀ (i:Nat) (x:Str) (v:V),X.N[i]? = some x→σ[i]? = some (some v)→Z2w X.env.scope x→∃ u,RelV v u∧Z3f X.env s.heap m x u
 cell:∀ x c,X.env.cells.lookup x = some c→∃ v,s.heap.IsCell c v
 free:H X.env.locals = none
 freeC:∀ x c,X.env.cells.lookup x = some c→H c = none
 pin:∀ p ∈ X.pn ++ Z0,s.heap.get? p.1 = some p.2∧H p.1 = none∧p.1 ≠ X.env.locals∧p.1 ∉ X.fs∧∀ v,p.2.data ≠ .cell v
 hok:HOk X.prog X.w H s.heap
 len:σ.length = X.N.length
section
variable {X:Cx} {Z0:List (Addr × Obj)} {σ:List (Option V)} {H H':Hp} {s:Shared} {h':Heap}
theorem Cx.Ok.nofr (ok:X.Ok) {b:Addr} {o:Obj} (e:X.base.get? b = some o):b ∉ X.fs:=fun hb=>by
 have:=(ok.funs.mem hb).1
 rw [e] at this; cases this
theorem Inv.bs (I:Inv X Z0 σ H s):∀ b o,X.base.get? b = some o→s.heap.get? b = some o∧H b = none:=fun b o e =>
 ⟨I.base.keep b o (I.ok.bs b o e).1 (I.ok.bs b o e).2 (I.ok.nofr e) (I.ok.noex b o e),I.base.free b o (I.ok.bs b o e).1 (I.ok.bs b o e).2 (I.ok.noex b o e)⟩
theorem Inv.bk (I:Inv X Z0 σ H s):∀ b o,X.base.get? b = some o→s.heap.get? b = some o:=fun b o e=>(I.bs b o e).1
theorem Inv.mod (I:Inv X Z0 σ H s):Mod X.K X.mg X.base:=I.ok.mod
theorem Inv.kIn (I:Inv X Z0 σ H s):X.K.In s.heap:=I.ok.mod.kin.keeps I.bk
theorem Inv.fr (I:Inv X Z0 σ H s):∃ m,Fr X.base X.env.locals s.heap m :=
 let ⟨m,hn,_⟩:=I.loc
 ⟨m,hn,I.bk,Nat.le_trans I.ok.bsz I.ok.above⟩
theorem Inv.lt (I:Inv X Z0 σ H s):X.env.locals < s.heap.objs.size:=let ⟨_,hn,_⟩:=I.loc; hn.lt
theorem Inv.sz (I:Inv X Z0 σ H s):X.s₀.heap.objs.size ≤ s.heap.objs.size:=Nat.le_trans I.ok.above (Nat.le_of_lt I.lt)
theorem Inv.nofs (I:Inv X Z0 σ H s) {a:Addr} (h:s.heap.objs.size ≤ a):a ∉ X.fs:=fun hb=>by
 obtain ⟨_,o,ho,_⟩:=I.ok.funs.mem hb
 exact absurd (Nat.lt_of_lt_of_le (Heap.lt_size ho) (Nat.le_trans I.sz h)) (Nat.lt_irrefl _)
theorem Inv.cne (I:Inv X Z0 σ H s):∀ x c,X.env.cells.lookup x = some c→c ≠ X.env.locals:=fun x c e z=>by
 obtain ⟨v,o,ho,hd⟩:=I.cell x c e
 obtain ⟨m,⟨o',es,ep,ho',hd',_⟩,_⟩:=I.loc
 rw [z,ho'] at ho; cases ho; rw [hd'] at hd; cases hd
theorem Inv.funs (I:Inv X Z0 σ H s):s.heap.FunFrames X.base X.outer:=by
 have all:∀ (l:List Env),(∀ b ∈ Xg l,b ∈ X.fs)→X.s₀.heap.FunFrames X.base l→s.heap.FunFrames X.base l:=by
  intro l
  induction l with
  | nil=>intro _ _; trivial
  | cons env r ih =>
   intro hs hl
   obtain ⟨hk,⟨L,o,hf,hn,ho,hd⟩,hr⟩:=hl
   have hL:L ∈ X.fs:=hs L (by unfold Xg; rw [List.filterMap_cons,hf]; exact List.mem_cons_self)
   obtain ⟨sl,e⟩:=I.base.slot L o ho (I.ok.frf L hL) hL fun z=>I.ok.exfs L z hL
   exact ⟨hk,⟨L,_,hf,hn,e,hd⟩,ih (fun b hb=>hs b (by unfold Xg; rw [List.filterMap_cons,hf]; exact List.mem_cons_of_mem _ hb)) hr⟩
 exact all X.outer (fun _ hb=>hb) I.ok.funs
theorem Inv.stack (I:Inv X Z0 σ H s):s.heap.FunFrames X.base X.stack:=by
 rcases I.ok.stk with e | ⟨e,hf⟩
 ·rw [e]; exact I.funs
 ·rw [e]
  obtain ⟨m,hn,_⟩:=I.loc
  refine .cons (by rw [I.ok.kind]; decide) hf hn ?_ I.funs
  exact Heap.get?_none_of_le (Nat.le_trans I.ok.bsz I.ok.above)
theorem Inv.stkSub (I:Inv X Z0 σ H s):∀ b ∈ Xg X.stack,b ∈ X.env.locals :: X.fs:=fun b hb=>by
 rcases I.ok.stk with e | ⟨e,hf⟩
 ·rw [e] at hb; exact List.mem_cons_of_mem _ hb
 ·rw [e] at hb
  unfold Xg at hb
  rw [List.filterMap_cons,hf] at hb
  exact hb
theorem Inv.stkFree (I:Inv X Z0 σ H s):∀ b ∈ Xg X.stack,H b = none:=fun b hb=>by
 rcases List.mem_cons.mp (I.stkSub b hb) with e | hb
 ·rw [e]; exact I.free
 ·obtain ⟨_,o,ho,_⟩:=I.ok.funs.mem hb
  exact I.base.free b o ho (I.ok.frf b hb) fun z=>I.ok.exfs b z hb
theorem Inv.step {g':Array GenState} {t':Nat} {d':Drawn} {ch:List Addr} (I:Inv X Z0 σ H s)
  (hch:∀ b ∈ ch,(b ∈ X.ex ∨ X.s₀.heap.objs.size ≤ b)∧b ≠ X.env.locals∧(∀ x c,X.env.cells.lookup x = some c→c ≠ b)∧∀ p ∈ X.pn ++ Z0,p.1 ≠ b)
  (keep:∀ b o,b ≠ X.env.locals→b ∉ X.fs→b ∉ ch→s.heap.get? b = some o→H b = none→h'.get? b = some o)
  (slot:∀ b o,b ≠ X.env.locals→b ∈ X.fs→b ∉ ch→s.heap.get? b = some o→H b = none→∃ sl,h'.get? b = some { o with slots:=sl }) (free:∀ b o,b ∉ ch→s.heap.get? b = some o→H b = none→H' b = none)
  (there:∀ b o,b ∉ ch→s.heap.get? b = some o→∃ o',h'.get? b = some o')
  (tups:∀ b xs,H b = some (.tup xs)→H' b = some (.tup xs)) (frzs:∀ b o u,H b = some (.frz o u)→H' b = some (.frz o u)) (tbls:∀ b ps,H b = some (.tbl ps)→∃ more,H' b = some (.tbl (ps ++ more)))
  (ns:∀ m,s.heap.Ns X.env.locals m→h'.Ns X.env.locals m) (hok:HOk X.prog X.w H' h') (hg:AllBare g') :
  Inv X Z0 σ H' { s with heap:=h',gens:=g',drawn:=d',toks:=t' }:=by
 have neL:∀ b o,X.s₀.heap.get? b = some o→b ≠ X.env.locals:=fun b o e=>Nat.ne_of_lt (Nat.lt_of_lt_of_le (Heap.lt_size e) I.ok.above)
 have neC:∀ b o,X.s₀.heap.get? b = some o→b ∉ X.ex→b ∉ ch:=fun b o e hx hb=>by
  rcases (hch b hb).1 with z | z
  ·exact hx z
  ·exact absurd (Nat.lt_of_lt_of_le (Heap.lt_size e) z) (Nat.lt_irrefl _)
 have cellK:∀ x c,X.env.cells.lookup x = some c→∀ v,s.heap.IsCell c v→h'.IsCell c v:=fun x c e v ⟨o,ho,hd⟩=>by
  have nch:c ∉ ch:=fun z=>(hch c z).2.2.1 x c e rfl
  by_cases hc:c ∈ X.fs
  ·obtain ⟨sl,q⟩:=slot c o (I.cne x c e) hc nch ho (I.freeC x c e)
   exact ⟨_,q,hd⟩
  ·exact ⟨o,keep c o (I.cne x c e) hc nch ho (I.freeC x c e),hd⟩
 refine ⟨I.ok,I.os,hg,⟨fun b o e n hb hx=>?_,fun b o e n hb hx=>?_,fun b o e n hx=>?_,fun b o e hx=>?_,fun b xs e=>tups b xs (I.base.tups b xs e),fun b o xs e=>frzs b o xs (I.base.frzs b o xs e),fun b ps e=>?_⟩,?_,fun x c e=>?_,?_,fun x c e=>?_,fun p hp=>?_,hok,I.len⟩
 ·exact keep b o (neL b o e) hb (neC b o e hx) (I.base.keep b o e n hb hx) (I.base.free b o e n hx)
 ·obtain ⟨sl,e1⟩:=I.base.slot b o e n hb hx
  obtain ⟨sl',e2⟩:=slot b _ (neL b o e) hb (neC b o e hx) e1 (I.base.free b o e n hx)
  exact ⟨sl',e2⟩
 ·obtain ⟨o',e1⟩:=I.base.there b o e hx
  exact free b o' (neC b o e hx) e1 (I.base.free b o e n hx)
 ·obtain ⟨o',e1⟩:=I.base.there b o e hx
  exact there b o' (neC b o e hx) e1
 ·obtain ⟨m1,e1⟩:=I.base.tbls b ps e
  obtain ⟨m2,e2⟩:=tbls b _ e1
  exact ⟨m1 ++ m2,by rw [e2,Array.append_assoc]⟩
 ·obtain ⟨m,hn,hl⟩:=I.loc
  refine ⟨m,ns m hn,fun i x v e1 e2 e3=>?_⟩
  obtain ⟨u,r,l⟩:=hl i x v e1 e2 e3
  refine ⟨u,r,?_⟩
  rcases l with l | ⟨k,c,e,z⟩
  ·exact .inl l
  ·exact .inr ⟨k,c,e,cellK x c e _ z⟩
 ·obtain ⟨v,z⟩:=I.cell x c e
  exact ⟨v,cellK x c e v z⟩
 ·obtain ⟨m,⟨o,_,_,ho,_⟩,_⟩:=I.loc
  exact free _ o (fun z=>(hch _ z).2.1 rfl) ho I.free
 ·obtain ⟨v,o,ho,hd⟩:=I.cell x c e
  exact free c o (fun z=>(hch c z).2.2.1 x c e rfl) ho (I.freeC x c e)
 ·obtain ⟨e,n,ne,nf,d⟩:=I.pin p hp
  have nch:p.1 ∉ ch:=fun z=>(hch p.1 z).2.2.2 p hp rfl
  exact ⟨keep p.1 p.2 ne nf nch e n,free p.1 p.2 nch e n,ne,nf,d⟩
theorem Inv.un {t':Nat} (I:Inv X Z0 σ H s) (u:Un X.fs [] H H' s.heap h') (hok:HOk X.prog X.w H' h'):Inv X Z0 σ H' { s with heap:=h',toks:=t' }:=by
 obtain ⟨m,⟨o,es,ep,ho,r⟩,_⟩:=id I.loc
 obtain ⟨sl,hL⟩:=u.any ho I.free (by simp)
 exact I.step (g':=s.gens) (d':=s.drawn) (ch:=[]) (fun _ z=>nomatch z) (fun b o _ hb _ e n=>u.keep b o e n hb (by simp)) (fun b o _ hb _ e n=>u.slot b o e n hb (by simp)) (fun b o _ e n=>u.free b o e n (by simp)) (fun b o _ e=>u.there b o e (by simp)) u.tups u.frzs u.tbls (fun m' hm=>by
  obtain ⟨o',es',ep',ho',r'⟩:=hm
  rw [ho] at ho'; cases ho'
  exact ⟨_,es',ep',hL,r'⟩) hok I.bare
theorem Inv.call {g':Array GenState} {t':Nat} {d':Drawn} {ch:List Addr} (I:Inv X Z0 σ H s) (u:Un (Xg X.stack) ch H H' s.heap h') (hok:HOk X.prog X.w H' h') (hg:AllBare g')
  (hch:∀ b ∈ ch,(b ∈ X.ex ∨ X.s₀.heap.objs.size ≤ b)∧b ≠ X.env.locals∧(∀ x c,X.env.cells.lookup x = some c→c ≠ b)∧∀ p ∈ X.pn ++ Z0,p.1 ≠ b) :
  Inv X Z0 σ H' { s with heap:=h',gens:=g',drawn:=d',toks:=t' }:=by
 obtain ⟨m,⟨o,es,ep,ho,r⟩,_⟩:=id I.loc
 obtain ⟨sl,hL⟩:=u.any ho I.free fun z=>(hch _ z).2.1 rfl
 exact I.step (ch:=ch) hch (fun b o hL hb hc e n=>u.keep b o e n (fun z=>(List.mem_cons.mp (I.stkSub b z)).elim hL hb) hc) (fun b o _ _ hc e n=>u.any e n hc) (fun b o hc e n=>u.free b o e n hc) (fun b o hc e=>u.there b o e hc) u.tups u.frzs u.tbls (fun m' hm=>by
  obtain ⟨o',es',ep',ho',r'⟩:=hm
  rw [ho] at ho'; cases ho'
  exact ⟨_,es',ep',hL,r'⟩) hok hg
theorem Inv.turned {t':Nat} {it:Addr} (I:Inv X Z0 σ H s) (k:∀ b o,b ≠ it→s.heap.get? b = some o→h'.get? b = some o) (hn:H it = none) (hL:it ≠ X.env.locals)
  (h1:it ∈ X.ex ∨ X.s₀.heap.objs.size ≤ it) (h2:∀ x c,X.env.cells.lookup x = some c→c ≠ it) (h3:∀ p ∈ X.pn ++ Z0,p.1 ≠ it):Inv X Z0 σ H { s with heap:=h',toks:=t' }:=by
 have nit:∀ b u,H b = some u→b ≠ it:=fun b u e z=>by rw [z,hn] at e; cases e
 refine I.step (g':=s.gens) (d':=s.drawn) (ch:=[it]) (fun b hb=>?_) (fun b o _ _ hc e _=>k b o (fun z=>hc (by simp [z])) e) (fun b o _ _ hc e _=>⟨o.slots,k b o (fun z=>hc (by simp [z])) e⟩) (fun _ _ _ _ n=>n)
  (fun b o hc e=>⟨o,k b o (fun z=>hc (by simp [z])) e⟩) (fun _ _ e=>e) (fun _ _ _ e=>e) (fun b ps e=>⟨#[],by rw [e]; simp⟩) (fun m hm=>?_) (fun b u e=>?_) I.bare
 ·have e:b = it:=by simpa using hb
  subst e
  exact ⟨h1,hL,h2,h3⟩
 ·obtain ⟨o,es,ep,ho,r⟩:=hm
  exact ⟨o,es,ep,k _ o (Ne.symm hL) ho,r⟩
 ·refine (I.hok b u e).stay (fun c v hc q=>k c v ?_ q) (fun _ q=>q) fun _ _ q=>q
  rcases hc with z | z
  ·rw [z]; exact nit b u e
  ·exact nit c _ z
theorem Inv.tok (I:Inv X Z0 σ H s) (t:Nat):Inv X Z0 σ H { s with toks:=t }:=I.un (h':=s.heap) (t':=t) Un.refl I.hok
theorem Inv.kept {t':Nat} (I:Inv X Z0 σ H s) (k:∀ b u,s.heap.get? b = some u→h'.get? b = some u):Inv X Z0 σ H { s with heap:=h',toks:=t' }:=I.un (Un.kept k) (I.hok.kept k)
theorem Inv.laid {a:Addr} {o:HO} {t':Nat} (I:Inv X Z0 σ H s) (k:∀ b u,s.heap.get? b = some u→h'.get? b = some u) (hp:s.heap.objs.size ≤ a) (new:ObjOk X.prog X.w (Zy H a o) h' a o) :
  Inv X Z0 σ (Zy H a o) { s with heap:=h',toks:=t' }:=I.un (Un.laid k hp (I.hok.fresh hp)) (I.hok.laid k hp new)
theorem Inv.write {x e:Addr} {o:HO} {t':Nat} (I:Inv X Z0 σ H s) (mu:Z2z (H x)) (he:e = x ∨ H e = some (.own x)) (k:∀ b u,b ≠ e→s.heap.get? b = some u→h'.get? b = some u) (heo:∃ u,h'.get? e = some u)
  (new:ObjOk X.prog X.w (Zy H x o) h' x o):Inv X Z0 σ (Zy H x o) { s with heap:=h',toks:=t' }:=I.un (Un.write mu he k heo) (I.hok.write mu he k heo new)
theorem Inv.weak {σ':List (Option V)} (I:Inv X Z0 σ H s) (hl:σ'.length = σ.length) (w:∀ (i:Nat) v,σ'[i]? = some (some v)→σ[i]? = some (some v)):Inv X Z0 σ' H s :=
 ⟨I.ok,I.os,I.bare,I.base,let ⟨m,hn,hl'⟩:=I.loc; ⟨m,hn,fun i x v e1 e2 e3=>hl' i x v e1 (w i v e2) e3⟩,I.cell,I.free,I.freeC,I.pin,I.hok,hl.trans I.len⟩
theorem Inv.pins_of {pins':List (Addr × Obj)} (I:Inv X Z0 σ H s) (h:∀ p ∈ pins',s.heap.get? p.1 = some p.2∧H p.1 = none∧p.1 ≠ X.env.locals∧p.1 ∉ X.fs∧∀ v,p.2.data ≠ .cell v):Inv X pins' σ H s :=
 ⟨I.ok,I.os,I.bare,I.base,I.loc,I.cell,I.free,I.freeC,fun p hp=>(List.mem_append.mp hp).elim (fun z=>I.pin p (List.mem_append_left _ z)) (h p),I.hok,I.len⟩
theorem Xo {N:List Str} (hN:N.Nodup) {i j:Nat} {x:Str} (a:N[i]? = some x) (b:N[j]? = some x):i = j:=by
 obtain ⟨h1,e1⟩:=List.getElem?_eq_some_iff.mp a
 obtain ⟨h2,e2⟩:=List.getElem?_eq_some_iff.mp b
 exact (List.getElem_inj hN).mp (e1.trans e2.symm)
theorem Uq {M:Model} {A:Around} {E:Value→Shared→Prop} {i:Nat} {x:Str} {v:V} {u:Value} {Q:Unit→Shared→Prop} (I:Inv X Z0 σ H s) (hN:X.N.Nodup) (hi:X.N[i]? = some x) (hx:Z1r X.env.scope x) (r:RelV v u)
  (h:∀ s',Inv X Z0 (σ.set i (some v)) H s'→(∃ a,Heap.SameBut a s.heap s'.heap∧(a = X.env.locals ∨ X.env.cells.lookup x = some a))→Q () s') (hf:X.fn x = true ∨ X.env.scope.names.lookup x = some .local:=by first | exact .inl rfl | exact .inr rfl | assumption):wpAny M A (storeName X.env x u) Q E s:=by
 obtain ⟨m,hn,hl⟩:=id I.loc
 have hcls:(X.env.scope.kind == .class || (X.env.scope.kind == .module && X.env.locals != X.env.globals)) = false:=by rw [I.ok.kind]; rfl
 have hiσ:i < σ.length:=by rw [I.len]; exact (List.getElem?_eq_some_iff.mp hi).1
 have cne:=I.cne
 have tracked:∀ {a:Addr} {h':Heap},(∃ o,s.heap.get? a = some o∧H a = none)→Heap.SameBut a s.heap h'→HOk X.prog X.w H h':=fun {a h'} ha hs b ob e=>by
  obtain ⟨_,_,hfree⟩:=ha
  refine (I.hok b ob e).stay (fun c w' hc q=>(hs.2 c ?_).trans q) (fun _ q=>q) fun _ _ q=>q
  rintro rfl
  rcases hc with rfl | hc
  ·rw [hfree] at e; cases e
  ·rw [hfree] at hc; cases hc
 rcases hx with hk | hk
 ·refine wpAny_storeName_local hk hn (fun h' hn' hs=>?_) hcls
  obtain ⟨oL,_,_,hoL,_⟩:=id hn
  refine h _ ⟨I.ok,I.os,I.bare,⟨fun b o e n hb hx=>?_,fun b o e n hb hx=>?_,I.base.free,fun b o e hx=>?_,I.base.tups,I.base.frzs,I.base.tbls⟩,⟨_,hn',fun j y v' e1 e2 e3=>?_⟩,fun y c e=>?_,I.free,I.freeC,fun p hp=>?_,tracked ⟨oL,hoL,I.free⟩ hs,by simpa using I.len⟩ ⟨_,hs,.inl rfl⟩
  ·exact (hs.2 b (Nat.ne_of_lt (Nat.lt_of_lt_of_le (Heap.lt_size e) I.ok.above))).trans (I.base.keep b o e n hb hx)
  ·obtain ⟨sl,e1⟩:=I.base.slot b o e n hb hx
   exact ⟨sl,(hs.2 b (Nat.ne_of_lt (Nat.lt_of_lt_of_le (Heap.lt_size e) I.ok.above))).trans e1⟩
  ·obtain ⟨o',e1⟩:=I.base.there b o e hx
   exact ⟨o',(hs.2 b (Nat.ne_of_lt (Nat.lt_of_lt_of_le (Heap.lt_size e) I.ok.above))).trans e1⟩
  ·by_cases hj:j = i
   ·subst hj
    rw [hi] at e1; cases e1
    rw [List.getElem?_set_self hiσ] at e2
    cases e2
    exact ⟨u,r,.inl ⟨hk,by simp⟩⟩
   ·rw [List.getElem?_set_ne (Ne.symm hj)] at e2
    obtain ⟨u',r',q⟩:=hl j y v' e1 e2 e3
    refine ⟨u',r',?_⟩
    rcases q with ⟨k,e⟩ | ⟨k,c,e,z⟩
    ·refine .inl ⟨k,?_⟩
     have:y ≠ x:=fun e=>hj (Xo hN e1 (e ▸ hi))
     simp [this,e]
    ·exact .inr ⟨k,c,e,z.sameBut hs (cne y c e)⟩
  ·obtain ⟨w',z⟩:=I.cell y c e
   exact ⟨w',z.sameBut hs (cne y c e)⟩
  ·obtain ⟨e,n,ne,nf,d⟩:=I.pin p hp
   exact ⟨(hs.2 p.1 ne).trans e,n,ne,nf,d⟩
 ·have hfn:X.fn x = true:=by
   rcases hf with z | z
   ·exact z
   ·rw [z] at hk; cases hk
  obtain ⟨c,hc⟩:=I.ok.has x (.inl hk)
  obtain ⟨w',z⟩:=I.cell x c hc
  refine wpAny_storeName_cell I.ok.kind hk hc z (fun h' hc' hs=>?_)
  obtain ⟨oc,hoc,hocd⟩:=id z
  refine h { s with heap:=h' } ⟨I.ok,I.os,I.bare,⟨fun b o e n hb hx=>?_,fun b o e n hb hx=>?_,I.base.free,fun b o e hx=>?_,I.base.tups,I.base.frzs,I.base.tbls⟩,⟨m,hn.sameBut hs (Ne.symm (cne x c hc)),fun j y v' e1 e2 e3=>?_⟩,fun y c' e=>?_,I.free,I.freeC,fun p hp=>?_,tracked ⟨oc,hoc,I.freeC x c hc⟩ hs,by simpa using I.len⟩ ⟨c,hs,.inr hc⟩
  ·exact (hs.2 b (Nat.ne_of_lt (Nat.lt_of_lt_of_le (Heap.lt_size e) (I.ok.cab x c hfn hc)))).trans (I.base.keep b o e n hb hx)
  ·obtain ⟨sl,e1⟩:=I.base.slot b o e n hb hx
   exact ⟨sl,(hs.2 b (Nat.ne_of_lt (Nat.lt_of_lt_of_le (Heap.lt_size e) (I.ok.cab x c hfn hc)))).trans e1⟩
  ·obtain ⟨o',e1⟩:=I.base.there b o e hx
   exact ⟨o',(hs.2 b (Nat.ne_of_lt (Nat.lt_of_lt_of_le (Heap.lt_size e) (I.ok.cab x c hfn hc)))).trans e1⟩
  ·by_cases hj:j = i
   ·subst hj
    rw [hi] at e1; cases e1
    rw [List.getElem?_set_self hiσ] at e2
    cases e2
    exact ⟨u,r,.inr ⟨.inl hk,c,hc,hc'⟩⟩
   ·rw [List.getElem?_set_ne (Ne.symm hj)] at e2
    obtain ⟨u',r',q⟩:=hl j y v' e1 e2 e3
    refine ⟨u',r',?_⟩
    rcases q with q | ⟨k,c',e,z'⟩
    ·exact .inl q
    ·refine .inr ⟨k,c',e,z'.sameBut hs ?_⟩
     rintro rfl
     exact hj (Xo hN e1 (I.ok.inj _ _ _ e hc ▸ hi))
  ·by_cases hcc:c' = c
   ·subst hcc; exact ⟨_,hc'⟩
   ·obtain ⟨w2,z2⟩:=I.cell y c' e
    exact ⟨w2,z2.sameBut hs hcc⟩
  ·obtain ⟨e,n,ne,nf,d⟩:=I.pin p hp
   refine ⟨(hs.2 p.1 ?_).trans e,n,ne,nf,d⟩
   intro q
   rw [q,hoc] at e
   have q':oc = p.2:=Option.some.inj e
   exact d w' (by rw [← q']; exact hocd)
theorem Yj {M:Model} {A:Around} {E:Value→Shared→Prop} {i:Nat} {x:Str} {v:V} {u:Value} {Q:Unit→Shared→Prop} (I:Inv X Z0 σ H s) (hN:X.N.Nodup) (hi:X.N[i]? = some x) (hx:Z1r X.env.scope x) (r:RelV v u)
  (h:∀ s',Inv X Z0 (σ.set i (some v)) H s'→Q () s') (hf:X.fn x = true ∨ X.env.scope.names.lookup x = some .local:=by first | exact .inl rfl | exact .inr rfl | assumption):wpAny M A (storeName X.env x u) Q E s :=
 Uq I hN hi hx r (fun s' I' _=>h s' I') hf
theorem Inv.call' {s':Shared} {ch:List Addr} (I:Inv X Z0 σ H s) (ho:s'.os = s.os) (u:Un (Xg X.stack) ch H H' s.heap s'.heap) (hok:HOk X.prog X.w H' s'.heap) (hg:AllBare s'.gens)
  (hch:∀ b ∈ ch,(b ∈ X.ex ∨ X.s₀.heap.objs.size ≤ b)∧b ≠ X.env.locals∧(∀ x c,X.env.cells.lookup x = some c→c ≠ b)∧∀ p ∈ X.pn ++ Z0,p.1 ≠ b):Inv X Z0 σ H' s':=by
 obtain ⟨h',g',d',t',o'⟩:=s'
 have e:o' = s.os:=ho
 subst e
 exact I.call (g':=g') (t':=t') (d':=d') u hok hg hch
end
abbrev XK:=Value→Option Addr→Hp→Prop
abbrev St:=List (Option V)
abbrev VK:=V→Hp→Prop
abbrev TE:=St→Hp→VK→Prop
abbrev TT:=St→Hp→(Bool→Hp→Prop)→Prop
abbrev TA:=St→Hp→(List V→Hp→Prop)→Prop
structure Ends where
 nx:St→Hp→Prop
 rt:VK
 bk:St→Hp→Prop:=fun _ _=>False
 ct:St→Hp→Prop:=fun _ _=>False
abbrev TS:=Ends→St→Hp→Prop
def EP (X:Cx) (Z0:List (Addr × Obj)) (σ:St) (Q:VK) (u:Value) (s':Shared):Prop:=∃ v H',Inv X Z0 σ H' s'∧RelV v u∧Q v H'
def TP (X:Cx) (Z0:List (Addr × Obj)) (σ:St) (Q:Bool→Hp→Prop) (b:Bool) (s':Shared):Prop:=∃ H',Inv X Z0 σ H' s'∧Q b H'
def AP (X:Cx) (Z0:List (Addr × Obj)) (σ:St) (Q:List V→Hp→Prop) (us:List Value) (s':Shared):Prop:=∃ vs H',Inv X Z0 σ H' s'∧Vals vs us∧Q vs H'
def SP (X:Cx) (Z0:List (Addr × Obj)) (D:Ends) (f:Flow) (s':Shared):Prop :=
 match f with
 | .next=>∃ σ' H',Inv X Z0 σ' H' s'∧D.nx σ' H'
 | .brk=>∃ σ' H',Inv X Z0 σ' H' s'∧D.bk σ' H'
 | .cont=>∃ σ' H',Inv X Z0 σ' H' s'∧D.ct σ' H'
 | .ret u=>∃ v σ' H',Inv X Z0 σ' H' s'∧RelV v u∧D.rt v H'
def PE (X:Cx) (e:Expr) (t:TE):Prop :=
 ∀ (Z0:List (Addr × Obj)) (s:Shared) (σ:St) (H:Hp) (Q:VK),Inv X Z0 σ H s→t σ H Q→wpAny (model X.prog X.w) X.A (eval e X.env) (EP X Z0 σ Q) X.xe s
def PT (X:Cx) (e:Expr) (t:TT):Prop :=
 ∀ (Z0:List (Addr × Obj)) (s:Shared) (σ:St) (H:Hp) (Q:Bool→Hp→Prop),Inv X Z0 σ H s→t σ H Q→wpAny (model X.prog X.w) X.A (isTrue e X.env (eval e X.env)) (TP X Z0 σ Q) X.xe s
def PW (X:Cx) (e:Expr) (t:TT):Prop :=
 ∀ (whole:Sem Value) (Z0:List (Addr × Obj)) (s:Shared) (σ:St) (H:Hp) (Q:Bool→Hp→Prop),Inv X Z0 σ H s→t σ H Q→wpAny (model X.prog X.w) X.A (isTrue e X.env whole) (TP X Z0 σ Q) X.xe s
theorem PW.pt {X:Cx} {e:Expr} {t:TT} (h:PW X e t):PT X e t:=h _
def PA (X:Cx) (es:List Expr) (t:TA):Prop :=
 ∀ (pos:Pos) (Z0:List (Addr × Obj)) (s:Shared) (σ:St) (H:Hp) (Q:List V→Hp→Prop),Inv X Z0 σ H s→t σ H Q→wpAny (model X.prog X.w) X.A (spliced (backTo pos (starEach es X.env))) (AP X Z0 σ Q) X.xe s
def PS (X:Cx) (st:Stmt) (t:TS):Prop :=
 ∀ (Z0:List (Addr × Obj)) (s:Shared) (σ:St) (H:Hp) (D:Ends),Inv X Z0 σ H s→t D σ H→wpAny (model X.prog X.w) X.A (exec st X.env) (SP X Z0 D) X.xe s
def PSs (X:Cx) (st:List Stmt) (t:TS):Prop :=
 ∀ (Z0:List (Addr × Obj)) (s:Shared) (σ:St) (H:Hp) (D:Ends),Inv X Z0 σ H s→t D σ H→wpAny (model X.prog X.w) X.A (execs st X.env) (SP X Z0 D) X.xe s
theorem Yb {α:Type} {t:Sem α} {Q Q':α→Shared→Prop} {M:Model} {A:Around} {E:Value→Shared→Prop} {s:Shared} (h:wpAny M A t Q E s) (hQ:∀ a s,Q a s→Q' a s):wpAny M A t Q' E s:=wpAny_mono h hQ fun _ _ x=>x
section
variable {X:Cx}
theorem bin {a b:Expr} {ta tb:TE} (ha:PE X a ta) (hb:PE X b tb) {Z0:List (Addr × Obj)} {s:Shared} {σ:St} {H:Hp} {R:V→V→Hp→Prop} (I:Inv X Z0 σ H s) (h:ta σ H fun x H1=>tb σ H1 fun y H2=>R x y H2)
  {α:Type} {Q:α→Shared→Prop} {f:Value→Value→Sem α}
  (hf:∀ v u s2 x y H2,Inv X Z0 σ H2 s2→RelV x v→RelV y u→R x y H2→wpAny (model X.prog X.w) X.A (f v u) Q X.xe s2) :
  wpAny (model X.prog X.w) X.A (eval a X.env) (fun v s₁=>wpAny (model X.prog X.w) X.A (eval b X.env) (fun u s₂=>wpAny (model X.prog X.w) X.A (f v u) Q X.xe s₂) X.xe s₁) X.xe s:=by
 refine Yb (ha Z0 s σ H _ I h) fun v s1 ⟨x,H1,I1,r1,q1⟩=>?_
 refine Yb (hb Z0 s1 σ H1 _ I1 q1) fun u s2 ⟨y,H2,I2,r2,q2⟩=>?_
 exact hf v u s2 x y H2 I2 r1 r2 q2
def Z08 (i:Nat):TE:=fun σ H Q=>∃ v,σ[i]? = some (some v)∧Q v H
def tC (v:V):TE:=fun _ H Q=>Q v H
theorem Z13 {i:Nat} {x:Str} {pos:Pos} (hN:X.N[i]? = some x) (hv:Z2w X.env.scope x) (hd:(x == ("__debug__":Str)) = false:=by decide) (hcd:(x == ("__classdict__":Str)) = false:=by decide):PE X (.Name x pos) (Z08 i):=by
 intro Z0 s σ H Q I h
 obtain ⟨v,e,h⟩:=h
 obtain ⟨m,hn,hl⟩:=I.loc
 obtain ⟨u,r,l⟩:=hl i x v hN e hv
 have fin:EP X Z0 σ Q u s:=⟨v,H,I,r,h⟩
 rcases l with ⟨hk,hm⟩ | ⟨hk,c,hc,hcell⟩
 ·exact wpAny_Name (wpAny_loadName_local I.ok.kind hk hn hm fin) hd
 ·rcases hk with hk | hk
  ·exact wpAny_Name (wpAny_loadName_cell I.ok.kind hk hc hcell fin) hd
  ·exact wpAny_Name (wpAny_loadName_free I.ok.kind hk hc hcell fin hcd) hd
theorem Z4 {i j pos}:PE X (.Constant (.int i) j pos) (tC (.int i)):=fun _ _ _ H _ I h=>wpAny_Constant_int ⟨.int i,H,I.tok _,⟨_,rfl⟩,h⟩
theorem Z28 {b j pos}:PE X (.Constant (.bool b) j pos) (tC (.bl b)):=fun _ _ _ H _ I h=>Constant_bool ⟨.bl b,H,I,rfl,h⟩
theorem Tw {j pos}:PE X (.Constant .none j pos) (tC .non):=fun _ _ _ H _ I h=>Constant_none ⟨.non,H,I,rfl,h⟩
theorem Zl {x j pos}:PE X (.Constant (.str x) j pos) (tC (.str x)):=fun _ _ _ H _ I h=>Calls.Constant_str ⟨.str x,H,I.tok _,⟨_,rfl⟩,h⟩
def Gl (X:Cx) (x:Str):Prop:=X.env.kindOf x = some .globalImplicit
theorem Xj {E:Value→Shared→Prop} {Z0:List (Addr × Obj)} {s:Shared} {σ:St} {H:Hp} {x:Str} {u:Value} {pos:Pos} {Q:Value→Shared→Prop} (I:Inv X Z0 σ H s) (hg:Gl X x) (hm:X.mg x = some u) (h:Q u s)
  (hd:(x == ("__debug__":Str)) = false:=by decide):wpAny (model X.prog X.w) X.A (eval (.Name x pos) X.env) Q E s :=
 Calls.Name_function_global I.ok.kind hg (Calls.loadGlobal_global (by rw [I.ok.glob]; exact I.mod.glob.keeps I.bk) hm h) hd
theorem V1 {E:Value→Shared→Prop} {Z0:List (Addr × Obj)} {s:Shared} {σ:St} {H:Hp} {x:Str} {u:Value} {pos:Pos} {Q:Value→Shared→Prop} (I:Inv X Z0 σ H s) (hg:Gl X x) (hm:X.mg x = none) (hv:bootBuiltins x = some u) (h:Q u s)
  (hn:x ≠ "__name__":=by decide) (hd:(x == ("__debug__":Str)) = false:=by decide):wpAny (model X.prog X.w) X.A (eval (.Name x pos) X.env) Q E s:=by
 obtain ⟨mb,h1,h2⟩:=I.mod.blt
 exact Calls.Name_function_global I.ok.kind hg (Calls.loadGlobal_builtin (by rw [I.ok.glob]; exact I.mod.glob.keeps I.bk) hm (by rw [I.ok.blt]; exact h1.keeps I.bk) ((h2 x hn).trans hv) h) hd
theorem X4 {x:Str} {v:V} {u:Value} {pos:Pos} (hg:Gl X x) (hm:X.mg x = some u) (r:RelV v u) (hd:(x == ("__debug__":Str)) = false:=by decide):PE X (.Name x pos) (tC v) :=
 fun _ _ _ H _ I h=>Xj I hg hm ⟨v,H,I,r,h⟩ hd
theorem Wp {x:Str} {v:V} {u:Value} {pos:Pos} (hg:Gl X x) (hm:X.mg x = none) (hv:bootBuiltins x = some u) (r:RelV v u) (hn:x ≠ "__name__":=by decide) (hd:(x == ("__debug__":Str)) = false:=by decide):PE X (.Name x pos) (tC v) :=
 fun _ _ _ H _ I h=>V1 I hg hm hv ⟨v,H,I,r,h⟩ hn hd
variable {a b:Expr} {ta tb:TE} {pos:Pos}
def PC (X:Cx) (op:CmpOp) (a b:Expr) (t:TE):Prop :=
 ∀ (Z0:List (Addr × Obj)) (s:Shared) (σ:St) (H:Hp) (Q:VK),Inv X Z0 σ H s→t σ H Q →
  wpAny (model X.prog X.w) X.A (eval a X.env) (fun v s₁=>wpAny (model X.prog X.w) X.A (eval b X.env) (fun u s₂=>wpAny (model X.prog X.w) X.A (compareOp op v u) (EP X Z0 σ Q) X.xe s₂) X.xe s₁) X.xe s
theorem Td (b:Expr) {op:CmpOp} (h:op ≠ .In) (h2:op ≠ .NotIn):behindInMarks op b = false:=by
 have e1:(op == CmpOp.In) = false:=by cases op <;> first | rfl | exact absurd rfl h
 have e2:(op == CmpOp.NotIn) = false:=by cases op <;> first | rfl | exact absurd rfl h2
 cases b <;> simp [behindInMarks,e1,e2]
def Z36 (ta:TE):TE:=fun σ H Q=>ta σ H fun x H1=>Q (.bl (decide (x = .non))) H1
def Z1z (ta:TE):TE:=fun σ H Q=>ta σ H fun x H1=>Q (.bl (!decide (x = .non))) H1
theorem RelV.none_iff {x:V} {v:Value} (r:RelV x v):(v == Value.none) = decide (x = .non):=by
 cases x with
 | non=>cases r; rfl
 | bl _=>cases r; rfl
 | int _=>obtain ⟨t,rfl⟩:=r; rfl
 | str _=>obtain ⟨t,rfl⟩:=r; rfl
 | byt _=>obtain ⟨t,rfl⟩:=r; rfl
 | flt _=>obtain ⟨t,rfl⟩:=r; rfl
 | ref _=>cases r; rfl
 | ty _=>cases r; rfl
theorem Tx {j pos'} (ha:PE X a ta):PC X .Is a (.Constant .none j pos') (Z36 ta):=by
 intro Z0 s σ H Q I h
 refine Yb (ha Z0 s σ H _ I h) fun v s1 ⟨x,H1,I1,r1,q1⟩=>?_
 exact Constant_none (is_none_gen ⟨.bl _,H1,I1,by rw [r1.none_iff]; rfl,q1⟩)
theorem Jr {j pos'} (ha:PE X a ta):PC X .IsNot a (.Constant .none j pos') (Z1z ta):=by
 intro Z0 s σ H Q I h
 refine Yb (ha Z0 s σ H _ I h) fun v s1 ⟨x,H1,I1,r1,q1⟩=>?_
 exact Constant_none (isnot_none_gen ⟨.bl _,H1,I1,by rw [r1.none_iff]; rfl,q1⟩)
def tB (t:TE):TT:=fun σ H Q=>t σ H fun x H1=>∃ c,x = .bl c∧Q c H1
theorem Vw {op:CmpOp} {t:TE} (h:PC X op a b t) (h1:behindInMarks op b = false:=by first | exact Td _ (by decide) (by decide) | rfl):PT X (.Compare a [op] [b] pos) (tB t):=by
 intro Z0 s σ H Q I hw
 refine wpAny_isTrue_Compare1 (Yb (h Z0 s σ H _ I hw) fun v s1 h1=>Yb h1 fun u s2 h2=>Yb h2 fun c s3 ⟨x,H1,I1,r1,q1⟩=>?_) h1
 obtain ⟨d,rfl,q⟩:=q1
 cases r1
 exact wpAny_truthy_bool ⟨H1,I1,q⟩
theorem Z0z {e:Expr} {t:TE} (h:PE X e t) (he:∀ whole,isTrue e X.env whole = (do let v ← whole; standAt e.pos; holding [v] (truthy v)):=by intro _; rfl):PT X e (tB t):=by
 intro Z0 s σ H Q I hw
 refine isTrue_plain (Yb (h Z0 s σ H _ I hw) fun v s1 ⟨x,H1,I1,r1,q1⟩=>?_) (he _)
 obtain ⟨d,rfl,q⟩:=q1
 cases r1
 exact wpAny_truthy_bool ⟨H1,I1,q⟩
variable {tA tB':TT} {rest:List Expr}
def Z38 (t u:TT):TT:=fun σ H Q=>t σ H fun c H1=>if c = true then u σ H1 Q else Q false H1
def Z3y (t u:TT):TT:=fun σ H Q=>t σ H fun c H1=>if c = true then Q true H1 else u σ H1 Q
theorem Jn (ha:PT X a tA):PW X (.BoolOp .And [a] pos) tA:=by
 intro wh Z0 s σ H Q I h
 refine isTrue_and (Yb (ha Z0 s σ H Q I h) fun c s1 e=>?_)
 cases c with
 | true=>exact isTrue_and_nil e
 | false=>exact e
theorem Ts (ha:PT X a tA):PW X (.BoolOp .Or [a] pos) tA:=by
 intro wh Z0 s σ H Q I h
 refine isTrue_or (Yb (ha Z0 s σ H Q I h) fun c s1 e=>?_)
 cases c with
 | false=>exact isTrue_or_nil e
 | true=>exact e
theorem Tt (ha:PT X a tA) (hb:PW X (.BoolOp .And (b :: rest) pos) tB'):PW X (.BoolOp .And (a :: b :: rest) pos) (Z38 tA tB'):=by
 intro wh Z0 s σ H Q I h
 refine isTrue_and (Yb (ha Z0 s σ H _ I h) fun c s1 ⟨H1,I1,q1⟩=>?_)
 cases c with
 | true=>exact hb wh Z0 s1 σ H1 Q I1 q1
 | false=>exact ⟨H1,I1,q1⟩
theorem Z0e (ha:PT X a tA) (hb:PW X (.BoolOp .Or (b :: rest) pos) tB'):PW X (.BoolOp .Or (a :: b :: rest) pos) (Z3y tA tB'):=by
 intro wh Z0 s σ H Q I h
 refine isTrue_or (Yb (ha Z0 s σ H _ I h) fun c s1 ⟨H1,I1,q1⟩=>?_)
 cases c with
 | true=>exact ⟨H1,I1,q1⟩
 | false=>exact hb wh Z0 s1 σ H1 Q I1 q1
def Z22 (ta tb:TE):TE:=fun σ H Q=>ta σ H fun x H1=>∃ c,x = .bl c∧if c = true then tb σ H1 Q else Q (.bl false) H1
def Z1y (ta:TE):TE:=fun σ H Q=>ta σ H fun x H1=>∃ c,x = .bl c∧Q (.bl (!c)) H1
theorem V0 {op} {t:TE} (h:PE X a t):PE X (.BoolOp op [a] pos) t:=fun Z0 s σ H Q I hw=>BoolOp_one (h Z0 s σ H Q I hw)
theorem Xs (ha:PE X a ta) (hb:PE X (.BoolOp .And (b :: rest) pos) tb):PE X (.BoolOp .And (a :: b :: rest) pos) (Z22 ta tb):=by
 intro Z0 s σ H Q I h
 refine BoolOp_and (Yb (ha Z0 s σ H _ I h) fun v s1 ⟨x,H1,I1,r1,q1⟩=>?_)
 obtain ⟨c,rfl,q1⟩:=q1
 cases r1
 refine wpAny_truthy_bool ?_
 cases c with
 | true=>exact hb Z0 s1 σ H1 Q I1 q1
 | false=>exact ⟨.bl false,H1,I1,rfl,q1⟩
theorem Vx (ha:PE X a ta):PE X (.UnaryOp .Not a pos) (Z1y ta):=by
 intro Z0 s σ H Q I h
 refine UnaryOp_ (Yb (ha Z0 s σ H _ I h) fun v s1 ⟨x,H1,I1,r1,q1⟩=>?_)
 obtain ⟨c,rfl,q1⟩:=q1
 cases r1
 exact not_of (wpAny_truthy_bool ⟨.bl (!c),H1,I1,rfl,q1⟩)
def Z3z (t:TT) (ta tb:TE):TE:=fun σ H Q=>t σ H fun c H1=>if c = true then ta σ H1 Q else tb σ H1 Q
theorem V7 {c:Expr} (hc:PT X c tA) (ha:PE X a ta) (hb:PE X b tb):PE X (.IfExp c a b pos) (Z3z tA ta tb):=by
 intro Z0 s σ H Q I h
 refine wpAny_IfExp (Yb (hc Z0 s σ H _ I h) fun d s1 ⟨H1,I1,q1⟩=>?_)
 cases d with
 | true=>exact ha Z0 s1 σ H1 Q I1 q1
 | false=>exact hb Z0 s1 σ H1 Q I1 q1
end
def SqL (K:PySem.W.Frag) (H:Hp) (a:Addr) (xs:List V):Prop :=
 Rd H a (.lst xs) ∨
  ∃ (o:Obj) (its:Array Value) (n:Nat),K.lookup a = some o∧o.cls = .type "list"∧o.dict = none∧o.data = .seq its n∧its.size ≤ sizeLine∧Vals xs its.toList
def SqT (K:PySem.W.Frag) (H:Hp) (a:Addr) (xs:List V):Prop :=
 Rd H a (.tup xs) ∨
  ∃ (o:Obj) (its:Array Value) (n:Nat),K.lookup a = some o∧o.cls = .type "tuple"∧o.data = .seq its n∧its.size ≤ sizeLine∧Vals xs its.toList
def Z3e:Value→Option V
 | .none=>some .non
 | .bool b=>some (.bl b)
 | .int i _=>some (.int i)
 | .str x _=>some (.str x)
 | .bytes b _=>some (.byt b)
 | .float b _=>some (.flt b)
 | .ref a=>some (.ref a)
 | .type n=>some (.ty n)
 | _=>none
theorem RelV.abs {x:V} {u:Value} (r:RelV x u):Z3e u = some x:=by
 cases x with
 | non=>cases r; rfl
 | bl _=>cases r; rfl
 | int _=>obtain ⟨t,rfl⟩:=r; rfl
 | str _=>obtain ⟨t,rfl⟩:=r; rfl
 | byt _=>obtain ⟨t,rfl⟩:=r; rfl
 | flt _=>obtain ⟨t,rfl⟩:=r; rfl
 | ref _=>cases r; rfl
 | ty _=>cases r; rfl
theorem RelV.inj {x y:V} {u:Value} (r:RelV x u) (q:RelV y u):x = y:=Option.some.inj (r.abs.symm.trans q.abs)
theorem Vals.inj:∀ {xs ys:List V} {us:List Value},Vals xs us→Vals ys us→xs = ys
 | _,_,_,.nil,.nil=>rfl
 | _,_,_,.cons r t,.cons r' t'=>by rw [r.inj r',Vals.inj t t']
section
variable {X:Cx} {Z0:List (Addr × Obj)} {σ:St} {H:Hp} {s:Shared} {a:Addr} {xs ys:List V}
theorem SqL.of {K:PySem.W.Frag} (h:H a = some (.lst xs)):SqL K H a xs:=.inl (.inl h)
theorem SqT.of {K:PySem.W.Frag} (h:H a = some (.tup xs)):SqT K H a xs:=.inl (.inl h)
theorem Inv.list (I:Inv X Z0 σ H s) (h:SqL X.K H a xs):∃ its:List Value,Vals xs its∧PlainL s.heap a its.toArray∧xs.length ≤ sizeLine:=by
 rcases h with h | ⟨o,its,n,hk,hc,hd,hs,hz,r⟩
 ·obtain ⟨z,its,n,r,e⟩:=h.ok I.hok
  exact ⟨its,r,⟨_,n,e,rfl,rfl,rfl⟩,z⟩
 ·refine ⟨its.toList,r,⟨o,n,I.kIn a o hk,hc,hd,by simpa using hs⟩,?_⟩
  have e:=r.length
  simp only [Array.length_toList] at e
  omega
theorem Inv.tuple (I:Inv X Z0 σ H s) (h:SqT X.K H a xs):∃ its:List Value,Vals xs its∧IsTup s.heap a its.toArray∧xs.length ≤ sizeLine:=by
 rcases h with h | ⟨o,its,n,hk,hc,hs,hz,r⟩
 ·obtain ⟨z,its,r,p⟩:=h.ok I.hok
  exact ⟨its,r,p,z⟩
 ·refine ⟨its.toList,r,⟨o,I.kIn a o hk,hc,n,by simpa using hs⟩,?_⟩
  have e:=r.length
  simp only [Array.length_toList] at e
  omega
theorem Inv.list_inj (I:Inv X Z0 σ H s) (h:SqL X.K H a xs) (h':SqL X.K H a ys):xs = ys:=by
 obtain ⟨its,r,⟨o,n,e,_,_,d⟩,_⟩:=I.list h
 obtain ⟨its',r',⟨o',n',e',_,_,d'⟩,_⟩:=I.list h'
 rw [e] at e'; cases e'
 rw [d] at d'
 injection d' with d1 _
 have:its = its':=by simpa using congrArg Array.toList d1
 subst this
 exact r.inj r'
end
abbrev Cx.wish (X:Cx) (E:Value→Shared→Prop):Cx:={ X with xe:=E }
abbrev Cx.nox (X:Cx):Cx:=X.wish fun _ _=>False
theorem Cx.Ok.wish {X:Cx} (ok:X.Ok) (E:Value→Shared→Prop):(X.wish E).Ok :=
 ⟨ok.mod,ok.kind,ok.glob,ok.blt,ok.above,ok.inj,ok.has,ok.cab,ok.hd,ok.frames,ok.stk,ok.exf,ok.bs,ok.bsz,ok.noex,ok.exfs,ok.funs,ok.frf⟩
theorem Cx.Ok.unwish {X:Cx} {E:Value→Shared→Prop} (ok:(X.wish E).Ok):X.Ok :=
 ⟨ok.mod,ok.kind,ok.glob,ok.blt,ok.above,ok.inj,ok.has,ok.cab,ok.hd,ok.frames,ok.stk,ok.exf,ok.bs,ok.bsz,ok.noex,ok.exfs,ok.funs,ok.frf⟩
section
variable {X:Cx} {Z0:List (Addr × Obj)} {σ:St} {H:Hp} {s:Shared} {E:Value→Shared→Prop}
theorem Inv.wish (I:Inv X Z0 σ H s) (E:Value→Shared→Prop):Inv (X.wish E) Z0 σ H s:=⟨I.ok.wish E,I.os,I.bare,I.base,I.loc,I.cell,I.free,I.freeC,I.pin,I.hok,I.len⟩
theorem Inv.unwish (I:Inv (X.wish E) Z0 σ H s):Inv X Z0 σ H s:=⟨I.ok.unwish,I.os,I.bare,I.base,I.loc,I.cell,I.free,I.freeC,I.pin,I.hok,I.len⟩
theorem SP.unwish {D:Ends} {f:Flow} {s':Shared} (h:SP (X.wish E) Z0 D f s'):SP X Z0 D f s':=by
 cases f with
 | next=>obtain ⟨σ',H',I,q⟩:=h; exact ⟨σ',H',I.unwish,q⟩
 | brk=>obtain ⟨σ',H',I,q⟩:=h; exact ⟨σ',H',I.unwish,q⟩
 | cont=>obtain ⟨σ',H',I,q⟩:=h; exact ⟨σ',H',I.unwish,q⟩
 | ret u=>obtain ⟨v,σ',H',I,r,q⟩:=h; exact ⟨v,σ',H',I.unwish,r,q⟩
theorem PSs.nox {st:List Stmt} {t:TS} (h:PSs X.nox st t):PSs X st t:=fun Z0 s σ H D I hw =>
 wpAny_mono (h Z0 s σ H D (I.wish _) hw) (fun _ _ q=>q.unwish) fun _ _ z=>False.elim z
end
section
variable {X:Cx} {st:Stmt} {rest:List Stmt} {t u:TS} {e:Expr} {te:TE} {pos:Pos}
def Zi:TS:=fun D σ H=>D.nx σ H
def Z9 (t u:TS):TS:=fun D σ H=>t { D with nx:=u D } σ H
theorem Zm:PSs X [] Zi:=fun _ _ σ H _ I h=>wpAny_execs_nil ⟨σ,H,I,h⟩
theorem Z2 (h1:PS X st t) (h2:PSs X rest u):PSs X (st :: rest) (Z9 t u):=by
 intro Z0 s σ H D I h
 refine wpAny_execs_cons (Yb (h1 Z0 s σ H { D with nx:=u D } I h) fun f s1 q=>?_)
 cases f with
 | next =>
  obtain ⟨σ',H',I',q⟩:=q
  exact h2 Z0 s1 σ' H' D I' q
 | ret v=>exact q
 | brk=>exact q
 | cont=>exact q
theorem Z5 (h1:PS X st t):PSs X [st] t:=by
 intro Z0 s σ H D I h
 refine wpAny_execs_cons (Yb (h1 Z0 s σ H D I h) fun f s1 q=>?_)
 cases f with
 | next=>exact wpAny_execs_nil q
 | ret v=>exact q
 | brk=>exact q
 | cont=>exact q
theorem Inv.quiet {Z0:List (Addr × Obj)} {σ:St} {H:Hp} {s:Shared} (I:Inv X Z0 σ H s):interactive X.env = false:=by simp [interactive,I.ok.kind]
def Z20 (te:TE):TS:=fun D σ H=>te σ H fun _ H1=>D.nx σ H1
theorem X3 (he:PE X e te) (hs:swapsWith e none pos.line X.env = pure false:=by rfl):PS X (.Expr e pos) (Z20 te):=by
 intro Z0 s σ H D I h
 exact wpAny_Expr_any (Yb (he Z0 s σ H _ I h) fun v s1 ⟨x,H1,I1,r1,q1⟩=>⟨σ,H1,I1,q1⟩) I.quiet hs
def Z33 (te:TE):TS:=fun D σ H=>te σ H D.rt
theorem Zn (he:PE X e te):PS X (.Return (some e) pos) (Z33 te):=by
 intro Z0 s σ H D I h
 exact wpAny_Return_some (Yb (he Z0 s σ H _ I h) fun v s1 ⟨x,H1,I1,r1,q1⟩=>⟨x,σ,H1,I1,r1,q1⟩)
def Zq (c:TT) (t u:TS):TS:=fun D σ H=>c σ H fun b H1=>if b = true then t D σ H1 else u D σ H1
theorem Zx {c:Expr} {a b:List Stmt} {tc:TT} (hc:PT X c tc) (ha:PSs X a t) (hb:PSs X b u):PS X (.If c a b pos) (Zq tc t u):=by
 intro Z0 s σ H D I h
 refine wpAny_If (Yb (hc Z0 s σ H _ I h) fun d s1 ⟨H1,I1,q1⟩=>?_)
 cases d with
 | true=>exact ha Z0 s1 σ H1 D I1 q1
 | false=>exact hb Z0 s1 σ H1 D I1 q1
end
abbrev TG:=V→St→Hp→(St→Hp→Prop)→Prop
def PG (X:Cx) (target:Expr) (t:TG):Prop :=
 ∀ (Z0:List (Addr × Obj)) (s:Shared) (σ:St) (H:Hp) (v:V) (u:Value) (Q:St→Hp→Prop),Inv X Z0 σ H s→RelV v u→t v σ H Q →
  wpAny (model X.prog X.w) X.A (assign target X.env u) (fun _ s'=>∃ σ' H',Inv X Z0 σ' H' s'∧Q σ' H') X.xe s
abbrev Z1o:=V→V→V→Hp→(Hp→Prop)→Prop
def Z2o (X:Cx) (t:Z1o):Prop :=
 ∀ (Z0:List (Addr × Obj)) (s:Shared) (σ:St) (H:Hp) (o i v:V) (ov iv u:Value) (Q:Hp→Prop),Inv X Z0 σ H s→RelV o ov→RelV i iv→RelV v u→t o i v H Q →
  wpAny (model X.prog X.w) X.A (setItem ov iv u) (fun _ s'=>∃ H',Inv X Z0 σ H' s'∧Q H') X.xe s
abbrev Z2x:=V→V→Hp→VK→Prop
def Z3r (X:Cx) (op:Operator) (t:Z2x):Prop :=
 ∀ (Z0:List (Addr × Obj)) (s:Shared) (σ:St) (H:Hp) (x y:V) (v u:Value) (Q:VK),Inv X Z0 σ H s→RelV x v→RelV y u→t x y H Q →
  wpAny (model X.prog X.w) X.A (inplaceOp op v u) (EP X Z0 σ Q) X.xe s
section
variable {X:Cx} {pos:Pos}
def Ul (i:Nat):TG:=fun v σ H Q=>Q (σ.set i (some v)) H
theorem U4 {i:Nat} {x:Str} (hN:X.N.Nodup) (hi:X.N[i]? = some x) (hx:Z1r X.env.scope x) (hf:X.fn x = true ∨ X.env.scope.names.lookup x = some .local:=by first | exact .inl rfl | exact .inr rfl | assumption):PG X (.Name x pos) (Ul i):=by
 intro Z0 s σ H v u Q I r h
 exact wpAny_assign_Name (Yj I hN hi hx r (fun s' I'=>⟨_,H,I',h⟩) hf)
def Z3d (to ti:TE) (t:Z1o):TG:=fun v σ H Q=>to σ H fun o H1=>ti σ H1 fun i H2=>t o i v H2 fun H3=>Q σ H3
theorem Z12 {o i:Expr} {to ti:TE} {t:Z1o} (ho:PE X o to) (hi:PE X i ti) (hs:Z2o X t)
  (ha:∀ v,assign (.Subscript o i pos) X.env v = (do
   let ov ← holding [v] (eval o X.env)
   let iv ← holding [v,ov] (eval i X.env)
   standAt pos
   holding [v,ov,iv] (setItem ov iv v)
   release [v,ov,iv] []):=by intro _; rfl):PG X (.Subscript o i pos) (Z3d to ti t):=by
 intro Z0 s σ H v u Q I r h
 rw [ha]
 refine wpAny_bind (wpAny_holding (Yb (ho Z0 s σ H _ I h) fun ov s1 ⟨x,H1,I1,r1,q1⟩=>?_))
 refine wpAny_bind (wpAny_holding (Yb (hi Z0 s1 σ H1 _ I1 q1) fun iv s2 ⟨y,H2,I2,r2,q2⟩=>?_))
 refine wpAny_bind (wpAny_standAt (wpAny_bind (wpAny_holding (Yb (hs Z0 s2 σ H2 x y v ov iv u _ I2 r1 r2 r q2) fun _ s3 ⟨H3,I3,q3⟩=>?_))))
 exact wpAny_release ⟨σ,H3,I3,q3⟩
def Z1h (te:TE) (g:TG):TS:=fun D σ H=>te σ H fun x H1=>g x σ H1 D.nx
theorem Z11 {tg e:Expr} {te:TE} {g:TG} (he:PE X e te) (hg:PG X tg g) (hs:swapsWithSole [tg] e pos.line X.env = pure false:=by rfl) (hw:swappedStores [tg] e X.env = pure none:=by rfl)
  (h1:(assignEach [tg] X.env).map (·.2) = [assign tg X.env]:=by rfl):PS X (.Assign [tg] e pos) (Z1h te g):=by
 intro Z0 s σ H D I h
 refine wpAny_Assign_stores (Yb (he Z0 s σ H _ I h) fun v s1 ⟨x,H1,I1,r1,q1⟩=>?_) hs hw
 rw [h1]
 exact Yb (hg Z0 s1 σ H1 x v _ I1 r1 q1) fun _ s2 q=>q
theorem Z10 {i:Nat} {x:Str} {e:Expr} {te:TE} {pos':Pos} (hN:X.N.Nodup) (hi:X.N[i]? = some x) (hx:Z1r X.env.scope x) (he:PE X e te) (hs:swapsWith e (some (.Name x pos')) pos.line X.env = pure false:=by rfl) (hf:X.fn x = true ∨ X.env.scope.names.lookup x = some .local:=by first | exact .inl rfl | exact .inr rfl | assumption) :
  PS X (.Assign [.Name x pos'] e pos) (Z1h te (Ul i)):=by
 intro Z0 s σ H D I h
 refine wpAny_Assign_Name (Yb (he Z0 s σ H _ I h) fun v s1 ⟨y,H1,I1,r1,q1⟩=>?_) hs
 exact Yj I1 hN hi hx r1 (fun s2 I2=>⟨_,H1,I2,q1⟩) hf
def Z37 (i:Nat) (te:TE) (ti:Z2x):TS:=fun D σ H=>∃ x,σ[i]? = some (some x)∧te σ H fun y H1=>ti x y H1 fun z H2=>D.nx (σ.set i (some z)) H2
theorem Tv {i:Nat} {x:Str} {e:Expr} {te:TE} {op:Operator} {ti:Z2x} {pos':Pos} (hN:X.N.Nodup) (hi:X.N[i]? = some x) (hx:Z1r X.env.scope x) (he:PE X e te) (ho:Z3r X op ti) (hf:X.fn x = true ∨ X.env.scope.names.lookup x = some .local:=by first | exact .inl rfl | exact .inr rfl | assumption) :
  PS X (.AugAssign (.Name x pos') op e pos) (Z37 i te ti):=by
 intro Z0 s σ H D I h
 obtain ⟨v,e1,h⟩:=h
 obtain ⟨m,hn,hl⟩:=I.loc
 have vis:Z2w X.env.scope x:=by rcases hx with k | k; exact .inl k; exact .inr (.inl k)
 obtain ⟨u,r,l⟩:=hl i x v hi e1 vis
 refine wpAny_AugAssign_Name ?_
 have go:wpAny (model X.prog X.w) X.A (eval e X.env) (fun w s₂=>wpAny (model X.prog X.w) X.A (inplaceOp op u w) (fun r s₃=>wpAny (model X.prog X.w) X.A (storeName X.env x r) (fun _=>SP X Z0 D .next) X.xe s₃) X.xe s₂) X.xe s:=by
  refine Yb (he Z0 s σ H _ I h) fun w s1 ⟨y,H1,I1,r1,q1⟩=>?_
  refine Yb (ho Z0 s1 σ H1 v y u w _ I1 r r1 q1) fun z s2 ⟨zv,H2,I2,r2,q2⟩=>?_
  exact Yj I2 hN hi hx r2 (fun s3 I3=>⟨_,H2,I3,q2⟩) hf
 rcases l with ⟨hk,hm⟩ | ⟨hk,c,hc,hcell⟩
 ·exact wpAny_loadName_local I.ok.kind hk hn hm go
 ·rcases hk with hk | hk
  ·exact wpAny_loadName_cell I.ok.kind hk hc hcell go
  ·rcases hx with k | k
   ·have:X.env.scope.names.lookup x = some .free:=hk
    rw [k] at this; cases this
   ·have:X.env.scope.names.lookup x = some .free:=hk
    rw [k] at this; cases this
def Z45 (f:Int→Int→Int):Z2x:=fun x y H Q=>∃ i j,x = .int i∧y = .int j∧Q (.int (f i j)) H
theorem J5:Z3r X .Add (Z45 fun i j=>i + j):=by
 intro Z0 s σ H x y v u Q I r1 r2 h
 obtain ⟨i,j,e1,e2,q⟩:=h
 subst e1; subst e2
 obtain ⟨t,rfl⟩:=r1
 obtain ⟨t',rfl⟩:=r2
 exact iadd_int ⟨.int _,H,I.tok _,⟨_,rfl⟩,q⟩
end
section
variable {X:Cx} {pos:Pos}
def Xq (c:TT) (tb:TS):TS:=fun D σ H=>∃ W:Nat→St→Hp→Prop,(∃ m,W m σ H)∧∀ m σ H,W m σ H →
 c σ H fun b H1=>if b = true then ∃ N:St→Hp→Prop,(∀ σ' H',N σ' H'→∃ m',m' < m∧W m' σ' H')∧tb { D with nx:=N,ct:=N,bk:=D.nx } σ H1 else D.nx σ H1
theorem V5 {c:Expr} {body:List Stmt} {tc:TT} {tb:TS} (hp:PassesOwn (model X.prog X.w) X.A X.env X.xe) (hc:PT X c tc) (hb:PSs X body tb):PS X (.While c body [] pos) (Xq tc tb):=by
 intro Z0 s σ H D I h
 obtain ⟨W,⟨m0,w0⟩,turn⟩:=h
 refine wpAny_While (codeAny_whileLoop (fun n s'=>∃ σ' H',Inv X Z0 σ' H' s'∧W n σ' H') ?_ m0 ⟨σ,H,I,w0⟩)
 rintro n s1 ⟨σ1,H1,I1,w1⟩
 refine wpAny_passesOwn hp (Yb (hc Z0 s1 σ1 H1 _ I1 (turn n σ1 H1 w1)) fun b s2 ⟨H2,I2,q2⟩=>?_)
 cases b with
 | true =>
  obtain ⟨N,hN,q2⟩:=q2
  rw [if_pos rfl]
  refine wpAny_passesOwn hp (Yb (hb Z0 s2 σ1 H2 _ I2 q2) fun f s3 q3=>?_)
  cases f with
  | next =>
   obtain ⟨σ3,H3,I3,n3⟩:=q3
   obtain ⟨m',hm,w3⟩:=hN σ3 H3 n3
   exact ⟨m',hm,σ3,H3,I3,w3⟩
  | cont =>
   obtain ⟨σ3,H3,I3,n3⟩:=q3
   obtain ⟨m',hm,w3⟩:=hN σ3 H3 n3
   exact ⟨m',hm,σ3,H3,I3,w3⟩
  | brk=>exact q3
  | ret v=>exact q3
 | false =>
  rw [if_neg Bool.false_ne_true]
  exact wpAny_execs_nil ⟨σ1,H2,I2,q2⟩
end
structure It where
 go:Nat→Hp→Prop
 yld:Nat→Hp→V→Hp→Prop
 stop:Nat→Hp→Prop
def Xu (X:Cx) (Z0:List (Addr × Obj)) (H:Hp) (b:Addr):Prop :=
 H b = none∧b ≠ X.env.locals∧b ∉ X.fs∧(b ∈ X.ex ∨ X.s₀.heap.objs.size ≤ b)∧(∀ x c,X.env.cells.lookup x = some c→c ≠ b)∧∀ p ∈ X.pn ++ Z0,p.1 ≠ b
theorem Inv.fpOk {X:Cx} {Z0:List (Addr × Obj)} {σ:St} {H H':Hp} {s:Shared} {b:Addr} (I:Inv X Z0 σ H s) (hb:s.heap.objs.size ≤ b) (hn:H' b = none):Xu X Z0 H' b:=by
 refine ⟨hn,Nat.ne_of_gt (Nat.lt_of_lt_of_le I.lt hb),I.nofs hb,.inr (Nat.le_trans I.sz hb),fun x c e z=>?_,fun p hp z=>?_⟩
 ·obtain ⟨v,q⟩:=I.cell x c e
  exact absurd (Nat.lt_of_lt_of_le q.lt (by rw [z]; exact hb)) (Nat.lt_irrefl _)
 ·exact absurd (Nat.lt_of_lt_of_le (Heap.lt_size (I.pin p hp).1) (by rw [z]; exact hb)) (Nat.lt_irrefl _)
structure Turn (P:Program) (w:World) (K:PySem.W.Frag) (tg:Expr) (J:It) (fp:List Addr) (it:Addr) (tn:Nat→Heap→Prop):Prop where
 mem:it ∈ fp
 obj:∀ i h,tn i h→∀ b ∈ fp,∃ o,h.get? b = some o∧∀ v,o.data ≠ .cell v
 keep:∀ i h h',tn i h→(∀ b ∈ fp,∀ o,h.get? b = some o→h'.get? b = some o)→tn i h'
 item:∀ (X:Cx),X.prog = P→X.w = w→X.K = K→X.calm = true→∀ (i:Nat) (Z0:List (Addr × Obj)) (s:Shared) (σ:St) (H:Hp) (E:Value→Shared→Prop),Inv X Z0 σ H s→(∀ b ∈ fp,Xu X Z0 H b)→tn i s.heap→J.go i H →
  wpAny (model P w) X.A (pyNext (.ref it)) (fun r s1=>∃ u,r = some u ∧
   wpAny (model P w) X.A (letOwnedTupleGo tg (.ref it) u) (fun _ s2=>∃ x H',Inv X Z0 σ H' s2∧RelV x u∧J.yld i H x H'∧tn (i + 1) s2.heap∧∀ b ∈ fp,H' b = none) E s1) E s
 done:∀ (X:Cx),X.prog = P→X.w = w→X.K = K→X.calm = true→∀ (i:Nat) (Z0:List (Addr × Obj)) (s:Shared) (σ:St) (H:Hp) (E:Value→Shared→Prop),Inv X Z0 σ H s→(∀ b ∈ fp,Xu X Z0 H b)→tn i s.heap→J.stop i H →
  wpAny (model P w) X.A (pyNext (.ref it)) (fun r s1=>r = none∧Inv X Z0 σ H s1) E s
 self:∀ (A:Around) (i:Nat) (s:Shared) (Q:Value→Shared→Prop) (E:Value→Shared→Prop),tn i s.heap→Q (.ref it) s→wpAny (model P w) A (pyIter (.ref it)) Q E s
abbrev TI:=St→Hp→(It→Hp→Prop)→Prop
def Z3s (X:Cx) (Z0:List (Addr × Obj)) (σ:St) (tg:Expr) (R:It→Hp→Prop) (itv:Value) (s2:Shared):Prop :=
 ∃ (it:Addr) (fp:List Addr) (tn:Nat→Heap→Prop) (J:It) (H':Hp),itv = .ref it∧Inv X Z0 σ H' s2∧Turn X.prog X.w X.K tg J fp it tn∧tn 0 s2.heap∧(∀ b ∈ fp,Xu X Z0 H' b)∧R J H'
def PI (X:Cx) (tg iter:Expr) (wi:TI):Prop :=
 ∀ (Z0:List (Addr × Obj)) (s:Shared) (σ:St) (H:Hp) (R:It→Hp→Prop),Inv X Z0 σ H s→wi σ H R →
  wpAny (model X.prog X.w) X.A (eval iter X.env) (fun v s1=>wpAny (model X.prog X.w) X.A (pyIter v) (Z3s X Z0 σ tg R) X.xe s1) X.xe s
theorem Z0j {M : Model} {A : Around} {E : Value → Shared → Prop} {s : Shared} {tg : Expr} {it : Addr} {u : Value} {o : Obj} {n : String} {vs : Array Value} {Q : Unit → Shared → Prop} (ho : s.heap.get? it = some o) (hc : o.cls = .type n) (hd : o.data = .fields vs)
    (hn : ["enumerate", "zip", "dict_itemiterator", "dict_reverseitemiterator", "odict_iterator", "itertools.zip_longest", "itertools.pairwise"].contains n = false) (hQ : Q () s) : wpAny M A (letOwnedTupleGo tg (.ref it) u) Q E s := by
  unfold letOwnedTupleGo
  cases tg <;> first
    | exact wpAny_pure hQ
    | (cases u <;> first
        | exact wpAny_pure hQ
        | (refine wpAny_bind (wpAny_load ho ?_)
           rw [hc, hd]
           show wpAny M A (if (["enumerate", "zip", "dict_itemiterator", "dict_reverseitemiterator", "odict_iterator", "itertools.zip_longest", "itertools.pairwise"].contains n && vs[0]? == some (rawInt _)) = true then _ else _) Q E s
           rw [if_neg (by intro h; rw [hn, Bool.false_and] at h; cases h)]
           exact wpAny_pure hQ))
def Z3m (K:PySem.W.Frag) (a:Addr):It :=
 ⟨fun i H=>∃ xs x,SqL K H a xs∧xs[i]? = some x,fun i H x H'=>H' = H∧∀ xs,SqL K H a xs→xs[i]? = some x,fun i H=>∃ xs,SqL K H a xs∧xs.length ≤ i⟩
def Z1t (lo:Int) (n:Nat):It:=⟨fun i _=>i < n,fun i H x H'=>H' = H∧x = .int (lo + i),fun i _=>n ≤ i⟩
theorem Uo {P:Program} {w:World} {K:PySem.W.Frag} {tg:Expr} (a it:Addr):Turn P w K tg (Z3m K a) [it] it (fun i h=>h.IsListIter it a i) where
 mem:=by simp
 obj:=fun i h st b hb=>by
  have e:b = it:=by simpa using hb
  subst e
  obtain ⟨o,e,c,d⟩:=st
  exact ⟨o,e,fun v z=>by rw [d] at z; cases z⟩
 keep:=fun i h h' st k=>st.at fun o e=>k it (by simp) o e
 item:=by
  intro X hP hw hK hc i Z0 s σ H E I hf st hg
  subst hP hw hK
  obtain ⟨xs,x,hq,hx⟩:=hg
  obtain ⟨its,rv,p,hz⟩:=I.list hq
  obtain ⟨u,hu,ru⟩:=rv.get hx
  obtain ⟨f0,f1,f2,f3,f4,f5⟩:=hf it (by simp)
  refine wpAny_pyNext_list_item st p.isList (x:=u) (by simpa using hu) fun h' st' sb=>?_
  have I1:Inv X Z0 σ H { s with heap:=h' }:=I.turned (t':=s.toks) (fun b o hb e=>(sb.2 b hb).trans e) f0 f1 f3 f4 f5
  obtain ⟨o,e,c,d⟩:=id st'
  exact ⟨u,rfl,Z0j (s:={ s with heap:=h' }) e c d (by decide) ⟨x,H,I1,ru,⟨rfl,fun ys hy=>by rw [I.list_inj hy hq]; exact hx⟩,st',fun b hb=>(hf b hb).1⟩⟩
 done:=by
  intro X hP hw hK hc i Z0 s σ H E I hf st hg
  subst hP hw hK
  obtain ⟨xs,hq,hx⟩:=hg
  obtain ⟨its,rv,p,hz⟩:=I.list hq
  obtain ⟨f0,f1,f2,f3,f4,f5⟩:=hf it (by simp)
  have hl:=rv.length
  exact wpAny_pyNext_list_end (I.ok.hd hc) st p.isList (by simp; omega) fun h' eb=>⟨rfl,I.turned (t':=s.toks) (fun b o hb e=>eb b o hb e) f0 f1 f3 f4 f5⟩
 self:=fun _ _ _ _ _ st h=>wpAny_pyIter_listiter st h
theorem Vh {P:Program} {w:World} {K:PySem.W.Frag} {tg:Expr} (it:Addr) (lo:Int) (n:Nat):Turn P w K tg (Z1t lo n) [it] it (fun i h=>IsRangeIter h it (lo + (i:Nat) * 1) ((n:Int) - (i:Nat)) 1) where
 mem:=by simp
 obj:=fun i h st b hb=>by
  have e:b = it:=by simpa using hb
  subst e
  exact ⟨_,st,fun v z=>by
   have z':Data.fields _ = Data.cell v:=z
   cases z'⟩
 keep:=fun i h h' st k=>k it (by simp) _ st
 item:=by
  intro X hP hw hK hc i Z0 s σ H E I hf st hg
  subst hP hw hK
  obtain ⟨f0,f1,f2,f3,f4,f5⟩:=hf it (by simp)
  have W:=Walks.range (prog:=X.prog) (w:=X.w) (I.ok.hd hc) it lo 1 n
  refine W.item i s _ _ hg st fun v h' tk hv st' kk=>?_
  obtain ⟨t,rfl⟩:=hv
  have I1:Inv X Z0 σ H { s with heap:=h',toks:=tk }:=I.turned (fun b o hb e=>kk b o (by simpa using hb) e) f0 f1 f3 f4 f5
  refine ⟨_,rfl,Z0j (s:={ s with heap:=h',toks:=tk }) (n := "range_iterator") st' rfl rfl (by decide) ⟨.int (lo + i),H,I1,⟨t,?_⟩,⟨rfl,rfl⟩,st',fun b hb=>(hf b hb).1⟩⟩
  rw [Int.mul_one]
 done:=by
  intro X hP hw hK hc i Z0 s σ H E I hf st hg
  subst hP hw hK
  obtain ⟨f0,f1,f2,f3,f4,f5⟩:=hf it (by simp)
  exact wpAny_pyNext_range_end (I.ok.hd hc) st (by have:n ≤ i:=hg; omega) fun h' eb=>⟨rfl,I.turned (t':=s.toks) (fun b o hb e=>eb b o hb e) f0 f1 f3 f4 f5⟩
 self:=fun _ _ _ _ _ st h=>wpAny_pyIter_rangeiter st h
section
variable {X:Cx} {tg:Expr}
def Z2h (K:PySem.W.Frag) (tl:TE):TI:=fun σ H R=>tl σ H fun x H1=>∃ a,x = .ref a∧(∃ xs,SqL K H1 a xs)∧R (Z3m K a) H1
theorem Jp {l:Expr} {tl:TE} (hl:PE X l tl):PI X tg l (Z2h X.K tl):=by
 intro Z0 s σ H R I h
 refine Yb (hl Z0 s σ H _ I h) fun v s1 ⟨x,H1,I1,r1,q1⟩=>?_
 obtain ⟨a,e,⟨xs,hq⟩,q⟩:=q1
 subst e
 cases r1
 obtain ⟨its,rv,p,hz⟩:=I1.list hq
 refine wpAny_pyIter_list p.isList ?_
 refine ⟨s1.heap.objs.size,[s1.heap.objs.size],_,_,H1,rfl,I1.kept (t':=s1.toks) fun b o e=>Heap.get?_push_of_some _ e,Uo a _,⟨_,Heap.get?_push_size _ rfl,rfl,rfl⟩,fun b hb=>?_,q⟩
 have e:b = s1.heap.objs.size:=by simpa using hb
 subst e
 exact I1.fpOk (Nat.le_refl _) (I1.hok.fresh (Nat.le_refl _))
theorem Tb {Z0:List (Addr × Obj)} {σ:St} {H:Hp} {s:Shared} {R:It→Hp→Prop} {E:Value→Shared→Prop} {lo hi:Int} {t u v:Tok} {tk:Nat} (I:Inv X Z0 σ H s) (h1:-(2 ^ 62) ≤ lo) (h2:lo < 2 ^ 62) (h3:-(2 ^ 62) ≤ hi) (h4:hi < 2 ^ 62)
  (q:R (Z1t lo (hi - lo).toNat) H):wpAny (model X.prog X.w) X.A (pyIter (.ref s.heap.objs.size)) (Z3s X Z0 σ tg R) E { s with heap:=s.heap.push { cls:=.type "range",data:=.fields #[.int lo t,.int hi u,.int 1 v] },toks:=tk }:=by
 refine wpAny_pyIter_range (IsRange.new ..) (small_one h1 h2 h3 h4) ?_
 have I1:Inv X Z0 σ H { s with heap:=s.heap.push { cls:=.type "range",data:=.fields #[.int lo t,.int hi u,.int 1 v] },toks:=tk }:=I.kept fun b o e=>Heap.get?_push_of_some _ e
 refine ⟨(s.heap.push { cls:=.type "range",data:=.fields #[.int lo t,.int hi u,.int 1 v] }).objs.size,[(s.heap.push { cls:=.type "range",data:=.fields #[.int lo t,.int hi u,.int 1 v] }).objs.size],_,_,H,rfl,
  I1.kept (t':=tk) fun b o e=>Heap.get?_push_of_some _ e,Vh _ lo (hi - lo).toNat,?_,fun b hb=>?_,q⟩
 ·have e1:lo + ((0:Nat):Int) * 1 = lo:=by simp
  have e2:(((hi - lo).toNat:Nat):Int) - ((0:Nat):Int) = Builtin.Range.rangeSize lo hi 1:=by rw [rangeSize_one]; split <;> omega
  show IsRangeIter _ _ (lo + ((0:Nat):Int) * 1) ((((hi - lo).toNat:Nat):Int) - ((0:Nat):Int)) 1
  rw [e1,e2]
  exact Heap.get?_push_size _ rfl
 ·have e:b = (s.heap.push { cls:=.type "range",data:=.fields #[.int lo t,.int hi u,.int 1 v] }).objs.size:=by simpa using hb
  subst e
  exact I1.fpOk (Nat.le_refl _) (I1.hok.fresh (Nat.le_refl _))
def Z2g (ta:TA):TI:=fun σ H R=>ta σ H fun vs H1=>∃ j:Int,vs = [.int j]∧-(2 ^ 62) ≤ j∧j < 2 ^ 62∧R (Z1t 0 j.toNat) H1
theorem Yq {a:Expr} {ta:TA} {p pos:Pos} (hg:Gl X "range") (hm:X.mg "range" = none) (ha:PA X [a] ta) (hs:starEach [a] X.env = [(false,eval a X.env)]:=by rfl):PI X tg (.Call (.Name "range" p) [a] [] pos) (Z2g ta):=by
 intro Z0 s σ H R I h
 refine Call_ (V1 I hg hm boot_range (PyProof.Rows.callWith_type1 (Yb (ha pos Z0 s σ H _ I h) fun us s1 ⟨vs,H1,I1,r1,q1⟩=>?_) hs rfl))
 obtain ⟨j,e,q1,q2,q⟩:=q1
 subst e
 cases r1 with
 | cons r rr =>
  cases rr
  obtain ⟨t,rfl⟩:=r
  exact call_range_1 (Tb I1 (by omega) (by omega) q1 q2 (by simpa using q))
def Jj (wi:TI) (g:TG) (tb:TS):TS:=fun D σ H=>wi σ H fun J H1=>∃ W:Nat→Nat→St→Hp→Prop,(∃ m,W 0 m σ H1)∧∀ i m σ H,W i m σ H →
 (J.stop i H∧D.nx σ H) ∨ (J.go i H∧∃ N:St→Hp→Prop,(∀ σ' H',N σ' H'→∃ m',m' < m∧W (i + 1) m' σ' H')∧∀ x H',J.yld i H x H'→g x σ H' fun σ2 H2=>tb { D with nx:=N,ct:=N,bk:=D.nx } σ2 H2)
def Xd (fp:List Addr) (h:Heap):List (Addr × Obj):=fp.filterMap fun b=>(h.get? b).map fun o=>(b,o)
theorem Yh {fp:List Addr} {h:Heap} {b:Addr} {o:Obj} (hb:b ∈ fp) (e:h.get? b = some o):(b,o) ∈ Xd fp h:=List.mem_filterMap.mpr ⟨b,hb,by rw [e]; rfl⟩
theorem Uz {fp:List Addr} {h:Heap} {p:Addr × Obj} (hp:p ∈ Xd fp h):p.1 ∈ fp∧h.get? p.1 = some p.2:=by
 obtain ⟨b,hb,e⟩:=List.mem_filterMap.mp hp
 cases q:h.get? b with
 | none=>rw [q] at e; cases e
 | some o =>
  rw [q] at e
  have e':(b,o) = p:=Option.some.inj e
  subst e'
  exact ⟨hb,q⟩
theorem Inv.pinned {Z0:List (Addr × Obj)} {σ:St} {H:Hp} {s:Shared} {fp:List Addr} (I:Inv X Z0 σ H s) (hf:∀ b ∈ fp,Xu X Z0 H b) (ho:∀ b ∈ fp,∃ o,s.heap.get? b = some o∧∀ v,o.data ≠ .cell v):Inv X (Z0 ++ Xd fp s.heap) σ H s :=
 I.pins_of fun p hp=>(List.mem_append.mp hp).elim (fun z=>I.pin p (List.mem_append_right _ z)) fun z=>by
  obtain ⟨hb,e⟩:=Uz z
  obtain ⟨f0,f1,f2,_⟩:=hf p.1 hb
  obtain ⟨o,e',d⟩:=ho p.1 hb
  rw [e] at e'; cases e'
  exact ⟨e,f0,f1,f2,d⟩
theorem Inv.unpinned {Z0 pl:List (Addr × Obj)} {σ:St} {H:Hp} {s:Shared} (I:Inv X (Z0 ++ pl) σ H s):Inv X Z0 σ H s:=I.pins_of fun p hp=>I.pin p (List.mem_append_right _ (List.mem_append_left _ hp))
theorem Tu {iter:Expr} {body:List Stmt} {wi:TI} {g:TG} {tb:TS} {pos:Pos} (hp:PassesOwn (model X.prog X.w) X.A X.env X.xe) (hc:X.calm = true) (hi:PI X tg iter wi) (hg:PG X tg g) (hb:PSs X body tb)
  (hs:∀ x,foldedSetIterable iter X.env x = pure x:=by intro _; rfl):PS X (.For tg iter body [] pos) (Jj wi g tb):=by
 intro Z0 s σ H D I h
 refine wpAny_For (Yb (hi Z0 s σ H _ I h) fun v s1 h1=>Yb h1 fun itv s2 h2=>?_) hs
 obtain ⟨it,fp,tn,J,H2,e,I2,T,st2,f2,W,⟨m0,w0⟩,turn⟩:=h2
 subst e
 have stat:∀ {H':Hp},(∀ b ∈ fp,H' b = none)→∀ b ∈ fp,Xu X Z0 H' b:=fun hn b hb=>⟨hn b hb,(f2 b hb).2⟩
 refine codeAny_forLoop_any (fun n s'=>∃ i σ' H',Inv X Z0 σ' H' s'∧tn i s'.heap∧(∀ b ∈ fp,H' b = none)∧W i n σ' H') ?_ m0 ⟨0,σ,H2,I2,st2,fun b hb=>(f2 b hb).1,w0⟩
 rintro n s3 ⟨i,σ3,H3,I3,st3,fr3,w3⟩
 rcases turn i n σ3 H3 w3 with ⟨stop,qn⟩ | ⟨go,N,hN,step⟩
 ·refine wpAny_passesOwn hp (Yb (T.done X rfl rfl rfl hc i Z0 s3 σ3 H3 X.xe I3 (stat fr3) st3 stop) fun r s4 ⟨hr,I4⟩=>?_)
  subst hr
  exact wpAny_execs_nil ⟨σ3,H3,I4,qn⟩
 ·refine wpAny_passesOwn hp (Yb (T.item X rfl rfl rfl hc i Z0 s3 σ3 H3 X.xe I3 (stat fr3) st3 go) fun r s4 ⟨u,hr,h4⟩=>?_)
  subst hr
  refine wpAny_passesOwn hp (Yb h4 fun _ s5 ⟨x,H5,I5,r5,y5,st5,fr5⟩=>?_)
  have I5':=I5.pinned (stat fr5) (T.obj _ _ st5)
  refine wpAny_passesOwn hp (Yb (hg _ s5 σ3 H5 x u _ I5' r5 (step x H5 y5)) fun _ s6 ⟨σ6,H6,I6,q6⟩=>?_)
  refine wpAny_passesOwn hp (Yb (hb _ s6 σ6 H6 _ I6 q6) fun f s7 q7=>?_)
  have again:∀ {σ7:St} {H7:Hp},Inv X (Z0 ++ Xd fp s5.heap) σ7 H7 s7→N σ7 H7→∃ m,m < n∧∃ i σ' H',Inv X Z0 σ' H' s7∧tn i s7.heap∧(∀ b ∈ fp,H' b = none)∧W i m σ' H':=fun {σ7 H7} I7 n7=>by
   obtain ⟨m',hm,w7⟩:=hN σ7 H7 n7
   refine ⟨m',hm,i + 1,σ7,H7,I7.unpinned,T.keep _ _ _ st5 fun b hb o e=>(I7.pin (b,o) (List.mem_append_right _ (List.mem_append_right _ (Yh hb e)))).1,fun b hb=>?_,w7⟩
   obtain ⟨o,e,d⟩:=T.obj _ _ st5 b hb
   exact (I7.pin (b,o) (List.mem_append_right _ (List.mem_append_right _ (Yh hb e)))).2.1
  cases f with
  | next=>obtain ⟨σ7,H7,I7,n7⟩:=q7; exact again I7 n7
  | cont=>obtain ⟨σ7,H7,I7,n7⟩:=q7; exact again I7 n7
  | brk=>obtain ⟨σ7,H7,I7,q7⟩:=q7; exact ⟨σ7,H7,I7.unpinned,q7⟩
  | ret v=>obtain ⟨x7,σ7,H7,I7,r7,q7⟩:=q7; exact ⟨x7,σ7,H7,I7.unpinned,r7,q7⟩
end
theorem W9 {lo:Int} {n:Nat} {g:TG} {tb:TS} {D:Ends} {σ:St} {H:Hp} (Pv:Nat→St→Hp→Prop) (h0:Pv 0 σ H)
  (hs:∀ i σ H,i < n→Pv i σ H→g (.int (lo + i)) σ H fun σ2 H2=>tb { D with nx:=Pv (i + 1),ct:=Pv (i + 1),bk:=D.nx } σ2 H2) (hd:∀ σ H,Pv n σ H→D.nx σ H) :
  ∃ W:Nat→Nat→St→Hp→Prop,(∃ m,W 0 m σ H)∧∀ i m σ H,W i m σ H →
   ((Z1t lo n).stop i H∧D.nx σ H) ∨ ((Z1t lo n).go i H∧∃ N:St→Hp→Prop,(∀ σ' H',N σ' H'→∃ m',m' < m∧W (i + 1) m' σ' H')∧∀ x H',(Z1t lo n).yld i H x H'→g x σ H' fun σ2 H2=>tb { D with nx:=N,ct:=N,bk:=D.nx } σ2 H2):=by
 refine ⟨fun i m σ H=>m = n - i∧i ≤ n∧Pv i σ H,⟨n,by simp,Nat.zero_le _,h0⟩,?_⟩
 rintro i m σ H ⟨rfl,hi,p⟩
 by_cases hlt:i < n
 ·refine .inr ⟨hlt,Pv (i + 1),fun σ' H' p'=>⟨n - (i + 1),by omega,rfl,hlt,p'⟩,fun x H' y=>?_⟩
  obtain ⟨e,y⟩:=y
  subst e y
  exact hs i σ _ hlt p
 ·have e:i = n:=by omega
  subst e
  exact .inl ⟨Nat.le_refl _,hd σ H p⟩
abbrev R2:=V→V→Hp→VK→Prop
def Ui (X:Cx) (f:Value→Value→Sem Value) (r:R2):Prop :=
 ∀ (Z0:List (Addr × Obj)) (s:Shared) (σ:St) (H:Hp) (x y:V) (v u:Value) (Q:VK),Inv X Z0 σ H s→RelV x v→RelV y u→r x y H Q →
  wpAny (model X.prog X.w) X.A (f v u) (EP X Z0 σ Q) X.xe s
def Z3j (X:Cx) (f:Value→Sem Value) (r:V→Hp→VK→Prop):Prop :=
 ∀ (Z0:List (Addr × Obj)) (s:Shared) (σ:St) (H:Hp) (x:V) (v:Value) (Q:VK),Inv X Z0 σ H s→RelV x v→r x H Q →
  wpAny (model X.prog X.w) X.A (f v) (EP X Z0 σ Q) X.xe s
def Yi (X:Cx) (f:Value) (r:List V→Hp→VK→Prop):Prop :=
 ∀ (Z0:List (Addr × Obj)) (s:Shared) (σ:St) (H:Hp) (xs:List V) (us:List Value) (Q:VK),Inv X Z0 σ H s→Vals xs us→r xs H Q →
  wpAny (model X.prog X.w) X.A (call f us) (EP X Z0 σ Q) X.xe s
def Z2p (r:R2) (ta tb:TE):TE:=fun σ H Q=>ta σ H fun x H1=>tb σ H1 fun y H2=>r x y H2 Q
def Z3w (r:V→Hp→VK→Prop) (ta:TE):TE:=fun σ H Q=>ta σ H fun x H1=>r x H1 Q
def rI (C:Int→Int→Prop) (g:Int→Int→V):R2:=fun x y H Q=>∃ i j,x = .int i∧y = .int j∧C i j∧Q (g i j) H
def Z2q (g:Int→Int→V):R2:=fun x y H Q=>∃ i j,x = .int i∧y = .int j∧Q (g i j) H
def rU (g:Int→V):V→Hp→VK→Prop:=fun x H Q=>∃ i,x = .int i∧Q (g i) H
section
variable {X:Cx} {a b c:Expr} {ta tb tc:TE} {pos:Pos}
theorem Z1n (ha:PE X a ta) (hb:PE X b tb) {Z0:List (Addr × Obj)} {s:Shared} {σ:St} {H:Hp} {R:V→V→Hp→Prop} (I:Inv X Z0 σ H s)
  (h:ta σ H fun x H1=>tb σ H1 fun y H2=>R x y H2) {Q:Value→Shared→Prop} {f:Value→Value→Sem Value}
  (hf:∀ v u s2 x y H2,Inv X Z0 σ H2 s2→RelV x v→RelV y u→R x y H2→wpAny (model X.prog X.w) X.A (f v u) Q X.xe s2) :
  wpAny (model X.prog X.w) X.A (eval a X.env) (fun v s₁=>wpAny (model X.prog X.w) X.A (eval b X.env) (fun u s₂=>wpAny (model X.prog X.w) X.A (f v u) Q X.xe s₂) X.xe s₁) X.xe s:=by
 refine Yb (ha Z0 s σ H _ I h) fun v s1 ⟨x,H1,I1,r1,q1⟩=>?_
 refine Yb (hb Z0 s1 σ H1 _ I1 q1) fun u s2 ⟨y,H2,I2,r2,q2⟩=>?_
 exact hf v u s2 x y H2 I2 r1 r2 q2
theorem Zo {op:Operator} {r:R2} (ho:Ui X (binaryOp op) r) (ha:PE X a ta) (hb:PE X b tb):PE X (.BinOp a op b pos) (Z2p r ta tb):=by
 intro Z0 s σ H Q I h
 exact wpAny_BinOp (Z1n ha hb I h fun v u s2 x y H2 I2 rx ry q=>ho Z0 s2 σ H2 x y v u Q I2 rx ry q)
theorem Z27 {op:UnaryOp} {r:V→Hp→VK→Prop} (ho:Z3j X (unaryOp op) r) (ha:PE X a ta):PE X (.UnaryOp op a pos) (Z3w r ta):=by
 intro Z0 s σ H Q I h
 exact UnaryOp_ (Yb (ha Z0 s σ H _ I h) fun v s1 ⟨x,H1,I1,r1,q1⟩=>ho Z0 s1 σ H1 x v Q I1 r1 q1)
theorem Z3p {f:Value→Value→Sem Value} {C:Int→Int→Prop} {g:Int→Int→Int}
  (rule:∀ (i j:Int) (t u:Tok) (s:Shared) (Q:Value→Shared→Prop) (E:Value→Shared→Prop),C i j→Q (.int (g i j) s.toks) { s with toks:=s.toks + 1 }→wpAny (model X.prog X.w) X.A (f (.int i t) (.int j u)) Q E s) :
  Ui X f (rI C fun i j=>.int (g i j)):=by
 intro Z0 s σ H x y v u Q I rx ry h
 obtain ⟨i,j,rfl,rfl,hc,q⟩:=h
 obtain ⟨t,rfl⟩:=rx
 obtain ⟨t',rfl⟩:=ry
 exact rule i j t t' s _ _ hc ⟨.int (g i j),H,I.tok _,⟨_,rfl⟩,q⟩
theorem Z2l {f:Value→Value→Sem Value} {g:Int→Int→Int}
  (rule:∀ (i j:Int) (t u:Tok) (s:Shared) (Q:Value→Shared→Prop) (E:Value→Shared→Prop),Q (.int (g i j) s.toks) { s with toks:=s.toks + 1 }→wpAny (model X.prog X.w) X.A (f (.int i t) (.int j u)) Q E s) :
  Ui X f (Z2q fun i j=>.int (g i j)):=by
 intro Z0 s σ H x y v u Q I rx ry h
 obtain ⟨i,j,rfl,rfl,q⟩:=h
 obtain ⟨t,rfl⟩:=rx
 obtain ⟨t',rfl⟩:=ry
 exact rule i j t t' s _ _ ⟨.int (g i j),H,I.tok _,⟨_,rfl⟩,q⟩
theorem Z2m {f:Value→Value→Sem Value} {g:Int→Int→Bool}
  (rule:∀ (i j:Int) (t u:Tok) (s:Shared) (Q:Value→Shared→Prop) (E:Value→Shared→Prop),Q (.bool (g i j)) s→wpAny (model X.prog X.w) X.A (f (.int i t) (.int j u)) Q E s) :
  Ui X f (Z2q fun i j=>.bl (g i j)):=by
 intro Z0 s σ H x y v u Q I rx ry h
 obtain ⟨i,j,rfl,rfl,q⟩:=h
 obtain ⟨t,rfl⟩:=rx
 obtain ⟨t',rfl⟩:=ry
 exact rule i j t t' s _ _ ⟨.bl (g i j),H,I,rfl,q⟩
def Z3g (i j:Int):Prop:=0 < j∧j < 1073741824
theorem Yr:Ui X (binaryOp .Add) (Z2q fun i j=>.int (i + j)):=Z2l fun _ _ _ _ _ _ _ q=>add_int q
theorem Ty:Ui X (binaryOp .Sub) (Z2q fun i j=>.int (i - j)):=Z2l fun _ _ _ _ _ _ _ q=>sub_int q
theorem Jt:Ui X (binaryOp .FloorDiv) (rI Z3g fun i j=>.int (i / j)):=Z3p fun i j _ _ _ _ _ hc q=>by
 have h1:(0:Int) < j:=hc.1
 have h2:j < 1073741824:=hc.2
 exact floordiv_int (by omega) (by rw [Int.fdiv_eq_ediv_of_nonneg i (by omega)]; exact q) (.inl (PyProof.noPylong_small (by omega)))
theorem Tz:Ui X (binaryOp .Mod) (rI (fun _ j=>0 < j) fun i j=>.int (i % j)):=Z3p fun i j _ _ _ _ _ hc q=>by
 have h1:(0:Int) < j:=hc
 exact mod_int' (by omega) (by rw [Int.fmod_eq_emod_of_nonneg i (by omega)]; exact q)
theorem Z3v {f:Value→Sem Value} {g:Int→Int}
  (rule:∀ (i:Int) (t:Tok) (s:Shared) (Q:Value→Shared→Prop) (E:Value→Shared→Prop),Q (.int (g i) s.toks) { s with toks:=s.toks + 1 }→wpAny (model X.prog X.w) X.A (f (.int i t)) Q E s) :
  Z3j X f (rU fun i=>.int (g i)):=by
 intro Z0 s σ H x v Q I rx h
 obtain ⟨i,rfl,q⟩:=h
 obtain ⟨t,rfl⟩:=rx
 exact rule i t s _ _ ⟨.int (g i),H,I.tok _,⟨_,rfl⟩,q⟩
theorem Z0n:Z3j X (unaryOp .USub) (rU fun i=>.int (-i)):=Z3v fun _ _ _ _ _ q=>neg_int q
end
def Z2j:V→V→Bool
 | .non,.non=>true | .non,.int _=>true | .int _,.non=>true | .non,.bl _=>true | .bl _,.non=>true | .non,.str _=>true | .str _,.non=>true
 | .int _,.int _=>true | .bl _,.bl _=>true | .str _,.str _=>true | .byt _,.byt _=>true
 | .int _,.str _=>true | .str _,.int _=>true | .bl _,.str _=>true | .str _,.bl _=>true
 | _,_=>false
def Z42:R2:=fun x y H Q=>Z2j x y = true∧Q (.bl (decide (x = y))) H
def Z41:R2:=fun x y H Q=>Z2j x y = true∧Q (.bl (!decide (x = y))) H
theorem Uf {i j:Int}:decide (V.int i = V.int j) = (i == j):=by
 rw [Bool.eq_iff_iff]
 simp
theorem J7 {i j:Bool}:decide (V.bl i = V.bl j) = (i == j):=by
 rw [Bool.eq_iff_iff]
 simp
theorem Ue {i j:Str}:decide (V.str i = V.str j) = (i == j):=by
 rw [Bool.eq_iff_iff]
 simp
theorem Ug {i j:Array UInt8}:decide (V.byt i = V.byt j) = (i.toList == j.toList):=by
 rw [Bool.eq_iff_iff]
 cases i
 cases j
 simp
section
variable {X:Cx} {a b c:Expr} {ta tb tc:TE} {pos:Pos}
theorem Zc {Z0:List (Addr × Obj)} {σ:St} {H:Hp} {s:Shared} {Q:VK} {k k':Bool} (I:Inv X Z0 σ H s) (q:Q (.bl k) H) (e:k = k'):EP X Z0 σ Q (.bool k') s:=by
 subst e
 exact ⟨.bl k,H,I,rfl,q⟩
theorem Ya:Ui X (compareOp .Eq) Z42:=by
 intro Z0 s σ H x y v u Q I rx ry h
 obtain ⟨hs,q⟩:=h
 cases x with
 | non =>
  cases rx
  cases y with
  | non=>cases ry; exact PySem.EqNone.eq_none_none (Zc I q (by simp))
  | bl j=>cases ry; exact PySem.EqNone.eq_none_bool (Zc I q (by simp))
  | int j=>obtain ⟨t',rfl⟩:=ry; exact PySem.EqNone.eq_none_int (Zc I q (by simp))
  | str j=>obtain ⟨t',rfl⟩:=ry; exact PySem.EqNone.eq_none_str (Zc I q (by simp))
  | _=>exact absurd (show false = true from hs) Bool.false_ne_true
 | bl i =>
  cases rx
  cases y with
  | non=>cases ry; exact PySem.EqNone.eq_bool_none (Zc I q (by simp))
  | bl j=>cases ry; exact eq_bool (Zc I q J7)
  | str j=>obtain ⟨t',rfl⟩:=ry; exact PySem.EqMixed.eq_bool_str (Zc I q (by simp))
  | _=>exact absurd (show false = true from hs) Bool.false_ne_true
 | int i =>
  obtain ⟨t,rfl⟩:=rx
  cases y with
  | non=>cases ry; exact PySem.EqNone.eq_int_none (Zc I q (by simp))
  | int j=>obtain ⟨t',rfl⟩:=ry; exact eq_int (Zc I q Uf)
  | str j=>obtain ⟨t',rfl⟩:=ry; exact PySem.EqMixed.eq_int_str (Zc I q (by simp))
  | _=>exact absurd (show false = true from hs) Bool.false_ne_true
 | str i =>
  obtain ⟨t,rfl⟩:=rx
  cases y with
  | non=>cases ry; exact PySem.EqNone.eq_str_none (Zc I q (by simp))
  | bl j=>cases ry; exact PySem.EqMixed.eq_str_bool (Zc I q (by simp))
  | int j=>obtain ⟨t',rfl⟩:=ry; exact PySem.EqMixed.eq_str_int (Zc I q (by simp))
  | str j=>obtain ⟨t',rfl⟩:=ry; exact eq_str (Zc I q Ue)
  | _=>exact absurd (show false = true from hs) Bool.false_ne_true
 | byt i =>
  obtain ⟨t,rfl⟩:=rx
  cases y with
  | byt j=>obtain ⟨t',rfl⟩:=ry; exact PySem.W.eq_bytes (Zc I q Ug)
  | _=>exact absurd (show false = true from hs) Bool.false_ne_true
 | _=>cases y <;> exact absurd (show false = true from hs) Bool.false_ne_true
theorem Z0f:Ui X (compareOp .NotEq) Z41:=by
 intro Z0 s σ H x y v u Q I rx ry h
 obtain ⟨hs,q⟩:=h
 cases x with
 | non =>
  cases rx
  cases y with
  | non=>cases ry; exact PySem.EqNone.ne_none_none (Zc I q (by simp))
  | bl j=>cases ry; exact PySem.EqNone.ne_none_bool (Zc I q (by simp))
  | int j=>obtain ⟨t',rfl⟩:=ry; exact PySem.EqNone.ne_none_int (Zc I q (by simp))
  | str j=>obtain ⟨t',rfl⟩:=ry; exact PySem.EqNone.ne_none_str (Zc I q (by simp))
  | _=>exact absurd (show false = true from hs) Bool.false_ne_true
 | bl i =>
  cases rx
  cases y with
  | non=>cases ry; exact PySem.EqNone.ne_bool_none (Zc I q (by simp))
  | bl j=>cases ry; exact ne_bool (Zc I q (congrArg not J7))
  | str j=>obtain ⟨t',rfl⟩:=ry; exact PySem.EqMixed.ne_bool_str (Zc I q (by simp))
  | _=>exact absurd (show false = true from hs) Bool.false_ne_true
 | int i =>
  obtain ⟨t,rfl⟩:=rx
  cases y with
  | non=>cases ry; exact PySem.EqNone.ne_int_none (Zc I q (by simp))
  | int j=>obtain ⟨t',rfl⟩:=ry; exact ne_int (Zc I q (congrArg not Uf))
  | str j=>obtain ⟨t',rfl⟩:=ry; exact PySem.EqMixed.ne_int_str (Zc I q (by simp))
  | _=>exact absurd (show false = true from hs) Bool.false_ne_true
 | str i =>
  obtain ⟨t,rfl⟩:=rx
  cases y with
  | non=>cases ry; exact PySem.EqNone.ne_str_none (Zc I q (by simp))
  | bl j=>cases ry; exact PySem.EqMixed.ne_str_bool (Zc I q (by simp))
  | int j=>obtain ⟨t',rfl⟩:=ry; exact PySem.EqMixed.ne_str_int (Zc I q (by simp))
  | str j=>obtain ⟨t',rfl⟩:=ry; exact ne_str (Zc I q (congrArg not Ue))
  | _=>exact absurd (show false = true from hs) Bool.false_ne_true
 | byt i =>
  obtain ⟨t,rfl⟩:=rx
  cases y with
  | byt j=>obtain ⟨t',rfl⟩:=ry; exact PySem.W.ne_bytes (Zc I q (congrArg not Ug))
  | _=>exact absurd (show false = true from hs) Bool.false_ne_true
 | _=>cases y <;> exact absurd (show false = true from hs) Bool.false_ne_true
theorem Jc:Ui X (compareOp .Lt) (Z2q fun i j=>.bl (decide (i < j))):=Z2m fun _ _ _ _ _ _ _ q=>lt_int q
theorem Z2a:Ui X (compareOp .Gt) (Z2q fun i j=>.bl (decide (j < i))):=Z2m fun _ _ _ _ _ _ _ q=>gt_int q
theorem Uy:Ui X (compareOp .In) (fun x y H Q=>∃ i j,x = .str i∧y = .str j∧Q (.bl (!(Builtin.Str.occurrences j i 0 j.length 1).isEmpty)) H):=by
 intro Z0 s σ H x y v u Q I rx ry h
 obtain ⟨i,j,rfl,rfl,q⟩:=h
 obtain ⟨t,rfl⟩:=rx
 obtain ⟨t',rfl⟩:=ry
 exact in_str (Zc I q rfl)
theorem Wi:Ui X (compareOp .NotIn) (fun x y H Q=>∃ i j,x = .str i∧y = .str j∧Q (.bl (!(!(Builtin.Str.occurrences j i 0 j.length 1).isEmpty))) H):=by
 intro Z0 s σ H x y v u Q I rx ry h
 obtain ⟨i,j,rfl,rfl,q⟩:=h
 obtain ⟨t,rfl⟩:=rx
 obtain ⟨t',rfl⟩:=ry
 exact notIn_str (Zc I q rfl)
theorem Zk (b:Expr) {op:CmpOp} (h:op ≠ .In:=by decide) (h2:op ≠ .NotIn:=by decide):behindInMarks op b = false:=by
 have e1:(op == CmpOp.In) = false:=by cases op <;> first | rfl | exact absurd rfl h
 have e2:(op == CmpOp.NotIn) = false:=by cases op <;> first | rfl | exact absurd rfl h2
 cases b <;> simp [behindInMarks,e1,e2]
theorem Jq {op:CmpOp} {r:R2} (ho:Ui X (compareOp op) r) (ha:PE X a ta) (hb:PE X b tb) (hm:behindInMarks op b = false):PE X (.Compare a [op] [b] pos) (Z2p r ta tb):=by
 intro Z0 s σ H Q I h
 exact wpAny_Compare1 (Z1n ha hb I h fun v u s2 x y H2 I2 rx ry q=>ho Z0 s2 σ H2 x y v u Q I2 rx ry q) hm
def Z1w (t:TE):TT:=fun σ H Q=>t σ H fun x H'=>∃ k,x = .bl k∧Q k H'
theorem Zd {op:CmpOp} {r:R2} (ho:Ui X (compareOp op) r) (ha:PE X a ta) (hb:PE X b tb) (hm:behindInMarks op b = false):PT X (.Compare a [op] [b] pos) (Z1w (Z2p r ta tb)):=by
 intro Z0 s σ H Q I h
 refine wpAny_isTrue_Compare1 (Yb (ha Z0 s σ H _ I h) fun v s1 ⟨x,H1,I1,r1,q1⟩=>Yb (hb Z0 s1 σ H1 _ I1 q1) fun u s2 ⟨y,H2,I2,r2,q2⟩ =>
  Yb (ho Z0 s2 σ H2 x y v u _ I2 r1 r2 q2) fun c s3 ⟨z,H3,I3,r3,k,e,q3⟩=>?_) hm
 subst e
 cases r3
 exact wpAny_truthy_bool ⟨H3,I3,q3⟩
theorem Xe:(sizeLine:Nat) < 2 ^ 63:=by rw [sizeLine_eq]; decide
theorem Zg:Ui X (binaryOp .Add) (fun x y H Q=>∃ i j,x = .str i∧y = .str j∧i.length + j.length ≤ sizeLine∧Q (.str (i ++ j)) H):=by
 intro Z0 s σ H x y v u Q I rx ry h
 obtain ⟨i,j,rfl,rfl,hz,q⟩:=h
 obtain ⟨t,rfl⟩:=rx
 obtain ⟨t',rfl⟩:=ry
 exact add_str (fun t' tk=>⟨.str (i ++ j),H,I.tok _,⟨_,rfl⟩,q⟩) hz
theorem Wl {x:V} {us:List Value} (r:Vals [x] us):∃ u,us = [u]∧RelV x u:=by
 cases r with
 | cons r1 r2=>cases r2; exact ⟨_,rfl,r1⟩
theorem Uj {x y:V} {us:List Value} (r:Vals [x,y] us):∃ u w',us = [u,w']∧RelV x u∧RelV y w':=by
 cases r with
 | cons r1 r2 =>
  cases r2 with
  | cons r3 r4=>cases r4; exact ⟨_,_,rfl,r1,r3⟩
theorem T8 (hc:X.calm = true):Yi X (.builtin "max") (fun xs H Q=>∃ i j,xs = [.int i,.int j]∧Q (.int (if j > i then j else i)) H):=by
 intro Z0 s σ H xs us Q I r h
 obtain ⟨i,j,rfl,q⟩:=h
 obtain ⟨u,w',rfl,⟨t,rfl⟩,⟨t',rfl⟩⟩:=Uj r
 refine max_two_ints (I.ok.hd hc) fun h' tk k=>⟨_,H,I.kept k,?_,q⟩
 by_cases hj:j > i
 ·rw [if_pos hj,if_pos hj]; exact ⟨_,rfl⟩
 ·rw [if_neg hj,if_neg hj]; exact ⟨_,rfl⟩
theorem T7 (hc:X.calm = true):Yi X (.builtin "min") (fun xs H Q=>∃ i j,xs = [.int i,.int j]∧Q (.int (if j < i then j else i)) H):=by
 intro Z0 s σ H xs us Q I r h
 obtain ⟨i,j,rfl,q⟩:=h
 obtain ⟨u,w',rfl,⟨t,rfl⟩,⟨t',rfl⟩⟩:=Uj r
 refine min_two_ints (I.ok.hd hc) fun h' tk k=>⟨_,H,I.kept k,?_,q⟩
 by_cases hj:j < i
 ·rw [if_pos hj,if_pos hj]; exact ⟨_,rfl⟩
 ·rw [if_neg hj,if_neg hj]; exact ⟨_,rfl⟩
theorem Wj:Yi X (.type "str") (fun xs H Q=>∃ i,xs = [.int i]∧i.natAbs.log2 < 1920∧Q (.str (toString i)) H):=by
 intro Z0 s σ H xs us Q I r h
 obtain ⟨i,rfl,hz,q⟩:=h
 obtain ⟨u,rfl,t,rfl⟩:=Wl r
 exact PySem.P.str_of_int hz ⟨.str _,H,I.tok _,⟨_,rfl⟩,q⟩
end
structure ObjM (h:Heap) (x dx C:Addr) (mA:Str→Option Value):Prop where
 obj:h.get? x = some (PySem.W.instObj C dx)
 ns:h.Ns1 dx mA
 ne:dx ≠ x
theorem T0 {h:Heap} {dx:Addr} {mA:Str→Option Value} (n:h.Ns1 dx mA):∃ od,h.get? dx = some od∧∀ name,PySem.W.lookIn name od = some (mA name):=by
 obtain ⟨o,es,ep,ho,hd,hk,_,hm⟩:=n
 refine ⟨o,ho,fun name=>?_⟩
 have e:=hm name
 unfold nsFind findBy at e
 rw [← Array.find?_toList] at e
 unfold PySem.W.lookIn
 rw [hd]
 dsimp only
 split
 ·rename_i y q
  rw [q] at e
  exact congrArg some e
 ·rename_i q
  rw [q] at e
  have a:es.toList.any (·.refKey) = false:=by
   rw [List.any_eq_false]
   intro y hy
   obtain ⟨z,t,hkey⟩:=hk y (Array.mem_toList_iff.mp hy)
   simp [DictEntry.refKey,hkey]
  have a':¬ es.toList.any (·.refKey) = true:=by rw [a]; exact Bool.false_ne_true
  rw [if_neg a']
  exact congrArg some e
theorem ObjM.look {h:Heap} {x dx C:Addr} {mA:Str→Option Value} (I:ObjM h x dx C mA):∃ od,PySem.W.InstAt h x (PySem.W.instObj C dx) C (some od)∧∀ name,PySem.W.lookIn name od = some (mA name) :=
 let ⟨od,ho,hl⟩:=T0 I.ns
 ⟨od,⟨I.obj,rfl,rfl,ho⟩,hl⟩
section
variable {prog:Program} {w:World} {A:Around} {E:Value→Shared→Prop} {s:Shared} {K:PySem.W.Frag} {x dx C f:Addr} {mA:Str→Option Value} {name:Str} {v:Value}
end
section
variable {P:Program} {w:World} {H H':Hp} {h h':Heap} {a C dx:Addr} {fs fs':List (Str × V)}
theorem Z03 (hok:HOk P w H h) (e:H a = some (.ins C dx fs)):∃ mA,ObjM h a dx C mA∧(∀ f,Z1p (fs.lookup f) (mA f))∧PySem.Within mA (fs.map (·.1))∧fs.length ≤ 1000∧H dx = some (.own a):=by
 obtain ⟨d,z,ne,ob,mA,n,r,q⟩:=(show ObjOk P w H h a (.ins C dx fs) from hok a _ e)
 exact ⟨mA,⟨ob,n,ne⟩,r,q,z,d⟩
end
structure Cls (K:PySem.W.Frag) (C:Addr):Prop where
 pg:PySem.W.plainGet K C Str.empty = true
 hd:PySem.W.hasDictIn K C = true
 po:PySem.W.plainOver K C = true
 sa:PySem.W.findIn K (.ref C) "__setattr__" = some (some (.builtin "object.__setattr__"))
theorem Cls.get {K:PySem.W.Frag} {C:Addr} (c:Cls K C) (f:Str):PySem.W.plainGet K C f = true:=c.pg
section
variable {X:Cx} {Z0:List (Addr × Obj)} {σ:St} {H:Hp} {s:Shared} {a C dx:Addr} {fs:List (Str × V)} {f:Str} {v:V} {A:Around} {E:Value→Shared→Prop}
end
section
variable {X:Cx} {o e value:Expr} {f:Str} {pos pos' tpos:Pos} {ta tv:TE}
end
section
variable {X:Cx} {Z0:List (Addr × Obj)} {σ:St} {H:Hp} {s:Shared} {A:Around} {E:Value→Shared→Prop} {Q:Value→Shared→Prop} {c:Value} {b:Bool}
inductive TyOf (K:PySem.W.Frag) (H:Hp):V→Value→Prop where
 | non:TyOf K H .non (.type "NoneType")
 | bl (x:Bool):TyOf K H (.bl x) (.type "bool")
 | int (i:Int):TyOf K H (.int i) (.type "int")
 | str (x:Str):TyOf K H (.str x) (.type "str")
 | flt (x:UInt64):TyOf K H (.flt x) (.type "float")
 | lst {a:Addr} {xs:List V} (e:H a = some (.lst xs)):TyOf K H (.ref a) (.type "list")
 | frz {a:Addr} {o:Obj} {xs:List V} (e:H a = some (.frz o (.lst xs))):TyOf K H (.ref a) (.type "list")
 | tup {a:Addr} {xs:List V} (e:H a = some (.tup xs)):TyOf K H (.ref a) (.type "tuple")
 | dK {a:Addr} {kvs:List (Vf × V)} (e:H a = some (.dK kvs)):TyOf K H (.ref a) (.type "dict")
 | dT {a:Addr} {kvs:List (List Vf × V)} (e:H a = some (.dT kvs)):TyOf K H (.ref a) (.type "dict")
 | ins {a C dx:Addr} {fs:List (Str × V)} (e:H a = some (.ins C dx fs)) (cl:Cls K C) (ha:PySem.W.findIn K (.ref C) "__class__" = some (some (.builtin "object.__class__")))
   (hn:PySem.W.specialIn K (.builtin "object.__class__") "__get__" = some (some (.builtin "getset_descriptor.__get__"))) (htk:PySem.W.takesIn K (.builtin "object.__class__") = some true)
   (hm:PySem.W.mroIn K C (.type "object") = some true):TyOf K H (.ref a) (.ref C)
theorem T1 {x:V} {u t:Value} (I:Inv X Z0 σ H s) (rx:RelV x u) (ty:TyOf X.K H x t) (e:PySem.W.kitOne X.K t c = some b) (h:∀ tk,Q (.bool b) { s with toks:=tk }) :
  wpAny (model X.prog X.w) A (call (.builtin "isinstance") [u,c]) Q E s:=by
 cases ty with
 | non=>cases (show u = Value.none from rx); exact PySem.W.kia_one PySem.W.kitx_none I.kIn True.intro e (fun z=>nomatch z) h
 | bl y=>cases (show u = Value.bool y from rx); exact PySem.W.kia_one PySem.W.kitx_bool I.kIn True.intro e (fun z=>nomatch z) h
 | int i=>obtain ⟨t,q⟩:=(show ∃ t,u = Value.int i t from rx); cases q; exact PySem.W.kia_one PySem.W.kitx_int I.kIn True.intro e (fun z=>nomatch z) h
 | str y=>obtain ⟨t,q⟩:=(show ∃ t,u = Value.str y t from rx); cases q; exact PySem.W.kia_one PySem.W.kitx_str I.kIn True.intro e (fun z=>nomatch z) h
 | flt y=>obtain ⟨t,q⟩:=(show ∃ t,u = Value.float y t from rx); cases q; exact PySem.W.kia_one PySem.W.kitx_float I.kIn True.intro e (fun z=>nomatch z) h
 | @lst a xs ea =>
  cases (show u = Value.ref a from rx)
  obtain ⟨_,_,n,_,h1⟩:=(show ObjOk X.prog X.w H s.heap a (.lst xs) from I.hok a _ ea)
  exact PySem.W.kia_one PySem.W.kitx_list I.kIn ⟨_,h1,rfl⟩ e (fun z=>nomatch z) h
 | @frz a ob xs ea =>
  cases (show u = Value.ref a from rx)
  obtain ⟨_,_,_,n,_,h1⟩:=(show ObjOk X.prog X.w H s.heap a (.frz ob (.lst xs)) from I.hok a _ ea)
  exact PySem.W.kia_one PySem.W.kitx_list I.kIn ⟨_,h1,rfl⟩ e (fun z=>nomatch z) h
 | @tup a xs ea =>
  cases (show u = Value.ref a from rx)
  obtain ⟨_,_,_,p⟩:=(show ObjOk X.prog X.w H s.heap a (.tup xs) from I.hok a _ ea)
  obtain ⟨o,h1,h2,_⟩:=p
  exact PySem.W.kia_one PySem.W.kitx_tuple I.kIn ⟨o,h1,h2⟩ e (fun z=>nomatch z) h
 | @dK a kvs ea =>
  cases (show u = Value.ref a from rx)
  obtain ⟨_,_,vs,_,p⟩:=(show ObjOk X.prog X.w H s.heap a (.dK kvs) from I.hok a _ ea)
  obtain ⟨o,es,ep,h1,h2,_⟩:=p
  exact PySem.W.kia_one PySem.W.kitx_dict I.kIn ⟨o,h1,h2.1⟩ e (fun z=>nomatch z) h
 | @dT a kvs ea =>
  cases (show u = Value.ref a from rx)
  obtain ⟨_,_,xs,_,o,es,ep,h1,h2,_⟩:=(show ObjOk X.prog X.w H s.heap a (.dT kvs) from I.hok a _ ea)
  exact PySem.W.kia_one PySem.W.kitx_dict I.kIn ⟨o,h1,h2.1⟩ e (fun z=>nomatch z) h
 | @ins a C dx fs ea cl ha hn htk hm =>
  cases (show u = Value.ref a from rx)
  obtain ⟨mA,O,_⟩:=Z03 I.hok ea
  obtain ⟨od,J,_⟩:=O.look
  exact PySem.W.kia_one (PySem.W.kitx_own (cl.get _) cl.hd ha hn htk hm) I.kIn J e (fun z=>nomatch z) h
end
structure Room (k:Nat) (A:Around):Prop where
 hd:A.handled = none
 dp:A.depth + 3 * k + 5 < recursionLimit
 un:A.units + 16 * k + 200 < cLine
theorem Room.mono {j k:Nat} {A:Around} (r:Room k A) (h:j ≤ k):Room j A:=⟨r.hd,by have:=r.dp; omega,by have:=r.un; omega⟩
theorem Room.deeper {k:Nat} {A:Around} (r:Room (k + 1) A) (env:Env):Room k (A.deeper env) :=
 ⟨r.hd,by have:=r.dp; show A.depth + 1 + 3 * k + 5 < _; omega,by have:=r.un; show A.units + 3 + 16 * k + 200 < _; omega⟩
theorem Room.depth {k:Nat} {A:Around} (r:Room k A):A.depth < recursionLimit:=by have:=r.dp; omega
theorem Room.units0 {k:Nat} {A:Around} (r:Room k A):A.units < cLine:=by have:=r.un; omega
def Z34:TA:=fun _ H Q=>Q [] H
def Z21 (ta:TE) (tr:TA):TA:=fun σ H Q=>ta σ H fun x H1=>tr σ H1 fun xs H2=>Q (x :: xs) H2
section
variable {X:Cx} {e:Expr} {es:List Expr} {te:TE} {t:TA} {pos:Pos}
theorem Z3:PA X [] Z34:=fun _ _ _ _ H Q I h=>Calls.spliced_nil ⟨[],H,I,.nil,h⟩
theorem Z1 (ha:PE X e te) (hr:PA X es t) (hs:starEach (e :: es) X.env = (false,eval e X.env) :: starEach es X.env:=by rfl):PA X (e :: es) (Z21 te t):=by
 intro pos Z0 s σ H Q I h
 rw [hs]
 show wpAny _ _ (spliced ((false,eval e X.env) :: backTo pos (starEach es X.env))) _ _ s
 refine Calls.spliced_cons (Yb (ha Z0 s σ H _ I h) fun u s1 ⟨x,H1,I1,r1,q1⟩=>?_)
 exact Yb (hr pos Z0 s1 σ H1 _ I1 q1) fun us s2 ⟨xs,H2,I2,r2,q2⟩=>⟨x :: xs,H2,I2,.cons r1 r2,q2⟩
def Z32 (t:TA):TE:=fun σ H Q=>t σ H fun xs H1=>xs.length ≤ sizeLine∧∀ p,H1 p = none→Q (.ref p) (Zy H1 p (.tup xs))
def Z35 (t:TA):TE:=fun σ H Q=>t σ H fun xs H1=>xs.length ≤ sizeLine∧∀ p,H1 p = none→Q (.ref p) (Zy H1 p (.lst xs))
theorem Wz {x1} (h:PA X es t):PE X (.Tuple es x1 pos) (Z32 t):=by
 intro Z0 s σ H Q I hq
 refine wpAny_Tuple_spliced (Yb (h pos Z0 s σ H _ I hq) fun us s1 ⟨xs,H1,I1,r,z,q⟩=>⟨by rw [← r.length]; exact z,?_⟩)
 have hf:H1 s1.heap.objs.size = none:=I1.hok.fresh (Nat.le_refl _)
 refine ⟨.ref s1.heap.objs.size,Zy H1 s1.heap.objs.size (.tup xs),I1.laid (t':=s1.toks) (fun b u e=>Heap.get?_push_of_some _ e) (Nat.le_refl _) ?_,rfl,q _ hf⟩
 exact ⟨z,us,r,⟨_,Heap.get?_push_size _ rfl,rfl,_,rfl⟩⟩
theorem Vy (h:PA X es t):PE X (.List es pos) (Z35 t):=by
 intro Z0 s σ H Q I hq
 refine wpAny_List_spliced (Yb (h pos Z0 s σ H _ I hq) fun us s1 ⟨xs,H1,I1,r,z,q⟩=>⟨by rw [← r.length]; exact z,?_⟩)
 have hf:H1 s1.heap.objs.size = none:=I1.hok.fresh (Nat.le_refl _)
 refine ⟨.ref s1.heap.objs.size,Zy H1 s1.heap.objs.size (.lst xs),I1.laid (t':=s1.toks) (fun b u e=>Heap.get?_push_of_some _ e) (Nat.le_refl _) ?_,rfl,q _ hf⟩
 exact ⟨z,us,0,r,Heap.get?_push_size _ rfl⟩
end
abbrev Sp:=List V→Hp→VK→XK→Prop
abbrev Jh:=List Env→Hp→Shared→XK→Value→Shared→Prop
structure Env0 (P:Program) (w:World) (K:PySem.W.Frag) (mg:Str→Option Value) (base:Heap) (A:Around) (outer:List Env) (s:Shared) (H:Hp):Prop where
 frames:A.frames = some outer
 mod:Mod K mg base
 bs:∀ b o,base.get? b = some o→s.heap.get? b = some o∧H b = none
 bsz:base.objs.size ≤ s.heap.objs.size
 funs:s.heap.FunFrames base outer
 frf:∀ b ∈ Xg outer,H b = none
 hok:HOk P w H s.heap
 bare:AllBare s.gens
def CE (outer:List Env) (P:Program) (w:World) (H:Hp) (s:Shared) (Q:VK) (u:Value) (s':Shared):Prop :=
 ∃ v H',s'.os = s.os∧AllBare s'.gens∧Un (Xg outer) [] H H' s.heap s'.heap∧HOk P w H' s'.heap∧RelV v u∧Q v H'
def CR (CX:Jh) (outer:List Env) (P:Program) (w:World) (H:Hp) (s:Shared) (Q:VK) (E:XK) (r:Result) (s':Shared):Prop :=
 match r with
 | .ok (.ret u)=>CE outer P w H s Q u s'
 | .ok _=>False
 | .error e=>CX outer H s E e s'
structure FnOk (P:Program) (w:World) (K:PySem.W.Frag) (mg:Str→Option Value) (base:Heap) (CX:Jh) (k:Nat) (f:Addr) (fd:FuncData) (ps:List Str) (sp:Sp):Prop where
 len:∀ vs H Q E,sp vs H Q E→vs.length = ps.length
 run:∀ (A:Around) (outer:List Env) (s:Shared) (H:Hp) (args:Args) (us:List Value) (vs:List V) (Q:VK) (E:XK),Room k A→Env0 P w K mg base A outer s H→BindsTo s fd args (ps.zip us)→Vals vs us→sp vs H Q E →
  codeAny (model P w) A (.call (.ref f) args) (CR CX outer P w H s Q E) s
theorem FnOk.mono {P:Program} {w:World} {K:PySem.W.Frag} {mg:Str→Option Value} {base:Heap} {CX:Jh} {j k:Nat} {f:Addr} {fd:FuncData} {ps:List Str} {sp:Sp} (F:FnOk P w K mg base CX j f fd ps sp) (h:j ≤ k) :
  FnOk P w K mg base CX k f fd ps sp:=⟨F.len,fun A outer s H args us vs Q E hr=>F.run A outer s H args us vs Q E (hr.mono h)⟩
section
variable {X:Cx} {Z0:List (Addr × Obj)} {σ:St} {H:Hp} {s s':Shared}
theorem Inv.env0 (I:Inv X Z0 σ H s):Env0 X.prog X.w X.K X.mg X.base X.A X.stack s H :=
 ⟨I.ok.frames,I.ok.mod,I.bs,Nat.le_trans I.ok.bsz I.sz,I.stack,I.stkFree,I.hok,I.bare⟩
theorem Inv.after {Q:VK} {u:Value} (I:Inv X Z0 σ H s) (h:CE X.stack X.prog X.w H s Q u s'):EP X Z0 σ Q u s':=by
 obtain ⟨v,H',os,bare,un,hok,r,q⟩:=h
 obtain ⟨hh,g,d,t,os'⟩:=s'
 obtain rfl:os' = s.os:=os
 exact ⟨v,H',I.call (h':=hh) (g':=g) (d':=d) (t':=t) (ch:=[]) un hok bare (fun b z=>absurd z (by simp)),r,q⟩
end
def J9 (sp:Sp) (dvs:List V) (E:XK) (t:TA):TE:=fun σ H Q=>t σ H fun vs H1=>sp (vs ++ dvs) H1 Q E
def Binds (K:PySem.W.Frag) (fd:FuncData) (ps:List Str) (ds:List Value):Prop :=
 ∀ (s:Shared) (us:List Value),K.In s.heap→(us ++ ds).length = ps.length→BindsTo s fd ⟨us,[]⟩ (ps.zip (us ++ ds))
theorem Binds.all {K:PySem.W.Frag} {fd:FuncData} {ps:List Str} (h:∀ us:List Value,us.length = ps.length→bindArgs fd ⟨us,[]⟩ = pure (ps.zip us)):Binds K fd ps []:=fun s us _ hl=>by
 rw [List.append_nil] at hl ⊢
 exact .of_eq (h us hl)
def Yv (CX:Jh) (X:Cx) (E:XK):Prop:=∀ (Z0:List (Addr × Obj)) (σ:St) (H:Hp) (s:Shared) (e:Value) (s':Shared),Inv X Z0 σ H s→CX X.stack H s E e s'→X.xe e s'
section
variable {X:Cx} {CX:Jh} {k:Nat} {f C:Addr} {fd:FuncData} {ps:List Str} {sp:Sp} {dvs:List V} {ds:List Value} {E:XK} {x m:Str} {p pos apos:Pos} {e o:Expr} {es:List Expr} {ta:TE} {t:TA}
theorem Z0r {Z0:List (Addr × Obj)} {σ:St} {H:Hp} {s:Shared} {Q:VK} {us:List Value} {vs:List V} (F:FnOk X.prog X.w X.K X.mg X.base CX k f fd ps sp) (hr:Room k X.A) (hb:Binds X.K fd ps ds) (hd:Vals dvs ds) (hx:Yv CX X E)
  (I:Inv X Z0 σ H s) (r:Vals vs us) (h:sp (vs ++ dvs) H Q E):wpAny (model X.prog X.w) X.A (call (.ref f) us) (EP X Z0 σ Q) X.xe s:=by
 have r2:Vals (vs ++ dvs) (us ++ ds):=r.append hd
 have hl:(us ++ ds).length = ps.length:=by rw [← r2.length]; exact F.len _ _ _ _ h
 refine wpAny_call (codeAny_mono (F.run X.A X.stack s H ⟨us,[]⟩ (us ++ ds) (vs ++ dvs) Q E hr I.env0 (hb s us I.kIn hl) r2 h) fun r s' hq=>?_)
 cases r with
 | error e=>exact hx Z0 σ H s e s' I hq
 | ok fl =>
  cases fl with
  | ret u=>exact I.after hq
  | next=>exact False.elim hq
  | brk=>exact False.elim hq
  | cont=>exact False.elim hq
theorem U5 (F:FnOk X.prog X.w X.K X.mg X.base CX k f fd ps sp) (hr:Room k X.A) (hg:Gl X x) (hm:X.mg x = some (.ref f)) (hk:PySem.W.keepIn X.K (.ref f) = true) (hb:Binds X.K fd ps ds) (hd:Vals dvs ds) (hx:Yv CX X E)
  (ha:PA X (e :: es) t) (hdb:(x == ("__debug__":Str)) = false:=by decide) (he:starEach (e :: es) X.env = (false,eval e X.env) :: starEach es X.env:=by rfl) (hpl:(backTo pos (starEach es X.env)).any (·.1) = false:=by rfl) :
  PE X (.Call (.Name x p) (e :: es) [] pos) (J9 sp dvs E t):=by
 intro Z0 s σ H Q I h
 refine wpAny_Call_Name_kw (Xj I hg hm ?_ hdb)
 refine PySem.W.callWith_K (h₀:=X.base) I.ok.mod.kin hk (Yb (ha pos Z0 s σ H _ I h) fun us s1 ⟨vs,H1,I1,r,q⟩=>⟨I1.kIn,?_⟩) he hpl
 exact Z0r F hr hb hd hx I1 r q
end
section
variable {X:Cx} {CX:Jh} {k:Nat} {f C:Addr} {fd:FuncData} {ps ks:List Str} {sp:Sp} {E:XK} {x m:Str} {p pos apos kpos:Pos} {e o:Expr} {es:List Expr} {kws:List Keyword} {te ta:TE} {t tk:TA} {nm:Option Str}
variable {g:List Value→List Value→List Value} {gV:List V→List V→List V}
end
structure FnScope (N P:List Str) (sc:Scope):Prop where
 kind:sc.kind = .function
 co:sc.isCoroutine = false
 gen:sc.isGenerator = false
 nd:N.Nodup
 pre:N.take P.length = P
 par:∀ x ∈ P,sc.names.lookup x = some .local ∨ sc.names.lookup x = some .cell
 nofree:∀ y ∈ sc.names,y.2 ≠ .free
theorem Wa {kindOf:Str→Option NameKind} {x:Str}:∀ {binds:List (Str × Value)} {m:Str→Option Value},(∀ v,(x,v) ∉ binds)→bindL kindOf binds m x = m x
 | [],_,_=>rfl
 | (n,v) :: r,m,h=>by
  unfold bindL
  rw [Wa fun w hw=>h w (List.mem_cons_of_mem _ hw)]
  split
  ·have:x ≠ n:=by rintro rfl; exact h v List.mem_cons_self
   simp [this]
  ·rfl
theorem Wc {kindOf:Str→Option NameKind} {x:Str}:∀ {binds:List (Str × Value)} {m:Str→Option Value},(∀ v,(x,v) ∉ binds)→bindC kindOf binds m x = m x
 | [],_,_=>rfl
 | (n,v) :: r,m,h=>by
  unfold bindC
  rw [Wc fun w hw=>h w (List.mem_cons_of_mem _ hw)]
  split
  ·rfl
  ·have:x ≠ n:=by rintro rfl; exact h v List.mem_cons_self
   simp [this]
theorem Wb {kindOf:Str→Option NameKind} {x:Str} {v:Value}:∀ {P:List Str} {vs:List Value} {i:Nat} {m:Str→Option Value},P.Nodup→P[i]? = some x→vs[i]? = some v→kindOf x = some .local →
  bindL kindOf (P.zip vs) m x = some v
 | [],_,_,_,_,h,_,_=>by simp at h
 | _ :: _,[],_,_,_,_,h,_=>by simp at h
 | p :: P,w :: vs,0,m,nd,h1,h2,hk=>by
  simp at h1 h2; subst h1; subst h2
  show bindL kindOf ((p,w) :: P.zip vs) m p = _
  unfold bindL
  rw [Wa fun v hv=>(List.nodup_cons.mp nd).1 (List.of_mem_zip hv).1,if_pos hk]
  simp
 | p :: P,w :: vs,i + 1,m,nd,h1,h2,hk=>by
  show bindL kindOf ((p,w) :: P.zip vs) m x = _
  unfold bindL
  exact Wb (i:=i) (List.nodup_cons.mp nd).2 (by simpa using h1) (by simpa using h2) hk
theorem Wd {kindOf:Str→Option NameKind} {x:Str} {v:Value}:∀ {P:List Str} {vs:List Value} {i:Nat} {m:Str→Option Value},P.Nodup→P[i]? = some x→vs[i]? = some v→kindOf x ≠ some .local →
  bindC kindOf (P.zip vs) m x = some v
 | [],_,_,_,_,h,_,_=>by simp at h
 | _ :: _,[],_,_,_,_,h,_=>by simp at h
 | p :: P,w :: vs,0,m,nd,h1,h2,hk=>by
  simp at h1 h2; subst h1; subst h2
  show bindC kindOf ((p,w) :: P.zip vs) m p = _
  unfold bindC
  rw [Wc fun v hv=>(List.nodup_cons.mp nd).1 (List.of_mem_zip hv).1,if_neg hk]
  simp
 | p :: P,w :: vs,i + 1,m,nd,h1,h2,hk=>by
  show bindC kindOf ((p,w) :: P.zip vs) m x = _
  unfold bindC
  exact Wd (i:=i) (List.nodup_cons.mp nd).2 (by simpa using h1) (by simpa using h2) hk
def start (N:List Str) (vs:List V):St:=vs.map some ++ List.replicate (N.length - vs.length) none
def W2 (CX:Jh) (P:Program) (w:World) (K:PySem.W.Frag) (mg:Str→Option Value) (base:Heap) (N:List Str) (qual:Str) (scope:Scope) (f:Addr) (cd:Value) (A:Around) (outer:List Env) (s:Shared) (H:Hp) (E:XK):Cx where
 prog:=P
 w:=w
 K:=K
 mg:=mg
 base:=base
 A:=A.deeper (envOfC qual scope s.heap.objs.size f cd)
 N:=N
 s₀:=s
 H₀:=H
 env:=envOfC qual scope s.heap.objs.size f cd
 outer:=outer
 stack:=envOfC qual scope s.heap.objs.size f cd :: outer
 ex:=[]
 calm:=true
 fn:=fun _=>true
 pn:=[]
 xe:=fun e s'=>wpAny (model P w) (A.deeper (envOfC qual scope s.heap.objs.size f cd)) (leaving (envOfC qual scope s.heap.objs.size f cd) e) (fun _ s''=>CX outer H s E e s'') (fun e' s''=>CX outer H s E e' s'') s'
theorem Vc {sc:Scope} {n:Nat} {x:Str} (h:sc.names.lookup x = some .cell):∃ c,(cellsFrom n sc.names []).lookup x = some c:=by
 have q:=PySem.W.cellsFrom_some sc.names n [] (.inl h)
 exact Option.isSome_iff_exists.mp q
theorem T2 {CX:Jh} {P:Program} {w:World} {K:PySem.W.Frag} {mg:Str→Option Value} {base:Heap} {N ps:List Str} {qual:Str} {scope:Scope} {f:Addr} {cd:Value} {A:Around} {outer:List Env} {s s1:Shared} {H:Hp} {E:XK} {us:List Value} {vs:List V}
  (S:FnScope N ps scope) (hd:A.handled = none) (e0:Env0 P w K mg base A outer s H) (hl:vs.length = ps.length) (r:Vals vs us)
  (x:InCallC s s.heap.objs.size (bindL (envOfC qual scope s.heap.objs.size f cd).kindOf (ps.zip us) fun _=>none) (cellsFrom (s.heap.objs.size + 1) scope.names []) (bindC (envOfC qual scope s.heap.objs.size f cd).kindOf (ps.zip us) fun _=>none) s1) :
  Inv (W2 CX P w K mg base N qual scope f cd A outer s H E) [] (start N vs) H s1:=by
 have hpl:ps.length ≤ N.length:=by have:=congrArg List.length S.pre; rw [List.length_take] at this; omega
 obtain ⟨h1,tk,rfl,hk⟩:=x.done
 have noA:∀ b:Addr,b ∉ (W2 CX P w K mg base N qual scope f cd A outer s H E).ex:=fun b z=>absurd (show b ∈ ([]:List Addr) from z) (by simp)
 refine ⟨⟨e0.mod,S.kind,rfl,rfl,Nat.le_refl _,fun y z c h1 h2=>?_,fun y hy=>?_,fun y c _ h=>?_,fun _=>hd,Around.frames_deeper e0.frames,.inr ⟨rfl,rfl⟩,fun b z=>absurd z (noA b),e0.bs,e0.bsz,fun b _ _=>noA b,fun b z=>absurd z (noA b),e0.funs,e0.frf⟩,
  rfl,e0.bare,Un.kept hk,⟨_,x.toInCall.ns,fun i y v h1 h2 h3=>?_⟩,fun y c h=>⟨_,x.cell y c h⟩,e0.hok.fresh (Nat.le_refl _),fun y c h=>?_,fun p hp=>absurd (show p ∈ ([]:List (Addr × Obj)) from hp) (by simp),e0.hok.kept hk,?_⟩
 ·exact name_of_addr x.apart (PySem.mem_of_lookup h1) (PySem.mem_of_lookup h2)
 ·have hy:scope.names.lookup y = some .cell ∨ scope.names.lookup y = some .free:=hy
  rcases hy with hy | hy
  ·exact Vc hy
  ·exact absurd rfl (S.nofree _ (PySem.mem_of_lookup hy))
 ·exact Nat.le_of_lt (x.above y c (PySem.mem_of_lookup h))
 ·have hi:i < vs.length:=by
   unfold start at h2
   by_cases hi:i < vs.length
   ·exact hi
   ·rw [List.getElem?_append_right (by simpa using hi)] at h2
    rw [List.getElem?_replicate] at h2
    split at h2 <;> cases h2
  have ha:vs[i]? = some v:=by
   unfold start at h2
   rw [List.getElem?_append_left (by simpa using hi),List.getElem?_map] at h2
   cases e:vs[i]? with
   | none=>rw [e] at h2; cases h2
   | some a=>rw [e] at h2; cases h2; rfl
  obtain ⟨u,hu,rv⟩:=r.get ha
  have hp:ps[i]? = some y:=by
   rw [← S.pre,List.getElem?_take_of_lt (by omega)]; exact h1
  have ndP:ps.Nodup:=by rw [← S.pre]; exact S.nd.sublist (List.take_sublist _ _)
  refine ⟨u,rv,?_⟩
  rcases S.par y (List.mem_of_getElem? hp) with k | k
  ·exact .inl ⟨k,Wb ndP hp hu k⟩
  ·obtain ⟨c,e⟩:=Vc (n:=s.heap.objs.size + 1) k
   refine .inr ⟨.inl k,c,e,?_⟩
   have q:=x.cell y c e
   rw [Wd ndP hp hu (by show scope.names.lookup y ≠ _; rw [k]; decide)] at q
   exact q
 ·exact e0.hok.fresh (Nat.le_of_lt (x.above y c (PySem.mem_of_lookup h)))
 ·unfold start
  show _ = N.length
  rw [List.length_append,List.length_map,List.length_replicate]
  omega
theorem Z0k {CX:Jh} {P:Program} {w:World} {K:PySem.W.Frag} {mg:Str→Option Value} {base:Heap} {k:Nat} {f:Addr} {name qual:Str} {params:Arguments} {body:List Stmt} {scope:Scope} {dV kV doc pm cdv ct oc:Value} {an od:Option Addr}
  {osl:Array (Option Value)} {N ps:List Str} {sp:Sp} (lk:K.lookup f = some ⟨oc,od,.func (PySem.W.fnOf name qual params body scope dV kV doc pm an cdv ct),osl⟩) (hcd:PySem.W.codeIn K cdv qual = true) (S:FnScope N ps scope)
  (len:∀ vs H Q E,sp vs H Q E→vs.length = ps.length)
  (hbody:∀ (A:Around) (outer:List Env) (s:Shared) (H:Hp) (vs:List V) (Q:VK) (E:XK),Room k (A.deeper (envOfC qual scope s.heap.objs.size f cdv))→sp vs H Q E →
   ∃ t,PSs (W2 CX P w K mg base N qual scope f cdv A outer s H E) body t∧t { nx:=fun _ H'=>Q .non H',rt:=Q } (start N vs) H) :
  FnOk P w K mg base CX (k + 1) f (PySem.W.fnOf name qual params body scope dV kV doc pm an cdv ct) ps sp:=by
 refine ⟨len,fun A outer s H args us vs Q E hr e0 hb r hsp=>?_⟩
 have hl:=len _ _ _ _ hsp
 have KX:K.In s.heap:=e0.mod.kin.keeps fun b o e=>(e0.bs b o e).1
 have lim:s.heap.NoLimit:=e0.mod.nolimit.keeps fun b o e=>(e0.bs b o e).1
 have hkind:∀ y ∈ ps.zip us,scope.names.lookup y.1 = some .local ∨ (scope.names.lookup y.1 = some .cell∧((cellsFrom (s.heap.objs.size + 1) scope.names []).lookup y.1).isSome = true):=fun ⟨n,v⟩ hy=>by
  rcases S.par n (List.of_mem_zip hy).1 with q | q
  ·exact .inl q
  ·exact .inr ⟨q,PySem.W.cellsFrom_some _ _ _ (.inl q)⟩
 refine codeAny_call_function hr.depth (KX _ _ lk) rfl S.co S.gen rfl (PySem.W.codeRec_of KX hcd) (hb _ _ _ _ ?_)
 refine wpAny_newFunctionEnv_cells S.kind hkind fun env he s1 x=>?_
 subst he
 refine ⟨lim.keeps x.toInCall.keep,codeAny_func ?_⟩
 obtain ⟨t,ht,hq⟩:=hbody A outer s H vs Q E (hr.deeper _) hsp
 have I:Inv (W2 CX P w K mg base N qual scope f cdv A outer s H E) [] (start N vs) H s1:=T2 S hr.hd e0 hl r x
 refine wpAny_mono (ht [] s1 (start N vs) H _ I hq) (fun fl s' hs=>?_) fun e s' hs=>hs
 have fin:∀ {σ':St} {H':Hp} {v:V} {u:Value},Inv (W2 CX P w K mg base N qual scope f cdv A outer s H E) [] σ' H' s'→RelV v u→Q v H'→CE outer P w H s Q u s' :=
  fun {σ' H' v u} J rv q=>⟨v,H',J.os,J.bare,J.base,J.hok,rv,q⟩
 cases fl with
 | ret u =>
  obtain ⟨v,σ',H',J,rv,q⟩:=hs
  exact fin J rv q
 | next =>
  obtain ⟨σ',H',J,q⟩:=hs
  exact fin (v:=V.non) (u:=Value.none) J rfl q
 | brk =>
  obtain ⟨_,_,_,q⟩:=hs
  exact False.elim q
 | cont =>
  obtain ⟨_,_,_,q⟩:=hs
  exact False.elim q
section
variable {X:Cx} {x:Str} {p pos:Pos} {e:Expr} {es:List Expr} {t:TA} {id T:String} {r:List V→Hp→VK→Prop}
def Z3o (r:List V→Hp→VK→Prop) (t:TA):TE:=fun σ H Q=>t σ H fun vs H1=>r vs H1 Q
theorem Zj (hc:Yi X (.builtin id) r) (hg:Gl X x) (hm:X.mg x = none) (hv:bootBuiltins x = some (.builtin id)) (ha:PA X (e :: es) t) (hn:x ≠ "__name__":=by decide) (hdb:(x == ("__debug__":Str)) = false:=by decide)
  (he:starEach (e :: es) X.env = (false,eval e X.env) :: starEach es X.env:=by rfl) (hpl:(backTo pos (starEach es X.env)).any (·.1) = false:=by rfl):PE X (.Call (.Name x p) (e :: es) [] pos) (Z3o r t):=by
 intro Z0 s σ H Q I h
 refine wpAny_Call_Name_kw (V1 I hg hm hv ?_ hn hdb)
 exact PyProof.Rows.callWith_builtin1 (Yb (ha pos Z0 s σ H _ I h) fun us s1 ⟨vs,H1,I1,r1,q1⟩=>hc Z0 s1 σ H1 vs us Q I1 r1 q1) he hpl
theorem Y7 (hc:Yi X (.type T) r) (hg:Gl X x) (hm:X.mg x = none) (hv:bootBuiltins x = some (.type T)) (ha:PA X (e :: es) t) (hn:x ≠ "__name__":=by decide) (hdb:(x == ("__debug__":Str)) = false:=by decide)
  (he:starEach (e :: es) X.env = (false,eval e X.env) :: starEach es X.env:=by rfl) (hpl:(backTo pos (starEach es X.env)).any (·.1) = false:=by rfl):PE X (.Call (.Name x p) (e :: es) [] pos) (Z3o r t):=by
 intro Z0 s σ H Q I h
 refine wpAny_Call_Name_kw (V1 I hg hm hv ?_ hn hdb)
 exact PyProof.Rows.callWith_type1 (Yb (ha pos Z0 s σ H _ I h) fun us s1 ⟨vs,H1,I1,r1,q1⟩=>hc Z0 s1 σ H1 vs us Q I1 r1 q1) he hpl
end
end L2
namespace HT
open PySem PyProof.Rows
section
open PySem.SeqAt
open PySem.AutoSeq1 (wpAny_loadPart')
open PySem.MeetsSeq PySem.MeetsSeq2 PySem.MeetsSeq3
end
section
variable {prog:Program} {w:World} {A:Around} {E:Value→Shared→Prop} {s:Shared}
theorem cat_tup {t b:Addr} {vs ws:List Value} {Q:Value→Shared→Prop} (ht:IsTup s.heap t vs.toArray) (hb:IsTup s.heap b ws.toArray) (hv:vs ≠ [])
  (h1:ws = []→Q (.ref t) s) (h2:ws ≠ []→Q (.ref s.heap.objs.size) { s with heap:=s.heap.push { cls:=.type "tuple",data:=.seq (vs ++ ws).toArray } })
  (hsz:vs.length + ws.length ≤ sizeLine):wpAny (model prog w) A (binaryOp .Add (.ref t) (.ref b)) Q E s:=by
 obtain ⟨⟨cls,dd,data,sl⟩,ho,hc,n,hd⟩:=id ht
 obtain ⟨⟨cls2,dd2,data2,sl2⟩,ho2,hc2,n2,hd2⟩:=id hb
 simp only at hc hd hc2 hd2
 subst hc hd hc2 hd2
 have e:vs.toArray ++ ws.toArray = (vs ++ ws).toArray:=by simp
 by_cases hw:ws = []
 ·exact concat_meets ⟨_,ho,rfl⟩ ⟨_,ho2,rfl⟩ noFill_tuple_add seq_tuple_add PySem.F.slot_tuple_add PySem.F.entry_tuple_add (PySem.F.args_tuple_add_2 _ _)
   (tuple_addW1 t b vs.toArray ws.toArray n n2 dd dd2 sl sl2 (by simpa using hv) (by simp [hw])) ⟨ho,ho2,h1 hw⟩
 ·refine concat_meets ⟨_,ho,rfl⟩ ⟨_,ho2,rfl⟩ noFill_tuple_add seq_tuple_add PySem.F.slot_tuple_add PySem.F.entry_tuple_add (PySem.F.args_tuple_add_2 _ _)
   (tuple_addW2 t b vs.toArray ws.toArray n n2 dd dd2 sl sl2 (by simpa using hv) (by simpa using hw) (by rw [List.size_toArray,List.size_toArray]; exact hsz)) ⟨ho,ho2,?_⟩
  rw [e]
  exact h2 hw
def sIx (n d:Nat):Option Int→Nat
 | none=>d
 | some v=>if v < 0 then (v + (n:Int)).toNat else min v.toNat n
end
end HT
namespace L2
open PySem PySem.Spec PyProof.Rows
abbrev TO:=St→Hp→(Option Int→Hp→Prop)→Prop
def PO (X:Cx) (e:Option Expr) (t:TO):Prop :=
 ∀ (Z0:List (Addr × Obj)) (s:Shared) (σ:St) (H:Hp) (Q:Option Int→Hp→Prop),Inv X Z0 σ H s→t σ H Q →
  wpAny (model X.prog X.w) X.A (evalPart e X.env) (fun u s'=>∃ o H',Inv X Z0 σ H' s'∧IsPart u o∧Q o H') X.xe s
def Z1x (t:TE):TO:=fun σ H Q=>t σ H fun x H1=>∃ i,x = .int i∧Q (some i) H1
section
variable {X:Cx} {e:Expr} {te:TE} {lo hi:Option Expr} {tl th:TO} {pos p2:Pos}
theorem Y2 (h:PE X e te):PO X (some e) (Z1x te):=by
 intro Z0 s σ H Q I hw
 rw [evalPart_some]
 refine Yb (h Z0 s σ H _ I hw) fun u s1 ⟨x,H1,I1,r1,q1⟩=>?_
 obtain ⟨i,rfl,q⟩:=q1
 obtain ⟨t,rfl⟩:=r1
 exact ⟨some i,H1,I1,.int i t,q⟩
def Z3k (X:Cx) (r:V→Option Int→Option Int→Hp→VK→Prop):Prop :=
 ∀ (Z0:List (Addr × Obj)) (s:Shared) (σ:St) (H:Hp) (x:V) (v vl vu:Value) (lo hi:Option Int) (sl:Addr) (Q:VK),Inv X Z0 σ H s→RelV x v→s.heap.IsSliceOf sl vl vu .none→IsPart vl lo→IsPart vu hi→r x lo hi H Q →
  ∃ T id,typeLookup (.type T) "__getitem__" = pure (some (.builtin id))∧s.TypeIs v T∧wpAny (model X.prog X.w) X.A (getItem v (.ref sl)) (EP X Z0 σ Q) X.xe s
def Z3x (r:V→Option Int→Option Int→Hp→VK→Prop) (te:TE) (tl th:TO):TE:=fun σ H Q=>te σ H fun x H1=>tl σ H1 fun l H2=>th σ H2 fun u H3=>r x l u H3 Q
theorem Ym {r:V→Option Int→Option Int→Hp→VK→Prop} (hr:Z3k X r) (he:PE X e te) (hl:PO X lo tl) (hu:PO X hi th):PE X (.Subscript e (.Slice lo hi none p2) pos) (Z3x r te tl th):=by
 intro Z0 s σ H Q I h
 refine Subscript_ (Yb (he Z0 s σ H _ I h) fun v s1 ⟨x,H1,I1,r1,q1⟩=>?_)
 refine wpAny_Slice (Yb (hl Z0 s1 σ H1 _ I1 q1) fun vl s2 ⟨l,H2,I2,pl,q2⟩=>Yb (hu Z0 s2 σ H2 _ I2 q2) fun vu s3 ⟨u,H3,I3,pu,q3⟩=>?_)
 rw [evalPart_none]
 refine wpAny_pure ?_
 have I4:Inv X Z0 σ H3 { s3 with heap:=s3.heap.push { cls:=.type "slice",data:=.fields #[vl,vu,.none] } }:=I3.kept (t':=s3.toks) fun b ob q=>Heap.get?_push_of_some _ q
 obtain ⟨T,id,hT,ht,hg⟩:=hr Z0 { s3 with heap:=s3.heap.push { cls:=.type "slice",data:=.fields #[vl,vu,.none] } } σ H3 x v vl vu l u s3.heap.objs.size Q I4 r1 (Heap.IsSliceOf.new ..) pl pu q3
 show wpAny (model X.prog X.w) X.A (subscriptTail e (.Slice lo hi none p2) v (.ref s3.heap.objs.size)) (EP X Z0 σ Q) X.xe { s3 with heap:=s3.heap.push { cls:=.type "slice",data:=.fields #[vl,vu,.none] } }
 exact tail_any (ops:=[.ref s3.heap.objs.size,v]) ht hT hg (by with_unfolding_all rfl)
def Z0b (xs:List V) (lo hi:Option Int):List V:=(xs.drop (HT.sIx xs.length 0 lo)).take (HT.sIx xs.length xs.length hi - HT.sIx xs.length 0 lo)
theorem V2 (xs:List V) (lo hi:Option Int):(Z0b xs lo hi).length ≤ xs.length:=by
 unfold Z0b
 rw [List.length_take,List.length_drop]
 omega
def Z25 (K:PySem.W.Frag):R2:=fun x y H Q=>∃ a b xs ys,x = .ref a∧y = .ref b∧SqT K H a xs∧SqT K H b ys∧xs ≠ []∧xs.length + ys.length ≤ sizeLine ∧
 (ys = []→Q (.ref a) H)∧(ys ≠ []→∀ p,H p = none→Q (.ref p) (Zy H p (.tup (xs ++ ys))))
theorem Vals.nil_iff {xs:List V} {us:List Value} (r:Vals xs us):us = [] ↔ xs = []:=by
 cases r with
 | nil=>simp
 | cons _ _=>simp
theorem Ju:Ui X (binaryOp .Add) (Z25 X.K):=by
 intro Z0 s σ H x y v u Q I rx ry h
 obtain ⟨a,b,xs,ys,rfl,rfl,ha,hb,hx,hz,q1,q2⟩:=h
 cases rx
 cases ry
 obtain ⟨its,r1,p1,_⟩:=I.tuple ha
 obtain ⟨its2,r2,p2,_⟩:=I.tuple hb
 refine HT.cat_tup p1 p2 (fun z=>hx (r1.nil_iff.mp z)) (fun z=>⟨.ref a,H,I,rfl,q1 (r2.nil_iff.mp z)⟩) (fun z=>?_) (by rw [← r1.length,← r2.length]; exact hz)
 refine ⟨.ref s.heap.objs.size,_,I.laid (t':=s.toks) (o:=.tup (xs ++ ys)) (fun b ob q=>Heap.get?_push_of_some _ q) (Nat.le_refl _) ?_,rfl,q2 (fun w=>z (r2.nil_iff.mpr w)) _ (I.hok.fresh (Nat.le_refl _))⟩
 exact ⟨by rw [List.length_append]; exact hz,_,r1.append r2,IsTup.new _ _⟩
end
def Z1f (n:Nat) (i:Int):Option Nat:=if 0 ≤ i then (if i < n then some i.toNat else none) else if -(n:Int) ≤ i then some (i + n).toNat else none
def Tp {α:Type} (xs:List α) (i:Int):Option α:=(Z1f xs.length i).bind fun j=>xs[j]?
theorem Ub {n:Nat} {i:Int} {j:Nat} (h:Z1f n i = some j):seqIndex? i n = some j∧j < n∧-(n:Int) ≤ i∧i < n:=by
 unfold Z1f at h
 by_cases h0:0 ≤ i
 ·rw [if_pos h0] at h
  by_cases h1:i < n
  ·rw [if_pos h1] at h
   have e:i.toNat = j:=Option.some.inj h
   exact ⟨by rw [seqIndex_of h0 h1,e],by omega,by omega,h1⟩
  ·rw [if_neg h1] at h; cases h
 ·rw [if_neg h0] at h
  by_cases h1:-(n:Int) ≤ i
  ·rw [if_pos h1] at h
   have e:(i + n).toNat = j:=Option.some.inj h
   exact ⟨by rw [seqIndex_neg (by omega) h1,e],by omega,h1,by omega⟩
  ·rw [if_neg h1] at h; cases h
theorem Ws {α:Type} {xs:List α} {i:Int} {v:α} (h:Tp xs i = some v):∃ j,seqIndex? i xs.length = some j∧xs[j]? = some v∧j < xs.length∧-(xs.length:Int) ≤ i∧i < xs.length:=by
 unfold Tp at h
 cases e:Z1f xs.length i with
 | none=>rw [e] at h; cases h
 | some j =>
  rw [e] at h
  obtain ⟨h1,h2,h3,h4⟩:=Ub e
  exact ⟨j,h1,h,h2,h3,h4⟩
theorem X6 {α:Type} {xs:List α} {j:Nat} {v:α} (h:xs[j]? = some v):Tp xs (j:Int) = some v:=by
 have hj:j < xs.length:=(List.getElem?_eq_some_iff.mp h).1
 have e:Z1f xs.length (j:Int) = some j:=by
  unfold Z1f
  rw [if_pos (by omega),if_pos (by omega)]; simp
 unfold Tp; rw [e]; exact h
def Z07 (b:Expr):Prop:=∀ o i,subscripted b false o i = operate [o,i] (getItem o i)
def Z30 (X:Cx) (r:R2):Prop :=
 ∀ (value slice:Expr) (Z0:List (Addr × Obj)) (s:Shared) (σ:St) (H:Hp) (x y:V) (v u:Value) (Q:VK),Inv X Z0 σ H s→RelV x v→RelV y u→r x y H Q →
  subscripted slice false v u = operate [v,u] (getItem v u)→wpAny (model X.prog X.w) X.A (subscriptTail value slice v u) (EP X Z0 σ Q) X.xe s
def Z3t (X:Cx) (id:String) (r:V→List V→Hp→VK→Prop):Prop :=
 ∀ (Z0:List (Addr × Obj)) (s:Shared) (σ:St) (H:Hp) (x:V) (xs:List V) (v:Value) (us:List Value) (Q:VK),Inv X Z0 σ H s→RelV x v→Vals xs us→r x xs H Q →
  wpAny (model X.prog X.w) X.A (call (.builtin id) (v :: us)) (EP X Z0 σ Q) X.xe s
section
variable {X:Cx} {a b:Expr} {ta tb:TE} {pos:Pos}
theorem Zp {r:R2} (hr:Z30 X r) (ha:PE X a ta) (hb:PE X b tb) (hs:Z07 b):PE X (.Subscript a b pos) (Z2p r ta tb):=by
 intro Z0 s σ H Q I h
 exact Subscript_ (Z1n ha hb I h fun v u s2 x y H2 I2 rx ry q=>hr a b Z0 s2 σ H2 x y v u Q I2 rx ry q (hs _ _))
def Z0a (K:PySem.W.Frag):R2:=fun x y H Q=>∃ p xs i v,x = .ref p∧y = .int i∧SqL K H p xs∧Tp xs i = some v∧Q v H
def Z2k (K:PySem.W.Frag):R2:=fun x y H Q=>∃ p xs i v,x = .ref p∧y = .int i∧SqT K H p xs∧Tp xs i = some v∧Q v H
def Z3b:R2:=fun x y H Q=>∃ z i c,x = .str z∧y = .int i∧z.length ≤ sizeLine∧Tp z.cps.toList i = some c∧Q (.str ⟨#[c]⟩) H
theorem X5:Z30 X (Z0a X.K):=by
 intro value slice Z0 s σ H x y v u Q I rx ry h hs
 obtain ⟨p,xs,i,z,rfl,rfl,hq,he,q⟩:=h
 cases rx
 obtain ⟨t,rfl⟩:=ry
 obtain ⟨its,r,pl,hz⟩:=I.list hq
 obtain ⟨j,h1,h2,h3,h4,h5⟩:=Ws he
 obtain ⟨w,ew,rw'⟩:=r.get h2
 have hl:=r.length
 have hn:=Xe
 have fin:EP X Z0 σ Q w s:=⟨z,H,I,rw',q⟩
 by_cases h0:0 ≤ i
 ·have hj:i.toNat = j:=by
   rw [seqIndex_of h0 h5] at h1
   exact Option.some.inj h1
  exact item_listR pl.isList h0 (by omega) (by rw [hj]; simpa using ew) fin hs
 ·have hj:(i + (its.toArray.size:Int)).toNat = j:=by
   rw [seqIndex_neg (by omega) h4] at h1
   rw [List.size_toArray,← hl]
   exact Option.some.inj h1
  exact subscriptTail_builtinR (x:=w) pl.isList.typeIs slot_list_getitem.lookup
   (wpAny_getItem_list_neg (Q:=fun r s'=>r = w∧EP X Z0 σ Q r s') pl.isList (by omega) (by rw [List.size_toArray] <;> omega) (by omega) (by rw [hj]; simpa using ew) ⟨rfl,fin⟩) hs
theorem Zt:Z30 X (Z2k X.K):=by
 intro value slice Z0 s σ H x y v u Q I rx ry h hs
 obtain ⟨p,xs,i,z,rfl,rfl,hq,he,q⟩:=h
 cases rx
 obtain ⟨t,rfl⟩:=ry
 obtain ⟨its,r,pl,hz⟩:=I.tuple hq
 obtain ⟨j,h1,h2,h3,h4,h5⟩:=Ws he
 obtain ⟨w,ew,rw'⟩:=r.get h2
 have hl:=r.length
 have hn:=Xe
 have fin:EP X Z0 σ Q w s:=⟨z,H,I,rw',q⟩
 exact subscriptTail_builtinR (x:=w) pl.typeIs slot_tuple_getitem.lookup
  (getItem_tuple (j:=j) (Q:=fun r s'=>r = w∧EP X Z0 σ Q r s') pl (by omega) (by omega) (by rw [List.size_toArray,← hl]; exact h1) (by simpa using ew) ⟨rfl,fin⟩) hs
theorem Xt:Z30 X Z3b:=by
 intro value slice Z0 s σ H x y v u Q I rx ry h hs
 obtain ⟨z,i,c,rfl,rfl,hz,he,q⟩:=h
 obtain ⟨t,rfl⟩:=rx
 obtain ⟨t',rfl⟩:=ry
 obtain ⟨j,h1,h2,h3,h4,h5⟩:=Ws he
 have hl:z.cps.toList.length = z.length:=by simp [Str.length]
 rw [hl] at h1 h4 h5
 have hn:=Xe
 exact tail_any (typeIs_str s z t) slot_str_getitem.lookup (getItem_str (c:=c) (by
  have e1:decide (i < -(2 ^ 63:Int)) = false:=decide_eq_false (by omega)
  have e2:decide (i ≥ 2 ^ 63) = false:=decide_eq_false (by omega)
  rw [e1,e2,Bool.or_false]) (by rw [h1]; simpa using h2) ⟨.str ⟨#[c]⟩,H,I.tok _,⟨_,rfl⟩,q⟩) hs
theorem Vj (its:List Value) (n j:Nat) (u:Value):Obj.mapSeq (·.setIfInBounds j u) { cls:=.type "list",data:=.seq its.toArray n } = { cls:=.type "list",data:=.seq (its.set j u).toArray n }:=by
 simp [Obj.mapSeq]
theorem Inv.lst {Z0:List (Addr × Obj)} {σ:St} {H:Hp} {s:Shared} {p:Addr} {xs:List V} (I:Inv X Z0 σ H s) (h:H p = some (.lst xs)) :
  ∃ (its:List Value) (n:Nat),Vals xs its∧s.heap.get? p = some { cls:=.type "list",data:=.seq its.toArray n }∧xs.length ≤ sizeLine:=by
 obtain ⟨z,its,n,r,e⟩:=I.hok p _ h
 exact ⟨its,n,r,e,z⟩
theorem Inv.lstUpd {Z0:List (Addr × Obj)} {σ:St} {H:Hp} {s:Shared} {p:Addr} {xs ys:List V} {its its':List Value} {n n':Nat} {f:Obj→Obj} (I:Inv X Z0 σ H s) (h:H p = some (.lst xs))
  (ho:s.heap.get? p = some { cls:=.type "list",data:=.seq its.toArray n }) (hf:f { cls:=.type "list",data:=.seq its.toArray n } = { cls:=.type "list",data:=.seq its'.toArray n' }) (r:Vals ys its') (hz:ys.length ≤ sizeLine) (t:Nat) :
  Inv X Z0 σ (Zy H p (.lst ys)) { s with heap:=s.heap.update p f,toks:=t }:=by
 have e:(s.heap.update p f).get? p = some { cls:=.type "list",data:=.seq its'.toArray n' }:=by
  rw [Heap.get?_update_self f ho (by rw [hf] <;> rfl),hf]
 refine I.write (x:=p) (e:=p) (by rw [h]; trivial) (.inl rfl) (fun b u hb q=>(Heap.get?_update_other _ _ (Ne.symm hb)).trans q) ⟨_,e⟩ ?_
 exact ⟨hz,its',n',r,e⟩
def Z23:V→V→V→Hp→(Hp→Prop)→Prop:=fun o i v H Q=>∃ p xs k j,o = .ref p∧i = .int k∧H p = some (.lst xs)∧Z1f xs.length k = some j∧Q (Zy H p (.lst (xs.set j v)))
theorem Ta:Z2o X Z23:=by
 intro Z0 s σ H o i v ov iv u Q I ro ri rv h
 obtain ⟨p,xs,k,j,rfl,rfl,hp,hj,q⟩:=h
 cases ro
 obtain ⟨t,rfl⟩:=ri
 obtain ⟨its,n,r,ho,hz⟩:=I.lst hp
 obtain ⟨h1,h2,h3,h4⟩:=Ub hj
 have hl:=r.length
 have hn:=Xe
 have I':Inv X Z0 σ (Zy H p (.lst (xs.set j v))) { s with heap:=s.heap.update p (Obj.mapSeq (·.setIfInBounds j u)) } :=
  I.lstUpd hp ho (Vj its n j u) (r.set rv j) (by rw [List.length_set]; exact hz) s.toks
 by_cases h0:0 ≤ k
 ·have hk:k.toNat = j:=by
   rw [seqIndex_of h0 h4] at h1
   exact Option.some.inj h1
  exact PySem.W.ki_setAt ho h0 (by omega) (by rw [List.size_toArray,← hl]; exact h4) (by rw [hk]; exact ⟨_,I',q⟩)
 ·have hk:(k + (its.toArray.size:Int)).toNat = j:=by
   rw [seqIndex_neg (by omega) h3] at h1
   rw [List.size_toArray,← hl]
   exact Option.some.inj h1
  exact PySem.W.ki_setBack ho (by omega) (by rw [List.size_toArray,← hl]; exact h3) (by omega) (by rw [hk]; exact ⟨_,I',q⟩)
theorem Wg (lo hi:Option Int) (n:Nat):(sliceBounds lo hi none n).1 = ((HT.sIx n 0 lo:Nat):Int)∧(sliceBounds lo hi none n).2.1 = ((HT.sIx n n hi:Nat):Int)∧(sliceBounds lo hi none n).2.2 = 1:=by
 refine ⟨?_,?_,rfl⟩
 ·cases lo with
  | none=>simp [sliceBounds,HT.sIx]
  | some i =>
   simp only [sliceBounds,HT.sIx,Option.getD_none,show (1:Int) > 0 by decide,if_true]
   by_cases h:i < 0
   ·simp only [h,if_true] <;> omega
   ·simp only [h,if_false] <;> omega
 ·cases hi with
  | none=>simp [sliceBounds,HT.sIx]
  | some i =>
   simp only [sliceBounds,HT.sIx,Option.getD_none,show (1:Int) > 0 by decide,if_true]
   by_cases h:i < 0
   ·simp only [h,if_true] <;> omega
   ·simp only [h,if_false] <;> omega
theorem Xx (its:List Value) (lo hi:Option Int):slicePick its.toArray lo hi none = ((its.drop (HT.sIx its.length 0 lo)).take (HT.sIx its.length its.length hi - HT.sIx its.length 0 lo)).toArray:=by
 obtain ⟨h1,h2,h3⟩:=Wg lo hi its.toArray.size
 unfold slicePick
 rw [h1,h2,h3]
 simp only [sliceRange_one,pick_run,List.size_toArray] <;> rfl
def Z3a (K:PySem.W.Frag):V→Option Int→Option Int→Hp→VK→Prop:=fun x lo hi H Q=>∃ a xs,x = .ref a∧SqL K H a xs∧∀ p,H p = none→Q (.ref p) (Zy H p (.lst (Z0b xs lo hi)))
theorem sl_list:Z3k X (Z3a X.K):=by
 intro Z0 s σ H x v vl vu lo hi sl Q I rx hs pl pu h
 obtain ⟨a,xs,rfl,hx,q⟩:=h
 cases rx
 obtain ⟨its,r,ht,hz⟩:=I.list hx
 have hlen:=r.length
 refine ⟨"list",_,slot_list_getitem.lookup,ht.isList.typeIs,?_⟩
 refine wpAny_getItem_list_slice ht.isList hs pl pu .none (by simp) ?_ (by rw [List.size_toArray] <;> omega)
 rw [Xx,← hlen]
 refine ⟨.ref s.heap.objs.size,_,I.laid (t':=s.toks) (o:=.lst (Z0b xs lo hi)) (fun b ob q=>Heap.get?_push_of_some _ q) (Nat.le_refl _) ?_,rfl,q _ (I.hok.fresh (Nat.le_refl _))⟩
 exact ⟨Nat.le_trans (V2 xs lo hi) hz,_,0,(r.drop (HT.sIx xs.length 0 lo)).take (HT.sIx xs.length xs.length hi - HT.sIx xs.length 0 lo),Heap.get?_push_size _ rfl⟩
theorem Yd:Yi X (.builtin "len") (fun xs H Q=>∃ p ys,xs = [.ref p]∧(SqL X.K H p ys ∨ SqT X.K H p ys)∧Q (.int ys.length) H):=by
 intro Z0 s σ H xs us Q I r h
 obtain ⟨p,ys,rfl,hq,q⟩:=h
 obtain ⟨u,rfl,rx⟩:=Wl r
 cases rx
 have hn:=Xe
 rcases hq with hq | hq
 ·obtain ⟨its,r',pl,hz⟩:=I.list hq
  have hlen:=r'.length
  exact Calls.call_len_list pl.isList (by simp only [List.size_toArray] <;> omega) ⟨.int ys.length,H,I.tok _,⟨s.toks + 1,by rw [List.size_toArray,hlen]⟩,q⟩
 ·obtain ⟨its,r',pl,hz⟩:=I.tuple hq
  have hlen:=r'.length
  exact len_tuple pl (by simp only [List.size_toArray] <;> omega) ⟨.int ys.length,H,I.tok _,⟨s.toks + 1,by rw [List.size_toArray,hlen]⟩,q⟩
theorem Yw:Yi X (.builtin "len") (fun xs H Q=>∃ z,xs = [.str z]∧z.length ≤ sizeLine∧Q (.int z.length) H):=by
 intro Z0 s σ H xs us Q I r h
 obtain ⟨z,rfl,hz,q⟩:=h
 obtain ⟨u,rfl,t,rfl⟩:=Wl r
 have hn:=Xe
 exact len_str (by omega) ⟨.int z.length,H,I.tok _,⟨_,rfl⟩,q⟩
theorem Wk:Yi X (.type "list") (fun xs H Q=>∃ p ys,xs = [.ref p]∧(SqL X.K H p ys ∨ SqT X.K H p ys)∧∀ l,H l = none→Q (.ref l) (Zy H l (.lst ys))):=by
 intro Z0 s σ H xs us Q I r h
 obtain ⟨p,ys,rfl,hq,q⟩:=h
 obtain ⟨u,rfl,rx⟩:=Wl r
 cases rx
 have fin:∀ (its:List Value),Vals ys its→ys.length ≤ sizeLine→∀ (h':Heap) (c':Nat),(∀ b o',s.heap.get? b = some o'→h'.get? b = some o') →
   h'.get? s.heap.objs.size = some { cls:=.type "list",dict:=none,data:=.seq its.toArray c',slots:=#[] }→EP X Z0 σ Q (.ref s.heap.objs.size) { s with heap:=h' }:=fun its r' hz h' c' kp e =>
  ⟨.ref s.heap.objs.size,_,I.laid (t':=s.toks) kp (Nat.le_refl _) (show ObjOk X.prog X.w _ h' _ (.lst ys) from ⟨hz,its,c',r',e⟩),rfl,q _ (I.hok.fresh (Nat.le_refl _))⟩
 rcases hq with hq | hq
 ·obtain ⟨its,r',pl,hz⟩:=I.list hq
  have hlen:=r'.length
  obtain ⟨o,ho,hc,n,hd⟩:=pl.isList
  exact call_list_seq p (.inl rfl) ho hc hd (fun h' c' kp e=>fin its r' hz h' c' kp e) (by simp only [List.size_toArray] <;> omega)
 ·obtain ⟨its,r',pl,hz⟩:=I.tuple hq
  have hlen:=r'.length
  obtain ⟨o,ho,hc,n,hd⟩:=pl
  exact call_list_seq p (.inr rfl) ho hc hd (fun h' c' kp e=>fin its r' hz h' c' kp e) (by simp only [List.size_toArray] <;> omega)
theorem W0:Yi X (.type "tuple") (fun xs H Q=>∃ p ys,xs = [.ref p]∧((SqL X.K H p ys∧∀ l,H l = none→Q (.ref l) (Zy H l (.tup ys))) ∨ (SqT X.K H p ys∧Q (.ref p) H))):=by
 intro Z0 s σ H xs us Q I r h
 obtain ⟨p,ys,rfl,h⟩:=h
 obtain ⟨u,rfl,rx⟩:=Wl r
 cases rx
 rcases h with ⟨hq,q⟩ | ⟨hq,q⟩
 ·obtain ⟨its,r',pl,hz⟩:=I.list hq
  have hlen:=r'.length
  refine call_tuple_list pl.isList (fun h' kp=>?_) (by simp only [List.size_toArray] <;> omega)
  have I1:Inv X Z0 σ H { s with heap:=h' }:=I.kept (t':=s.toks) kp
  have I2:Inv X Z0 σ (Zy H h'.objs.size (.tup ys)) { s with heap:=h'.push { cls:=.type "tuple",data:=.seq its.toArray } } :=
   I1.laid (t':=s.toks) (fun b o e=>Heap.get?_push_of_some _ e) (Nat.le_refl _) (show ObjOk X.prog X.w _ _ _ (.tup ys) from ⟨hz,its,r',IsTup.new _ _⟩)
  exact ⟨.ref h'.objs.size,_,I2,rfl,q _ (I1.hok.fresh (Nat.le_refl _))⟩
 ·obtain ⟨its,r',pl,hz⟩:=I.tuple hq
  exact call_tuple_same pl ⟨.ref p,H,I,rfl,q⟩
def Z3h (K:PySem.W.Frag) (T:String) (x:V) (H:Hp):Prop:=match x with
 | .str _=>T = "str"
 | .int _=>T = "int"
 | .ref p=>(T = "list"∧∃ xs,SqL K H p xs) ∨ (T = "tuple"∧∃ o,K.lookup p = some o∧o.cls = .type "tuple"∧o.dict = none) ∨
   (T = "dict"∧((∃ kvs,H p = some (.dK kvs)) ∨ ∃ kvs,H p = some (.dT kvs))) ∨ (T = "set"∧∃ S n,H p = some (.set S n))
 | _=>False
theorem Z0o {Z0:List (Addr × Obj)} {σ:St} {H:Hp} {s:Shared} {T:String} {x:V} {v:Value} (I:Inv X Z0 σ H s) (r:RelV x v) (ty:Z3h X.K T x H) :
  s.TypeIs v T∧∀ a,v = .ref a→∃ ob,s.heap.get? a = some ob∧ob.dict = none:=by
 cases x with
 | str z =>
  obtain ⟨t,rfl⟩:=r
  cases (show T = "str" from ty)
  exact ⟨typeIs_str s z t,fun _ e=>nomatch e⟩
 | int i =>
  obtain ⟨t,rfl⟩:=r
  cases (show T = "int" from ty)
  exact ⟨typeIs_int s i t,fun _ e=>nomatch e⟩
 | ref p =>
  cases r
  rcases ty with ⟨rfl,xs,hq⟩ | ⟨rfl,o,hk,hc,hd⟩ | ⟨rfl,hk⟩ | ⟨rfl,S,n,hk⟩
  ·obtain ⟨its,_,pl,_⟩:=I.list hq
   refine ⟨pl.isList.typeIs,fun a e=>?_⟩
   cases e
   obtain ⟨o,n,e,c,hd,_⟩:=pl
   exact ⟨o,e,hd⟩
  ·refine ⟨⟨o,I.kIn p o hk,hc⟩,fun a e=>?_⟩
   cases e
   exact ⟨o,I.kIn _ o hk,hd⟩
  ·have z:∃ o,s.heap.get? p = some o∧o.ExactDict:=by
    rcases hk with ⟨kvs,hk⟩ | ⟨kvs,hk⟩
    ·obtain ⟨_,_,_,_,o,_,_,e,ex,_⟩:=I.hok p _ hk
     exact ⟨o,e,ex⟩
    ·obtain ⟨_,_,_,_,o,_,_,e,ex,_⟩:=I.hok p _ hk
     exact ⟨o,e,ex⟩
   obtain ⟨o,e,ex⟩:=z
   refine ⟨⟨o,e,ex.1⟩,fun a e2=>?_⟩
   cases e2
   exact ⟨o,e,ex.2.1⟩
  ·obtain ⟨o,_,_,_,e,ex,_⟩:=I.hok p _ hk
   refine ⟨⟨o,e,ex.1⟩,fun a e2=>?_⟩
   cases e2
   exact ⟨o,e,ex.2.1⟩
 | _=>exact False.elim ty
def Z40 (K:PySem.W.Frag) (T:String) (r:V→List V→Hp→VK→Prop) (to:TE) (t:TA):TE:=fun σ H Q=>to σ H fun x H1=>Z3h K T x H1∧t σ H1 fun xs H2=>r x xs H2 Q
variable {o e:Expr} {es:List Expr} {to:TE} {t:TA} {name:Str} {apos cpos:Pos} {T id:String} {r:V→List V→Hp→VK→Prop}
theorem Wn (pa:PlainAttrs T) (slot:Slot T name id) (hty:typeOf (.builtin id) = pure (.type "method_descriptor")) (hm:Z3t X id r) (ho:PE X o to) (ha:PA X (e :: es) t)
  (hbase:attributeBase o name X.env (eval o X.env) = eval o X.env:=by rfl)
  (hfew:((backTo cpos (starEach (e :: es) X.env)).all (fun x=>!x.1) && (backToKw cpos (keywordEach [] X.env)).all (fun x=>x.1.isSome)
   && decide ((e :: es).length + ([]:List Keyword).length + (if ([]:List Keyword).isEmpty then 0 else 1) < 30)) = true:=by rfl)
  (hline:(apos.endLine == cpos.line) = true:=by rfl) (hs:starEach (e :: es) X.env = (false,eval e X.env) :: starEach es X.env:=by rfl) (hplain:(backTo cpos (starEach es X.env)).any (·.1) = false:=by rfl) :
  PE X (.Call (.Attribute o name apos) (e :: es) [] cpos) (Z40 X.K T r to t):=by
 intro Z0 s σ H Q I h
 refine wpAny_Call_method_late hbase hfew hline rfl (Yb (ho Z0 s σ H _ I h) fun v s1 ⟨x,H1,I1,r1,ty,q1⟩=>?_)
 obtain ⟨h1,h2⟩:=Z0o I1 r1 ty
 refine ⟨T,id,pa,slot,hty,h1,h2,?_⟩
 have hA:=ha cpos Z0 s1 σ H1 _ I1 q1
 rw [hs] at hA ⊢
 refine Calls.callWith_builtin (by show (false || (backTo cpos (starEach es X.env)).any (·.1)) = false; rw [hplain] <;> rfl) (Calls.evalArgs_plain ?_)
 exact Yb hA fun us s2 ⟨vs,H2,I2,r2,q2⟩=>hm Z0 s2 σ H2 x vs v us Q I2 r1 r2 q2
end
def Z3u (X:Cx) (id:String) (r:V→List V→Hp→VK→Prop):Prop :=
 ∀ (Z0:List (Addr × Obj)) (s:Shared) (σ:St) (H:Hp) (x:V) (xs:List V) (v:Value) (us:List Value) (Q:VK),Inv X Z0 σ H s→RelV x v→Vals xs us→r x xs H Q →
  wpAny (model X.prog X.w) X.A (call (.builtin id) (v :: us)) (EP X Z0 σ Q) X.xe s
theorem Vals.one:∀ {x:V} {us:List Value},Vals [x] us→∃ u,us = [u]∧RelV x u
 | _,_,.cons r .nil=>⟨_,rfl,r⟩
theorem Vals.eraseIdx:∀ {xs:List V} {us:List Value} (i:Nat),Vals xs us→Vals (xs.eraseIdx i) (us.eraseIdx i)
 | _,_,_,.nil=>.nil
 | _,_,0,.cons _ t=>t
 | _,_,i + 1,.cons r t=>.cons r (Vals.eraseIdx i t)
theorem W7 {α:Type}:∀ (l:List α) (i:Nat),(l.eraseIdx i).length ≤ l.length
 | [],_=>Nat.le_refl _
 | _ :: _,0=>Nat.le_succ _
 | _ :: r,i + 1=>Nat.succ_le_succ (W7 r i)
section
variable {X:Cx} {Z0:List (Addr × Obj)} {σ:St} {H:Hp} {s:Shared} {l b:Addr} {xs ys zs:List V}
theorem Inv.lset {its its':List Value} {n:Nat} {f:Array Value→Array Value} {t':Nat} (I:Inv X Z0 σ H s) (hH:H l = some (.lst xs))
  (e:s.heap.get? l = some { cls:=.type "list",data:=.seq its.toArray n }) (hf:f its.toArray = its'.toArray) (hv:Vals ys its') (hz:ys.length ≤ sizeLine) :
  Inv X Z0 σ (Zy H l (.lst ys)) { s with heap:=s.heap.update l (Obj.mapSeq f),toks:=t' }:=by
 have q:=PySem.IsL.update e f
 rw [hf] at q
 refine I.write (x:=l) (e:=l) (by rw [hH]; exact trivial) (.inl rfl) (fun b' u hb hu=>(Heap.get?_update_other s.heap (Obj.mapSeq f) (Ne.symm hb)).trans hu) ⟨_,q⟩ ?_
 exact ⟨hz,its',_,hv,q⟩
theorem Inv.lstM (I:Inv X Z0 σ H s) (hH:H l = some (.lst xs)):xs.length ≤ sizeLine∧∃ (its:List Value) (n:Nat),Vals xs its∧xs.length = its.length∧s.heap.get? l = some { cls:=.type "list",data:=.seq its.toArray n }:=by
 obtain ⟨z,its,n,r,e⟩:=I.hok l _ hH
 exact ⟨z,its,n,r,r.length,e⟩
end
section
variable {X:Cx}
def Jm:V→List V→Hp→VK→Prop:=fun x vs H Q=>∃ l xs y,x = .ref l∧vs = [y]∧H l = some (.lst xs)∧xs.length < sizeLine∧Q .non (Zy H l (.lst (xs ++ [y])))
theorem X8:Z3u X "list.append" Jm:=by
 intro Z0 s σ H x vs v us Q I rx rv h
 obtain ⟨l,xs,y,rfl,rfl,hH,hz,q⟩:=h
 cases rx
 obtain ⟨u,rfl,ru⟩:=rv.one
 obtain ⟨z,its,n,r,hl,e⟩:=I.lstM hH
 refine call_meets F.slot_list_append ⟨_,e,rfl⟩ F.entry_list_append (F.args_list_append_2 _ _) (PySem.list_append l its.toArray n u (by rw [List.size_toArray]; omega)) ⟨e,?_⟩
 refine ⟨.non,_,I.lset (its':=its ++ [u]) hH e (by simp) (r.append (.cons ru .nil)) ?_,rfl,q⟩
 rw [List.length_append,List.length_singleton]
 omega
def Tq:V→List V→Hp→VK→Prop:=fun x vs H Q=>∃ l xs i k y,x = .ref l∧vs = [.int i]∧H l = some (.lst xs)∧-(2 ^ 63) ≤ i∧i < 2 ^ 63∧seqIndex? i xs.length = some k∧xs[k]? = some y∧Q y (Zy H l (.lst (xs.eraseIdx k)))
theorem Te:Z3u X "list.pop" Tq:=by
 intro Z0 s σ H x vs v us Q I rx rv h
 obtain ⟨l,xs,i,k,y,rfl,rfl,hH,h1,h2,hk,hy,q⟩:=h
 cases rx
 obtain ⟨u,rfl,ru⟩:=rv.one
 obtain ⟨t,rfl⟩:=ru
 obtain ⟨z,its,n,r,hl,e⟩:=I.lstM hH
 obtain ⟨w,hw,rw'⟩:=r.get hy
 refine call_meets F.slot_list_pop ⟨_,e,rfl⟩ F.entry_list_pop (F.args_list_pop_2 _ _)
  (MeetsSeq.list_pop_at l its.toArray n i t k w (fitsIndex_both h1 h2) (by rw [List.size_toArray,← hl]; exact hk) (by rw [← Array.getElem?_toList]; exact hw) (by rw [List.size_toArray]; omega)) ⟨e,?_⟩
 refine ⟨y,_,I.lset (its':=its.eraseIdx k) hH e ?_ (r.eraseIdx k) ?_,rw',q⟩
 ·show its.toArray.eraseIdxIfInBounds k = (its.eraseIdx k).toArray
  rw [List.eraseIdxIfInBounds_toArray]
 ·have:=W7 xs k
  omega
end
section
variable {prog:Program} {w:World} {A:Around} {E:Value→Shared→Prop} {s:Shared}
end
section
variable {X:Cx}
end
end L2
namespace Att
open PySem PySem.W PySem.Calls PyProof.Rows
theorem Xf {P:Params} {h:Heap}:∀ (ns:List Int) (vs:List Value),WellAll P h vs (ns.map WData.int)→IntsAre vs ns:=by
 intro ns
 induction ns with
 | nil =>
  intro vs w
  rw [List.map_nil] at w
  cases w
  exact .nil
 | cons n ns ih =>
  intro vs w
  rw [List.map_cons] at w
  cases w with
  | cons a b =>
   cases a
   exact .cons _ _ (ih _ b)
theorem Ur {l:OpenLaw} {n:Nat} (hn:l.most = some n) {P:Params} {h:Heap} {args:List WData} {vals:List Value}
  (hpre:l.row.toRowW.claim.pre args = true) (hwl:WellAll P h vals args) :
  ∃ a vs ns,vals = [Value.ref a]∧args = [WData.list (ns.map WData.int)]∧h.get? a = some { cls:=.type "list",data:=.seq vs.toArray }∧IntsAre vs ns∧ns.length ≤ n:=by
 have hsh:WShape.hasAll [] args [.list .int] = true:=(pre_splitW hpre).1
 have hc:l.pre.holds [] { args:=args } = true:=(pre_splitW hpre).2
 obtain ⟨d,r,rfl,h1,h2⟩:=hasAllW_cons hsh
 obtain rfl:=hasAllW_nil h2
 obtain ⟨xs,rfl,h3⟩:=hasW_list h1
 obtain ⟨ns,rfl⟩:=items_int h3
 have hlen:ns.length ≤ n:=by
  unfold OpenLaw.pre at hc
  have h4:(WTm.not (.lt (.lit (.int (n:Int))) (.len (.arg 0)))).holds [] { args:=[.list (ns.map .int)] } = true:=by
   have h4:=(holds_andW hc).1
   rw [hn] at h4
   exact h4
  have h5:=condW_of h4 (w_not (w_lt w_lit (w_len_list (w_arg rfl))))
  rw [List.length_map] at h5
  refine Nat.le_of_not_lt fun q=>?_
  have q':(n:Int) < ((ns.length:Nat):Int):=by omega
  first
   | (rw [decide_eq_true q'] at h5; exact absurd h5 (by decide))
   | (simp at h5; omega)
 cases hwl with
 | cons w1 w2 =>
  cases w2
  cases w1 with
  | list ho hall=>exact ⟨_,_,ns,rfl,rfl,ho,Xf ns _ hall,hlen⟩
theorem Uv (l:OpenLaw) (args:List WData):l.row.toRowW.claim.post args (.bool true) args = true :=
 postW_of (r:=l.row.toRowW) (X:=(true == true))
  (show WShape.has [] (.bool true) .bool = true by first | rfl | decide | simp [WShape.has,WShape.arms,WShape.armsAll])
  (show (WTm.eq .res (.lit (.bool true))).value [] { args:=args,res:=some (.bool true),after:=args } = some (.bool (true == true)) from w_eq_bool (w_res rfl) w_lit) rfl
theorem attach_call {l:OpenLaw} {n:Nat} {q:Program} {loose:List Str} {XP:(Str→Option Value)→Heap→Prop} {YP:World→Heap→Prop} {d:DefRec}
  (hn:l.most = some n) (hdf:d.params.defaults = [])
  (call:∀ (w:World) (s₀ s₁:Shared) (mg mb:Str→Option Value) (fa:Addr) (o:Obj) (pm cd doc:Value) (a:Addr) (vs:List Value) (ns:List Int),
   Ground q loose [] XP w s₀ mg mb s₁.heap→YP w s₁.heap →
   s₁.heap.get? fa = some o→o.data = .func (docDef d.name d.params d.body d.scope pm cd doc)→s₁.heap.CodeRec cd d.name→mg d.name = some (.ref fa) →
   s₁.heap.get? a = some { cls:=.type "list",data:=.seq vs.toArray }→IntsAre vs ns→ns.length ≤ n→s₁.gens = #[] →
   codeAny (model l.prog w) callerA (.call (.ref fa) ⟨[.ref a],[]⟩) (fun r s'=>r = .ok (.ret (.bool true))∧OldK s₁.heap s'.heap∧s'.os = s₁.os∧AllBare s'.gens) s₁) :
  WalkO q loose XP YP l.row.toRowW d [] (fun f vs=>PySem.call f vs):=by
 intro w s₀ s₁ mg mb G Y fa o pm cd doc dV kV ho hd hcd hD hmg hg args vals as hpre hlay hrd hwl hlo
 obtain rfl:dV = .none:=Dflts.none hD hdf
 obtain rfl:kV = .none:=Dflts.noKw hD
 obtain ⟨a,vs,ns,rfl,rfl,hobj,hints,hlen⟩:=Ur hn hpre hwl
 refine enter_call (codeAny_mono (call w s₀ s₁ mg mb fa o pm cd doc a vs ns G Y ho (fd_plain hd) hcd hmg hobj hints hlen hg) fun r s' hq=>?_)
 obtain ⟨rfl,h2,h3,h4⟩:=hq
 exact ⟨.inl ⟨.bool true,.bool true,[],rfl,fun _=>rfl,.bool true,Uv l _,fun _=>⟨List.Pairwise.nil,fun _ hm=>(nomatch hm)⟩⟩,h2,h3,h4⟩
section
variable {prog:Program} {w:World} {A:Around} {E:Value→Shared→Prop} {s:Shared} {K:Frag}
def ledger (h:Heap) (L d:Addr):List (Addr × Obj):=(List.range h.objs.size).filterMap fun a=>if a = L ∨ a = d then none else (h.get? a).map fun o=>(a,o)
end
end Att
namespace L2
open PySem PySem.Spec PyProof.Rows
theorem W3:∀ {vs:List Value} {ns:List Int},IntsAre vs ns→Vals (ns.map V.int) vs
 | _,_,.nil=>.nil
 | _,_,.cons n t h=>.cons ⟨t,rfl⟩ (W3 h)
def Z1q (H:Hp):Prop:=∀ b,H b = none ∨ ∃ o xs,H b = some (.frz o (.lst xs))
theorem Tg {P:Program} {w:World} {K:PySem.W.Frag} {mg mb:Str→Option Value} {CX:Jh} {k:Nat} {fa a:Addr} {fd:FuncData} {x:Str} {sp:Sp} {s₁:Shared} {vs:List Value} {ns:List Int}
  (KX:K.In s₁.heap) (hns:s₁.heap.Ns mainGlobals mg) (hb:s₁.heap.Ns builtinsNs mb) (hbb:∀ x:Str,x ≠ "__name__"→mb x = bootBuiltins x) (hlim:s₁.heap.NoLimit) (hg:s₁.gens = #[])
  (ha:s₁.heap.get? a = some { cls:=.type "list",data:=.seq vs.toArray }) (hi:IntsAre vs ns) (hl:ns.length ≤ sizeLine) (hr:Room k callerA)
  (F:∀ base:Heap,K.In base→base.Ns mainGlobals mg→FnOk P w K mg base CX k fa fd [x] sp) (hbind:∀ (s:Shared) (u:Value),BindsTo s fd ⟨[u],[]⟩ [(x,u)])
  (hsp:∀ H:Hp,Z1q H→SqL K H a (ns.map V.int)→sp [.ref a] H (fun v _=>v = .bl true) fun _ _ _=>False)
  (hCX:∀ H e s',CX [] H s₁ (fun _ _ _=>False) e s'→False) :
  codeAny (model P w) callerA (.call (.ref fa) ⟨[.ref a],[]⟩) (fun r s'=>r = .ok (.ret (.bool true))∧OldK s₁.heap s'.heap∧s'.os = s₁.os∧AllBare s'.gens) s₁:=by
 have rv:=W3 hi
 have lenV:=hi.length
 have core:∀ H:Hp,Z1q H→SqL K H a (ns.map V.int)→HOk P w H s₁.heap→(∀ b,H b ≠ none→b = a)→(H a ≠ none→K.lookup a = none) →
   codeAny (model P w) callerA (.call (.ref fa) ⟨[.ref a],[]⟩) (fun r s'=>r = .ok (.ret (.bool true))∧OldK s₁.heap s'.heap∧s'.os = s₁.os∧AllBare s'.gens) s₁:=by
  intro H hO hS hok hA hK
  have base_of:∀ {b:Addr} {o:Obj},s₁.heap.get? b = some o→H b = none→(Ve s₁.heap H).get? b = some o:=fun e n=>Tj e n
  have noA:∀ {b:Addr} {o:Obj} {es:Array DictEntry} {ep:Nat},s₁.heap.get? b = some o→o.data = .dict es ep→H b = none:=fun {b o es ep} e d=>by
   cases q:H b with
   | none=>rfl
   | some u =>
    have e':b = a:=hA b (by rw [q]; simp)
    subst e'
    rw [ha] at e; cases e
    have d':Data.seq vs.toArray _ = Data.dict es ep:=d
    cases d'
  have nsK:∀ {b:Addr} {m:Str→Option Value},s₁.heap.Ns b m→(Ve s₁.heap H).Ns b m:=fun {b m} ⟨o,es,ep,e,d,r⟩=>⟨o,es,ep,base_of e (noA e d),d,r⟩
  have hKb:K.In (Ve s₁.heap H):=fun b o e=>base_of (KX b o e) (by
   cases q:H b with
   | none=>rfl
   | some u =>
    have e':b = a:=hA b (by rw [q]; simp)
    subst e'
    rw [hK (by rw [q]; simp)] at e; cases e)
  have hM:Mod K mg (Ve s₁.heap H):=⟨hKb,nsK hns,⟨mb,nsK hb,hbb⟩,let ⟨mc,h1,h2⟩:=hlim; ⟨mc,nsK h1,h2⟩⟩
  have e0:Env0 P w K mg (Ve s₁.heap H) callerA [] s₁ H:=⟨rfl,hM,fun b o e=>Z01 e,Nat.le_of_eq (T3 _ _),trivial,fun b hb=>absurd (show b ∈ ([]:List Addr) from hb) (by simp),hok,.of_eq hg⟩
  refine codeAny_mono ((F _ hKb (nsK hns)).run callerA [] s₁ H ⟨[.ref a],[]⟩ [.ref a] [.ref a] _ _ hr e0 (hbind s₁ (.ref a)) (.cons rfl .nil) (hsp H hO hS)) fun r s' h=>?_
  cases r with
  | error e=>exact (hCX H e s' h).elim
  | ok fl =>
   cases fl with
   | next=>exact False.elim h
   | brk=>exact False.elim h
   | cont=>exact False.elim h
   | ret u =>
    obtain ⟨v,H',os,bare,un,hok',r',q⟩:=h
    have q':v = .bl true:=q
    subst q'
    obtain rfl:u = Value.bool true:=r'
    refine ⟨rfl,OldK.of_keep fun b o e=>?_,os,bare⟩
    cases q:H b with
    | none=>exact un.keep b o e q (by intro z; exact absurd (show b ∈ ([]:List Addr) from z) (by simp)) (by simp)
    | some u =>
     rcases hO b with z | ⟨ob,xs,z⟩
     ·rw [q] at z; cases z
     ·have z2:=un.frzs b ob _ z
      obtain ⟨e1,_⟩:=hok b _ z
      obtain ⟨e2,_⟩:=hok' b _ z2
      rw [e] at e1; cases e1
      exact e2
 cases hk:K.lookup a with
 | some o =>
  have e:=KX a o hk
  rw [ha] at e
  cases e
  refine core (fun _=>none) (fun _=>.inl rfl) (.inr ⟨_,vs.toArray,_,hk,rfl,rfl,rfl,by rw [List.size_toArray,lenV]; exact hl,by simpa using rv⟩) (fun b u z=>by have z':(none:Option HO) = some u:=z; cases z') (fun b z=>absurd rfl z) fun z=>absurd rfl z
 | none =>
  refine core (fun b=>if b = a then some (.frz { cls:=.type "list",data:=.seq vs.toArray } (.lst (ns.map V.int))) else none) (fun b=>?_) (.inl (.inr ⟨{ cls:=.type "list",data:=.seq vs.toArray },if_pos rfl⟩)) (fun b u z=>?_) (fun b z=>?_) fun _=>hk
  ·by_cases hb:b = a
   ·exact .inr ⟨_,_,if_pos hb⟩
   ·exact .inl (if_neg hb)
  ·by_cases hb:b = a
   ·have z':=(if_pos hb).symm.trans z
    cases z'
    subst hb
    exact ⟨ha,by rw [List.length_map]; exact hl,vs,_,rv,ha⟩
   ·have z':=(if_neg hb).symm.trans z
    cases z'
  ·by_cases hb:b = a
   ·exact hb
   ·exact absurd (if_neg hb) z
abbrev Z3l {K:PySem.W.Frag} {h:Heap} (_:K.In h):PySem.W.Frag:=K
theorem Jl {l:PySem.W.OpenLaw} {n k:Nat} {q:Program} {loose:List Str} {XP:(Str→Option Value)→Heap→Prop} {YP:World→Heap→Prop} {d:DefRec} {K:Params→PySem.W.Frag} {CX:World→Jh} {sp:World→Sp} {x:Str}
  (hn:l.most = some n) (hn2:n ≤ sizeLine) (hdf:d.params.defaults = []) (hr:Room k callerA)
  (hY:∀ (w:World) (h:Heap),YP w h→(K w.params).In h)
  (F:∀ (w:World) (mg:Str→Option Value) (fa:Addr) (h:Heap),(K w.params).In h→h.Ns mainGlobals mg→mg d.name = some (.ref fa) →
   ∃ fd:FuncData,(∀ (s:Shared) (u:Value),BindsTo s fd ⟨[u],[]⟩ [(x,u)]) ∧
    ∀ base:Heap,(K w.params).In base→base.Ns mainGlobals mg→FnOk l.prog w (K w.params) mg base (CX w) k fa fd [x] (sp w))
  (hsp:∀ (w:World) (H:Hp) (a:Addr) (ns:List Int),ns.length ≤ n→Z1q H→SqL (K w.params) H a (ns.map V.int)→sp w [.ref a] H (fun v _=>v = .bl true) fun _ _ _=>False)
  (hCX:∀ (w:World) (H:Hp) (s:Shared) (e:Value) (s':Shared),CX w [] H s (fun _ _ _=>False) e s'→False) :
  PySem.W.WalkO q loose XP YP l.row.toRowW d [] (fun f vs=>PySem.call f vs):=by
 refine Att.attach_call hn hdf fun w s₀ s₁ mg mb fa o pm cd doc a vs ns G Y ho hd hcd hmg hobj hints hlen hg=>?_
 have KX:=hY w _ Y
 obtain ⟨fd,hb,hF⟩:=F w mg fa _ KX G.T.g hmg
 exact Tg KX G.T.g G.T.b G.T.builtins G.T.nolimit hg hobj hints (Nat.le_trans hlen hn2) hr hF hb (fun H hO hS=>hsp w H a ns hlen hO hS) fun H e s'=>hCX w H s₁ e s'
def Yc (s:Stmt):Arguments:=match s with
 | .FunctionDef _ a _ _ _ _ _ _ _ _=>a
 | _=>{ posonlyargs:=[],args:=[],vararg:=none,kwonlyargs:=[],kw_defaults:=[],kwarg:=none,defaults:=[] }
def Y3 (s:Stmt):List Stmt:=match s with
 | .FunctionDef _ _ b _ _ _ _ _ _ _=>b
 | _=>[]
def Z6 (s:Stmt):Scope:=match s with
 | .FunctionDef _ _ _ _ _ _ sc _ _ _=>sc
 | _=>{ kind:=.function,names:=[],isGenerator:=false,isCoroutine:=false }
abbrev Vg:Jh:=fun _ _ _ _ _ _=>False
abbrev E0:XK:=fun _ _ _=>False
theorem Z29 {X:Cx}:Yv Vg X E0:=fun _ _ _ _ _ _ _ h=>h.elim
structure Fun (K:PySem.W.Frag) (x qual:Str) (st:Stmt) (f:Addr) (fd:FuncData):Prop where
 ex:∃ (oc:Value) (od:Option Addr) (kV doc pm:Value) (an:Option Addr) (cdv ct:Value) (osl:Array (Option Value)),
  fd = PySem.W.fnOf x qual (Yc st) (Y3 st) (Z6 st) .none kV doc pm an cdv ct∧K.lookup f = some ⟨oc,od,.func fd,osl⟩∧PySem.W.codeIn K cdv qual = true
 kp:PySem.W.keepIn K (.ref f) = true
section
variable {P:Program} {w:World} {K:PySem.W.Frag} {mg:Str→Option Value} {base:Heap}
theorem Fun.ok {x qual:Str} {st:Stmt} {f:Addr} {fd:FuncData} {N ps:List Str} {k:Nat} {sp:Sp} (F:Fun K x qual st f fd) (S:FnScope N ps (Z6 st)) (len:∀ vs H Q E,sp vs H Q E→vs.length = ps.length)
  (hbody:∀ (cdv:Value) (A:Around) (outer:List Env) (s:Shared) (H:Hp) (vs:List V) (Q:VK) (E:XK),Room k (A.deeper (envOfC qual (Z6 st) s.heap.objs.size f cdv))→sp vs H Q E →
   ∃ t,PSs (W2 Vg P w K mg base N qual (Z6 st) f cdv A outer s H E).nox (Y3 st) t∧t { nx:=fun _ H'=>Q .non H',rt:=Q } (start N vs) H):FnOk P w K mg base Vg (k + 1) f fd ps sp:=by
 obtain ⟨oc,od,kV,doc,pm,an,cdv,ct,osl,rfl,lk,hcd⟩:=F.ex
 refine Z0k lk hcd S len fun A outer s H vs Q E hr hsp=>?_
 obtain ⟨t,h,q⟩:=hbody cdv A outer s H vs Q E hr hsp
 exact ⟨t,h.nox,q⟩
theorem Fun.binds {x qual:Str} {st:Stmt} {f:Addr} {fd:FuncData} {ps:List Str} (F:Fun K x qual st f fd)
  (h:∀ (kV doc pm:Value) (an:Option Addr) (cdv ct:Value) (us:List Value),us.length = ps.length→bindArgs (PySem.W.fnOf x qual (Yc st) (Y3 st) (Z6 st) .none kV doc pm an cdv ct) ⟨us,[]⟩ = pure (ps.zip us)):Binds K fd ps []:=by
 obtain ⟨oc,od,kV,doc,pm,an,cdv,ct,osl,rfl,lk,hcd⟩:=F.ex
 exact .all (h kV doc pm an cdv ct)
theorem U1 {x qual:Str} {st:Stmt} {f:Addr} {oc:Value} {od an:Option Addr} {osl:Array (Option Value)} {kV doc pm cdv ct:Value} (l:K.lookup f = some ⟨oc,od,.func (PySem.W.fnOf x qual (Yc st) (Y3 st) (Z6 st) .none kV doc pm an cdv ct),osl⟩)
  (c:PySem.W.codeIn K cdv qual = true) (k:PySem.W.keepIn K (.ref f) = true):Fun K x qual st f (PySem.W.fnOf x qual (Yc st) (Y3 st) (Z6 st) .none kV doc pm an cdv ct):=⟨⟨oc,od,kV,doc,pm,an,cdv,ct,osl,rfl,l,c⟩,k⟩
end
theorem Zr {n:Nat} (h:n ≤ 1000):n < sizeLine:=Nat.lt_of_le_of_lt h (by decide)
section
variable {X:Cx}
theorem pv (i:Nat) {x:Str} {pos:Pos} (hN:X.N[i]? = some x:=by rfl) (hv:Z2w X.env.scope x:=by first | exact Or.inl rfl | exact Or.inr (Or.inl rfl) | exact Or.inr (Or.inr rfl)) (hd:(x == ("__debug__":Str)) = false:=by decide)
  (hcd:(x == ("__classdict__":Str)) = false:=by decide):PE X (.Name x pos) (Z08 i):=Z13 hN hv hd hcd
end
theorem Z1m {A B:Prop} (h:B):if false = true then A else B:=by
 rw [if_neg Bool.false_ne_true]
 exact h
theorem Vo {A B:Prop} (h:A):if true = true then A else B:=by
 rw [if_pos rfl]
 exact h
theorem Yx {c A B:Prop} [Decidable c] (h1:c→A) (h2:¬ c→B):if c then A else B:=by
 by_cases h:c
 ·rw [if_pos h]
  exact h1 h
 ·rw [if_neg h]
  exact h2 h
def Same (H H':Hp):Prop:=∀ b o,H b = some o→H' b = some o
theorem Same.trans {H H1 H2:Hp} (a:Same H H1) (b:Same H1 H2):Same H H2:=fun c o h=>b c o (a c o h)
theorem Same.free {H H':Hp} (e:Same H H') {l:Addr} (h:H' l = Option.none):H l = Option.none:=by
 cases q:H l with
 | none=>rfl
 | some o =>
  rw [e l o q] at h
  cases h
def Y6 (cells:List (Str × Addr)) (cs:List (Str × Addr)) (p:Str × NameKind):List (Str × Addr) :=
 if (p.2 == .free) = true then (match cells.lookup p.1 with | some c=>(p.1,c) :: cs | none=>cs) else cs
def Vp (names:List (Str × NameKind)) (cells:List (Str × Addr)):List (Str × Addr):=names.foldl (Y6 cells) []
theorem Vk {α β:Type} {l:List α} {f:α→β→Sem (ForInStep β)} (g:β→α→β):∀ (c:β),(∀ x ∈ l,∀ c,f x c = pure (.yield (g c x)))→forIn l c f = pure (l.foldl g c):=by
 induction l with
 | nil=>intro c _; rfl
 | cons x l ih =>
  intro c h
  rw [List.forIn_cons,h x List.mem_cons_self,pure_bind]
  exact ih _ fun y hy=>h y (List.mem_cons_of_mem _ hy)
theorem Xy {scope:Scope} {env:Env} (h:∀ p ∈ scope.names,p.2 = .free→∃ c,env.cells.lookup p.1 = some c):closureFor scope env = pure (Vp scope.names env.cells):=by
 simp only [closureFor]
 rw [Vk (Y6 env.cells) [] (fun p hp c=>by
  obtain ⟨n,k⟩:=p
  by_cases hk:k = .free
  ·subst hk
   obtain ⟨a,e⟩:=h _ hp rfl
   have e':env.cells.lookup n = some a:=e
   simp [Y6,cellOf,e']
  ·have hb:(k == NameKind.free) = false:=by simpa using hk
   simp [Y6,hb])]
 rfl
theorem Vm {cells:List (Str × Addr)} {cs:List (Str × Addr)} {p:Str × NameKind} (h:∀ y c,cs.lookup y = some c→cells.lookup y = some c):∀ y c,(Y6 cells cs p).lookup y = some c→cells.lookup y = some c:=by
 intro y c e
 unfold Y6 at e
 split at e
 ·split at e
  ·rename_i c' hc'
   rw [List.lookup_cons] at e
   split at e
   ·rename_i hy
    have:y = p.1:=by simpa using hy
    rw [this,hc']
    exact e
   ·exact h y c e
  ·exact h y c e
 ·exact h y c e
theorem Vb (names:List (Str × NameKind)) (cells:List (Str × Addr)):∀ y c,(Vp names cells).lookup y = some c→cells.lookup y = some c:=by
 have all:∀ (names:List (Str × NameKind)) (cs:List (Str × Addr)),(∀ y c,cs.lookup y = some c→cells.lookup y = some c)→∀ y c,(names.foldl (Y6 cells) cs).lookup y = some c→cells.lookup y = some c:=by
  intro names
  induction names with
  | nil=>intro cs h; exact h
  | cons p r ih=>intro cs h; exact ih _ (Vm h)
 exact all names [] (fun y c e=>by simp at e)
theorem V3 {cells cs:List (Str × Addr)} {p:Str × NameKind} {y:Str} (h:(cs.lookup y).isSome = true):((Y6 cells cs p).lookup y).isSome = true:=by
 unfold Y6
 split
 ·split
  ·rw [List.lookup_cons]
   split
   ·rfl
   ·exact h
  ·exact h
 ·exact h
theorem Tl {names:List (Str × NameKind)} {cells:List (Str × Addr)} {y:Str} {c:Addr} (hm:(y,NameKind.free) ∈ names) (hc:cells.lookup y = some c):∃ c,(Vp names cells).lookup y = some c:=by
 have kp:∀ (names:List (Str × NameKind)) (cs:List (Str × Addr)),(cs.lookup y).isSome = true→((names.foldl (Y6 cells) cs).lookup y).isSome = true:=by
  intro names
  induction names with
  | nil=>intro cs h; exact h
  | cons p r ih=>intro cs h; exact ih _ (V3 h)
 have all:∀ (names:List (Str × NameKind)) (cs:List (Str × Addr)),(y,NameKind.free) ∈ names→((names.foldl (Y6 cells) cs).lookup y).isSome = true:=by
  intro names
  induction names with
  | nil=>intro cs h; cases h
  | cons p r ih =>
   intro cs h
   rcases List.mem_cons.mp h with e | h
   ·subst e
    refine kp r _ ?_
    unfold Y6
    simp [hc]
   ·exact ih _ h
 exact Option.isSome_iff_exists.mp (all names [] hm)
theorem Zv (env:Env):∀ (names:List (Str × NameKind)) (y:Str),
  (names.map fun (n,k)=>if (k == NameKind.free && env.scope.kind == .function && env.kindOf n == some .cell) then (n,NameKind.cell) else (n,k)).lookup y =
   (names.lookup y).map fun k=>if (k == NameKind.free && env.scope.kind == .function && env.kindOf y == some .cell) then NameKind.cell else k
 | [],_=>rfl
 | (n,k) :: r,y=>by
  have ih:=Zv env r y
  show List.lookup y ((if (k == NameKind.free && env.scope.kind == .function && env.kindOf n == some .cell) = true then (n,NameKind.cell) else (n,k)) :: _) = _
  cases hx:y == n with
  | true =>
   have e:y = n:=by simpa using hx
   subst e
   by_cases hc:(k == NameKind.free && env.scope.kind == .function && env.kindOf y == some .cell) = true
   ·rw [if_pos hc]; simp only [List.lookup_cons,hx,Option.map_some]; rw [if_pos hc]
   ·rw [if_neg hc]; simp only [List.lookup_cons,hx,Option.map_some]; rw [if_neg hc]
  | false =>
   by_cases hc:(k == NameKind.free && env.scope.kind == .function && env.kindOf n == some .cell) = true
   ·rw [if_pos hc]; simp only [List.lookup_cons,hx]; exact ih
   ·rw [if_neg hc]; simp only [List.lookup_cons,hx]; exact ih
def Y4 (X:Cx) (N':List Str) (scope:Scope) (x:Str) (C:Addr) (s:Shared) (H:Hp) (ex:List Addr):Cx :=
 { X with N:=x :: N',s₀:=s,H₀:=H,env:=compEnvC scope (Vp scope.names X.env.cells) C X.env,outer:=X.stack,ex:=ex,fn:=fun _=>false,pn:=[],xe:=fun _ _=>False }
structure CScope3 (x:Str) (N N':List Str) (osc scope:Scope):Prop where
 kind:scope.kind = .function
 nd:(x :: N').Nodup
 own:scope.names.lookup x = some .local
 nocell:∀ y ∈ scope.names,y.2 ≠ .cell
 names:∀ y ∈ scope.names,y.2 = .local→scope.names.lookup y.1 = some .local
 free:∀ y ∈ scope.names,y.2 = .free→osc.names.lookup y.1 = some .cell
 nol:∀ y ∈ N',scope.names.lookup y ≠ some .local
 len:N'.length = N.length
 hid:∀ p ∈ N'.zip N,p.1 = p.2 ∨ scope.names.lookup p.1 = none
section
variable {X:Cx} {N':List Str} {Z0:List (Addr × Obj)} {σ:St} {H:Hp} {s:Shared}
theorem CScope3.has {x:Str} {scope:Scope} (S:CScope3 x X.N N' X.env.scope scope) (ok:X.Ok):∀ p ∈ scope.names,p.2 = .free→∃ c,X.env.cells.lookup p.1 = some c:=fun p hp hk =>
 ok.has p.1 (.inl (S.free p hp hk))
theorem Vd {x y:Str} {scope:Scope} {C:Addr} {H₀:Hp} {ex:List Addr} (S:CScope3 x X.N N' X.env.scope scope) (ok:X.Ok) (hk:(Y4 X N' scope x C s H₀ ex).env.kindOf y = some .cell ∨ (Y4 X N' scope x C s H₀ ex).env.kindOf y = some .free) :
  X.env.kindOf y = some .cell∧∃ c,(Vp scope.names X.env.cells).lookup y = some c:=by
 have e:(Y4 X N' scope x C s H₀ ex).env.kindOf y = (scope.names.lookup y).map fun k=>if (k == NameKind.free && X.env.scope.kind == .function && X.env.kindOf y == some .cell) then NameKind.cell else k:=Zv X.env scope.names y
 rw [e] at hk
 cases q:scope.names.lookup y with
 | none=>rw [q] at hk; simp at hk
 | some k =>
  rw [q] at hk
  have hm:=PySem.mem_of_lookup q
  have hfree:k = .free:=by
   cases k with
   | free=>rfl
   | cell=>exact absurd rfl (S.nocell _ hm)
   | _=>simp at hk
  subst hfree
  have h1:=S.free _ hm rfl
  obtain ⟨c,hc⟩:=ok.has y (.inl h1)
  exact ⟨h1,Tl hm hc⟩
theorem Vn {x:Str} {scope:Scope} {C acc:Addr} {fp:List Addr} {h':Heap} {t':Nat} {m:Str→Option Value} (S:CScope3 x X.N N' X.env.scope scope) (I:Inv X Z0 σ H s) (hf:∀ b ∈ fp,Xu X Z0 H b) (ho:∀ b ∈ fp,∃ o,s.heap.get? b = some o)
  (hC:s.heap.objs.size ≤ C) (hn:h'.Ns C m) (old:∀ b o,s.heap.get? b = some o→h'.get? b = some o):Inv (Y4 X N' scope x C s H fp) [] (none :: σ) H { s with heap:=h',toks:=t' }:=by
 have sub:=Vb scope.names X.env.cells
 refine ⟨⟨I.ok.mod,S.kind,I.ok.glob,I.ok.blt,hC,fun y z c h1 h2=>I.ok.inj y z c (sub _ _ h1) (sub _ _ h2),fun y hy=>(Vd S I.ok hy).2,fun y c z _=>absurd (show false = true from z) Bool.false_ne_true,I.ok.hd,I.ok.frames,.inl rfl,fun b hb=>⟨?_,fun y c e=>?_⟩,I.bs,Nat.le_trans I.ok.bsz I.sz,fun b o e hb=>?_,fun b hb z=>?_,I.stack,I.stkFree⟩,
  rfl,I.bare,Un.kept old,⟨m,hn,fun i y v h1 h2 h3=>?_⟩,fun y c e=>?_,I.hok.fresh hC,fun y c e=>I.freeC y c (sub _ _ e),fun p hp=>absurd (show p ∈ ([]:List (Addr × Obj)) from hp) (by simp),I.hok.kept old,?_⟩
 ·obtain ⟨o,e⟩:=ho b hb
  exact Nat.ne_of_lt (Nat.lt_of_lt_of_le (Heap.lt_size e) hC)
 ·exact (hf b hb).2.2.2.2.1 y c (sub _ _ e)
 ·rcases (hf b hb).2.2.2.1 with z | z
  ·exact I.ok.noex b o e z
  ·exact absurd (Nat.lt_of_lt_of_le (Heap.lt_size e) (Nat.le_trans I.ok.bsz z)) (Nat.lt_irrefl _)
 ·rcases List.mem_cons.mp (I.stkSub b z) with e | e
  ·exact (hf b hb).2.1 e
  ·exact (hf b hb).2.2.1 e
 ·cases i with
  | zero=>simp at h2
  | succ i =>
   have h0':N'[i]? = some y:=h1
   have h2':σ[i]? = some (some v):=by simpa using h2
   have hk:(Y4 X N' scope x C s H fp).env.kindOf y = some .cell ∨ (Y4 X N' scope x C s H fp).env.kindOf y = some .free:=by
    rcases h3 with h3 | h3
    ·exfalso
     have e:(Y4 X N' scope x C s H fp).env.kindOf y = (scope.names.lookup y).map fun k=>if (k == NameKind.free && X.env.scope.kind == .function && X.env.kindOf y == some .cell) then NameKind.cell else k:=Zv X.env scope.names y
     have h3':(Y4 X N' scope x C s H fp).env.kindOf y = some .local:=h3
     rw [e] at h3'
     cases q:scope.names.lookup y with
     | none=>rw [q] at h3'; cases h3'
     | some k =>
      rw [q] at h3'
      rw [Option.map_some] at h3'
      split at h3'
      ·cases h3'
      ·cases h3'
       exact S.nol y (List.mem_of_getElem? h0') q
    ·exact h3
   obtain ⟨hk1,c,hc⟩:=Vd S I.ok hk
   have h1':X.N[i]? = some y:=by
    have hlt:i < N'.length:=(List.getElem?_eq_some_iff.mp h0').1
    have hlt2:i < X.N.length:=by rw [← S.len]; exact hlt
    have hz:(y,X.N[i]) ∈ N'.zip X.N:=by
     refine List.mem_iff_getElem?.mpr ⟨i,?_⟩
     rw [List.getElem?_zip_eq_some]
     exact ⟨h0',List.getElem?_eq_getElem hlt2⟩
    rcases S.hid _ hz with e | e
    ·have e':y = X.N[i]:=e
     rw [List.getElem?_eq_getElem hlt2,← e']
    ·exfalso
     have e':scope.names.lookup y = none:=e
     have e2:(Y4 X N' scope x C s H fp).env.kindOf y = (scope.names.lookup y).map fun k=>if (k == NameKind.free && X.env.scope.kind == .function && X.env.kindOf y == some .cell) then NameKind.cell else k:=Zv X.env scope.names y
     rw [e2,e'] at hk
     rcases hk with hk | hk <;> cases hk
   obtain ⟨m1,hn1,hl⟩:=I.loc
   obtain ⟨u,r,l⟩:=hl i y v h1' h2' (.inr (.inl hk1))
   refine ⟨u,r,.inr ⟨hk,c,hc,?_⟩⟩
   rcases l with ⟨l,_⟩ | ⟨_,c',hc',z⟩
   ·rw [hk1] at l; cases l
   ·have:=sub _ _ hc
    rw [hc'] at this
    cases this
    obtain ⟨o,e,d⟩:=z
    exact ⟨o,old _ _ e,d⟩
 ·obtain ⟨v,o,e1,d⟩:=I.cell y c (sub _ _ e)
  exact ⟨v,o,old _ _ e1,d⟩
 ·show (none :: σ).length = (x :: N').length
  simp [I.len,S.len]
def Z2y (X:Cx) (ifs:List Expr) (t:TT):Prop :=
 ∀ (Z0:List (Addr × Obj)) (s:Shared) (σ:St) (H:Hp) (Q:Bool→Hp→Prop),Inv X Z0 σ H s→t σ H Q →
  wpAny (model X.prog X.w) X.A (forIn ifs true fun c r=>if r = true then do let ok ← isTrue c X.env (eval c X.env); pure (ForInStep.yield ok) else pure (ForInStep.yield r)) (TP X Z0 σ Q) X.xe s
def Z1g:TT:=fun _ H Q=>Q true H
theorem Wo:Z2y X [] Z1g:=fun _ _ _ H _ I h=>wpAny_tests_nil ⟨H,I,h⟩
def Z2t (J:It) (σ:St) (tt:TT) (te:TE) (Fin:List V→Hp→Prop) (H1:Hp):Prop:=∃ W:Nat→Nat→List V→Hp→Prop,(∃ m,W 0 m [] H1)∧∀ i m ys H,W i m ys H →
 (J.stop i H∧Fin ys H) ∨ (J.go i H∧ys.length < sizeLine∧∃ N:List V→Hp→Prop,(∀ ys' H',N ys' H'→∃ m',m' < m∧W (i + 1) m' ys' H')∧∀ x H',J.yld i H x H'→tt (some x :: σ) H' fun b H2 =>
  if b = true then te (some x :: σ) H2 fun y H3=>N (ys ++ [y]) H3 else N ys H2)
def Z3n (wi:TI) (tt:TT) (te:TE):TE:=fun σ H Q=>wi σ H fun J H1=>Z2t J σ tt te (fun ys H=>∀ l,H l = none→Q (.ref l) (Zy H l (.lst ys))) H1
theorem Vl {elt iter:Expr} {x:Str} {px pos:Pos} {scope:Scope} {ifs:List Expr} {tt:TT} {te:TE} {s2:Shared} {it:Addr} {fp:List Addr} {tn:Nat→Heap→Prop} {J:It} {H2:Hp} {E:Value→Shared→Prop} {Fin:List V→Hp→Prop} {RR:Value→Addr→Result→Shared→Prop}
  (hc:X.calm = true) (S:CScope3 x X.N N' X.env.scope scope) (I2:Inv X Z0 σ H2 s2) (T:Turn X.prog X.w X.K (.Name x px) J fp it tn) (st2:tn 0 s2.heap) (f2:∀ b ∈ fp,Xu X Z0 H2 b) (hw:Z2t J σ tt te Fin H2)
  (ht:∀ C s H ex,Z2y (Y4 X N' scope x C s H ex) ifs tt) (he:∀ C s H ex,PE (Y4 X N' scope x C s H ex) elt te)
  (hRR:∀ D C s4 ys H3 m5,Inv X Z0 σ (Zy H3 D (.lst ys)) s4→s4.heap.Ns C m5→Xu X Z0 (Zy H3 D (.lst ys)) C→H3 D = none→Fin ys H3→RR (.ref D) C (.ok .next) s4) :
  wpAny (model X.prog X.w) X.A (newList []) (fun acc s₃=>wpAny (model X.prog X.w) X.A (newFunctionEnv scope X.env.globals (Vp scope.names X.env.cells) [] X.env.qual none .none (some X.env)) (fun cenv s₄ =>
   codeAny (model X.prog X.w) X.A (.compStart (.ListComp elt [⟨.Name x px,iter,ifs,0⟩] scope pos) 0 (.ref it) acc { cenv with scope:=relabel scope X.env }) (RR acc cenv.locals) s₄) E s₃) E s2:=by
 obtain ⟨W,⟨m0,w0⟩,turn⟩:=hw
 have hob:=T.obj 0 s2.heap st2
 refine wpAny_newObj_type (wpAny_newFunctionEnv S.nocell (by intro y hy; simp at hy) (fun h₁ hns₁ hsb₁=>?_) S.kind)
 dsimp only at hns₁ hsb₁ ⊢
 generalize hG2:s2.heap.push { cls:=.type "list",dict:=none,data:=.seq ([]:List Value).toArray } = G2 at hns₁ hsb₁ ⊢
 have hC:G2.objs.size = s2.heap.objs.size + 1:=by rw [← hG2,Heap.size_push]
 have hDC:s2.heap.objs.size ≠ G2.objs.size:=by rw [hC]; exact Nat.ne_of_lt (Nat.lt_succ_self _)
 have hCle:s2.heap.objs.size ≤ G2.objs.size:=by rw [hC]; exact Nat.le_succ _
 have below:∀ b,b < s2.heap.objs.size→b ≠ G2.objs.size∧b ≠ s2.heap.objs.size:=fun b hb=>⟨by rw [hC]; exact Nat.ne_of_lt (Nat.lt_succ_of_lt hb),Nat.ne_of_lt hb⟩
 have old:∀ b o,s2.heap.get? b = some o→h₁.get? b = some o:=fun b o e=>hsb₁.extBut b o (below b (Heap.lt_size e)).1 (Heap.get?_push_of_some _ (hG2 ▸ Heap.get?_push_of_some _ e))
 have hacc:h₁.get? s2.heap.objs.size = some { cls:=.type "list",data:=.seq ([]:List Value).toArray 0 }:=hsb₁.extBut _ _ hDC (Heap.get?_push_of_some _ (hG2 ▸ Heap.get?_push_size _ rfl))
 generalize hD:s2.heap.objs.size = D at *
 generalize hCC:G2.objs.size = C at *
 have hDf:D ∉ fp:=fun hm=>by
  obtain ⟨o,e,_⟩:=hob D hm
  exact absurd (Heap.lt_size e) (by rw [hD]; exact Nat.lt_irrefl _)
 have I4:Inv (Y4 X N' scope x C s2 H2 fp) [] (none :: σ) H2 { s2 with heap:=h₁,toks:=s2.toks + ([]:List (Str × Value)).length } :=
  Vn (acc:=D) S I2 f2 (fun b hb=>let ⟨o,e,_⟩:=hob b hb; ⟨o,e⟩) (by omega) hns₁ old
 have hDn:∀ {σ':St} {H':Hp} {s':Shared},Inv (Y4 X N' scope x C s2 H2 fp) [] σ' H' s'→(∀ b ∈ fp,H' b = none)→∀ b ∈ fp,Xu (Y4 X N' scope x C s2 H2 fp) [] H' b:=fun {σ' H' s'} I' hn b hb=>by
  refine ⟨hn b hb,(I'.ok.exf b hb).1,I'.ok.exfs b hb,.inl hb,fun y c e=>(I'.ok.exf b hb).2 y c e,fun p hp=>absurd (show p ∈ ([]:List (Addr × Obj)) from hp) (by simp)⟩
 have hDfp:∀ {σ':St} {H':Hp} {s':Shared},Inv (Y4 X N' scope x C s2 H2 fp) [] σ' H' s'→H' D = none→Xu (Y4 X N' scope x C s2 H2 fp) [] H' D:=fun {σ' H' s'} I' hn=>by
  refine ⟨hn,hDC,fun z=>?_,.inr (by show s2.heap.objs.size ≤ D; omega),fun y c e=>?_,fun p hp=>absurd (show p ∈ ([]:List (Addr × Obj)) from hp) (by simp)⟩
  ·obtain ⟨_,o,e,_⟩:=I'.ok.funs.mem z
   exact absurd (show D < s2.heap.objs.size from Heap.lt_size e) (by rw [hD]; exact Nat.lt_irrefl _)
  ·obtain ⟨v,z⟩:=I2.cell y c (Vb _ _ _ _ e)
   intro e2
   exact absurd z.lt (by rw [hD,e2]; exact Nat.lt_irrefl _)
 have hgt:∀ b o,s2.heap.get? b = some o→b ≠ C∧b ≠ D:=fun b o e=>by
  have z:=below b (by rw [← hD]; exact Heap.lt_size e)
  exact z
 let LI:Nat→Shared→Prop:=fun n s'=>∃ i ys its k σ0 H',Inv (Y4 X N' scope x C s2 H2 fp) [] (σ0 :: σ) H' s'∧tn i s'.heap∧(∀ b ∈ fp,H' b = none)∧H' D = none∧Vals ys its∧ys.length ≤ sizeLine∧s'.heap.get? D = some { cls:=.type "list",data:=.seq its.toArray k }∧W i n ys H'
 have loop:∀ s₃:Shared,s₃ = { s2 with heap:=h₁,toks:=s2.toks + ([]:List (Str × Value)).length } →
   codeAny (model X.prog X.w) X.A (.compLoop (.ListComp elt [⟨.Name x px,iter,ifs,0⟩] scope pos) 0 (.ref it) (.ref D) (compEnvC scope (Vp scope.names X.env.cells) C X.env))
    (RR (.ref D) C) s₃:=by
  rintro s₃ rfl
  refine codeAny_compLoop_tests LI ?_ m0 ⟨0,[],[],0,none,H2,I4,T.keep _ _ _ st2 (fun b _ o e=>old b o e),fun b hb=>(f2 b hb).1,I2.hok.fresh (by rw [hD]; exact Nat.le_refl _),.nil,Nat.zero_le _,hacc,w0⟩
  rintro n s3 ⟨i,ys,its,k,σ0,H3,I3,st3,fr3,frD,rv,hysz,ha3,w3⟩
  have IP:Inv (Y4 X N' scope x C s2 H2 fp) [(D,{ cls:=.type "list",data:=.seq its.toArray k })] (σ0 :: σ) H3 s3:=I3.pins_of fun p hp=>by
   have e:p = (D,{ cls:=.type "list",data:=.seq its.toArray k }):=by simpa using hp
   subst e
   obtain ⟨f0,f1,f3,_⟩:=hDfp I3 frD
   exact ⟨ha3,f0,f1,f3,fun v z=>by cases z⟩
  have fpP:∀ {H':Hp},(∀ b ∈ fp,H' b = none)→∀ b ∈ fp,Xu (Y4 X N' scope x C s2 H2 fp) [(D,{ cls:=.type "list",data:=.seq its.toArray k })] H' b:=fun {H'} hn b hb=>by
   refine ⟨hn b hb,(I3.ok.exf b hb).1,I3.ok.exfs b hb,.inl hb,fun y c e=>(I3.ok.exf b hb).2 y c e,fun p hp=>?_⟩
   have e:p = (D,{ cls:=.type "list",data:=.seq its.toArray k }):=by
    have hp':p ∈ [(D,({ cls:=.type "list",data:=.seq its.toArray k }:Obj))]:=hp
    simpa using hp'
   subst e
   exact fun z=>hDf (by rw [show D = b from z]; exact hb)
  rcases turn i n ys H3 w3 with ⟨stop,qn⟩ | ⟨go,hlen,N,hN,step⟩
  ·refine wpAny_mono (T.done (Y4 X N' scope x C s2 H2 fp) rfl rfl rfl hc i _ s3 (σ0 :: σ) H3 (fun _ _=>False) IP (fpP fr3) st3 stop) (fun r s4 ⟨hr,I5⟩=>?_) fun _ _ z=>z.elim
   subst hr
   obtain ⟨m5,hn5,_⟩:=I5.loc
   have hD4:=(I5.pin _ (List.mem_append_right _ (List.mem_singleton.mpr rfl))).1
   have hcn:H3 C = none:=I5.free
   have hok':HOk X.prog X.w (Zy H3 D (.lst ys)) s4.heap:=fun b u e=>by
    by_cases hb:b = D
    ·subst hb
     rw [Z8] at e
     cases e
     exact ⟨hysz,its,k,rv,hD4⟩
    ·rw [Zb hb] at e
     exact (I5.hok b u e).stay (fun c v hc q=>q) (fun c q=>by rw [Zb (Z7 q frD)]; exact q) fun c xs q=>by rw [Zb (Z7 q frD)]; exact q
   have un':Un (Xg X.stack) fp H2 (Zy H3 D (.lst ys)) s2.heap s4.heap:=by
    have u:=I5.base
    refine ⟨u.keep,u.slot,fun b o q n hx=>?_,u.there,fun b xs q=>?_,fun b o xs q=>?_,fun b ps q=>?_⟩
    ·rw [Zb (hgt b o q).2]
     exact u.free b o q n hx
    ·have e:=u.tups b xs q
     rw [Zb (Z7 e frD)]
     exact e
    ·have e:=u.frzs b o xs q
     rw [Zb (Z7 e frD)]
     exact e
    ·obtain ⟨more,e⟩:=u.tbls b ps q
     exact ⟨more,by rw [Zb (Z7 e frD)]; exact e⟩
   have I6:Inv X Z0 σ (Zy H3 D (.lst ys)) s4:=I2.call' (ch:=fp) I5.os un' hok' I5.bare (fun b hb=>⟨(f2 b hb).2.2.2.1,(f2 b hb).2.1,(f2 b hb).2.2.2.2.1,(f2 b hb).2.2.2.2.2⟩)
   exact hRR D C s4 ys H3 m5 I6 hn5 (I2.fpOk (by rw [hD]; exact hCle) (by rw [Zb (Ne.symm hDC)]; exact hcn)) frD qn
  ·refine wpAny_mono (T.item (Y4 X N' scope x C s2 H2 fp) rfl rfl rfl hc i _ s3 (σ0 :: σ) H3 (fun _ _=>False) IP (fpP fr3) st3 go) (fun r s4 ⟨u,hr,h4⟩=>?_) fun _ _ z=>z.elim
   subst hr
   show wpAny (model X.prog X.w) X.A (letOwnedTupleGo (.Name x px) (.ref it) u >>= fun _=>assign (.Name x px) (compEnvC scope (Vp scope.names X.env.cells) C X.env) u) _ _ s4
   refine wpAny_bind (wpAny_mono h4 (fun _ s5 ⟨xv,H5,I5,r5,y5,st5,fr5⟩=>?_) fun _ _ z=>z.elim)
   have I5':=I5.pinned (fpP fr5) (T.obj _ _ st5)
   have hloc:Z1r (Y4 X N' scope x C s2 H2 fp).env.scope x:=.inl (lookup_relabel_local S.own)
   refine wpAny_mono (U4 (X:=Y4 X N' scope x C s2 H2 fp) (i:=0) S.nd rfl hloc (.inr (lookup_relabel_local S.own)) _ s5 (σ0 :: σ) H5 xv u (fun σ' H'=>σ' = some xv :: σ∧H' = H5) I5' r5 ⟨rfl,rfl⟩) (fun _ s6 ⟨σ6,H6,I6,e1,e2⟩=>?_) fun _ _ z=>z.elim
   subst e1 e2
   refine wpAny_mono (ht C s2 H2 fp _ s6 (some xv :: σ) H6 _ I6 (step xv H6 y5)) (fun b s7 ⟨H7,I7,q7⟩=>?_) fun _ _ z=>z.elim
   have hpD:∀ {σ':St} {H':Hp} {s':Shared},Inv (Y4 X N' scope x C s2 H2 fp) ([(D,{ cls:=.type "list",data:=.seq its.toArray k })] ++ Xd fp s5.heap) σ' H' s'→s'.heap.get? D = some { cls:=.type "list",data:=.seq its.toArray k }∧H' D = none:=fun {σ' H' s'} I'=>by
    have z:=I'.pin (D,{ cls:=.type "list",data:=.seq its.toArray k }) (List.mem_append_right _ (List.mem_append_left _ (List.mem_singleton.mpr rfl)))
    exact ⟨z.1,z.2.1⟩
   have hpF:∀ {σ':St} {H':Hp} {s':Shared},Inv (Y4 X N' scope x C s2 H2 fp) ([(D,{ cls:=.type "list",data:=.seq its.toArray k })] ++ Xd fp s5.heap) σ' H' s'→(∀ b ∈ fp,∀ o,s5.heap.get? b = some o→s'.heap.get? b = some o)∧∀ b ∈ fp,H' b = none:=fun {σ' H' s'} I'=>by
    refine ⟨fun b hb o e=>(I'.pin (b,o) (List.mem_append_right _ (List.mem_append_right _ (Yh hb e)))).1,fun b hb=>?_⟩
    obtain ⟨o,e,d⟩:=T.obj _ _ st5 b hb
    exact (I'.pin (b,o) (List.mem_append_right _ (List.mem_append_right _ (Yh hb e)))).2.1
   cases b with
   | false =>
    rw [if_neg Bool.false_ne_true] at q7 ⊢
    obtain ⟨m',hm,w7⟩:=hN _ _ q7
    exact ⟨m',hm,i + 1,ys,its,k,some xv,H7,I7.pins_of (pins':=[]) (fun p hp=>absurd hp (by simp)),T.keep _ _ _ st5 (hpF I7).1,(hpF I7).2,(hpD I7).2,rv,hysz,(hpD I7).1,w7⟩
   | true =>
    rw [if_pos rfl] at q7 ⊢
    refine wpAny_mono (he C s2 H2 fp _ s7 (some xv :: σ) H7 _ I7 q7) (fun u8 s8 ⟨y,H8,I8,r8,q8⟩=>?_) fun _ _ z=>z.elim
    obtain ⟨m',hm,w8⟩:=hN _ _ q8
    obtain ⟨hd1,hd2⟩:=hpD I8
    have hl:=rv.length
    refine append_at hd1 (fun h' hs' e'=>?_) (by rw [List.size_toArray]; omega)
    have I9:Inv (Y4 X N' scope x C s2 H2 fp) [] (some xv :: σ) H8 s8:=I8.pins_of (pins':=[]) (fun p hp=>absurd hp (by simp))
    obtain ⟨f0,f1,f3,f4,f5,f6⟩:=hDfp I9 hd2
    refine ⟨m',hm,i + 1,ys ++ [y],its ++ [u8],k + 1,some xv,H8,I9.turned (it:=D) (t':=s8.toks) (fun b o hb e=>(hs'.2 b hb).trans e) f0 f1 f4 f5 f6,
     T.keep _ _ _ st5 (fun b hb o e=>(hs'.2 b (fun z=>hDf (by rw [← z]; exact hb))).trans ((hpF I8).1 b hb o e)),(hpF I8).2,hd2,rv.append (.cons r8 .nil),by rw [List.length_append,List.length_singleton]; omega,?_,w8⟩
    rw [e',List.push_toArray]
 exact codeAny_compStart_list (loop _ rfl) (T.self _ 0 _ _ _ (T.keep _ _ _ st2 (fun b _ o e=>old b o e)) (loop _ rfl))
theorem Uw {elt iter:Expr} {x:Str} {px pos:Pos} {scope:Scope} {ifs:List Expr} {wi:TI} {tt:TT} {te:TE} (hc:X.calm = true) (S:CScope3 x X.N N' X.env.scope scope) (hi:PI X (.Name x px) iter wi)
  (ht:∀ C s H ex,Z2y (Y4 X N' scope x C s H ex) ifs tt) (he:∀ C s H ex,PE (Y4 X N' scope x C s H ex) elt te) (hs:∀ v,foldedSetIterable iter X.env v = pure v:=by intro _; rfl) :
  PE X (.ListComp elt [⟨.Name x px,iter,ifs,0⟩] scope pos) (Z3n wi tt te):=by
 intro Z0 s σ H Q I h
 rw [eval_ListComp]
 refine wpAny_comprehension_free (use:=none) rfl hs (Xy (S.has I.ok)) S.kind S.names (Yb (hi Z0 s σ H _ I h) fun v s1 h1=>Yb h1 fun itv s2 h2=>?_)
 obtain ⟨it,fp,tn,J,H2,e,I2,T,st2,f2,hw⟩:=h2
 subst e
 refine Vl (RR:=fun acc C=>compPost (model X.prog X.w) X.A X.xe none (EP X Z0 σ Q) acc C) hc S I2 T st2 f2 hw ht he fun D C s4 ys H3 m5 I5 hn5 fC frD qn=>⟨m5,hn5,fun h' hs'=>?_⟩
 obtain ⟨f0,f1,f3,f4,f5,f6⟩:=fC
 exact ⟨.ref D,_,I5.turned (it:=C) (t':=s4.toks) (fun b o hb e=>(hs'.2 b hb).trans e) f0 f1 f4 f5 f6,rfl,qn D frD⟩
abbrev Z3q (X:Cx) (scope:Scope) (x:Str) (C:Addr) (s:Shared) (H:Hp) (ex:List Addr):Cx:=Y4 X X.N scope x C s H ex
structure CScope (x:Str) (N:List Str) (osc scope:Scope):Prop where
 kind:scope.kind = .function
 nd:(x :: N).Nodup
 own:scope.names.lookup x = some .local
 nocell:∀ y ∈ scope.names,y.2 ≠ .cell
 names:∀ y ∈ scope.names,y.2 = .local→scope.names.lookup y.1 = some .local
 free:∀ y ∈ scope.names,y.2 = .free→osc.names.lookup y.1 = some .cell
 nol:∀ y ∈ N,scope.names.lookup y ≠ some .local
theorem V4 {α:Type}:∀ (l:List α),∀ p ∈ l.zip l,p.1 = p.2
 | [],p,h=>by simp at h
 | a :: l,p,h=>by
  rw [List.zip_cons_cons] at h
  rcases List.mem_cons.mp h with rfl | h
  ·rfl
  ·exact V4 l p h
theorem CScope.to3 {x:Str} {N:List Str} {osc scope:Scope} (S:CScope x N osc scope):CScope3 x N N osc scope:=⟨S.kind,S.nd,S.own,S.nocell,S.names,S.free,S.nol,rfl,fun p hp=>.inl (V4 N p hp)⟩
theorem Xm {elt iter:Expr} {x:Str} {px pos:Pos} {scope:Scope} {ifs:List Expr} {wi:TI} {tt:TT} {te:TE} (hc:X.calm = true) (S:CScope x X.N X.env.scope scope) (hi:PI X (.Name x px) iter wi)
  (ht:∀ C s H ex,Z2y (Z3q X scope x C s H ex) ifs tt) (he:∀ C s H ex,PE (Z3q X scope x C s H ex) elt te) (hs:∀ v,foldedSetIterable iter X.env v = pure v:=by intro _; rfl) :
  PE X (.ListComp elt [⟨.Name x px,iter,ifs,0⟩] scope pos) (Z3n wi tt te):=Uw hc S.to3 hi ht he hs
theorem J0 {J:It} {n:Nat} {σ:St} {tt:TT} {te:TE} {Fin:List V→Hp→Prop} {H1:Hp} (Pv:Nat→List V→Hp→Prop) (h0:Pv 0 [] H1) (hz:n < sizeLine) (hlen:∀ i ys H,Pv i ys H→ys.length ≤ i)
  (hgo:∀ i ys H,i < n→Pv i ys H→J.go i H) (hst:∀ ys H,Pv n ys H→J.stop n H)
  (hs:∀ i ys H x H',i < n→Pv i ys H→J.yld i H x H'→tt (some x :: σ) H' fun b H2=>if b = true then te (some x :: σ) H2 fun y H3=>Pv (i + 1) (ys ++ [y]) H3 else Pv (i + 1) ys H2)
  (hd:∀ ys H,Pv n ys H→Fin ys H):Z2t J σ tt te Fin H1:=by
 refine ⟨fun i m ys H=>m = n - i∧i ≤ n∧Pv i ys H,⟨n,by simp,Nat.zero_le _,h0⟩,?_⟩
 rintro i m ys H ⟨rfl,hi,p⟩
 by_cases hlt:i < n
 ·have hl:=hlen i ys H p
  exact .inr ⟨hgo i ys H hlt p,by omega,fun ys' H'=>Pv (i + 1) ys' H',fun ys' H' p'=>⟨n - (i + 1),by omega,rfl,hlt,p'⟩,fun x H' y=>hs i ys H x H' hlt p y⟩
 ·have e:i = n:=by omega
  subst e
  exact .inl ⟨hst ys H p,hd ys H p⟩
theorem Z02 {K:PySem.W.Frag} {a:Addr} {xs:List V} {σ:St} {te:TE} {Fin:List V→Hp→Prop} {H1:Hp} (Pv:Nat→List V→Hp→Prop) (h0:Pv 0 [] H1) (hz:xs.length < sizeLine) (hlen:∀ i ys H,Pv i ys H→ys.length ≤ i)
  (hl:∀ i ys H,Pv i ys H→SqL K H a xs) (hs:∀ i ys H x,xs[i]? = some x→Pv i ys H→te (some x :: σ) H fun y H3=>Pv (i + 1) (ys ++ [y]) H3) (hd:∀ ys H,Pv xs.length ys H→Fin ys H) :
  Z2t (Z3m K a) σ Z1g te Fin H1:=by
 refine J0 (n:=xs.length) Pv h0 hz hlen (fun i ys H hi p=>⟨xs,xs[i],hl i ys H p,by simp [hi]⟩) (fun ys H p=>⟨xs,hl _ ys H p,Nat.le_refl _⟩) (fun i ys H x H' hi p y=>?_) hd
 obtain ⟨e,y⟩:=y
 subst e
 exact hs i ys _ x (y xs (hl i ys _ p)) p
theorem V9 {lo:Int} {n:Nat} {σ:St} {te:TE} {Fin:List V→Hp→Prop} {H1:Hp} (Pv:Nat→List V→Hp→Prop) (h0:Pv 0 [] H1) (hz:n < sizeLine) (hlen:∀ i ys H,Pv i ys H→ys.length ≤ i)
  (hs:∀ i ys H,i < n→Pv i ys H→te (some (.int (lo + i)) :: σ) H fun y H3=>Pv (i + 1) (ys ++ [y]) H3) (hd:∀ ys H,Pv n ys H→Fin ys H) :
  Z2t (Z1t lo n) σ Z1g te Fin H1:=by
 refine J0 (n:=n) Pv h0 hz hlen (fun i ys H hi p=>hi) (fun ys H p=>Nat.le_refl n) (fun i ys H x H' hi p y=>?_) hd
 obtain ⟨e,y⟩:=y
 subst e y
 exact hs i ys _ hi p
end
section
variable {X:Cx}
theorem Tc (hu:X.A.units < cLine):Ui X (compareOp .Eq) (fun x y H Q=>∃ (p r:Addr) (xs:List V),x = .ref p∧y = .ref r∧SqL X.K H p xs∧SqL X.K H r []∧Q (.bl xs.isEmpty) H):=by
 intro Z0 s σ H x y v u Q I rx ry h
 obtain ⟨p,r,xs,rfl,rfl,hp,hr,q⟩:=h
 cases rx
 cases ry
 obtain ⟨its,rv,pl,hz⟩:=I.list hp
 obtain ⟨its2,rv2,pl2,hz2⟩:=I.list hr
 cases rv2
 cases rv with
 | nil=>exact SeqAt.eq_listAt (e:=fun _=>true) pl.isList pl2.isList (by simp) hu (fun j h1 h2=>absurd h1 (by simp)) ⟨.bl true,H,I,rfl,q⟩
 | cons r1 r2=>exact SeqAt.eq_list_lengthsAt pl.isList pl2.isList (by simp) hu ⟨.bl false,H,I,rfl,q⟩
theorem Xc {T:String} {f:V→Hp→Bool→Prop} (hf:∀ x H b,f x H b→∃ t,TyOf X.K H x t∧PySem.W.kitOne X.K t (.type T) = some b) :
  Yi X (.builtin "isinstance") (fun xs H Q=>∃ x b,xs = [x,.ty T]∧f x H b∧Q (.bl b) H):=by
 intro Z0 s σ H xs us Q I r h
 obtain ⟨x,b,rfl,hx,q⟩:=h
 obtain ⟨u,w',rfl,r1,r2⟩:=Uj r
 cases (show w' = Value.type T from r2)
 obtain ⟨t,ty,e⟩:=hf x H b hx
 exact T1 I r1 ty e fun tk=>⟨.bl b,H,I.tok _,rfl,q⟩
def Z44 (T:String):V→Hp→Bool→Prop:=fun x H b=>match x with
 | .non=>b = (T == "NoneType")
 | .bl _=>b = (T == "bool" || T == "int")
 | .int _=>b = (T == "int")
 | .str _=>b = (T == "str")
 | .ref a=>(∃ xs,H a = some (.tup xs)∧b = (T == "tuple")) ∨ (∃ xs,H a = some (.lst xs)∧b = (T == "list"))
 | _=>False
theorem J4 {K:PySem.W.Frag} {T:String} (hT:T = "bool" ∨ T = "int" ∨ T = "str" ∨ T = "tuple" ∨ T = "list"):∀ x H b,Z44 T x H b→∃ t,TyOf K H x t∧PySem.W.kitOne K t (.type T) = some b:=by
 intro x H b h
 cases x with
 | non=>refine ⟨_,.non,?_⟩; rcases hT with rfl | rfl | rfl | rfl | rfl <;> cases h <;> rfl
 | bl y=>refine ⟨_,.bl y,?_⟩; rcases hT with rfl | rfl | rfl | rfl | rfl <;> cases h <;> rfl
 | int i=>refine ⟨_,.int i,?_⟩; rcases hT with rfl | rfl | rfl | rfl | rfl <;> cases h <;> rfl
 | str z=>refine ⟨_,.str z,?_⟩; rcases hT with rfl | rfl | rfl | rfl | rfl <;> cases h <;> rfl
 | ref a =>
  rcases h with ⟨xs,e,h⟩ | ⟨xs,e,h⟩
  ·refine ⟨_,.tup e,?_⟩; rcases hT with rfl | rfl | rfl | rfl | rfl <;> cases h <;> rfl
  ·refine ⟨_,.lst e,?_⟩; rcases hT with rfl | rfl | rfl | rfl | rfl <;> cases h <;> rfl
 | _=>exact (show False from h).elim
end
end L2
namespace Seek
open PySem PySem.Spec PyProof.Rows L2
structure Own (P:Program) (w:World) (K:PySem.W.Frag) (mg:Str→Option Value) (base:Heap) (k:Nat) (x:Str) (ps:List Str) (sp:Sp):Prop where
 ex:∃ f fd,FnOk P w K mg base Vg k f fd ps sp∧mg x = some (.ref f)∧PySem.W.keepIn K (.ref f) = true∧Binds K fd ps []
theorem Own.mono {P:Program} {w:World} {K:PySem.W.Frag} {mg:Str→Option Value} {base:Heap} {j k:Nat} {x:Str} {ps:List Str} {sp:Sp} (O:Own P w K mg base j x ps sp) (h:j ≤ k):Own P w K mg base k x ps sp:=by
 obtain ⟨f,fd,F,r⟩:=O.ex
 exact ⟨f,fd,F.mono h,r⟩
theorem Ze {X:Cx} {k:Nat} {x:Str} {ps:List Str} {sp:Sp} {p pos:Pos} {e:Expr} {es:List Expr} {t:TA} (O:Own X.prog X.w X.K X.mg X.base k x ps sp) (hr:Room k X.A) (hg:Gl X x) (ha:PA X (e :: es) t)
  (hdb:(x == ("__debug__":Str)) = false:=by decide) (he:starEach (e :: es) X.env = (false,eval e X.env) :: starEach es X.env:=by rfl) (hpl:(backTo pos (starEach es X.env)).any (·.1) = false:=by rfl) :
  PE X (.Call (.Name x p) (e :: es) [] pos) (J9 sp [] E0 t):=by
 obtain ⟨f,fd,F,hm,hk,hb⟩:=O.ex
 exact U5 F hr hg hm hk hb .nil Z29 ha hdb he hpl
structure Blt (mg:Str→Option Value):Prop where
 b_len:mg "len" = none
 b_range:mg "range" = none
 b_sum:mg "sum" = none
 b_all:mg "all" = none
 b_ord:mg "ord" = none
 b_max:mg "max" = none
 b_min:mg "min" = none
 b_int:mg "int" = none
 b_list:mg "list" = none
 b_tuple:mg "tuple" = none
 b_str:mg "str" = none
 b_bool:mg "bool" = none
 b_isinstance:mg "isinstance" = none
structure Gro (S:List Addr) (H H':Hp):Prop where
 keep:∀ b o,H b = some o→b ∉ S→H' b = some o
 tups:∀ b xs,H b = some (.tup xs)→H' b = some (.tup xs)
theorem Gro.refl {S:List Addr} {H:Hp}:Gro S H H:=⟨fun _ _ h _=>h,fun _ _ h=>h⟩
theorem Gro.trans {S:List Addr} {H H1 H2:Hp} (a:Gro S H H1) (b:Gro S H1 H2):Gro S H H2:=⟨fun c o h hc=>b.keep c o (a.keep c o h hc) hc,fun c xs h=>b.tups c xs (a.tups c xs h)⟩
theorem Gro.mono {S S':List Addr} {H H':Hp} (a:Gro S H H') (h:∀ b ∈ S,b ∈ S'):Gro S' H H':=⟨fun c o q hc=>a.keep c o q fun z=>hc (h c z),a.tups⟩
theorem Gro.new {S:List Addr} {H:Hp} {p:Addr} (h:H p = none) (o:HO):Gro S H (Zy H p o):=⟨fun b u q _=>by rw [Zb (Z7 q h)]; exact q,fun b xs q=>by rw [Zb (Z7 q h)]; exact q⟩
theorem Gro.set {S:List Addr} {H:Hp} {p:Addr} {xs:List V} (hp:p ∈ S) (h:H p = some (.lst xs)) (o:HO):Gro S H (Zy H p o) :=
 ⟨fun b u q hb=>by rw [Zb (fun z=>hb (by rw [z]; exact hp))]; exact q,fun b ys q=>by rw [Zb (Z0h q h (by intro z; cases z))]; exact q⟩
def BoxAt (H:Hp) (b:Addr):Prop:=∃ ns:List Int,H b = some (.lst (ns.map V.int))∧ns.length ≤ 63
def LetAt (H:Hp) (l:Addr):Prop:=∃ x y z:Str,H l = some (.lst [.str x,.str y,.str z])∧x.length = 1∧y.length = 1∧z.length = 1
theorem BoxAt.ne_let {H:Hp} {b l:Addr} (h:BoxAt H b) (h':LetAt H l):b ≠ l:=by
 obtain ⟨ns,e,_⟩:=h
 obtain ⟨x,y,z,e',_⟩:=h'
 refine Z0h e e' fun q=>?_
 have q':ns.map V.int = [.str x,.str y,.str z]:=by injection q
 cases ns with
 | nil=>cases q'
 | cons n r=>rw [List.map_cons] at q'; injection q' with q1 _; cases q1
theorem LetAt.gro {S:List Addr} {H H':Hp} {l:Addr} (h:LetAt H l) (g:Gro S H H') (hl:l ∉ S):LetAt H' l:=by
 obtain ⟨x,y,z,e,r⟩:=h
 exact ⟨x,y,z,g.keep _ _ e hl,r⟩
theorem BoxAt.gro {S:List Addr} {H H':Hp} {l:Addr} (h:BoxAt H l) (g:Gro S H H') (hl:l ∉ S):BoxAt H' l:=by
 obtain ⟨x,e,r⟩:=h
 exact ⟨x,g.keep _ _ e hl,r⟩
theorem LetAt.new {H:Hp} {l p:Addr} {o:HO} (h:LetAt H l) (hp:H p = none):LetAt (Zy H p o) l:=h.gro (S:=[]) (Gro.new hp o) (by simp)
theorem BoxAt.new {H:Hp} {l p:Addr} {o:HO} (h:BoxAt H l) (hp:H p = none):BoxAt (Zy H p o) l:=h.gro (S:=[]) (Gro.new hp o) (by simp)
theorem Z19 {x y z:Str} {i:Int} (h0:0 ≤ i) (h1:i < 3) (hx:x.length = 1) (hy:y.length = 1) (hz:z.length = 1):∃ s:Str,s.length = 1∧Tp [V.str x,V.str y,V.str z] i = some (.str s):=by
 have:i = 0 ∨ i = 1 ∨ i = 2:=by omega
 rcases this with rfl | rfl | rfl
 ·exact ⟨x,hx,rfl⟩
 ·exact ⟨y,hy,rfl⟩
 ·exact ⟨z,hz,rfl⟩
theorem Xw {n:Nat} (h:n ≤ 1000):n ≤ sizeLine:=Nat.le_of_lt (Zr h)
inductive How where | much | little | keep
 deriving DecidableEq
inductive Lk where | once | ahead | notahead | behind | notbehind
 deriving DecidableEq
inductive Hd where
 | sign (s:Str) | any | inn (rs:List (Str × Str)) | out (rs:List (Str × Str)) | beg | fin | row | alt
 | times (lo:Int) (hi:Option Int) (how:How) | grp (k:Int) | again (k:Int) | hav (k:Int) | look (w:Lk)
inductive Pat where
 | node (h:Hd) (ks:List Pat)
mutual
def Pat.size:Pat→Nat
 | .node _ ks=>1 + Z0d ks
def Z0d:List Pat→Nat
 | []=>0
 | k :: ks=>k.size + Z0d ks
end
def B (n:Nat):Nat:=3 ^ (n + 1)
theorem sz {n:Nat} (h:Nat.ble n 1000 = true:=by rfl):n ≤ sizeLine:=Xw (Nat.le_of_ble_eq_true h)
theorem Z0m {x:V} {r:List V}:Tp (x :: r) 0 = some x:=X6 (j:=0) rfl
theorem Z43 {x:V} {r:List V}:Z1f (x :: r).length 0 = some 0:=by
 unfold Z1f
 rw [if_pos (Int.le_refl 0),if_pos (by rw [List.length_cons]; omega)]
 rfl
theorem Gro.tup {S:List Addr} {H H':Hp} {p:Addr} {o:HO} (g:Gro S H H') (hp:H' p = none):Gro S H (Zy H' p o):=g.trans (Gro.new hp o)
section
variable {K:PySem.W.Frag}
theorem Z2n {H:Hp} {l:Addr} {r:Int} {Q:V→Hp→Prop} (h:LetAt H l) (h0:0 ≤ r) (h1:r < 3) (q:∀ s:Str,s.length = 1→Q (.str s) H):Z0a K (.ref l) (.int r) H Q:=by
 obtain ⟨x,y,z,hl,hx,hy,hz⟩:=h
 obtain ⟨s,hs,e⟩:=Z19 h0 h1 hx hy hz
 exact ⟨l,_,_,_,rfl,rfl,SqL.of hl,e,q s hs⟩
end
section
variable {P:Program} {w:World} {K:PySem.W.Frag} {mg:Str→Option Value} {base:Heap} {f:Addr} {fd:FuncData}
structure Def (K:PySem.W.Frag) (mg:Str→Option Value) (x:Str) (st:Stmt) (ps:List Str):Prop where
 ex:∃ f fd,Fun K x x st f fd∧mg x = some (.ref f)∧Binds K fd ps []
theorem Def.own {x:Str} {st:Stmt} {ps:List Str} {k:Nat} {sp:Sp} (D:Def K mg x st ps) (h:∀ f fd,Fun K x x st f fd→FnOk P w K mg base Vg k f fd ps sp):Own P w K mg base k x ps sp:=by
 obtain ⟨f,fd,F,m,b⟩:=D.ex
 exact ⟨f,fd,h f fd F,m,F.kp,b⟩
end
theorem Gro.drop {b c:Addr} {H H2:Hp} {o:HO} (g:Gro [b,c] (Zy H c o) H2) (hc:H c = none):Gro [b] H H2 :=
 ⟨fun x u q hx=>g.keep x u (by rw [Zb (Z7 q hc)]; exact q) (by
   have hxc:x ≠ c:=Z7 q hc
   have hxb:x ≠ b:=by simpa using hx
   simp [hxb,hxc]),fun x xs q=>g.tups x xs (by rw [Zb (Z7 q hc)]; exact q)⟩
theorem Tn {K:PySem.W.Frag} {σ:L2.St} {H:Hp} {Q:VK} {i:Nat} {p:Addr} {xs:List V} {j:Int} {v:V} (h:H p = some (.tup xs)) (e:Tp xs j = some v) (q:Q v H) (hs:σ[i]? = some (some (V.ref p)):=by rfl):Z2p (Z2k K) (Z08 i) (tC (.int j)) σ H Q:=⟨_,hs,p,xs,j,v,rfl,rfl,SqT.of h,e,q⟩
theorem Z3i {K:PySem.W.Frag} {σ:L2.St} {H:Hp} {Q:VK} {i:Nat} {p:Addr} {xs:List V} {j:Int} {v:V} (h:H p = some (.lst xs)) (e:Tp xs j = some v) (q:Q v H) (hs:σ[i]? = some (some (V.ref p)):=by rfl):Z2p (Z0a K) (Z08 i) (tC (.int j)) σ H Q:=⟨_,hs,p,xs,j,v,rfl,rfl,SqL.of h,e,q⟩
theorem Za {α:Type} {A R:α→Prop} {v:α} (e:A v) (h:R v):∃ x,A x∧R x:=⟨v,e,h⟩
theorem Wf {α β:Type} {A:α→Prop} {B:β→Prop} {R:α→β→Prop} {a:α} {b:β} (e:A a) (e':B b) (h:R a b):∃ x y,A x∧B y∧R x y:=⟨a,b,e,e',h⟩
theorem genD {t:TS} {D':Ends} {σ:L2.St} {H:Hp} {Q:VK} (h:∀ D:Ends,D.rt = Q→t D σ H) (e:D'.rt = Q:=by rfl):t D' σ H:=h D' e
theorem pS {X:Cx} (i:Nat) {x:Str} {e:PySem.Expr} {te:TE} {pos pos':Pos} (hN:X.N.Nodup) (he:PE X e te) (hi:X.N[i]? = some x:=by rfl) (hx:Z1r X.env.scope x:=by first | exact .inl rfl | exact .inr rfl) (hs:swapsWith e (some (.Name x pos')) pos.line X.env = pure false:=by rfl) (hf:X.fn x = true ∨ X.env.scope.names.lookup x = some .local:=by first | exact .inl rfl | exact .inr rfl | assumption):PS X (.Assign [.Name x pos'] e pos) (Z1h te (Ul i)):=Z10 hN hi hx he hs hf
theorem pN {X:Cx} (i:Nat) {x:Str} {pos:Pos} (hN:X.N.Nodup) (hi:X.N[i]? = some x:=by rfl) (hx:Z1r X.env.scope x:=by first | exact .inl rfl | exact .inr rfl) (hf:X.fn x = true ∨ X.env.scope.names.lookup x = some .local:=by first | exact .inl rfl | exact .inr rfl | assumption):PG X (.Name x pos) (Ul i):=U4 hN hi hx hf
theorem Jf {N P:List Str} {sc:Scope} (a:sc.kind = .function:=by rfl) (b:sc.isCoroutine = false:=by rfl) (c:sc.isGenerator = false:=by rfl) (d:N.Nodup:=by decide +kernel) (e:N.take P.length = P:=by rfl) (f:∀ x ∈ P,sc.names.lookup x = some .local ∨ sc.names.lookup x = some .cell:=by decide +kernel) (g:∀ y ∈ sc.names,y.2 ≠ .free:=by decide +kernel):FnScope N P sc:=⟨a,b,c,d,e,f,g⟩
theorem Je {Y:Cx} {b:List Stmt} {D:Ends} {σ:L2.St} {H:Hp} (h:let X:=Y; ∃ t,PSs X b t∧t D σ H):∃ t,PSs Y b t∧t D σ H:=h
theorem Zf {c A B:Prop} [Decidable c] (h:¬ c) (b:B):if c then A else B:=by rw [if_neg h]; exact b
theorem Zw {c A B:Prop} [Decidable c] (h:c) (a:A):if c then A else B:=by rw [if_pos h]; exact a
theorem Yt {α β:Type} {F:α→β→Prop}:∀ {xs:List α} {ys:List β} {i:Nat} {x:α},Paired F xs ys→xs[i]? = some x→∃ y,ys[i]? = some y∧F x y
 | _,_,_,_,.nil,e=>by simp at e
 | _,_,0,_,.cons r _,e=>by simp at e; subst e; exact ⟨_,rfl,r⟩
 | _,_,i + 1,x,.cons _ t,e=>by
  obtain ⟨y,h1,h2⟩:=Yt (i:=i) (x:=x) t (by simpa using e)
  exact ⟨y,by simpa using h1,h2⟩
theorem Up {α:Type} {l:List α} {i:Nat} {x:α} (h:l[i]? = some x):l.take (i + 1) = l.take i ++ [x]:=by rw [List.take_add_one,h]; rfl
section
variable {X:Cx}
end
end Seek
namespace L2
open PySem PySem.Spec PyProof.Rows
section
variable {κ:Type} [DecidableEq κ]
def Z0l (kvs:List (κ × V)) (k:κ):List (κ × V):=kvs.filter fun kv=>decide (kv.1 ≠ k)
theorem KV.drop {kvs:List (κ × V)} {vs:List (κ × Value)} (r:KV kvs vs) (k:κ):KV (Z0l kvs k) (without vs k):=by
 unfold KV at r ⊢
 unfold Z0l without
 induction r with
 | nil=>exact .nil
 | @cons p q ps qs h t ih =>
  obtain ⟨h1,h2⟩:=h
  rw [List.filter_cons,List.filter_cons]
  by_cases e:p.1 = k
  ·have a:¬ decide (p.1 ≠ k) = true:=by simp [e]
   have b:¬ decide (q.1 ≠ k) = true:=by simp [h1.symm.trans e]
   rw [if_neg a,if_neg b]; exact ih
  ·have e':¬ q.1 = k:=fun z=>e (h1.trans z)
   have a:decide (p.1 ≠ k) = true:=by simp [e]
   have b:decide (q.1 ≠ k) = true:=by simp [e']
   rw [if_pos a,if_pos b]; exact .cons ⟨h1,h2⟩ ih
theorem KV.length {kvs:List (κ × V)} {vs:List (κ × Value)} (r:KV kvs vs):kvs.length = vs.length:=Paired.length r
end
section
variable {P:Program} {w:World} {H:Hp} {h:Heap} {a:Addr}
end
section
variable {X:Cx} {Z0:List (Addr × Obj)} {σ:St} {H:Hp} {s:Shared} {a:Addr} {y v:V} {u r:Value} {o:Option V} {A:Around} {E:Value→Shared→Prop}
end
section
variable {X:Cx} {Z0:List (Addr × Obj)} {σ:St} {H:Hp} {s:Shared} {a:Addr} {kvs:List (Vf × V)} {k:Vf} {u:Value} {A:Around} {E:Value→Shared→Prop}
end
section
variable {X:Cx} {o i e value:Expr} {pos pos' tpos:Pos} {td ty tv:TE}
end
section
variable {X:Cx} {pos:Pos}
end
section
variable {X:Cx} {Z0:List (Addr × Obj)} {σ:St} {H:Hp} {s:Shared} {a:Addr} {kvs:List (Vf × V)}
end
section
variable {X:Cx} {o i:Expr} {pos:Pos} {td ty:TE}
end
section
variable {X:Cx} {Z0:List (Addr × Obj)} {σ:St} {H:Hp} {s:Shared}
end
theorem Xk:∀ {xs:List Str} {us:List Value},Vals (xs.map V.str) us→StrsAre us xs
 | [],_,r=>by cases r; exact .nil
 | x :: xs,_,r=>by
  rw [List.map_cons] at r
  cases r with
  | cons q t =>
   obtain ⟨k,rfl⟩:=q
   exact .cons x k (Xk t)
def Z24 (K:PySem.W.Frag):V→List V→Hp→VK→Prop:=fun x vs H Q=>∃ (sep:Str) (l:Addr) (xs:List Str),x = .str sep∧vs = [.ref l]∧SqL K H l (xs.map V.str)∧(xs.map (·.length)).sum + xs.length * sep.length ≤ 16777216∧Q (.str (Txt.join sep xs)) H
section
variable {X:Cx}
theorem U8:Z3t X "str.join" (Z24 X.K):=by
 intro Z0 s σ H x vs v us Q I rx rv h
 obtain ⟨sep,l,xs,rfl,rfl,hl,hz,q⟩:=h
 obtain ⟨t,rfl⟩:=rx
 obtain ⟨u,rfl,ru⟩:=Vals.one rv
 obtain rfl:u = Value.ref l:=ru
 obtain ⟨its,r,pl,_⟩:=I.list hl
 exact join_list pl.isList (by simpa using Xk r) hz fun t' k=>⟨.str (Txt.join sep xs),H,I.tok _,⟨_,rfl⟩,q⟩
end
theorem Zs (a b:Str):(a ++ b).length = a.length + b.length:=by
 show (a.cps ++ b.cps).size = _
 rw [Array.size_append]
 rfl
theorem We (a b c:Str):(a ++ b) ++ c = a ++ (b ++ c):=by
 show (⟨(a.cps ++ b.cps) ++ c.cps⟩:Str) = ⟨a.cps ++ (b.cps ++ c.cps)⟩
 rw [Array.append_assoc]
open Builtin
section
variable {X:Cx}
end
section
variable {prog:Program} {w:World} {A:Around} {R:Result→Shared→Prop} {it:Addr} {fp wr:List Addr} {m:Nat} {P:Nat→Value→Prop} {St:Nat→Heap→Prop}
end
end L2
namespace Seek
open PySem PySem.Spec PyProof.Rows L2
section
variable {X:Cx}
end
end Seek
namespace L2
open PySem PySem.Spec PyProof.Rows
section
variable {X:Cx}
end
end L2
namespace Seek
open PySem PySem.Spec PyProof.Rows L2
end Seek
namespace L2
open PySem PySem.Spec PyProof.Rows
def sub (x:Str) (a b:Nat):Str:=⟨((x.cps.toList.drop a).take (b - a)).toArray⟩
theorem Z2i {k:Int} {L:Nat} (h:0 ≤ k):min k (L:Int) = min ((min k.toNat L:Nat):Int) (L:Int):=by
 obtain ⟨a,rfl⟩:=Int.eq_ofNat_of_zero_le h
 rw [Int.toNat_natCast]
 by_cases e:a ≤ L
 ·rw [Nat.min_eq_left e]
 ·rw [Nat.min_eq_right (Nat.le_of_not_le e),Int.min_eq_right (Int.ofNat_le.mpr (Nat.le_of_not_le e)),Int.min_self]
theorem W6 {a b L:Nat} (h:¬ min a L ≤ min b L):b < a∧b < L:=by omega
theorem W4 {x:Str} {i j:Int} (h0:0 ≤ i) (h1:0 ≤ j):Txt.slice x (some i) (some j) = sub x i.toNat j.toNat:=by
 have hl:x.cps.toList.length = x.length:=by simp [Str.length]
 have clip:Builtin.Str.strSliceIndices (some i) (some j) 1 x.length = Builtin.Str.strSliceIndices (some ((min i.toNat x.length:Nat):Int)) (some ((min j.toNat x.length:Nat):Int)) 1 x.length:=by
  unfold Builtin.Str.strSliceIndices
  have e1:¬ i < 0:=by omega
  have e2:¬ j < 0:=by omega
  have e3:¬ ((min i.toNat x.length:Nat):Int) < 0:=Int.not_lt.mpr (Int.natCast_nonneg _)
  have e4:¬ ((min j.toNat x.length:Nat):Int) < 0:=Int.not_lt.mpr (Int.natCast_nonneg _)
  simp only [e1,e2,e3,e4,if_false,show (1:Int) > 0 by decide,if_true]
  congr 1 <;> rw [Z2i (by assumption)]
 have ed:(x.cps.toList.drop (min i.toNat x.length)).take (min j.toNat x.length - min i.toNat x.length) = (x.cps.toList.drop i.toNat).take (j.toNat - i.toNat):=by
  by_cases hi:i.toNat ≤ x.length
  ·rw [Nat.min_eq_left hi]
   by_cases hj:j.toNat ≤ x.length
   ·rw [Nat.min_eq_left hj]
   ·rw [Nat.min_eq_right (by omega),List.take_of_length_le (by rw [List.length_drop]; omega),List.take_of_length_le (by rw [List.length_drop]; omega)]
  ·have e5:min i.toNat x.length = x.length:=by omega
   rw [e5,List.drop_of_length_le (show x.cps.toList.length ≤ x.length by omega),List.drop_of_length_le (show x.cps.toList.length ≤ i.toNat by omega)]
   simp
 by_cases hab:min i.toNat x.length ≤ min j.toNat x.length
 ·have e:Txt.slice x (some i) (some j) = StrLaws.sliceText x (some ((min i.toNat x.length:Nat):Int)) (some ((min j.toNat x.length:Nat):Int)):=by
   unfold Txt.slice StrLaws.sliceText
   rw [clip]
  rw [e,StrLaws.sliceText_nat x hab (Nat.min_le_right _ _),ed]
  rfl
 ·have em:Builtin.Str.strSliceIndices (some i) (some j) 1 x.length = []:=by
   rw [clip]
   unfold Builtin.Str.strSliceIndices sliceRange
   have e3:¬ ((min i.toNat x.length:Nat):Int) < 0:=Int.not_lt.mpr (Int.natCast_nonneg _)
   have e4:¬ ((min j.toNat x.length:Nat):Int) < 0:=Int.not_lt.mpr (Int.natCast_nonneg _)
   simp only [e3,e4,if_false,show (1:Int) > 0 by decide,if_true]
   rw [if_neg (by omega)]
   rfl
  have hlt:j.toNat - i.toNat = 0:=Nat.sub_eq_zero_of_le (Nat.le_of_lt (W6 hab).1)
  have hp:0 < x.length:=Nat.lt_of_le_of_lt (Nat.zero_le _) (W6 hab).2
  unfold Txt.slice sub
  rw [em,hlt,if_neg (by simp; omega)]
  simp
def Z39:V→Option Int→Option Int→Hp→VK→Prop:=fun x lo hi H Q=>∃ z:Str,x = .str z∧z.length ≤ sizeLine∧Q (.str (Txt.slice z lo hi)) H
section
variable {X:Cx}
theorem Xr:Z3k X Z39:=by
 intro Z0 s σ H x v vl vu lo hi sl Q I rx hs pl pu h
 obtain ⟨z,rfl,hz,q⟩:=h
 obtain ⟨t,rfl⟩:=rx
 have part:∀ {v:Value} {o:Option Int},IsPart v o→∃ p:Option (Int × Tok),v = partValue p∧p.map (·.1) = o:=by
  intro v o h
  cases h with
  | none=>exact ⟨none,rfl,rfl⟩
  | int i t=>exact ⟨some (i,t),rfl,rfl⟩
 obtain ⟨l,rfl,rfl⟩:=part pl
 obtain ⟨u,rfl,rfl⟩:=part pu
 exact ⟨"str",_,F.slot_str_getitem.lookup,typeIs_str _ _ _,wpAny_getItem_str_slice (l:=l) (u:=u) (st:=none) hs rfl (post_val_or_str ⟨Nat.le_trans (Txt.slice_le z _ _) hz,fun t' k=>⟨.str _,H,I.tok _,⟨_,rfl⟩,q⟩⟩)⟩
end
end L2
namespace Seek
open PySem PySem.Spec PyProof.Rows L2
def T9 (t:Str) (i:Nat):Str:=⟨#[t.cps.toList.getD i 0]⟩
theorem J8 {t:Str} {i:Int} (h0:0 ≤ i) (h1:i < t.length):Tp t.cps.toList i = some (t.cps.toList.getD i.toNat 0):=by
 have hl:i.toNat < t.cps.toList.length:=by
  have:t.cps.toList.length = t.length:=by simp [Str.length]
  omega
 have:=X6 (xs:=t.cps.toList) (j:=i.toNat) (v:=t.cps.toList.getD i.toNat 0) (by rw [List.getD_eq_getElem?_getD,List.getElem?_eq_getElem hl]; rfl)
 rw [Int.toNat_of_nonneg h0] at this
 exact this
abbrev En:=Option (Nat × Nat)
abbrev Gs:=List En
abbrev Jk:=Nat × Gs
inductive Op where
 | pat (h:Hd) | try_ (z:Nat) | go (z:Nat) | have_ (k:Int) (z:Nat) | turns | open_ | close (k:Int) | turn (lo:Int) (hi:Option Int) (how:How) (z:Nat) | next (lo:Int) (z:Nat)
 | once | kept | peeked | bar (z:Nat) | barred | lean | here | found
section
variable {es:List Op} {t:Str} {n:Nat}
variable {e:Nat} {h:Hl} {cs:List Ch}
end
abbrev Tm (H H':Hp):Prop:=∀ b xs,H b = some (.tup xs)→H' b = some (.tup xs)
def EnA (H:Hp) (e:V):En→Prop
 | none=>e = .non
 | some p=>∃ a,e = .ref a∧H a = some (.tup [.int p.1,.int p.2])
def GsAt (H:Hp) (v:V) (g:Gs):Prop:=∃ (a:Addr) (es:List V),v = .ref a∧H a = some (.tup es)∧Paired (EnA H) es g
theorem EnA.mono {H H':Hp} (t:Tm H H') {e:V}:∀ {x:En},EnA H e x→EnA H' e x
 | none,h=>h
 | some p,⟨a,e1,e2⟩=>⟨a,e1,t _ _ e2⟩
theorem GsAt.mono {H H':Hp} (t:Tm H H') {v:V} {g:Gs} (h:GsAt H v g):GsAt H' v g:=by
 obtain ⟨a,es,e1,e2,e3⟩:=h
 exact ⟨a,es,e1,t _ _ e2,Paired.mapP e3 fun _ _ q=>q.mono t⟩
end Seek
namespace L2
open PySem PySem.Spec PyProof.Rows
section
variable {X:Cx} {Z0:List (Addr × Obj)} {σ:List (Option V)} {H H':Hp} {s:Shared} {h':Heap}
end
section
variable {X:Cx}
theorem Ye:Yi X (.type "int") (fun xs H Q=>∃ (x:Str) (n:Int),xs = [.str x]∧PySem.intText? x = some n∧x.length ≤ 640∧Q (.int n) H):=by
 intro Z0 s σ H xs us Q I r h
 obtain ⟨x,n,rfl,hi,hz,q⟩:=h
 obtain ⟨u,rfl,t,rfl⟩:=Wl r
 exact PySem.W.KIN.call_text hi hz ⟨.int n,H,I.tok _,⟨_,rfl⟩,q⟩
end
end L2
namespace Seek
open PySem PySem.Spec PyProof.Rows L2
theorem Wt (a:Str):a ++ ("":Str) = a:=by
 show (⟨a.cps ++ #[]⟩:Str) = a
 rw [Array.append_empty]
theorem U7 (a:Str):("":Str) ++ a = a:=by
 show (⟨#[] ++ a.cps⟩:Str) = a
 rw [Array.empty_append]
theorem W8 (xs:List Str) (y:Str):Txt.join "" (xs ++ [y]) = Txt.join "" xs ++ y:=by
 cases xs with
 | nil=>exact (U7 y).symm
 | cons x xs =>
  show (⟨(xs ++ [y]).foldl (fun a p=>a ++ ("":Str).cps ++ p.cps) x.cps⟩:Str) = ⟨xs.foldl (fun a p=>a ++ ("":Str).cps ++ p.cps) x.cps ++ y.cps⟩
  rw [List.foldl_append]
  show (⟨(xs.foldl (fun a p=>a ++ ("":Str).cps ++ p.cps) x.cps ++ #[]) ++ y.cps⟩:Str) = _
  rw [Array.append_empty]
inductive Pc where
 | tx (s:Str) | nm (k:Nat)
def Z1s:Pc→V
 | .tx s=>.str s
 | .nm k=>.int k
def Jg (s:Str):Option Nat:=match s.cps.toList with
 | [c]=>if 48 ≤ c∧c ≤ 57 then some (c - 48) else none
 | _=>none
inductive Fkd where
 | sign | dollar | num (k:Nat) | bad
def Xv (f:Str) (p:Nat):Str:=sub f (p + 1) (p + 2)
def kd (f:Str) (n p:Nat):Fkd:=if T9 f p = "$" then (if Xv f p = "$" then .dollar else match Jg (Xv f p) with
 | some k=>if k ≤ n then .num k else .bad
 | none=>.bad) else .sign
def pz (f:Str) (n p:Nat):Option (List Pc) :=
 if p < f.length then (match kd f n p with
  | .sign=>(pz f n (p + 1)).map (Pc.tx (T9 f p) :: ·)
  | .dollar=>(pz f n (p + 2)).map (Pc.tx "$" :: ·)
  | .num k=>(pz f n (p + 2)).map (Pc.nm k :: ·)
  | .bad=>none)
 else some []
termination_by f.length - p
theorem Wx {f:Str} {n p:Nat} (h:¬ p < f.length):pz f n p = some []:=by rw [pz,if_neg h]
theorem Xh {f:Str} {n p:Nat} (h:p < f.length) (k:kd f n p = .sign):pz f n p = (pz f n (p + 1)).map (Pc.tx (T9 f p) :: ·):=by rw [pz,if_pos h,k]
theorem Yp {f:Str} {n p:Nat} (h:p < f.length) (k:kd f n p = .dollar):pz f n p = (pz f n (p + 2)).map (Pc.tx "$" :: ·):=by rw [pz,if_pos h,k]
theorem Wv {f:Str} {n p k:Nat} (h:p < f.length) (e:kd f n p = .num k):pz f n p = (pz f n (p + 2)).map (Pc.nm k :: ·):=by rw [pz,if_pos h,e]
theorem Wy {f:Str} {n p:Nat} (h:p < f.length) (k:kd f n p = .bad):pz f n p = none:=by rw [pz,if_pos h,k]
theorem J2 {f:Str} {n p:Nat} (h:¬ T9 f p = "$"):kd f n p = .sign:=by unfold kd; rw [if_neg h]
theorem J3 {f:Str} {n p:Nat} (h:T9 f p = "$") (h':Xv f p = "$"):kd f n p = .dollar:=by unfold kd; rw [if_pos h,if_pos h']
theorem J1 {f:Str} {n p k:Nat} (h:T9 f p = "$") (h':¬ Xv f p = "$") (e:Jg (Xv f p) = some k) (hk:k ≤ n):kd f n p = .num k:=by unfold kd; rw [if_pos h,if_neg h',e]; show (if k ≤ n then Fkd.num k else .bad) = _; rw [if_pos hk]
theorem Ua {f:Str} {n p k:Nat} (h:T9 f p = "$") (h':¬ Xv f p = "$") (e:Jg (Xv f p) = some k) (hk:¬ k ≤ n):kd f n p = .bad:=by unfold kd; rw [if_pos h,if_neg h',e]; show (if k ≤ n then Fkd.num k else .bad) = _; rw [if_neg hk]
theorem Wq {f:Str} {n p:Nat} (h:T9 f p = "$") (h':¬ Xv f p = "$") (e:Jg (Xv f p) = none):kd f n p = .bad:=by unfold kd; rw [if_pos h,if_neg h',e]
abbrev digS:Str := "0123456789"
theorem Z15 {s:Str} (h:s.length = 1):∃ c,s = ⟨#[c]⟩:=by
 have hl:s.cps.toList.length = s.length:=by simp [Str.length]
 rw [h] at hl
 match hc:s.cps.toList,hl with
 | [c],_ =>
  refine ⟨c,?_⟩
  obtain ⟨⟨x⟩⟩:=s
  have:x = [c]:=hc
  rw [this]
theorem J6 {s:Str} (h:s.length = 1):(!(Builtin.Str.occurrences digS s 0 digS.length 1).isEmpty) = (Jg s).isSome:=by
 obtain ⟨c,rfl⟩:=Z15 h
 rw [PySem.StrLaws.found_one]
 have e:digS.cps.toList = [48,49,50,51,52,53,54,55,56,57]:=by decide +kernel
 rw [e]
 show _ = (if 48 ≤ c∧c ≤ 57 then some (c - 48) else none).isSome
 by_cases hc:48 ≤ c∧c ≤ 57
 ·rw [if_pos hc]
  refine decide_eq_true ?_
  simp
  omega
 ·rw [if_neg hc]
  refine decide_eq_false ?_
  simp
  omega
theorem Ud {s:Str} {k:Nat} (h:Jg s = some k):PySem.intText? s = some (k:Int)∧s.length = 1∧k ≤ 9:=by
 unfold Jg at h
 split at h
 ·rename_i c hc
  split at h
  ·rename_i hr
   cases h
   have hs:s = ⟨#[c]⟩:=by
    obtain ⟨⟨x⟩⟩:=s
    have:x = [c]:=hc
    rw [this]
   have:c = 48 ∨ c = 49 ∨ c = 50 ∨ c = 51 ∨ c = 52 ∨ c = 53 ∨ c = 54 ∨ c = 55 ∨ c = 56 ∨ c = 57:=by omega
   rcases this with rfl | rfl | rfl | rfl | rfl | rfl | rfl | rfl | rfl | rfl <;> (rw [hs]; exact ⟨by decide +kernel,rfl,by decide⟩)
  ·cases h
 ·cases h
theorem U2 (f:Str) (p:Nat):(Xv f p).length ≤ 1:=by
 show ((f.cps.toList.drop (p + 1)).take (p + 2 - (p + 1))).toArray.size ≤ 1
 rw [List.size_toArray,List.length_take]
 omega
theorem Z1l {s:Str} (h:s.length = 0):s = "":=by
 obtain ⟨⟨x⟩⟩:=s
 have:x = []:=List.eq_nil_of_length_eq_zero h
 rw [this]
 rfl
def Z2v (t:Str):En→Str
 | none => ""
 | some q=>Txt.slice t (some (q.1:Int)) (some (q.2:Int))
def Z0c (t:Str) (x:Nat × Jk):Pc→Str
 | .tx s=>s
 | .nm 0=>Txt.slice t (some (x.1:Int)) (some (x.2.1:Int))
 | .nm (k + 1)=>Z2v t (x.2.2.getD k none)
def Uh (t:Str) (x:Nat × Jk) (ps:List Pc):Str:=Txt.join "" (ps.map (Z0c t x))
end Seek
namespace L2
open PySem PySem.Spec PyProof.Rows
structure Kp (fs xs:List Addr) (h h':Heap):Prop where
 keep:∀ b o,h.get? b = some o→b ∉ fs→b ∉ xs→h'.get? b = some o
 slot:∀ b o,h.get? b = some o→b ∈ fs→b ∉ xs→∃ sl,h'.get? b = some { o with slots:=sl }
 there:∀ b o,h.get? b = some o→∃ o',h'.get? b = some o'
theorem Kp.trans {fs xs ys zs:List Addr} {h h1 h2:Heap} (a:Kp fs xs h h1) (b:Kp fs ys h1 h2) (hx:∀ c ∈ xs,c ∈ zs) (hy:∀ c ∈ ys,c ∈ zs ∨ h.get? c = none):Kp fs zs h h2:=by
 have ny:∀ c o,h.get? c = some o→c ∉ zs→c ∉ ys:=fun c o e n z=>by
  rcases hy c z with y | y
  ·exact n y
  ·rw [e] at y; cases y
 refine ⟨fun c o e f n=>b.keep c o (a.keep c o e f fun z=>n (hx c z)) f (ny c o e n),fun c o e f n=>?_,fun c o e=>?_⟩
 ·obtain ⟨sl,e1⟩:=a.slot c o e f fun z=>n (hx c z)
  obtain ⟨sl2,e2⟩:=b.slot c _ e1 f (ny c o e n)
  exact ⟨sl2,e2⟩
 ·obtain ⟨o1,e1⟩:=a.there c o e
  exact b.there c o1 e1
theorem Kp.weak {fs fs' xs:List Addr} {h h':Heap} (a:Kp fs xs h h') (hf:∀ b ∈ fs,b ∈ fs'):Kp fs' xs h h':=by
 refine ⟨fun c o e f n=>a.keep c o e (fun z=>f (hf c z)) n,fun c o e f n=>?_,a.there⟩
 by_cases z:c ∈ fs
 ·exact a.slot c o e z n
 ·exact ⟨o.slots,a.keep c o e z n⟩
def Tr (h:Heap) (x:Addr) (vs:Array Value) (fl:Value):Option Addr→Prop
 | none=>vs[1]? = some .none
 | some T=>vs[1]? = some (.ref T)∧T ≠ x∧∃ oT ts,h.get? T = some oT∧oT.data = .fields ts∧ts[3]? = some fl
structure Xa (h:Heap) (x:Addr) (cls fl:Value) (To:Option Addr):Prop where
 ex:∃ oe vs,h.get? x = some oe∧(oe.cls = cls∧oe.dict = none∧oe.slots = #[])∧oe.data = .fields vs∧1 < vs.size∧Tr h x vs fl To
theorem W5 (o:Obj) (f:Array Value→Array Value):(o.mapFields f).dict = o.dict∧(o.mapFields f).slots = o.slots:=by
 obtain ⟨c,d,dt,sl⟩:=o
 cases dt <;> exact ⟨rfl,rfl⟩
section
variable {M:Model} {A:Around} {E:Value→Shared→Prop} {s:Shared} {base:Heap} {env:Env} {outer:List Env} {L x:Addr} {cls:Value} {To:Option Addr} {Q:Unit→Shared→Prop}
theorem T4 {h:Heap} {l:List Env} {b:Addr} {o:Obj} {vs:Array Value} (hl:h.FunFrames base l) (e:h.get? b = some o) (d:o.data = .fields vs):b ∉ Xg l:=fun hm=>by
 obtain ⟨_,o',e',n⟩:=hl.mem hm
 rw [e] at e'
 cases e'
 exact n vs d
theorem Va {oe:Obj} {vs:Array Value} {head:Value} {hn:Bool} (hfr:A.frames = some (env :: outer)) (hl:s.heap.FunFrames base (env :: outer)) (hf:env.frame = some L) (he:s.heap.get? x = some oe) (hds:oe.dict = none∧oe.slots = #[]) (hd:oe.data = .fields vs) (hsz:1 < vs.size)
  (h:∀ h',Kp (Xg (env :: outer)) [x] s.heap h'→Xa h' x oe.cls (rawInt L) (some s.heap.objs.size)→Q () { s with heap:=h' }) :
  wpAny M A (do let a ← frameOf env; let pl ← entryPlaceOf L hn; let b ← EntryCells.newEntry head a .none (rawInt L) .none pl; setField (.ref x) 1 b) Q E s:=by
 have hxf:=T4 hl he hd
 refine wpAny_bind (wpAny_frameOf_fun hfr hl hf fun h1 hs=>?_)
 refine wpAny_bind (wpAny_entryPlaceOf fun pl hpl=>?_)
 unfold EntryCells.newEntry newFields
 refine wpAny_bind (wpAny_newObj_type ?_ (hpl.sizeOk5 _ _ _ _ _))
 have e1:h1.get? x = some oe:=(hs.2.1 x hxf).trans he
 have e2:=fun o:Obj=>Heap.get?_push_of_some (h:=h1) o e1
 refine wpAny_setField (e2 _) hd hsz (h _ ?_ ?_)
 ·refine ⟨fun b o e f n=>?_,fun b o e f n=>?_,fun b o e=>?_⟩
  ·rw [Heap.get?_update_other _ _ fun z=>n (by simp [z])]
   exact Heap.get?_push_of_some _ ((hs.2.1 b f).trans e)
  ·obtain ⟨sl,q⟩:=hs.2.2 b o e
   refine ⟨sl,?_⟩
   rw [Heap.get?_update_other _ _ fun z=>n (by simp [z])]
   exact Heap.get?_push_of_some _ q
  ·by_cases z:x = b
   ·subst z
    exact ⟨_,Heap.get?_update_self _ (e2 _) (Obj.isFreed_of_fields (Obj.data_mapFields hd _))⟩
   ·obtain ⟨sl,q⟩:=hs.2.2 b o e
    exact ⟨_,by rw [Heap.get?_update_other _ _ z]; exact Heap.get?_push_of_some _ q⟩
 ·have hne:h1.objs.size ≠ x:=Nat.ne_of_gt (Heap.lt_size e1)
  have hd3:=Obj.data_mapFields hd (·.setIfInBounds 1 (Value.ref h1.objs.size))
  refine ⟨_,_,Heap.get?_update_self _ (e2 _) (Obj.isFreed_of_fields hd3),⟨Obj.cls_mapFields _ _,(W5 _ _).1.trans hds.1,(W5 _ _).2.trans hds.2⟩,hd3,by rw [Array.size_setIfInBounds]; exact hsz,?_⟩
  rw [← hs.1]
  have eN:=fun o:Obj=>fun (z:o.isFreed = false)=>(Heap.get?_update_other (h1.push o) (Obj.mapFields (·.setIfInBounds 1 (Value.ref h1.objs.size))) (Ne.symm hne)).trans (Heap.get?_push_size _ z)
  refine ⟨by simp [hsz],hne,_,_,eN _ rfl,rfl,?_⟩
  ·first | (simp; done) | (rcases hpl with rfl | ⟨_,_,_,_,_,_,_,rfl⟩ <;> simp)
theorem U6 (hfr:A.frames = some (env :: outer)) (hl:s.heap.FunFrames base (env :: outer)) (hf:env.frame = some L) (hx:Xa s.heap x cls .none To)
  (h:∀ h',Kp (Xg (env :: outer)) (x :: To.toList) s.heap h'→Xa h' x cls (rawInt L) (some s.heap.objs.size)→Q () { s with heap:=h' }):wpAny M A (noteFrame (.ref x) env) Q E s:=by
 obtain ⟨oe,vs,he,⟨rfl,hds⟩,hd,hsz,tr⟩:=hx.ex
 unfold noteFrame
 simp only [hf]
 cases To with
 | none =>
  have h1:vs[1]? = some Value.none:=tr
  refine wpAny_bind (wpAny_field he hd h1 ?_)
  rw [if_neg (by decide)]
  exact Va hfr hl hf he hds hd hsz fun h' k xa=>h h' k xa
 | some T =>
  obtain ⟨h1,hne,oT,ts,eT,dT,h3⟩:=tr
  refine wpAny_bind (wpAny_field he hd h1 ?_)
  rw [if_pos (show (Value.ref T != Value.none) = true from by simp)]
  refine wpAny_bind (wpAny_field eT dT h3 ?_)
  rw [if_neg (show ¬ ((Value.none == rawInt L) = true) from by simp [rawInt])]
  refine wpAny_bind (wpAny_setField eT dT (Array.getElem?_eq_some_iff.mp h3).1 ?_)
  have other:∀ b,b ≠ T→(s.heap.update T (Obj.mapFields (·.setIfInBounds 3 Value.none))).get? b = s.heap.get? b:=fun b hb=>Heap.get?_update_other _ _ (Ne.symm hb)
  have eT2:=Heap.get?_update_self (Obj.mapFields (·.setIfInBounds 3 Value.none)) eT (Obj.isFreed_of_fields (Obj.data_mapFields dT _))
  have k0:Kp (Xg (env :: outer)) [T] s.heap (s.heap.update T (Obj.mapFields (·.setIfInBounds 3 Value.none))):=by
   refine ⟨fun b o e f n=>(other b (by simpa using n)).trans e,fun b o e f n=>⟨o.slots,(other b (by simpa using n)).trans e⟩,fun b o e=>?_⟩
   by_cases z:b = T
   ·subst z; exact ⟨_,eT2⟩
   ·exact ⟨o,(other b z).trans e⟩
  have hl2:(s.heap.update T (Obj.mapFields (·.setIfInBounds 3 Value.none))).FunFrames base (env :: outer):=hl.of_keeps fun b o e n=>⟨o,(other b fun z=>by subst z; rw [eT] at e; cases e; exact n ts dT).trans e,rfl⟩
  refine Va (s:={ s with heap:=s.heap.update T (Obj.mapFields (·.setIfInBounds 3 Value.none)) }) hfr hl2 hf ((other x (Ne.symm hne)).trans he) hds hd hsz fun h' k xa=>h h' (k0.trans k (by simp) (by simp)) ?_
  have es:(s.heap.update T (Obj.mapFields (·.setIfInBounds 3 Value.none))).objs.size = s.heap.objs.size:=Heap.size_after_update ..
  rw [es] at xa
  exact xa
theorem Xb {T:Addr} {fl:Value} (hx:Xa s.heap x cls fl (some T)) (h:∀ h',Kp [] [T] s.heap h'→Xa h' x cls .none (some T)→Q () { s with heap:=h' }):wpAny M A (setFlight (.ref x) none) Q E s:=by
 obtain ⟨oe,vs,he,⟨rfl,hds⟩,hd,hsz,h1,hne,oT,ts,eT,dT,h3⟩:=hx.ex
 have h3s:=(Array.getElem?_eq_some_iff.mp h3).1
 unfold setFlight
 refine wpAny_bind (wpAny_field he hd h1 ?_)
 rw [if_pos (show (Value.ref T != Value.none) = true from by simp)]
 refine wpAny_setField eT dT h3s (h _ ?_ ?_)
 ·refine ⟨fun b o e f n=>?_,fun b o e f n=>absurd f (by simp),fun b o e=>?_⟩
  ·rw [Heap.get?_update_other _ _ fun z=>n (by simp [z])]; exact e
  ·by_cases z:T = b
   ·subst z
    exact ⟨_,Heap.get?_update_self _ eT (Obj.isFreed_of_fields (Obj.data_mapFields dT _))⟩
   ·exact ⟨o,by rw [Heap.get?_update_other _ _ z]; exact e⟩
 ·refine ⟨oe,vs,?_,⟨rfl,hds⟩,hd,hsz,h1,hne,_,_,Heap.get?_update_self _ eT (Obj.isFreed_of_fields (Obj.data_mapFields dT _)),Obj.data_mapFields dT _,?_⟩
  ·rw [Heap.get?_update_other _ _ hne]; exact he
  ·simp [h3s]
theorem Tf (hfr:A.frames = some (env :: outer)) (hl:s.heap.FunFrames base (env :: outer)) (hf:env.frame = some L) (hx:Xa s.heap x cls .none To)
  (h:∀ h' T,s.heap.get? T = none→Kp (Xg (env :: outer)) (x :: To.toList) s.heap h'→Xa h' x cls .none (some T)→Q () { s with heap:=h' }):wpAny M A (leaving env (.ref x)) Q E s:=by
 unfold leaving
 have hT:s.heap.get? s.heap.objs.size = none:=Heap.get?_none_of_le (Nat.le_refl _)
 refine wpAny_bind (U6 hfr hl hf hx fun h1 k1 x1=>?_)
 exact Xb (s:={ s with heap:=h1 }) x1 fun h2 k2 x2=>h h2 _ hT (k1.trans (k2.weak (by simp)) (fun c hc=>hc) fun c hc=>.inr (by rw [List.mem_singleton.mp hc]; exact hT)) x2
end
theorem Z2f {P:Program} {w:World} {H:Hp} {h:Heap} {a:Addr} {o:HO} (x:ObjOk P w H h a o):∃ u,h.get? a = some u:=by
 cases o with
 | lst xs=>obtain ⟨_,_,_,_,e⟩:=x; exact ⟨_,e⟩
 | tup xs=>obtain ⟨_,_,_,_,e,_⟩:=x; exact ⟨_,e⟩
 | dK kvs=>obtain ⟨_,_,_,_,o,_,_,e,_⟩:=x; exact ⟨_,e⟩
 | dT kvs=>obtain ⟨_,_,_,_,o,_,_,e,_⟩:=x; exact ⟨_,e⟩
 | set S n=>obtain ⟨o,_,_,_,e,_⟩:=x; exact ⟨_,e⟩
 | ins C dx fs=>obtain ⟨_,_,_,e,_⟩:=x; exact ⟨_,e⟩
 | own y=>exact x
 | xd fs=>obtain ⟨_,⟨_,_,_,e,_⟩,_⟩:=x; exact ⟨_,e⟩
 | rng lo hi=>obtain ⟨_,_,_,e⟩:=x; exact ⟨_,e⟩
 | frz ob u=>obtain ⟨e,_⟩:=x; exact ⟨_,e⟩
 | tbl ps=>exact ⟨_,(show h.get? a = some _ from x)⟩
 | met f y=>exact ⟨_,(show h.get? a = some _ from x)⟩
 | ext φ=>obtain ⟨_,e,_⟩:=x; exact e
theorem HOk.none_of {P:Program} {w:World} {H:Hp} {h:Heap} {a:Addr} (x:HOk P w H h) (e:h.get? a = none):H a = none:=by
 cases q:H a with
 | none=>rfl
 | some u =>
  obtain ⟨o,z⟩:=Z2f (x a u q)
  rw [e] at z
  cases z
theorem Wr {P:Program} {w:World} {H:Hp} {h h':Heap} {fs xs:List Addr} (ok:HOk P w H h) (k:Kp fs xs h h') (hf:∀ b ∈ fs,H b = none) (hx:∀ c ∈ xs,H c = none):HOk P w H h':=fun a o e=>by
 refine (ok a o e).stay (fun b u c q=>?_) (fun _ q=>q) fun _ _ q=>q
 have t:∃ o',H b = some o':=by
  rcases c with rfl | c
  ·exact ⟨o,e⟩
  ·exact ⟨_,c⟩
 obtain ⟨o',t⟩:=t
 refine k.keep b u q (fun z=>?_) fun z=>?_
 ·rw [hf b z] at t; cases t
 ·rw [hx b z] at t; cases t
theorem Vq {fs fs' xs:List Addr} {H H':Hp} {h h1 h2:Heap} {L:Addr} (u:Un fs [] H H' h h1) (k:Kp fs' xs h1 h2) (hL:h.get? L = none) (hf:∀ b ∈ fs',b = L ∨ b ∈ fs) (hx:∀ c ∈ xs,h.get? c = none):Un fs [] H H' h h2:=by
 have nx:∀ b o,h.get? b = some o→b ∉ xs:=fun b o e z=>by rw [hx b z] at e; cases e
 have nf:∀ b o,h.get? b = some o→b ∈ fs'→b ∈ fs:=fun b o e z=>by
  rcases hf b z with rfl | z
  ·rw [hL] at e; cases e
  ·exact z
 refine ⟨fun b o e n f x=>k.keep b o (u.keep b o e n f x) (fun z=>f (nf b o e z)) (nx b o e),fun b o e n f x=>?_,u.free,fun b o e x=>?_,u.tups,u.frzs,u.tbls⟩
 ·obtain ⟨sl,e1⟩:=u.slot b o e n f x
  by_cases z:b ∈ fs'
  ·obtain ⟨sl2,e2⟩:=k.slot b _ e1 z (nx b o e)
   exact ⟨sl2,e2⟩
  ·exact ⟨sl,k.keep b _ e1 z (nx b o e)⟩
 ·obtain ⟨o1,e1⟩:=u.there b o e x
  exact k.there b o1 e1
def Ji (P:Program) (w:World):Jh:=fun outer H s E e s'=>∃ (x T:Addr) (cls:Value) (H':Hp),e = .ref x∧s'.os = s.os∧AllBare s'.gens∧Un (Xg outer) [] H H' s.heap s'.heap∧HOk P w H' s'.heap∧Xa s'.heap x cls .none (some T) ∧
 s.heap.get? x = none∧s.heap.get? T = none∧H' x = none∧H' T = none∧E cls none H'
structure LeaveX (X:Cx) (E:XK):Prop where
 xe:X.xe = fun e s'=>wpAny (model X.prog X.w) X.A (leaving X.env e) (fun _ s''=>Ji X.prog X.w X.outer X.H₀ X.s₀ E e s'') (fun e' s''=>Ji X.prog X.w X.outer X.H₀ X.s₀ E e' s'') s'
 stk:X.stack = X.env :: X.outer
 fr:X.env.frame = some X.env.locals
 ex:X.ex = []
section
variable {X:Cx} {E:XK}
theorem LeaveX.go {Z0:List (Addr × Obj)} {σ:St} {H:Hp} {s:Shared} {x:Addr} {To:Option Addr} {cls:Value} (L:LeaveX X E) (I:Inv X Z0 σ H s) (hx:Xa s.heap x cls .none To) (h0:X.s₀.heap.get? x = none) (hT:∀ T,To = some T→X.s₀.heap.get? T = none∧H T = none) (hn:H x = none) (hE:E cls none H):X.xe (.ref x) s:=by
 rw [L.xe]
 have hfr:=I.ok.frames
 have hl:=I.stack
 have hsf:=I.stkFree
 rw [L.stk] at hfr hl hsf
 refine Tf hfr hl L.fr hx fun h' T' nT k xa=>?_
 have hxs:∀ c ∈ x :: To.toList,X.s₀.heap.get? c = none∧H c = none:=fun c hc=>by
  rcases List.mem_cons.mp hc with rfl | hc
  ·exact ⟨h0,hn⟩
  ·cases To with
   | none=>simp at hc
   | some T=>rw [show c = T by simpa using hc]; exact hT T rfl
 have hu:Un (Xg X.outer) [] X.H₀ H X.s₀.heap s.heap:=by
  have:=I.base
  rw [L.ex] at this
  exact this
 refine ⟨x,T',cls,H,rfl,I.os,I.bare,Vq hu k (L:=X.env.locals) (Heap.get?_none_of_le I.ok.above) (fun b hb=>?_) (fun c hc=>(hxs c hc).1),Wr I.hok k hsf fun c hc=>(hxs c hc).2,xa,h0,?_,hn,I.hok.none_of nT,hE⟩
 ·have:Xg (X.env :: X.outer) = X.env.locals :: Xg X.outer:=by
   unfold Xg
   rw [List.filterMap_cons,L.fr]
  rw [this] at hb
  exact List.mem_cons.mp hb
 ·cases q:X.s₀.heap.get? T' with
  | none=>rfl
  | some o =>
   obtain ⟨o',z⟩:=hu.there T' o q (by simp)
   rw [nT] at z
   cases z
theorem LeaveX.pass (L:LeaveX X E):Yv (Ji X.prog X.w) X E:=by
 rintro Z0 σ H s e s' I ⟨x,T,cls,H',rfl,ho,hb,un,ok,xa,nx,nT,hx,hT,hE⟩
 have I1:Inv X Z0 σ H' s':=I.call' ho un ok hb (ch:=[]) (fun b z=>absurd z (by simp))
 have back:∀ b,s.heap.get? b = none→X.s₀.heap.get? b = none:=fun b e=>by
  cases q:X.s₀.heap.get? b with
  | none=>rfl
  | some o =>
   obtain ⟨o',z⟩:=I.base.there b o q (by rw [L.ex]; simp)
   rw [e] at z
   cases z
 exact L.go I1 xa (back x nx) (fun T' e=>by cases e; exact ⟨back T nT,hT⟩) hx hE
end
theorem Fun.okX {P:Program} {w:World} {K:PySem.W.Frag} {mg:Str→Option Value} {base:Heap} {x qual:Str} {st:Stmt} {f:Addr} {fd:FuncData} {N ps:List Str} {k:Nat} {sp:Sp} (F:Fun K x qual st f fd) (S:FnScope N ps (Z6 st)) (len:∀ vs H Q E,sp vs H Q E→vs.length = ps.length)
  (hbody:∀ (cdv:Value) (A:Around) (outer:List Env) (s:Shared) (H:Hp) (vs:List V) (Q:VK) (E:XK),Room k (A.deeper (envOfC qual (Z6 st) s.heap.objs.size f cdv))→sp vs H Q E →
   LeaveX (W2 (Ji P w) P w K mg base N qual (Z6 st) f cdv A outer s H E) E→∃ t,PSs (W2 (Ji P w) P w K mg base N qual (Z6 st) f cdv A outer s H E) (Y3 st) t∧t { nx:=fun _ H'=>Q .non H',rt:=Q } (start N vs) H):FnOk P w K mg base (Ji P w) (k + 1) f fd ps sp:=by
 obtain ⟨oc,od,kV,doc,pm,an,cdv,ct,osl,rfl,lk,hcd⟩:=F.ex
 exact Z0k lk hcd S len fun A outer s H vs Q E hr hsp=>hbody cdv A outer s H vs Q E hr hsp ⟨rfl,rfl,rfl,rfl⟩
theorem LeaveX.own {CX:Jh} {P:Program} {w:World} {K:PySem.W.Frag} {mg:Str→Option Value} {base:Heap} {N:List Str} {qual:Str} {scope:Scope} {f:Addr} {cd:Value} {A:Around} {outer:List Env} {s:Shared} {H:Hp} {E:XK}:PassesOwn (model P w) (W2 CX P w K mg base N qual scope f cd A outer s H E).A (W2 CX P w K mg base N qual scope f cd A outer s H E).env (W2 CX P w K mg base N qual scope f cd A outer s H E).xe:=PassesOwn.leaving
def Z2r:List Value:=[.type "ValueError",.type "Exception",.type "BaseException",.type "object"]
structure XC (K:PySem.W.Frag) (mg:Str→Option Value) (x:Str) (C C':Addr):Prop where
 mgx:mg x = some (.ref C)
 ob:∃ nm q N bs hdct sn sub ab col dd k0 k1 k2 k3 k5 es,K.lookup C = some (excClassObj nm q C N bs (.ref C' :: Z2r) hdct sn sub ab col dd k0 k1 k2 k3 k5 "ValueError.__new__")∧(∀ h,K.In h→h.Ns N (nsFind es))∧nsFind es "__init__" = none∧∀ h,K.In h→OwnTail h Z2r (.ref C' :: Z2r)
def Z0q (C:Addr) (E:XK) (t:TA):TS:=fun D σ H=>t σ H fun vs H1=>vs.length ≤ sizeLine∧E (.ref C) none H1
theorem V6 {X:Cx} {E:XK} {x:Str} {C C':Addr} {e:Expr} {t:TA} {np cpos pos:Pos} (L:LeaveX X E) (hc:X.calm = true) (xc:XC X.K X.mg x C C') (hg:Gl X x) (ha:PA X [e] t)
  (he:starEach [e] X.env = (false,eval e X.env) :: starEach [] X.env:=by rfl) (hdb:(x == ("__debug__":Str)) = false:=by decide):PS X (.Raise (some (.Call (.Name x np) [e] [] cpos)) none pos) (Z0q C E t):=by
 intro Z0 s σ H D I h
 obtain ⟨nm,q,N,bs,hdct,sn,sub,ab,col,dd,k0,k1,k2,k3,k5,es,hC,hN,hi,hT⟩:=xc.ob
 refine wpAny_Raise_call_subT (C:=C) (nm:=nm) (q:=q) (N:=N) (bs:=bs) (bm:=.ref C' :: Z2r) (hdct:=hdct) (sn:=sn) (sub:=sub) (ab:=ab) (col:=col) (dd:=dd) (k0:=k0) (k1:=k1) (k2:=k2) (k3:=k3) (k5:=k5) PySem.F.excBase_ValueError (mN:=nsFind es) ((hT _ I.kIn).hasType PySem.F.excBase_ValueError.hasBase) (I.ok.hd hc) (by rw [he]; rfl) hi (Xj I hg xc.mgx ⟨rfl,?_⟩ hdb)
 have h1:=ha cpos Z0 s σ H _ I h
 rw [he] at h1 ⊢
 refine Calls.evalArgs_plain (wpAny_mono h1 (fun us s2 h2=>?_) fun _ _ y=>y)
 obtain ⟨vs,H1,I1,r,hz,hE⟩:=h2
 refine ⟨rfl,?_,I1.kIn _ _ hC,hN _ I1.kIn,hT _ I1.kIn,fun h' x' hm=>?_⟩
 ·show us.length ≤ _
  rw [← r.length]
  exact hz
 ·obtain ⟨t',e',nt,_⟩:=hm.there
  have I2:Inv X Z0 σ H1 { s2 with heap:=h' }:=I1.kept (t':=s2.toks) hm.keeps
  have nx:=hm.new
  refine L.go (To:=none) I2 ⟨_,_,e',⟨rfl,rfl,rfl⟩,rfl,by simp,rfl⟩ ?_ (fun T z=>by cases z) (I1.hok.none_of nx) hE
  cases z:X.s₀.heap.get? x' with
  | none=>rfl
  | some o =>
   obtain ⟨o',z'⟩:=I1.base.there x' o z (by rw [L.ex]; simp)
   rw [nx] at z'
   cases z'
end L2
namespace Seek
open PySem PySem.Spec PyProof.Rows L2
structure OwnX (P:Program) (w:World) (K:PySem.W.Frag) (mg:Str→Option Value) (base:Heap) (k:Nat) (x:Str) (ps:List Str) (sp:Sp):Prop where
 ex:∃ f fd,FnOk P w K mg base (Ji P w) k f fd ps sp∧mg x = some (.ref f)∧PySem.W.keepIn K (.ref f) = true∧Binds K fd ps []
theorem OwnX.mono {P:Program} {w:World} {K:PySem.W.Frag} {mg:Str→Option Value} {base:Heap} {j k:Nat} {x:Str} {ps:List Str} {sp:Sp} (O:OwnX P w K mg base j x ps sp) (h:j ≤ k):OwnX P w K mg base k x ps sp:=by
 obtain ⟨f,fd,F,r⟩:=O.ex
 exact ⟨f,fd,F.mono h,r⟩
theorem Xi {X:Cx} {E:XK} {k:Nat} {x:Str} {ps:List Str} {sp:Sp} {p pos:Pos} {e:Expr} {es:List Expr} {t:TA} (hx:Yv (Ji X.prog X.w) X E) (O:OwnX X.prog X.w X.K X.mg X.base k x ps sp) (hr:Room k X.A) (hg:Gl X x) (ha:PA X (e :: es) t)
  (hdb:(x == ("__debug__":Str)) = false:=by decide) (he:starEach (e :: es) X.env = (false,eval e X.env) :: starEach es X.env:=by rfl) (hpl:(backTo pos (starEach es X.env)).any (·.1) = false:=by rfl) :
  PE X (.Call (.Name x p) (e :: es) [] pos) (J9 sp [] E t):=by
 obtain ⟨f,fd,F,hm,hk,hb⟩:=O.ex
 exact U5 F hr hg hm hk hb .nil hx ha hdb he hpl
end Seek
namespace L2
open PySem PySem.Spec PyProof.Rows
theorem Z14 {X:Cx} {P:Program} {w:World}:Yv (Ji P w) X E0:=by
 rintro Z0 σ H s e s' I ⟨x,T,cls,H',_,_,_,_,_,_,_,_,_,_,h⟩
 exact h.elim
abbrev Cx.sub (X:Cx) (x:Addr):Cx:={ X with A:=X.A.mark (some (.ref x)),calm:=false,xe:=fun _ _=>False }
theorem Cx.Ok.sub {X:Cx} (ok:X.Ok) (x:Addr):(X.sub x).Ok :=
 ⟨ok.mod,ok.kind,ok.glob,ok.blt,ok.above,ok.inj,ok.has,ok.cab,fun z=>(by cases z),ok.frames,ok.stk,ok.exf,ok.bs,ok.bsz,ok.noex,ok.exfs,ok.funs,ok.frf⟩
section
variable {X:Cx} {Z0:List (Addr × Obj)} {σ:St} {H:Hp} {s:Shared}
theorem Inv.sub (I:Inv X Z0 σ H s) (x:Addr):Inv (X.sub x) Z0 σ H s:=⟨I.ok.sub x,I.os,I.bare,I.base,I.loc,I.cell,I.free,I.freeC,I.pin,I.hok,I.len⟩
theorem Inv.unsub {x:Addr} (ok:X.Ok) (I:Inv (X.sub x) Z0 σ H s):Inv X Z0 σ H s:=⟨ok,I.os,I.bare,I.base,I.loc,I.cell,I.free,I.freeC,I.pin,I.hok,I.len⟩
theorem SP.unsub {x:Addr} {D:Ends} {f:Flow} {s':Shared} (ok:X.Ok) (h:SP (X.sub x) Z0 D f s'):SP X Z0 D f s':=by
 cases f with
 | next=>obtain ⟨σ',H',I,q⟩:=h; exact ⟨σ',H',I.unsub ok,q⟩
 | brk=>obtain ⟨σ',H',I,q⟩:=h; exact ⟨σ',H',I.unsub ok,q⟩
 | cont=>obtain ⟨σ',H',I,q⟩:=h; exact ⟨σ',H',I.unsub ok,q⟩
 | ret u=>obtain ⟨v,σ',H',I,r,q⟩:=h; exact ⟨v,σ',H',I.unsub ok,r,q⟩
abbrev Cx.bod (X:Cx) (pn:List (Addr × Obj)) (xe:Value→Shared→Prop):Cx:={ X with pn:=pn,xe:=xe }
theorem Cx.Ok.bod {X:Cx} (ok:X.Ok) {pn:List (Addr × Obj)} {xe:Value→Shared→Prop}:(X.bod pn xe).Ok :=
 ⟨ok.mod,ok.kind,ok.glob,ok.blt,ok.above,ok.inj,ok.has,ok.cab,ok.hd,ok.frames,ok.stk,ok.exf,ok.bs,ok.bsz,ok.noex,ok.exfs,ok.funs,ok.frf⟩
theorem Cx.Ok.unbod {X:Cx} {pn:List (Addr × Obj)} {xe:Value→Shared→Prop} (ok:(X.bod pn xe).Ok):X.Ok :=
 ⟨ok.mod,ok.kind,ok.glob,ok.blt,ok.above,ok.inj,ok.has,ok.cab,ok.hd,ok.frames,ok.stk,ok.exf,ok.bs,ok.bsz,ok.noex,ok.exfs,ok.funs,ok.frf⟩
theorem Inv.bod (I:Inv X Z0 σ H s) {xe:Value→Shared→Prop}:Inv (X.bod (X.pn ++ Z0) xe) [] σ H s:=⟨I.ok.bod,I.os,I.bare,I.base,I.loc,I.cell,I.free,I.freeC,fun p hp=>I.pin p (by simpa using hp),I.hok,I.len⟩
theorem Inv.unbod {xe:Value→Shared→Prop} {pl:List (Addr × Obj)} (I:Inv (X.bod (X.pn ++ Z0) xe) pl σ H s):Inv X Z0 σ H s:=⟨I.ok.unbod,I.os,I.bare,I.base,I.loc,I.cell,I.free,I.freeC,fun p hp=>I.pin p (List.mem_append.mpr (.inl hp)),I.hok,I.len⟩
theorem SP.unbod {xe:Value→Shared→Prop} {D:Ends} {f:Flow} {s':Shared} {pl:List (Addr × Obj)} (h:SP (X.bod (X.pn ++ Z0) xe) pl D f s'):SP X Z0 D f s':=by
 cases f with
 | next=>obtain ⟨σ',H',I,q⟩:=h; exact ⟨σ',H',I.unbod,q⟩
 | brk=>obtain ⟨σ',H',I,q⟩:=h; exact ⟨σ',H',I.unbod,q⟩
 | cont=>obtain ⟨σ',H',I,q⟩:=h; exact ⟨σ',H',I.unbod,q⟩
 | ret u=>obtain ⟨v,σ',H',I,r,q⟩:=h; exact ⟨v,σ',H',I.unbod,r,q⟩
end
def Z2s (K:PySem.W.Frag) (C:Addr) (bm:List Value):Prop:=∃ nm q N bs hdct sn sub ab col dd k0 k1 k2 k3 k5 newId,K.lookup C = some (excClassObj nm q C N bs bm hdct sn sub ab col dd k0 k1 k2 k3 k5 newId)
theorem XC.co {K:PySem.W.Frag} {mg:Str→Option Value} {x:Str} {C C':Addr} (h:XC K mg x C C'):Z2s K C (.ref C' :: Z2r):=by
 obtain ⟨nm,q,N,bs,hdct,sn,sub,ab,col,dd,k0,k1,k2,k3,k5,es,hC,_⟩:=h.ob
 exact ⟨nm,q,N,bs,hdct,sn,sub,ab,col,dd,k0,k1,k2,k3,k5,_,hC⟩
def Um (K:PySem.W.Frag) (C Cs:Addr):Prop:=∃ bm bs,Z2s K C bm∧Z2s K Cs bs∧bs.contains (.type "BaseException") = true∧(C = Cs ∨ bm.contains (.ref Cs) = true)
theorem Z04 {M:Model} {A:Around} {E:Value→Shared→Prop} {K:PySem.W.Frag} {s:Shared} {e C Cs:Addr} {oe:Obj} {Q:Bool→Shared→Prop} (X:K.In s.heap) (ca:Um K C Cs) (he:s.heap.get? e = some oe) (hcls:oe.cls = .ref C) (hq:Q true s):wpAny M A (excMatches (.ref e) (.ref Cs)) Q E s:=by
 obtain ⟨bm,bs,⟨nm,q,N,bs1,hdct,sn,sub,ab,col,dd,k0,k1,k2,k3,k5,newId,lC⟩,⟨nm',q',N',bs',hdct',sn',sub',ab',col',dd',k0',k1',k2',k3',k5',newId',lS⟩,hb,hc⟩:=ca
 have hC:=X _ _ lC
 have hS:=X _ _ lS
 obtain ⟨h,g,d,t,os⟩:=s
 by_cases z:C = Cs
 ·subst z
  exact wpAny_excMatches_sub_self hS he hcls hb hq
 ·have hc2:bm.contains (.ref Cs) = true:=by
   rcases hc with y | y
   ·exact absurd y z
   ·exact y
  have hcB:(Value.ref Cs :: bs).contains (.type "BaseException") = true:=by rw [List.contains_cons,hb,Bool.or_true]
  have hcC:(Value.ref C :: bm).contains (.ref Cs) = true:=by rw [List.contains_cons,hc2,Bool.or_true]
  have f:=tc_notTuple
  unfold excMatches
  repeat (first | (with_reducible refine wpAny_loadPart_at he ?_; rw [hcls]) | with_reducible refine wpAny_loadPart_at hS ?_ | (with_reducible refine wpAny_isSubtype_exc hS ?_; rw [hcB]) | (with_reducible refine wpAny_isSubtype_exc hC ?_; rw [hcC]) | wp_step)
  exact hq
def ExcAt (x C:Addr) (h:Heap):Prop:=∃ vs,h.get? x = some { cls:=.ref C,data:=.fields vs }
theorem ExcAt.inst {x C:Addr} {h:Heap} (e:ExcAt x C h):∃ vs,PySem.W.InstAt h x { cls:=.ref C,data:=.fields vs } C none:=by
 obtain ⟨vs,e⟩:=e
 exact ⟨vs,e,rfl,rfl,trivial⟩
structure XIs (K:PySem.W.Frag) (C:Addr):Prop where
 co:∃ bm,Z2s K C bm∧bm.contains (.type "BaseException") = true
 cls:(PySem.W.clsIn K C).isSome = true
 ga:PySem.W.findIn K (.ref C) "__getattribute__" = some (some (.builtin "BaseException.__getattribute__"))
 gt:PySem.W.findIn K (.ref C) "__getattr__" = some none
 cl:PySem.W.findIn K (.ref C) "__class__" = some (some (.builtin "object.__class__"))
 gs:PySem.W.specialIn K (.builtin "object.__class__") "__get__" = some (some (.builtin "getset_descriptor.__get__"))
 tk:PySem.W.takesIn K (.builtin "object.__class__") = some true
 mr:PySem.W.mroIn K C (.type "object") = some true
section
variable {prog:Program} {w:World} {A:Around} {E:Value→Shared→Prop} {s:Shared} {K:PySem.W.Frag} {x C:Addr}
theorem T5 {Q:Option Value→Shared→Prop} (Z:XIs K C) (X:K.In s.heap) (I:ExcAt x C s.heap) (h:Q (some (.ref C)) { s with toks:=s.toks + 1 }):wpAny (model prog w) A (getAttr? (.ref x) "__class__") Q E s:=by
 obtain ⟨bm,⟨nm,q,N,bs,hdct,sn,sub,ab,col,dd,k0,k1,k2,k3,k5,newId,lC⟩,hb⟩:=Z.co
 have hC:=X _ _ lC
 obtain ⟨vs,J⟩:=I.inst
 obtain ⟨cd,hcd⟩:=Option.isSome_iff_exists.mp Z.cls
 have hf:PySem.W.findObj K C none "__class__" = some (.bind (.builtin "getset_descriptor.__get__") (.builtin "object.__class__")):=by
  unfold PySem.W.findObj
  rw [hcd,Option.bind_some,Z.cl,Option.bind_some]
  simp [Z.gs,Z.tk]
 have hx:=J.at_
 have hc:({ cls:=.ref C,data:=.fields vs }:Obj).cls = .ref C:=rfl
 obtain ⟨hh,g,d,t,os⟩:=s
 have L0:=J.type (M:=model prog w)
 have L1:=PySem.W.looks_findIn (M:=model prog w) X Z.ga
 have L2:=PySem.W.looks_findIn (M:=model prog w) X Z.gt
 have LF:=PySem.W.looks_find (M:=model prog w) X J hf
 have FB:=PySem.F.attrBase_ValueError
 have hcB:(Value.ref C :: bm).contains (.type "BaseException") = true:=by rw [List.contains_cons,hb,Bool.or_true]
 have hk:builtinKind "BaseException.__getattribute__" = some .slot:=by decide +kernel
 have hsplit:splitId "BaseException.__getattribute__" = some ("BaseException", "__getattribute__"):=by decide +kernel
 unfold getAttr? getAttrBy? getAttrBy
 refine wpAny_bind (wpAny_mkText (wpAny_bind (wpAny_attempt (wpAny_holding (wpAny_bind (L0.at (wpAny_bind (L1.at ?_))))))))
 show wpAny _ _ (getAttrByItsOwn (.ref x) (.str "__class__" t) (.ref C) (.builtin "BaseException.__getattribute__") false false) _ _ _
 unfold getAttrByItsOwn
 refine wpAny_bind (show wpAny _ _ (typeLookup (.ref C) "__getattr__") _ _ _ from L2.at ?_)
 refine wpAny_bind (wpAny_attempt (wpAny_holding ?_))
 show wpAny _ _ (boundAndCalled (.builtin "BaseException.__getattribute__") (.ref x) (.str "__class__" t)) _ _ _
 unfold boundAndCalled
 refine wpAny_bind (wpAny_of_eq (FB.ga.bind (.ref x)) ?_)
 refine wpAny_call (codeAny_call_builtin FB.ga.plain PySem.F.entry_bexc_ga ?_)
 have chk:∀ {Q':Unit→Shared→Prop} {A':Around} {E':Value→Shared→Prop},Q' () ⟨hh,g,d,t + 1,os⟩→wpAny (model prog w) A' (checkBuiltinCall "BaseException.__getattribute__" ⟨[.ref x,.str "__class__" t],[]⟩) Q' E' ⟨hh,g,d,t + 1,os⟩:=fun {Q' A' E'} hq=>by
  have ha:=PySem.F.args_bexc_ga (.ref x) (.str "__class__" t)
  simp only [checkBuiltinCall,hk,hsplit]
  refine wpAny_bind ?_
  ·unfold isInstance
   repeat (first | (with_reducible refine wpAny_loadPart_at hx ?_; rw [hc]) | (with_reducible refine wpAny_isSubtype_exc hC ?_; rw [hcB]) | wp_step)
   exact hq
 refine chk ?_
 unfold Builtin.«object.__getattribute__»
 refine wpAny_bind (wpAny_of_eq (a:=(Value.ref x,[Value.str "__class__" t])) rfl ?_)
 refine wpAny_bind (wpAny_of_eq (a:=("__class__":Str)) rfl ?_)
 refine wpAny_bind (L0.at (wpAny_bind (LF.at ?_)))
 show wpAny _ _ (holding [.builtin "object.__class__"] (call (.builtin "getset_descriptor.__get__") [.builtin "object.__class__",.ref x,.ref C]) >>= ret) _ _ _
 refine wpAny_bind (wpAny_holding (wpAny_call (PySem.W.class_get X J Z.mr ?_)))
 refine wpAny_pure ?_
 show wpAny (model prog w) A (pure (Value.ref C)) _ _ _
 exact wpAny_pure (wpAny_pure h)
theorem Th (Z:XIs K C):PySem.W.KitX K (.ref x) (.ref C) (ExcAt x C) where
 ty:=fun M h X I=>by
  obtain ⟨vs,J⟩:=I.inst
  exact J.type
 it:=fun M h X I=>by
  obtain ⟨cd,hcd⟩:=Option.isSome_iff_exists.mp Z.cls
  unfold PySem.W.clsIn at hcd
  split at hcd
  ·rename_i c' d' cd' sl' ho
   intro A' Q' E' s' k q
   unfold isType loadHead
   exact wpAny_bind (wpAny_loadPart (k _ _ (X _ _ ho)) (wpAny_pure q))
  ·cases hcd
 ne:=fun h tp dd its n sl X htp=>by
  obtain ⟨cd,hcd⟩:=Option.isSome_iff_exists.mp Z.cls
  refine Bool.eq_false_iff.mpr fun q=>?_
  have e:C = tp:=Value.ref.inj (beq_iff_eq.mp q)
  subst e
  unfold PySem.W.clsIn at hcd
  split at hcd
  ·rename_i c' d' cd' sl' ho
   have z:=(X _ _ ho).symm.trans htp
   cases z
  ·cases hcd
 ca:=fun X I k=>T5 Z X I k
end
def W1 (x C:Addr):HO:=.ext (ExcAt x C)
theorem Z05 {P:Program} {w:World} {H:Hp} {h:Heap} {x C:Addr} (e:ExcAt x C h):ObjOk P w H h x (W1 x C):=by
 obtain ⟨vs,e1⟩:=id e
 exact ⟨e,⟨_,e1⟩,fun h1 h2 ⟨us,q⟩ k=>⟨us,k _ q⟩⟩
theorem Yn {X:Cx} {K:PySem.W.Frag} (hK:X.K = K):Yi X (.builtin "isinstance") (fun xs H Q=>∃ (x C:Addr) (cv:V) (c:Value) (b:Bool),xs = [.ref x,cv]∧H x = some (W1 x C)∧XIs K C∧RelV cv c∧PySem.W.kitOne K (.ref C) c = some b∧Q (.bl b) H):=by
 subst hK
 intro Z0 s σ H xs us Q I r h
 obtain ⟨x,C,cv,c,b,rfl,hx,Z,rc,e,q⟩:=h
 obtain ⟨u,w',rfl,r1,r2⟩:=Uj r
 cases (show u = Value.ref x from r1)
 have hw:w' = c:=by
  cases cv with
  | ref a=>exact (show w' = Value.ref a from r2).trans (show c = Value.ref a from rc).symm
  | ty n=>exact (show w' = Value.type n from r2).trans (show c = Value.type n from rc).symm
  | non=>exact (show w' = Value.none from r2).trans (show c = Value.none from rc).symm
  | bl y=>exact (show w' = Value.bool y from r2).trans (show c = Value.bool y from rc).symm
  | int i =>
   obtain ⟨t,rfl⟩:=(show ∃ t,c = Value.int i t from rc)
   unfold PySem.W.kitOne at e
   rw [if_neg (by intro z; cases beq_iff_eq.mp z)] at e
   cases e
  | str y =>
   obtain ⟨t,rfl⟩:=(show ∃ t,c = Value.str y t from rc)
   unfold PySem.W.kitOne at e
   rw [if_neg (by intro z; cases beq_iff_eq.mp z)] at e
   cases e
  | byt y =>
   obtain ⟨t,rfl⟩:=(show ∃ t,c = Value.bytes y t from rc)
   unfold PySem.W.kitOne at e
   rw [if_neg (by intro z; cases beq_iff_eq.mp z)] at e
   cases e
  | flt y =>
   obtain ⟨t,rfl⟩:=(show ∃ t,c = Value.float y t from rc)
   unfold PySem.W.kitOne at e
   rw [if_neg (by intro z; cases beq_iff_eq.mp z)] at e
   cases e
 subst hw
 exact PySem.W.kia_one (Th Z) I.kIn (I.hok x _ hx).1 e (fun z=>nomatch z) fun tk=>⟨.bl b,H,I.tok _,rfl,q⟩
theorem Uc {X:Cx} {M:Model} {A:Around} {E:Value→Shared→Prop} {Z0:List (Addr × Obj)} {σ:St} {H:Hp} {s:Shared} {i:Nat} {n:Str} {pos:Pos} {Q:Unit→Shared→Prop} (I:Inv X Z0 σ H s) (hN:X.N.Nodup) (hi:X.N[i]? = some n) (hl:X.env.kindOf n = some .local)
  (h:∀ s',Inv X Z0 (σ.set i none) H s'→Q () s'):wpAny M A (do bindName X.env n .none; unbindBehindTheSuite X.env n pos) Q E s:=by
 have hcls:(X.env.scope.kind == .class || (X.env.scope.kind == .module && X.env.locals != X.env.globals)) = false:=by rw [I.ok.kind]; rfl
 have hiσ:i < σ.length:=by rw [I.len]; exact (List.getElem?_eq_some_iff.mp hi).1
 refine wpAny_bind (wpAny_bindName (Yj I hN hi (.inl hl) (v:=.non) rfl (fun s1 I1=>?_) (.inr hl)))
 obtain ⟨m,hn,hloc⟩:=id I1.loc
 have hm:m n = some .none:=by
  obtain ⟨u,r,q⟩:=hloc i n .non hi (List.getElem?_set_self hiσ) (.inl hl)
  cases (show u = Value.none from r)
  rcases q with q | q
  ·exact q.2
  ·rcases q.1 with z | z
   ·rw [hl] at z; cases z
   ·rw [hl] at z; cases z
 unfold unbindBehindTheSuite
 refine wpAny_onRaise ?_
 unfold unbindName
 refine wpAny_bind (wpAny_point (wpAny_bind ?_))
 unfold deleteName
 simp only [hl,hcls]
 rw [if_neg (by decide)]
 refine wpAny_bind (wpAny_nsDel_keeps hn fun h2 v hn2 hs=>?_)
 rw [hm]
 simp only [if_true,Option.isSome_some,Bool.not_true,Bool.false_eq_true,if_false]
 refine wpAny_pure (wpAny_point (h _ ?_))
 have cne:=I1.cne
 have nL:∀ b o,X.s₀.heap.get? b = some o→b ≠ X.env.locals:=fun b o e=>Nat.ne_of_lt (Nat.lt_of_lt_of_le (Heap.lt_size e) I1.ok.above)
 refine ⟨I1.ok,I1.os,I1.bare,⟨fun b o e n' hb hx=>(hs.2 b (nL b o e)).trans (I1.base.keep b o e n' hb hx),fun b o e n' hb hx=>?_,I1.base.free,fun b o e hx=>?_,I1.base.tups,I1.base.frzs,I1.base.tbls⟩,⟨_,hn2,fun j y v' e1 e2 e3=>?_⟩,fun y c e=>?_,I1.free,I1.freeC,fun p hp=>?_,fun b ob e=>?_,by have:=I1.len; simpa using this⟩
 ·obtain ⟨sl,q⟩:=I1.base.slot b o e n' hb hx
  exact ⟨sl,(hs.2 b (nL b o e)).trans q⟩
 ·obtain ⟨o',q⟩:=I1.base.there b o e hx
  exact ⟨o',(hs.2 b (nL b o e)).trans q⟩
 ·by_cases hj:j = i
  ·subst hj
   rw [List.getElem?_set_self (by simpa using hiσ)] at e2
   cases e2
  ·rw [List.getElem?_set_ne (Ne.symm hj)] at e2
   obtain ⟨u',r',q⟩:=hloc j y v' e1 (by rw [List.getElem?_set_ne (Ne.symm hj)]; exact e2) e3
   refine ⟨u',r',?_⟩
   rcases q with ⟨k,e⟩ | ⟨k,c,e,z⟩
   ·refine .inl ⟨k,?_⟩
    have:y ≠ n:=fun e=>hj (Xo hN e1 (e ▸ hi))
    simp [this,e]
   ·exact .inr ⟨k,c,e,z.sameBut hs (cne y c e)⟩
 ·obtain ⟨w',z⟩:=I1.cell y c e
  exact ⟨w',z.sameBut hs (cne y c e)⟩
 ·obtain ⟨e,n',ne,nf,d⟩:=I1.pin p hp
  exact ⟨(hs.2 p.1 ne).trans e,n',ne,nf,d⟩
 ·refine (I1.hok b ob e).stay (fun c w' hc q=>(hs.2 c ?_).trans q) (fun _ q=>q) fun _ _ q=>q
  intro zc
  have f0:=I1.free
  rw [← zc] at f0
  rcases hc with z | z
  ·rw [z,e] at f0; cases f0
  ·rw [z] at f0; cases f0
theorem Xa.at_ {h:Heap} {x C:Addr} {fl:Value} {To:Option Addr} (a:Xa h x (.ref C) fl To):ExcAt x C h:=by
 obtain ⟨⟨c,d,dt,sl⟩,vs,e,⟨h1,h2,h3⟩,h4,_⟩:=a.ex
 have h1':c = Value.ref C:=h1
 have h2':d = none:=h2
 have h3':sl = #[]:=h3
 have h4':dt = .fields vs:=h4
 subst h1' h2' h3' h4'
 exact ⟨vs,e⟩
def Z1v (K:PySem.W.Frag) (Cs:Addr) (n i:Nat) (tb:XK→TS) (th:TS):TS:=fun D σ H=>tb (fun cls _ H'=>∃ C,cls = .ref C∧Um K C Cs∧∀ x,H' x = none→th { nx:=fun σ' H''=>D.nx (σ'.set i none) H'',rt:=D.rt } ((List.replicate n none).set i (some (.ref x))) (Zy H' x (W1 x C))) D σ H
theorem Jo {X:Cx} {c en:Str} {i:Nat} {Cs:Addr} {body:List Stmt} {b0:Stmt} {suite:List Stmt} {tb:XK→TS} {th:TS} {np hpos pos:Pos} (hN:X.N.Nodup) (hi:X.N[i]? = some en) (hle:X.env.kindOf en = some .local) (hstk:X.stack = X.env :: X.outer) (hfrm:X.env.frame = some X.env.locals) (hg:Gl X c) (hm:X.mg c = some (.ref Cs))
  (hb:∀ (pn:List (Addr × Obj)) (xe:Value→Shared→Prop) (Eb:XK),Yv (Ji X.prog X.w) (X.bod pn xe) Eb→PSs (X.bod pn xe) body (tb Eb)) (hs:∀ x,PSs (X.sub x) (b0 :: suite) th) (hdb:(c == ("__debug__":Str)) = false:=by decide) :
  PS X (.Try body [.ExceptHandler (some (.Name c np)) (some en) (b0 :: suite) hpos] [] [] pos) (Z1v X.K Cs X.N.length i tb th):=by
 intro Z0 s σ H D I h
 refine wpAny_Try_except ?_
 refine wpAny_mono (hb (X.pn ++ Z0) (fun e s1=>wpAny (model X.prog X.w) X.A (noteFrame e X.env) (fun _ s2=>wpAny (model X.prog X.w) X.A (setFlight e none) (fun _ s3=>wpAny (model X.prog X.w) X.A (handleBy e X.env [.ExceptHandler (some (.Name c np)) (some en) (b0 :: suite) hpos]) (SP X Z0 D) X.xe s3) X.xe s2) X.xe s1) (fun cls _ H'=>∃ C,cls = .ref C∧Um X.K C Cs∧∀ x,H' x = none→th { nx:=fun σ' H''=>D.nx (σ'.set i none) H'',rt:=D.rt } ((List.replicate X.N.length none).set i (some (.ref x))) (Zy H' x (W1 x C))) ?_ [] s σ H D I.bod h) (fun f s1 h1=>?_) fun e s1 h1=>h1
 ·rintro pl σ1 H1 s1 e s2 I1 ⟨x,T,cls,H',rfl,ho,hbr,un,ok,xa,nx,nT,hx,hT,C,rfl,hca,hth⟩
  have I2:Inv (X.bod (X.pn ++ Z0) _) pl σ1 H' s2:=I1.call' ho un ok hbr (ch:=[]) (fun b z=>absurd z (by simp))
  have hfr:X.A.frames = some (X.env :: X.outer):=by rw [← hstk]; exact I2.ok.frames
  have hl:s2.heap.FunFrames X.base (X.env :: X.outer):=by have z:s2.heap.FunFrames X.base X.stack:=I2.stack; rw [hstk] at z; exact z
  have hsf:∀ b ∈ Xg (X.env :: X.outer),H' b = none:=by have z:∀ b ∈ Xg X.stack,H' b = none:=I2.stkFree; rw [hstk] at z; exact z
  have hLn:s1.heap.get? s1.heap.objs.size = none:=Heap.get?_none_of_le (Nat.le_refl _)
  refine U6 hfr hl hfrm xa fun h3 k3 xa3=>?_
  have nT3:s2.heap.get? s2.heap.objs.size = none:=Heap.get?_none_of_le (Nat.le_refl _)
  refine Xb (s:={ s2 with heap:=h3 }) xa3 fun h4 k4 xa4=>?_
  have k24:Kp (Xg (X.env :: X.outer)) [x,T] s2.heap h4:=k3.trans (k4.weak (by simp)) (fun c hc=>hc) fun c hc=>.inr (by rw [List.mem_singleton.mp hc]; exact nT3)
  have at_:∀ (h':Heap) (tk:Nat),Kp (Xg (X.env :: X.outer)) [x,T] s2.heap h'→Inv X Z0 (List.replicate X.N.length none) H' { s2 with heap:=h',toks:=tk }:=fun h' tk k=>by
   have un':Un (Xg X.stack) [] H1 H' s1.heap h':=Vq un k (L:=s1.heap.objs.size) hLn (fun b hb=>.inr (by show b ∈ Xg X.stack; rw [hstk]; exact hb)) fun c hc=>by
    rcases List.mem_cons.mp hc with rfl | hc
    ·exact nx
    ·rw [List.mem_singleton.mp hc]; exact nT
   have ok':HOk X.prog X.w H' h':=Wr ok k hsf fun c hc=>by
    rcases List.mem_cons.mp hc with rfl | hc
    ·exact hx
    ·rw [List.mem_singleton.mp hc]; exact hT
   have I3:Inv (X.bod (X.pn ++ Z0) _) pl σ1 H' { s2 with heap:=h',toks:=tk }:=I1.call' (s':={ s2 with heap:=h',toks:=tk }) ho un' ok' hbr (ch:=[]) (fun b z=>absurd z (by simp))
   refine I3.unbod.weak (by rw [List.length_replicate]; exact I3.len.symm) fun i v e=>?_
   rw [List.getElem?_replicate] at e
   split at e <;> cases e
  have atX:∀ (h':Heap) (tk:Nat),Kp (Xg (X.env :: X.outer)) [x,T] s2.heap h'→ExcAt x C h'→Inv X Z0 (List.replicate X.N.length none) (Zy H' x (W1 x C)) { s2 with heap:=h',toks:=tk }:=fun h' tk k ea=>by
   have un0:Un (Xg X.stack) [] H1 H' s1.heap h':=Vq un k (L:=s1.heap.objs.size) hLn (fun b hb=>.inr (by show b ∈ Xg X.stack; rw [hstk]; exact hb)) fun c hc=>by
    rcases List.mem_cons.mp hc with rfl | hc
    ·exact nx
    ·rw [List.mem_singleton.mp hc]; exact nT
   have nx':∀ b o,s1.heap.get? b = some o→b ≠ x:=fun b o e z=>by rw [z,nx] at e; cases e
   have tx:∀ b o,H' b = some o→Zy H' x (W1 x C) b = some o:=fun b o e=>by rw [Zb (Z7 e hx)]; exact e
   have un':Un (Xg X.stack) [] H1 (Zy H' x (W1 x C)) s1.heap h':=⟨un0.keep,un0.slot,fun b o e n z=>by rw [Zb (nx' b o e)]; exact un0.free b o e n z,un0.there,fun b xs e=>tx _ _ (un0.tups b xs e),fun b o u e=>tx _ _ (un0.frzs b o u e),fun b ps e=>by obtain ⟨m,q⟩:=un0.tbls b ps e; exact ⟨m,tx _ _ q⟩⟩
   have ok0:HOk X.prog X.w H' h':=Wr ok k hsf fun c hc=>by
    rcases List.mem_cons.mp hc with rfl | hc
    ·exact hx
    ·rw [List.mem_singleton.mp hc]; exact hT
   have ok':HOk X.prog X.w (Zy H' x (W1 x C)) h':=fun b o e=>by
    by_cases z:b = x
    ·subst z
     rw [Z8] at e
     cases e
     exact Z05 ea
    ·rw [Zb z] at e
     exact (ok0 b o e).stay (fun _ _ _ q=>q) (fun b' q=>tx _ _ q) fun b' xs q=>tx _ _ q
   have I3:Inv (X.bod (X.pn ++ Z0) _) pl σ1 (Zy H' x (W1 x C)) { s2 with heap:=h',toks:=tk }:=I1.call' (s':={ s2 with heap:=h',toks:=tk }) ho un' ok' hbr (ch:=[]) (fun b z=>absurd z (by simp))
   refine I3.unbod.weak (by rw [List.length_replicate]; exact I3.len.symm) fun i v e=>?_
   rw [List.getElem?_replicate] at e
   split at e <;> cases e
  have I4:=at_ h4 s2.toks k24
  refine wpAny_handleBy_cons (codeAny_handlers_test (Xj (X:=X.sub x) (I4.sub x) hg hm ?_ hdb)) (by intro q; cases q)
  obtain ⟨oe,vs,he,⟨hcl,_⟩,_⟩:=xa4.ex
  refine Z04 I4.kIn hca he hcl ?_
  refine codeAny_handlers_suite_as ?_
  refine Xb (s:={ s2 with heap:=h4 }) xa4 fun h5 k5 xa5=>?_
  have k25:Kp (Xg (X.env :: X.outer)) [x,T] s2.heap h5:=k24.trans (k5.weak (by simp)) (fun c hc=>hc) fun c hc=>.inr (by rw [List.mem_singleton.mp hc]; exact nT3)
  have I5:=atX h5 s2.toks k25 xa5.at_
  refine Yj (X:=X.sub x) (I5.sub x) hN hi (.inl hle) (v:=.ref x) rfl (fun s6 I6=>?_) (.inr hle)
  refine wpAny_mono (hs x Z0 _ _ _ { nx:=fun σ' H''=>D.nx (σ'.set i none) H'',rt:=D.rt } I6 (hth x hx)) (fun f s7 h7=>?_) fun _ _ z=>False.elim z
  have h8:=h7.unsub I5.ok
  cases f with
  | next =>
   obtain ⟨σ',H'',I7,q⟩:=h8
   exact Uc I7 hN hi hle fun s8 I8=>⟨_,_,I8,q⟩
  | ret u =>
   obtain ⟨v,σ',H'',I7,r,q⟩:=h8
   exact Uc I7 hN hi hle fun s8 I8=>⟨v,_,_,I8,r,q⟩
  | brk=>obtain ⟨_,_,_,q⟩:=h8; exact False.elim q
  | cont=>obtain ⟨_,_,_,q⟩:=h8; exact False.elim q
 ·cases f with
  | next=>exact wpAny_execs_nil (SP.unbod (f:=.next) h1)
  | brk=>exact SP.unbod (f:=.brk) h1
  | cont=>exact SP.unbod (f:=.cont) h1
  | ret u=>exact SP.unbod (f:=.ret u) h1
end L2
namespace Seek
open PySem PySem.Spec PyProof.Rows L2
theorem Z0y (h:let E:=D; let A1:=a1; let A2:=a2; let A3:=a4; let A4:=a5; let A5:=Z9 (Zq c3 A3 Zi) A4; let A6:=Z9 a3 A5; let A7:=Z9 (Zq c2 A2 Zi) A6; (Z9 (Zq c1 A1 Zi) A7) E σ H):(Z9 (Zq c1 a1 Zi) (Z9 (Zq c2 a2 Zi) (Z9 a3 (Z9 (Zq c3 a4 Zi) a5)))) D σ H:=h
theorem Z0x (h:let E:=D; let A1:=a4; let A2:=Z9 a3 A1; let A3:=a6; let A4:=Z9 a5 A3; let A5:=Zq c2 A2 A4; let A6:=a7; let A7:=Z9 (Xq c1 A5) A6; let A8:=Z9 a2 A7; (Z9 a1 A8) E σ H):(Z9 a1 (Z9 a2 (Z9 (Xq c1 (Zq c2 (Z9 a3 a4) (Z9 a5 a6))) a7))) D σ H:=h
theorem Z0v (h:let E:=D; let A1:=a1; let A2:=a3; let A3:=Z9 a2 A2; (Z9 (Zq c1 A1 Zi) A3) E σ H):(Z9 (Zq c1 a1 Zi) (Z9 a2 a3)) D σ H:=h
theorem Z0t (h:let E:=D; let A1:=a1; let A2:=a4; let A3:=a5; let A4:=Z9 (Zq c2 A2 Zi) A3; let A5:=Z9 a3 A4; let A6:=Z9 a2 A5; (Z9 (Zq c1 A1 Zi) A6) E σ H):(Z9 (Zq c1 a1 Zi) (Z9 a2 (Z9 a3 (Z9 (Zq c2 a4 Zi) a5)))) D σ H:=h
theorem Vv (h:let E:=D; let A1:=a3; let A2:=Z9 a2 A1; (Z9 a1 A2) E σ H):(Z9 a1 (Z9 a2 a3)) D σ H:=h
theorem Z0w (h:let E:=D; let A1:=a4; let A2:=a9; let A3:=a10; let A4:=Z9 (Zq c2 A2 Zi) A3; let A5:=Z9 a8 A4; let A6:=a14; let A7:=a16; let A8:=Z9 a15 A7; let A9:=Z9 (Zq c3 A6 Zi) A8; let A10:=Z9 a13 A9; let A11:=Z9 a12 A10; let A12:=Z9 a11 A11; let A13:=Z9 (Jj i1 g1 A5) A12; let A14:=Z9 a7 A13; let A15:=Z9 a6 A14; let A16:=Z9 a5 A15; let A17:=Z9 (Zq c1 A1 Zi) A16; let A18:=Z9 a3 A17; let A19:=Z9 a2 A18; (Z9 a1 A19) E σ H):(Z9 a1 (Z9 a2 (Z9 a3 (Z9 (Zq c1 a4 Zi) (Z9 a5 (Z9 a6 (Z9 a7 (Z9 (Jj i1 g1 (Z9 a8 (Z9 (Zq c2 a9 Zi) a10))) (Z9 a11 (Z9 a12 (Z9 a13 (Z9 (Zq c3 a14 Zi) (Z9 a15 a16))))))))))))) D σ H:=h
theorem Z0s (h:let E:=D; let A1:=a6; let A2:=Z9 a5 A1; let A3:=a7; let A4:=a9; let A5:=Zq c5 A4 Zi; let A6:=Z9 a8 A5; let A7:=a10; let A8:=Zq c4 A6 A7; let A9:=Zq c3 A3 A8; let A10:=a11; let A11:=Z9 (Zq c2 A2 A9) A10; let A12:=Z9 a4 A11; let A13:=a12; let A14:=Z9 (Xq c1 A12) A13; let A15:=Z9 a3 A14; let A16:=Z9 a2 A15; (Z9 a1 A16) E σ H):(Z9 a1 (Z9 a2 (Z9 a3 (Z9 (Xq c1 (Z9 a4 (Z9 (Zq c2 (Z9 a5 a6) (Zq c3 a7 (Zq c4 (Z9 a8 (Zq c5 a9 Zi)) a10))) a11))) a12)))) D σ H:=h
theorem Z0u (h:let E:=D; let A1:=a3; let A2:=a4; let A3:=a5; let A4:=a6; let A5:=a7; let A6:=Zq c5 A5 Zi; let A7:=Z9 (Zq c4 A4 Zi) A6; let A8:=Z9 (Zq c3 A3 Zi) A7; let A9:=Z9 (Zq c2 A2 Zi) A8; let A10:=Z9 (Zq c1 A1 Zi) A9; let A11:=Z9 a2 A10; let A12:=a8; let A13:=Z9 (Jj i1 g1 A11) A12; (Z9 a1 A13) E σ H):(Z9 a1 (Z9 (Jj i1 g1 (Z9 a2 (Z9 (Zq c1 a3 Zi) (Z9 (Zq c2 a4 Zi) (Z9 (Zq c3 a5 Zi) (Z9 (Zq c4 a6 Zi) (Zq c5 a7 Zi))))))) a8)) D σ H:=h
def Jd (i:Nat):Stmt:=PySem.Challenge.pw_seek_k23_formed.main.body.getD i (.Pass ⟨0,0,0,0⟩)
section
variable {P:Program} {w:World} {K:PySem.W.Frag} {mg:Str→Option Value} {base:Heap} {f:Addr} {fd:FuncData}
inductive spTakeI (vs:List V) (H:Hp) (Q:VK):Prop
 | mk (b:Addr) (m:Int) (_:vs = [.ref b,.int m]) (_:BoxAt H b) (_:0 < m) (_:m < 1073741824) (_:∀ (r:Int) (H':Hp),0 ≤ r→r < m→BoxAt H' b→Gro [b] H H'→Q (.int r) H')
def Yu:Sp:=fun vs H Q _=>spTakeI vs H Q
abbrev Yy:Stmt:=Jd 14
theorem sc_l_take:FnScope ["_law_box", "_law_many", "_law_number"] ["_law_box", "_law_many"] (Z6 Yy):=Jf
theorem Jw (F:Fun K "_law_take" "_law_take" Yy f fd):FnOk P w K mg base Vg 1 f fd ["_law_box", "_law_many"] Yu:=by
 refine F.ok sc_l_take (fun vs H Q E h=>?_) (fun cdv A outer s H vs Q E hr h=>?_)
 ·obtain ⟨b,m,rfl,_⟩:=h
  rfl
 obtain ⟨b,m,rfl,⟨ns,hb,hl⟩,h0,h1,q⟩:=h
 refine Je ?_
 intro Xz
 refine ⟨_,(Z2 (Zx (Zd (Tc hr.units0) (pv 0) (Vy Z3) (Zk _)) (Z5 (Zn Z4)) Zm)
  (Z2 (pS 2 sc_l_take.nd (Zp X5 (pv 0) Z4 (fun _ _=>rfl)))
  (Z2 (Z11 (Zo Jt (pv 2) (pv 1)) (Z12 (pv 0) Z4 Ta))
  (Z2 (Zx (PW.pt (Z0e (Zd Ya (Zp X5 (pv 0) Z4 (fun _ _=>rfl)) Z4 (Zk _)) (Ts (Zd Ya (Zp X5 (pv 0) Z4 (fun _ _=>rfl)) (Z27 Z0n Z4) (Zk _))))) (Z5 (X3 (Wn PySem.F.plainAttrs_list PySem.F.slot_list_pop PySem.F.type_list_pop Te (pv 0) (Z1 Z4 Z3)))) Zm)
  (Z5 (Zn (Zo Tz (pv 2) (pv 1)))))))),?_⟩
 refine Z0t ?_
 intro Ez Az1 Az2 Az3 Az4 Az5 Az6
 refine (Za rfl ⟨sz,fun p hp=>?_⟩)
 have np:b ≠ p:=Z7 hb hp
 have g1:Gro [b] H (Zy H p (.lst [])):=Gro.new hp _
 have hb1:(Zy H p (.lst [])) b = some (.lst (ns.map V.int)):=by rw [Zb np]; exact hb
 refine ⟨b,p,ns.map V.int,rfl,rfl,SqL.of hb1,SqL.of Z8,Za rfl (?_)⟩
 cases ns with
 | nil=>exact Vo (q 0 _ (Int.le_refl 0) h0 ⟨[],hb1,hl⟩ g1)
 | cons n r =>
  refine Z1m ?_
  refine (Z3i hb1 Z0m (?_))
  refine (Za rfl (Za rfl (Wf rfl rfl ⟨⟨h0,h1⟩,?_⟩)))
  refine (Za rfl ⟨b,_,_,0,rfl,rfl,hb1,Z43,?_⟩)
  have hm0:0 ≤ n % m:=Int.emod_nonneg _ (by omega)
  have hm1:n % m < m:=Int.emod_lt_of_pos _ h0
  generalize hH2:Zy (Zy H p (.lst [])) b (.lst ((List.map V.int (n :: r)).set 0 (V.int (n / m)))) = H2
  have hb2:H2 b = some (.lst (V.int (n / m) :: r.map V.int)):=by rw [← hH2,Z8]; rfl
  have g2:Gro [b] H H2:=g1.trans (by rw [← hH2]; exact Gro.set (by simp) hb1 _)
  have box2:BoxAt H2 b:=⟨n / m :: r,hb2,by simpa using hl⟩
  have hpop:∀ Q':V→Hp→Prop,Q' (.int (n / m)) (Zy H2 b (.lst (r.map V.int)))→Tq (.ref b) [.int 0] H2 Q':=fun Q' hq =>
   ⟨b,_,0,0,Za rfl ⟨rfl,hb2,by decide,by decide,seqIndex_of (by omega) (by rw [List.length_cons]; omega),rfl,hq⟩⟩
  have box3:BoxAt (Zy H2 b (.lst (r.map V.int))) b:=⟨r,Z8,by simp at hl; omega⟩
  have g3:Gro [b] H (Zy H2 b (.lst (r.map V.int))):=g2.trans (Gro.set (by simp) hb2 _)
  have ty2:Z3h K "list" (.ref b) H2:=.inl ⟨rfl,_,SqL.of hb2⟩
  refine (Z3i hb2 Z0m ⟨rfl,_,rfl,?_⟩)
  refine Yx (fun c=>?_) (fun c=>?_)
  ·refine Vo (Za rfl ⟨ty2,?_⟩)
   refine hpop _ ?_
   refine (Za rfl (Za rfl (Wf rfl rfl ⟨h0,?_⟩)))
   exact q _ _ hm0 hm1 box3 g3
  ·refine (Z3i hb2 Z0m ⟨_,rfl,rfl,_,rfl,?_⟩)
   refine Yx (fun c=>?_) (fun c=>?_)
   ·refine (Za rfl ⟨ty2,?_⟩)
    refine hpop _ ?_
    refine (Za rfl (Za rfl (Wf rfl rfl ⟨h0,?_⟩)))
    exact q _ _ hm0 hm1 box3 g3
   ·refine (Za rfl (Za rfl (Wf rfl rfl ⟨h0,?_⟩)))
    exact q _ _ hm0 hm1 box2 g2
inductive spSignI (vs:List V) (H:Hp) (Q:VK):Prop
 | mk (c:Int) (_:vs = [.int c]) (_:∀ s:Str,s.length = 1→Q (.str s) H)
def Wu:Sp:=fun vs H Q _=>spSignI vs H Q
abbrev Yz:Stmt:=Jd 15
theorem sc_l_sign:FnScope ["_law_cell", "_law_some"] ["_law_cell"] (Z6 Yz):=Jf
theorem Jx (F:Fun K "_law_sign" "_law_sign" Yz f fd):FnOk P w K mg base Vg 1 f fd ["_law_cell"] Wu:=by
 refine F.ok sc_l_sign (fun vs H Q E h=>?_) (fun cdv A outer s H vs Q E hr h=>?_)
 ·obtain ⟨c,rfl,_⟩:=h
  rfl
 obtain ⟨c,rfl,q⟩:=h
 refine Je ?_
 intro Xz
 refine ⟨_,(Z2 (pS 1 sc_l_sign.nd Zl)
  (Z2 (pS 1 sc_l_sign.nd (Zo Zg (pv 1) Zl))
  (Z5 (Zn (Zp Xt (pv 1) (Zo Tz (pv 0) Z4) (fun _ _=>rfl)))))),?_⟩
 refine Vv ?_
 intro Ez Az1 Az2
 refine (Za rfl (Wf rfl rfl ⟨sz,?_⟩))
 refine (Za rfl (Za rfl (Wf rfl rfl ⟨(by decide:(0:Int) < 94),?_⟩)))
 generalize hz:(Str.ofString _ ++ Str.ofString _:Str) = z
 have hlen:z.cps.toList.length = 94:=by rw [← hz]; decide +kernel
 have h0:0 ≤ c % 94:=Int.emod_nonneg _ (by omega)
 have h1:c % 94 < 94:=Int.emod_lt_of_pos _ (by omega)
 have hlt:(c % 94).toNat < z.cps.toList.length:=by omega
 have e:Tp z.cps.toList (c % 94) = some (z.cps.toList[(c % 94).toNat]):=by
  have:=X6 (xs:=z.cps.toList) (j:=(c % 94).toNat) (List.getElem?_eq_getElem hlt)
  rw [Int.toNat_of_nonneg h0] at this
  exact this
 refine ⟨z,_,_,rfl,rfl,?_,e,q _ rfl⟩
 have:z.length = 94:=by rw [← hlen]; simp [Str.length]
 rw [this]; exact sz
inductive spLettersI (vs:List V) (H:Hp) (Q:VK):Prop
 | mk (b:Addr) (_:vs = [.ref b]) (_:BoxAt H b) (_:∀ (l:Addr) (H':Hp),BoxAt H' b→LetAt H' l→Gro [b] H H'→Q (.ref l) H')
def X7:Sp:=fun vs H Q _=>spLettersI vs H Q
abbrev Y0:Stmt:=Jd 16
theorem Wh:FnScope ["_law_box"] ["_law_box"] (Z6 Y0):=Jf
theorem Vi (T:Blt mg) (O_l_take:Own P w K mg base 1 "_law_take" ["_law_box", "_law_many"] Yu) (O_l_sign:Own P w K mg base 1 "_law_sign" ["_law_cell"] Wu) (F:Fun K "_law_letters" "_law_letters" Y0 f fd) :
  FnOk P w K mg base Vg 2 f fd ["_law_box"] X7:=by
 refine F.ok Wh (fun vs H Q E h=>?_) (fun cdv A outer s H vs Q E hr h=>?_)
 ·obtain ⟨b,rfl,_⟩:=h
  rfl
 obtain ⟨b,rfl,hb,q⟩:=h
 refine Je ?_
 intro Xz
 refine ⟨_,(Z5 (Zn (Xm rfl (show CScope _ ["_law_box"] (Z6 Y0) _ from ⟨rfl,by decide +kernel,rfl,by decide +kernel,by decide +kernel,by decide +kernel,by decide +kernel⟩) (Yq rfl T.b_range (Z1 Z4 Z3)) (fun _ _ _ _=>Wo) (fun _ _ _ _=>(Ze (O_l_sign.mono (by omega)) hr rfl (Z1 (Ze (O_l_take.mono (by omega)) hr rfl (Z1 (pv 1) (Z1 Z4 Z3))) Z3)))))),?_⟩
 refine ⟨3,rfl,by decide,by decide,?_⟩
 refine V9 (n:=3) (fun i ys H'=>(∃ xs:List Str,ys = xs.map V.str∧xs.length = i∧∀ x ∈ xs,x.length = 1)∧BoxAt H' b∧Gro [b] H H') ⟨⟨[],rfl,rfl,by simp⟩,hb,Gro.refl⟩ (Zr (by decide)) (fun i ys H' ⟨⟨xs,e1,e2,_⟩,_⟩=>by rw [e1,List.length_map,e2]; exact Nat.le_refl _) ?_ ?_
 ·rintro i ys H1 hi ⟨⟨xs,rfl,e2,e3⟩,hb1,g1⟩
  refine (Za rfl ⟨b,94,rfl,hb1,by decide,by decide,fun r H2 h0 h1 hb2 g2=>?_⟩)
  refine ⟨r,rfl,fun s hs=>⟨⟨xs ++ [s],by simp,by simp [e2],fun x hx=>?_⟩,hb2,g1.trans g2⟩⟩
  rcases List.mem_append.mp hx with z | z
  ·exact e3 x z
  ·rw [List.mem_singleton.mp z]; exact hs
 ·rintro ys H1 ⟨⟨xs,rfl,e2,e3⟩,hb1,g1⟩ l hl
  match xs,e2,e3 with
  | [x,y,z],_,e3 =>
   exact q l _ (hb1.new hl) ⟨x,y,z,Z8,e3 x (by simp),e3 y (by simp),e3 z (by simp)⟩ (g1.trans (Gro.new hl _))
end
theorem Ti:∀ xs:List Str,(Txt.join "" xs).length = (xs.map (·.length)).sum:=by
 have fold:∀ (xs:List Str) (acc:Array Nat),(xs.foldl (fun a p=>a ++ ("":Str).cps ++ p.cps) acc).size = acc.size + (xs.map (·.length)).sum:=by
  intro xs
  induction xs with
  | nil=>intro acc; simp
  | cons x xs ih =>
   intro acc
   rw [List.foldl_cons,ih,Array.size_append,Array.size_append,List.map_cons,List.sum_cons]
   show acc.size + 0 + x.length + _ = _
   omega
 intro xs
 cases xs with
 | nil=>rfl
 | cons x xs =>
  show (xs.foldl (fun a p=>a ++ ("":Str).cps ++ p.cps) x.cps).size = _
  rw [fold,List.map_cons,List.sum_cons]
  rfl
theorem V8:∀ {xs:List Str},(∀ x ∈ xs,x.length = 1)→(xs.map (·.length)).sum = xs.length
 | [],_=>rfl
 | x :: xs,h=>by
  rw [List.map_cons,List.sum_cons,V8 (fun y hy=>h y (by simp [hy])),h x (by simp),List.length_cons]
  omega
section
variable {P:Program} {w:World} {K:PySem.W.Frag} {mg:Str→Option Value} {base:Heap} {f C:Addr} {fd:FuncData}
inductive spTextI (vs:List V) (H:Hp) (Q:VK):Prop
 | mk (b l:Addr) (n:Int) (_:vs = [.ref b,.ref l,.int n]) (_:BoxAt H b) (_:LetAt H l) (_:0 ≤ n) (_:n ≤ 1000) (_:∀ (t:Str) (H':Hp),(t.length:Int) = n→BoxAt H' b→Gro [b] H H'→Q (.str t) H')
def Vr:Sp:=fun vs H Q _=>spTextI vs H Q
abbrev Yk:Stmt:=Jd 17
theorem Us:FnScope ["_law_box", "_law_letters_here", "_law_size"] ["_law_box", "_law_letters_here", "_law_size"] (Z6 Yk):=Jf
theorem Jv (T:Blt mg) (O_l_take:Own P w K mg base 1 "_law_take" ["_law_box", "_law_many"] Yu) (F:Fun K "_law_text" "_law_text" Yk f fd):FnOk P w K mg base Vg 2 f fd ["_law_box", "_law_letters_here", "_law_size"] Vr:=by
 refine F.ok Us (fun vs H Q E h=>?_) (fun cdv A outer s H vs Q E hr h=>?_)
 ·obtain ⟨b,l,n,rfl,_⟩:=h
  rfl
 obtain ⟨b,l,n,rfl,hb,hl,h0,h1,q⟩:=h
 have bl:b ≠ l:=hb.ne_let hl
 have lS:l ∉ [b]:=by simpa using Ne.symm bl
 refine Je ?_
 intro Xz
 refine ⟨_,(Z5 (Zn (Wn PySem.F.plainAttrs_str PySem.F.slot_str_join PySem.F.type_str_join U8 Zl (Z1 (Xm rfl (show CScope _ ["_law_box", "_law_letters_here", "_law_size"] (Z6 Yk) _ from ⟨rfl,by decide +kernel,rfl,by decide +kernel,by decide +kernel,by decide +kernel,by decide +kernel⟩) (Yq rfl T.b_range (Z1 (pv 2) Z3)) (fun _ _ _ _=>Wo) (fun _ _ _ _=>(Zp (r:=Z0a K) X5 (pv 2) (Ze (O_l_take.mono (by omega)) hr rfl (Z1 (pv 1) (Z1 Z4 Z3))) (fun _ _=>rfl)))) Z3)))),?_⟩
 refine ⟨rfl,Za rfl (Za rfl ⟨by omega,by omega,?_⟩)⟩
 refine V9 (n:=n.toNat) (fun i ys H'=>(∃ xs:List Str,ys = xs.map V.str∧xs.length = i∧∀ x ∈ xs,x.length = 1)∧BoxAt H' b∧Gro [b] H H') ⟨⟨[],rfl,rfl,by simp⟩,hb,Gro.refl⟩ (Zr (by omega)) (fun i ys H' ⟨⟨xs,e1,e2,_⟩,_⟩=>by rw [e1,List.length_map,e2]; exact Nat.le_refl _) ?_ ?_
 ·rintro i ys H1 hi ⟨⟨xs,rfl,e2,e3⟩,hb1,g1⟩
  refine (Za rfl (Za rfl ⟨b,3,rfl,hb1,by decide,by decide,fun r H2 h20 h21 hb2 g2=>?_⟩))
  refine Z2n ((hl.gro g1 lS).gro g2 lS) h20 h21 fun s hs=>⟨⟨xs ++ [s],by simp,by simp [e2],fun x hx=>?_⟩,hb2,g1.trans g2⟩
  rcases List.mem_append.mp hx with z | z
  ·exact e3 x z
  ·rw [List.mem_singleton.mp z]; exact hs
 ·rintro ys H1 ⟨⟨xs,rfl,e2,e3⟩,hb1,g1⟩ a ha
  have hs:=V8 e3
  have e0:("":Str).length = 0:=rfl
  refine ⟨_,a,xs,rfl,rfl,SqL.of Z8,by rw [hs,e0]; omega,?_⟩
  exact q _ _ (by rw [Ti,hs]; omega) (hb1.new ha) (g1.tup ha)
end
theorem Yo {n:Nat} (h:n ≤ 100000):n ≤ sizeLine:=Nat.le_trans h (by decide)
def FnS (H:Hp) (v:V) (x:Nat × Jk):Prop:=∃ (a:Addr) (gv:V),v = .ref a∧H a = some (.tup [.int x.1,.int x.2.1,gv])∧GsAt H gv x.2.2
theorem FnS.mono {H H':Hp} (tm:Tm H H') {v:V} {x:Nat × Jk} (h:FnS H v x):FnS H' v x:=by
 obtain ⟨a,gv,e,h1,h2⟩:=h
 exact ⟨a,gv,e,tm _ _ h1,h2.mono tm⟩
theorem Ww {f:Str} {n:Nat}:∀ (m p:Nat) (ps:List Pc),f.length - p ≤ m→pz f n p = some ps→ps.length ≤ f.length - p∧∀ k,Pc.nm k ∈ ps→k ≤ n
 | m,p,ps,hm,h=>by
  by_cases hp:p < f.length
  ·cases hk:kd f n p with
   | sign =>
    rw [Xh hp hk] at h
    obtain ⟨qs,hq,rfl⟩:=Option.map_eq_some_iff.mp h
    match m,hm with
    | 0,hm=>omega
    | m + 1,hm =>
     obtain ⟨h1,h2⟩:=Ww m (p + 1) qs (by omega) hq
     refine ⟨by rw [List.length_cons]; omega,fun k hk'=>?_⟩
     rcases List.mem_cons.mp hk' with e | e
     ·cases e
     ·exact h2 k e
   | dollar =>
    rw [Yp hp hk] at h
    obtain ⟨qs,hq,rfl⟩:=Option.map_eq_some_iff.mp h
    match m,hm with
    | 0,hm=>omega
    | m + 1,hm =>
     obtain ⟨h1,h2⟩:=Ww m (p + 2) qs (by omega) hq
     refine ⟨by rw [List.length_cons]; omega,fun k hk'=>?_⟩
     rcases List.mem_cons.mp hk' with e | e
     ·cases e
     ·exact h2 k e
   | num j =>
    have hj:j ≤ n:=by
     unfold kd at hk
     split at hk
     ·split at hk
      ·cases hk
      ·split at hk
       ·split at hk
        ·cases hk; assumption
        ·cases hk
       ·cases hk
     ·cases hk
    rw [Wv hp hk] at h
    obtain ⟨qs,hq,rfl⟩:=Option.map_eq_some_iff.mp h
    match m,hm with
    | 0,hm=>omega
    | m + 1,hm =>
     obtain ⟨h1,h2⟩:=Ww m (p + 2) qs (by omega) hq
     refine ⟨by rw [List.length_cons]; omega,fun k hk'=>?_⟩
     rcases List.mem_cons.mp hk' with e | e
     ·cases e; exact hj
     ·exact h2 k e
   | bad=>rw [Wy hp hk] at h; cases h
  ·rw [Wx hp] at h
   cases h
   exact ⟨Nat.zero_le _,fun k hk=>by simp at hk⟩
theorem Xn {o:Option (List Pc)} {ps:List Pc} {c:Pc}:(o.map (c :: ·)).map (ps ++ ·) = o.map ((ps ++ [c]) ++ ·):=by cases o <;> simp
theorem X9 (ps:List Pc) (c:Pc):ps.map Z1s ++ [Z1s c] = (ps ++ [c]).map Z1s:=by rw [List.map_append]; rfl
theorem Y8 (t:Str) (a b:Option Int):(Txt.slice t a b).length ≤ t.length:=Txt.slice_le t _ _
theorem Uk {f:Str} {n:Nat}:∀ (m p:Nat) (ps:List Pc),f.length - p ≤ m→pz f n p = some ps→∀ s,Pc.tx s ∈ ps→s.length ≤ 1
 | m,p,ps,hm,h=>by
  by_cases hp:p < f.length
  ·match m,hm with
   | 0,hm=>omega
   | m + 1,hm =>
    cases hk:kd f n p with
    | sign =>
     rw [Xh hp hk] at h
     obtain ⟨qs,hq,rfl⟩:=Option.map_eq_some_iff.mp h
     intro s hs
     rcases List.mem_cons.mp hs with e | e
     ·cases e; exact Nat.le_refl 1
     ·exact Uk m (p + 1) qs (by omega) hq s e
    | dollar =>
     rw [Yp hp hk] at h
     obtain ⟨qs,hq,rfl⟩:=Option.map_eq_some_iff.mp h
     intro s hs
     rcases List.mem_cons.mp hs with e | e
     ·cases e; decide +kernel
     ·exact Uk m (p + 2) qs (by omega) hq s e
    | num j =>
     rw [Wv hp hk] at h
     obtain ⟨qs,hq,rfl⟩:=Option.map_eq_some_iff.mp h
     intro s hs
     rcases List.mem_cons.mp hs with e | e
     ·cases e
     ·exact Uk m (p + 2) qs (by omega) hq s e
    | bad=>rw [Wy hp hk] at h; cases h
  ·rw [Wx hp] at h
   cases h
   intro s hs
   simp at hs
structure PcOk (n m:Nat) (ps:List Pc):Prop where
 len:ps.length ≤ m
 num:∀ k,Pc.nm k ∈ ps→k ≤ n
 txt:∀ s,Pc.tx s ∈ ps→s.length ≤ 1
theorem Z26 {f:Str} {n:Nat} {ps:List Pc} (h:pz f n 0 = some ps):PcOk n f.length ps:=by
 obtain ⟨h1,h2⟩:=Ww f.length 0 ps (by omega) h
 exact ⟨by omega,h2,Uk f.length 0 ps (by omega) h⟩
theorem Js {t:Str} {x:Nat × Jk} {c:Pc} (ht:t.length ≤ 200) (hc:∀ s,c = .tx s→s.length ≤ 1):(Z0c t x c).length ≤ 200:=by
 cases c with
 | tx s=>exact Nat.le_trans (hc s rfl) (by decide)
 | nm k =>
  cases k with
  | zero=>exact Nat.le_trans (Y8 t _ _) ht
  | succ k =>
   show (Z2v t (x.2.2.getD k none)).length ≤ 200
   cases x.2.2.getD k none with
   | none=>exact Nat.zero_le _
   | some q=>exact Nat.le_trans (Y8 t _ _) ht
theorem U3:∀ {ms:List Str},(∀ m ∈ ms,m.length ≤ 200)→(ms.map (·.length)).sum ≤ 200 * ms.length
 | [],_=>Nat.le_refl _
 | m :: ms,h=>by
  rw [List.map_cons,List.sum_cons,List.length_cons]
  have h1:=h m (by simp)
  have h2:=U3 (ms:=ms) fun m' hm=>h m' (by simp [hm])
  omega
theorem Ux {t:Str} {x:Nat × Jk} {ps:List Pc} {n m:Nat} (ok:PcOk n m ps) (ht:t.length ≤ 200):∀ s ∈ ps.map (Z0c t x),s.length ≤ 200:=fun s hs=>by
 obtain ⟨c,hc,rfl⟩:=List.mem_map.mp hs
 exact Js ht fun s e=>ok.txt s (by rw [← e]; exact hc)
section
variable {P:Program} {w:World} {K:PySem.W.Frag} {mg:Str→Option Value} {base:Heap} {f C CS CN CE:Addr} {fd:FuncData}
inductive spMarkI (CN:Addr) (vs:List V) (H:Hp) (Q:VK) (E:XK):Prop
 | mk (s:Str) (n:Nat) (_:vs = [.str s,.int n]) (_:s.length ≤ 1) (_:s = "$"→Q (.str "$") H) (_:∀ k,¬ s = "$"→Jg s = some k→k ≤ n→Q (.int k) H) (_:¬ s = "$"→(∀ k,Jg s = some k→¬ k ≤ n)→E (.ref CN) none H)
def Vs (CN:Addr):Sp:=fun vs H Q E=>spMarkI CN vs H Q E
abbrev Zu:Stmt:=Jd 10
theorem sc_marked_piece:FnScope ["sign", "groups", "number"] ["sign", "groups"] (Z6 Zu):=Jf
theorem Jy {t1:Tok} (T:Blt mg) (Xp:mg "DIGITS" = some (.str digS t1)) (XC_NoForm:XC K mg "NoForm" CN CE) (F:Fun K "marked_piece" "marked_piece" Zu f fd):FnOk P w K mg base (Ji P w) 1 f fd ["sign", "groups"] (Vs CN):=by
 refine F.okX sc_marked_piece (fun vs H Q E h=>?_) (fun cdv A outer s H vs Q E hr h LX=>?_)
 ·obtain ⟨s,n,rfl,_⟩:=h
  rfl
 obtain ⟨s',n,rfl,hl,h1,h2,h3⟩:=h
 refine Je ?_
 intro Xz
 refine ⟨_,(Z2 (Zx (Zd Ya (pv 0) Zl (Zk _)) (Z5 (Zn (pv 0))) Zm)
  (Z2 (Zx (PW.pt (Z0e (Zd Ya (pv 0) Zl (Zk _)) (Ts (Zd Wi (pv 0) (X4 (v:=.str _) rfl Xp ⟨_,rfl⟩) (by with_unfolding_all rfl))))) (Z5 (V6 LX rfl XC_NoForm rfl (Z1 Zl Z3))) Zm)
  (Z2 (pS 2 sc_marked_piece.nd (Y7 Ye rfl T.b_int PyProof.Rows.Boot.«int» (Z1 (pv 0) Z3)))
  (Z2 (Zx (Zd Z2a (pv 2) (pv 1) (Zk _)) (Z5 (V6 LX rfl XC_NoForm rfl (Z1 Zl Z3))) Zm)
  (Z5 (Zn (pv 2))))))),?_⟩
 refine Z0y ?_
 intro Ez Az1 Az2 Az3 Az4 Az5 Az6 Az7
 refine Za rfl ⟨rfl,Za rfl (Yx (fun c=>?_) (fun c=>?_))⟩
 ·have e:s' = "$":=by have z:=of_decide_eq_true c; injection z
  subst e
  exact Za rfl (h1 rfl)
 have nd:¬ s' = "$":=fun e=>c (decide_eq_true (by rw [e]))
 refine Za rfl ⟨rfl,Za rfl (Yx (fun c1=>Vo ?_) (fun c1=>?_))⟩
 ·have e:s' = "":=by have z:=of_decide_eq_true c1; injection z
  refine ⟨sz,h3 nd fun k hk=>?_⟩
  rw [e,show Jg ("":Str) = none by decide +kernel] at hk
  cases hk
 have h1l:s'.length = 1:=by
  have:¬ s'.length = 0:=fun z=>c1 (decide_eq_true (by rw [Z1l z]))
  omega
 have hd:=J6 h1l
 refine Za rfl ⟨_,_,rfl,rfl,Za rfl (Yx (fun c2=>?_) (fun c2=>?_))⟩
 ·refine ⟨sz,h3 nd fun k hk=>?_⟩
  rw [hd,hk] at c2
  cases c2
 rw [hd] at c2
 cases hk:Jg s' with
 | none=>rw [hk] at c2; exact absurd rfl c2
 | some k =>
  obtain ⟨hi,_,hk9⟩:=Ud hk
  refine Za rfl ⟨s',k,rfl,hi,by omega,?_⟩
  refine Za rfl (Za rfl (Wf rfl rfl (Za rfl (Yx (fun c3=>?_) (fun c3=>?_)))))
  ·have:(n:Int) < (k:Int):=of_decide_eq_true c3
   exact ⟨sz,h3 nd fun j hj=>by rw [hk] at hj; cases hj; omega⟩
  ·have:¬ (n:Int) < (k:Int):=fun z=>c3 (decide_eq_true z)
   exact Za rfl (h2 k nd hk (by omega))
inductive spFormI (CN:Addr) (vs:List V) (H:Hp) (Q:VK) (E:XK):Prop
 | mk (fm:Str) (n:Nat) (_:vs = [.str fm,.int n]) (_:fm.length ≤ 100) (_:∀ ps,pz fm n 0 = some ps→∀ (l:Addr) (H':Hp),H' l = some (.lst (ps.map Z1s))→H l = none→Gro [] H H'→Q (.ref l) H') (_:pz fm n 0 = none→∀ H',Gro [] H H'→E (.ref CN) none H')
def Vt (CN:Addr):Sp:=fun vs H Q E=>spFormI CN vs H Q E
abbrev Zz:Stmt:=Jd 9
theorem sc_form_pieces:FnScope ["form", "groups", "pieces", "place"] ["form", "groups"] (Z6 Zz):=Jf
theorem Jz (T:Blt mg) (O_marked_piece:OwnX P w K mg base 1 "marked_piece" ["sign", "groups"] (Vs CN)) (F:Fun K "form_pieces" "form_pieces" Zz f fd):FnOk P w K mg base (Ji P w) 2 f fd ["form", "groups"] (Vt CN):=by
 refine F.okX sc_form_pieces (fun vs H Q E h=>?_) (fun cdv A outer s H vs Q E hr h LX=>?_)
 ·obtain ⟨fm,n,rfl,_⟩:=h
  rfl
 obtain ⟨fm,n,rfl,hf,q1,q2⟩:=h
 refine Je ?_
 intro Xz
 refine ⟨_,(Z2 (pS 2 sc_form_pieces.nd (Vy Z3))
  (Z2 (pS 3 sc_form_pieces.nd Z4)
  (Z2 (V5 LeaveX.own (Zd Jc (pv 3) (Zj Yw rfl T.b_len PyProof.Rows.Boot.«len» (Z1 (pv 0) Z3)) (Zk _)) (Z5 (Zx (Zd Ya (Zp Xt (pv 0) (pv 3) (fun _ _=>rfl)) Zl (Zk _)) (Z2 (X3 (Wn PySem.F.plainAttrs_list PySem.F.slot_list_append PySem.F.type_list_append X8 (pv 2) (Z1 (Xi LX.pass (O_marked_piece.mono (by omega)) hr rfl (Z1 (Ym Xr (pv 0) (Y2 (Zo Yr (pv 3) Z4)) (Y2 (Zo Yr (pv 3) Z4))) (Z1 (pv 1) Z3))) Z3)))
  (Z5 (Tv (i:=3) sc_form_pieces.nd rfl (by first | exact Or.inl rfl | exact Or.inr rfl) Z4 J5))) (Z2 (X3 (Wn PySem.F.plainAttrs_list PySem.F.slot_list_append PySem.F.type_list_append X8 (pv 2) (Z1 (Zp Xt (pv 0) (pv 3) (fun _ _=>rfl)) Z3)))
  (Z5 (Tv (i:=3) sc_form_pieces.nd rfl (by first | exact Or.inl rfl | exact Or.inr rfl) Z4 J5))))))
  (Z5 (Zn (pv 2)))))),?_⟩
 refine Z0x ?_
 intro Ez Az1 Az2 Az3 Az4 Az5 Az6 Az7 Az8
 refine ⟨sz,fun l hl=>?_⟩
 have g1:=Gro.new (S:=[]) hl (.lst [])
 have hl1:(Zy H l (.lst [])) l = some (.lst []):=Z8
 generalize Zy H l (.lst []) = H1 at *
 have gro:∀ H',Gro [l] H1 H'→Gro [] H H':=fun H' g2=>⟨fun a o h _=>g2.keep a o (g1.keep a o h (by simp)) (by simpa using Z7 h hl),fun a zs h=>g2.tups _ _ (g1.tups _ _ h)⟩
 refine ⟨fun μ σ H'=>∃ (p:Nat) (ps:List Pc),σ = [some (.str fm),some (.int n),some (.ref l),some (.int p)]∧H' l = some (.lst (ps.map Z1s))∧(pz fm n p).map (ps ++ ·) = pz fm n 0∧ps.length ≤ p∧p ≤ fm.length + 1∧Gro [l] H1 H'∧μ = fm.length + 2 - p,⟨_,0,[],rfl,hl1,by simp,Nat.le_refl _,Nat.zero_le _,Gro.refl,rfl⟩,?_⟩
 rintro μ σ H' ⟨p,ps,rfl,hl',hpz,hpl,hple,g,rfl⟩
 refine Za rfl (Za rfl ⟨fm,rfl,Xw (by omega),Wf rfl rfl (Za rfl (Yx (fun c=>?yes0) (fun c=>?no0)))⟩)
 case no0 =>
  have hc:¬ p < fm.length:=fun z=>c (decide_eq_true (by omega))
  rw [Wx hc] at hpz
  have e:pz fm n 0 = some ps:=by rw [← hpz]; simp
  exact Za rfl (q1 ps e l H' hl' hl (gro H' g))
 have hp:p < fm.length:=by have:=of_decide_eq_true c; omega
 have hch:=J8 (t:=fm) (i:=(p:Int)) (by omega) (by omega)
 have ech:(⟨#[fm.cps.toList.getD (p:Int).toNat 0]⟩:Str) = T9 fm p:=by rw [Int.toNat_natCast]; rfl
 refine ⟨_,fun _ _ q'=>q',?_⟩
 refine Za rfl (Za rfl ⟨fm,_,_,rfl,rfl,Xw (by omega),hch,rfl,Za rfl (Yx (fun c1=>?_) (fun c1=>?_))⟩)
 ·have hd:T9 fm p = "$":=by have z:=of_decide_eq_true c1; injection z
  have hs:Txt.slice fm (some ((p:Int) + 1)) (some ((p:Int) + 2)) = Xv fm p:=by
   rw [show (p:Int) + 1 = ((p + 1:Nat):Int) by omega,show (p:Int) + 2 = ((p + 2:Nat):Int) by omega,W4 (by omega) (by omega)]
   rfl
  refine Za rfl ⟨.inl ⟨rfl,_,SqL.of hl'⟩,Za rfl (Za rfl (Wf rfl rfl ⟨_,rfl,Za rfl (Wf rfl rfl ⟨_,rfl,fm,rfl,Xw (by omega),Za rfl ⟨Xv fm p,n,congrArg (fun z=>[V.str z,V.int n]) hs,U2 fm p,fun e=>?_,fun k e1 e2 e3=>?_,fun e1 e2=>?_⟩⟩)⟩))⟩
  ·refine ⟨l,_,_,rfl,rfl,hl',Zr (by rw [List.length_map]; omega),Za rfl (Wf rfl rfl ⟨_,?_,p + 2,ps ++ [.tx "$"],rfl,by rw [Z8,← X9]; rfl,?_,by simp; omega,by omega,g.trans (Gro.set (by simp) hl' _),rfl⟩)⟩
   ·omega
   ·rw [← hpz,Yp hp (J3 hd e),Xn]
  ·refine ⟨l,_,_,rfl,rfl,hl',Zr (by rw [List.length_map]; omega),Za rfl (Wf rfl rfl ⟨_,?_,p + 2,ps ++ [.nm k],rfl,by rw [Z8,← X9]; rfl,?_,by simp; omega,by omega,g.trans (Gro.set (by simp) hl' _),rfl⟩)⟩
   ·omega
   ·rw [← hpz,Wv hp (J1 hd e1 e2 e3),Xn]
  ·have hb:kd fm n p = .bad:=by
    cases hk:Jg (Xv fm p) with
    | none=>exact Wq hd e1 hk
    | some k=>exact Ua hd e1 hk (e2 k hk)
   rw [Wy hp hb] at hpz
   exact q2 hpz.symm H' (gro H' g)
 ·have hd:¬ T9 fm p = "$":=fun z=>c1 (decide_eq_true (by rw [ech,z]))
  refine Za rfl ⟨.inl ⟨rfl,_,SqL.of hl'⟩,Za rfl (Za rfl ⟨fm,_,_,rfl,rfl,Xw (by omega),hch,?_⟩)⟩
  refine ⟨l,_,_,rfl,rfl,hl',Zr (by rw [List.length_map]; omega),Za rfl (Wf rfl rfl ⟨_,?_,p + 1,ps ++ [.tx (T9 fm p)],rfl,by rw [Z8,← X9]; rfl,?_,by simp; omega,by omega,g.trans (Gro.set (by simp) hl' _),rfl⟩)⟩
  ·omega
  ·rw [← hpz,Xh hp (J2 hd),Xn]
inductive spTknI (vs:List V) (H:Hp) (Q:VK):Prop
 | mk (t:Str) (a:Addr) (x:Nat × Jk) (k:Nat) (_:vs = [.int k,.str t,.ref a]) (_:FnS H (.ref a) x) (_:t.length ≤ 1000) (_:k ≤ x.2.2.length) (_:x.2.2.length ≤ 900) (_:Q (.str (Z0c t x (.nm k))) H)
def Ja:Sp:=fun vs H Q _=>spTknI vs H Q
abbrev Y5:Stmt:=Jd 12
theorem sc_taken_text:FnScope ["number", "text", "find", "entry"] ["number", "text", "find"] (Z6 Y5):=Jf
theorem Z16 (F:Fun K "taken_text" "taken_text" Y5 f fd):FnOk P w K mg base Vg 1 f fd ["number", "text", "find"] Ja:=by
 refine F.ok sc_taken_text (fun vs H Q E h=>?_) (fun cdv A outer s H vs Q E hr h=>?_)
 ·obtain ⟨t,a,x,k,rfl,_⟩:=h
  rfl
 obtain ⟨t,a,x,k,rfl,hx,ht,hk,hn,q⟩:=h
 obtain ⟨a',gv,e,ha,ga,es,rfl,hga,hes⟩:=hx
 cases e
 refine Je ?_
 intro Xz
 refine ⟨_,(Z2 (Zx (Zd Ya (pv 0) Z4 (Zk _)) (Z5 (Zn (Ym Xr (pv 1) (Y2 (Zp Zt (pv 2) Z4 (fun _ _=>rfl))) (Y2 (Zp Zt (pv 2) Z4 (fun _ _=>rfl)))))) Zm)
  (Z2 (pS 3 sc_taken_text.nd (Zp Zt (Zp Zt (pv 2) Z4 (fun _ _=>rfl)) (Zo Ty (pv 0) Z4) (fun _ _=>rfl)))
  (Z5 (Zn (V7 (Vw (Tx (pv 3))) Zl (Ym Xr (pv 1) (Y2 (Zp Zt (pv 3) Z4 (fun _ _=>rfl))) (Y2 (Zp Zt (pv 3) Z4 (fun _ _=>rfl))))))))),?_⟩
 refine Z0v ?_
 intro Ez Az1 Az2 Az3
 cases k with
 | zero =>
  refine (Za rfl ⟨rfl,Za rfl (Zw (by decide) ?_)⟩)
  exact Za rfl (Tn ha Z0m (Za rfl (Tn ha rfl (Za rfl (Za rfl ⟨Xw ht,q⟩)))))
 | succ j =>
  refine (Za rfl ⟨rfl,Za rfl (Zf (fun z=>by have z':=of_decide_eq_true z; injection z'; omega) ?_)⟩)
  have hl:=Paired.length hes
  have hj:j < es.length:=by omega
  obtain ⟨en,hen,hv⟩:=Yt hes (List.getElem?_eq_getElem hj)
  have eix:Tp es (((j + 1:Nat):Int) - 1) = some es[j]:=by
   rw [show ((j + 1:Nat):Int) - 1 = ((j:Nat):Int) by omega]
   exact X6 (List.getElem?_eq_getElem hj)
  have ed:x.2.2.getD j none = en:=by rw [List.getD_eq_getElem?_getD,hen]; rfl
  refine Tn ha rfl (Za rfl (Wf rfl rfl ⟨ga,es,_,_,rfl,rfl,SqT.of hga,eix,?_⟩))
  have q':Q (.str (Z2v t en)) H:=by
   rw [← ed]
   exact q
  cases en with
  | none =>
   have e0:es[j] = V.non:=hv
   rw [e0]
   exact Za rfl (Za rfl (Zw (by decide) q'))
  | some p =>
   obtain ⟨pa,e0,hpa⟩:=hv
   rw [e0]
   exact Za rfl (Za rfl (Zf (by intro z; have z':=of_decide_eq_true z; cases z') (Za rfl (Tn hpa Z0m (Za rfl (Tn hpa rfl (Za rfl (Za rfl ⟨Xw ht,q'⟩))))))))
inductive spFillI (vs:List V) (H:Hp) (Q:VK):Prop
 | mk (ps:List Pc) (n:Nat) (t:Str) (l a:Addr) (x:Nat × Jk) (_:vs = [.ref l,.str t,.ref a]) (_:H l = some (.lst (ps.map Z1s))) (_:PcOk n 100 ps) (_:x.2.2.length = n) (_:n ≤ 9) (_:FnS H (.ref a) x) (_:t.length ≤ 200) (_:∀ H',Gro [] H H'→Q (.str (Uh t x ps)) H')
def Vu:Sp:=fun vs H Q _=>spFillI vs H Q
abbrev Yl:Stmt:=Jd 11
theorem Uu:FnScope ["pieces", "text", "find"] ["pieces", "text", "find"] (Z6 Yl):=Jf
theorem Z00 (T:Blt mg) (O_taken_text:Own P w K mg base 1 "taken_text" ["number", "text", "find"] Ja) (F:Fun K "filled" "filled" Yl f fd):FnOk P w K mg base Vg 2 f fd ["pieces", "text", "find"] Vu:=by
 refine F.ok Uu (fun vs H Q E h=>?_) (fun cdv A outer s H vs Q E hr h=>?_)
 ·obtain ⟨ps,n,t,l,a,x,rfl,_⟩:=h
  rfl
 obtain ⟨ps,n,t,l,a,x,rfl,hl,ok,hxn,hn,hx,ht,q⟩:=h
 refine Je ?_
 intro Xz
 refine ⟨_,(Z5 (Zn (Wn PySem.F.plainAttrs_str PySem.F.slot_str_join PySem.F.type_str_join U8 Zl (Z1 (Xm rfl (show CScope _ ["pieces", "text", "find"] (Z6 Yl) _ from ⟨rfl,by decide +kernel,rfl,by decide +kernel,by decide +kernel,by decide +kernel,by decide +kernel⟩) (Jp (pv 0)) (fun _ _ _ _=>Wo) (fun _ _ _ _=>(V7 (Z0z (Zj (Xc (T := "str") (J4 (by simp))) rfl T.b_isinstance PyProof.Rows.Boot.«isinstance» (Z1 (pv 0) (Z1 (Wp (v:=.ty "str") rfl T.b_str PyProof.Rows.Boot.«str» rfl) Z3)))) (pv 0) (Ze (O_taken_text.mono (by omega)) hr rfl (Z1 (pv 0) (Z1 (pv 2) (Z1 (pv 3) Z3))))))) Z3)))),?_⟩
 have hpl:=ok.len
 refine ⟨rfl,Za rfl ⟨l,rfl,⟨_,SqL.of hl⟩,?_⟩⟩
 have e0:("":Str).length = 0:=rfl
 refine Z02 (xs:=ps.map Z1s) (fun i ys H'=>ys = ((ps.take i).map (Z0c t x)).map V.str∧H' = H) ⟨rfl,rfl⟩ (Zr (by rw [List.length_map]; omega)) (fun i ys H' ⟨e,_⟩=>by rw [e,List.length_map,List.length_map,List.length_take]; exact Nat.min_le_left _ _) (fun i ys H' ⟨_,e⟩=>by rw [e]; exact SqL.of hl) ?_ ?_
 ·rintro i ys H' v hv ⟨rfl,rfl⟩
  rw [List.getElem?_map] at hv
  obtain ⟨c,hc,rfl⟩:=Option.map_eq_some_iff.mp hv
  rw [Up hc,List.map_append,List.map_append]
  cases c with
  | tx s'=>exact Za rfl ⟨_,_,rfl,rfl,Za rfl (Zw (by decide) (Za rfl ⟨rfl,rfl⟩))⟩
  | nm k=>exact Za rfl ⟨_,_,rfl,rfl,Za rfl (Zf (by decide) (Za rfl (Za rfl (Za rfl ⟨t,a,x,k,rfl,hx,by omega,by rw [hxn]; exact ok.num k (List.mem_of_getElem? hc),by omega,rfl,rfl⟩))))⟩
 ·rintro ys H' ⟨rfl,rfl⟩ l2 hl2
  rw [List.length_map,List.take_length]
  have hs:=U3 (Ux (x:=x) ok ht)
  rw [List.length_map] at hs
  exact ⟨_,l2,ps.map (Z0c t x),rfl,rfl,SqL.of Z8,by rw [e0]; exact Yo (by omega),q _ (Gro.new hl2 _)⟩
inductive spFdI (CN:Addr) (vs:List V) (H:Hp) (Q:VK) (E:XK):Prop
 | mk (fm t:Str) (a:Addr) (x:Nat × Jk) (n:Nat) (_:vs = [.str fm,.str t,.ref a]) (_:FnS H (.ref a) x) (_:x.2.2.length = n) (_:n ≤ 9) (_:fm.length ≤ 12) (_:t.length ≤ 200) (_:∀ ps,pz fm n 0 = some ps→∀ H',Gro [] H H'→Q (.str (Uh t x ps)) H') (_:pz fm n 0 = none→∀ H',Gro [] H H'→E (.ref CN) none H')
def Z09 (CN:Addr):Sp:=fun vs H Q E=>spFdI CN vs H Q E
abbrev X2:Stmt:=Jd 8
theorem Ut:FnScope ["form", "text", "find"] ["form", "text", "find"] (Z6 X2):=Jf
theorem Z2e (T:Blt mg) (O_form_pieces:OwnX P w K mg base 2 "form_pieces" ["form", "groups"] (Vt CN)) (O_filled:Own P w K mg base 2 "filled" ["pieces", "text", "find"] Vu) (F:Fun K "formed" "formed" X2 f fd):FnOk P w K mg base (Ji P w) 3 f fd ["form", "text", "find"] (Z09 CN):=by
 refine F.okX Ut (fun vs H Q E h=>?_) (fun cdv A outer s H vs Q E hr h LX=>?_)
 ·obtain ⟨fm,t,a,x,n,rfl,_⟩:=h
  rfl
 obtain ⟨fm,t,a,x,n,rfl,hx,hn,hn9,hf,ht,q1,q2⟩:=h
 obtain ⟨a',gv,e,ha,ga,es,rfl,hga,hes⟩:=id hx
 cases e
 have hl:=Paired.length hes
 refine Je ?_
 intro Xz
 refine ⟨_,(Z5 (Zn (Ze (O_filled.mono (by omega)) hr rfl (Z1 (Xi LX.pass (O_form_pieces.mono (by omega)) hr rfl (Z1 (pv 0) (Z1 (Zj Yd rfl T.b_len PyProof.Rows.Boot.«len» (Z1 (Zp Zt (pv 2) Z4 (fun _ _=>rfl)) Z3)) Z3))) (Z1 (pv 1) (Z1 (pv 2) Z3)))))),?_⟩
 refine Za rfl (Tn ha rfl ⟨ga,_,rfl,.inr (SqT.of hga),⟨fm,n,by rw [hl,hn]; rfl,by omega,fun ps hps l H2 hl2 hn2 g2=>?_,fun hb H2 g2=>q2 hb H2 g2⟩⟩)
 have ok:=Z26 hps
 have ok100:PcOk n 100 ps:=⟨Nat.le_trans ok.len (by omega),ok.num,ok.txt⟩
 exact Za rfl (Za rfl ⟨ps,n,t,l,a,x,rfl,hl2,ok100,hn,hn9,hx.mono g2.tups,ht,fun H3 g3=>q1 ps hps H3 (g2.trans g3)⟩)
end
theorem Xl (m:Str):∀ (k:Nat) (ms:List Str),ms.length = k→Txt.join "" (m :: ms) = m ++ Txt.join "" ms
 | 0,ms,h=>by
  have:ms = []:=List.eq_nil_of_length_eq_zero h
  subst this
  exact (Wt m).symm
 | k + 1,ms,h=>by
  rcases List.eq_nil_or_concat ms with e | ⟨ls,y,e⟩
  ·subst e; cases h
  ·subst e
   rw [List.concat_eq_append] at h ⊢
   rw [← List.cons_append,W8,W8,Xl m k ls (by simpa using h),We]
theorem Tk (t:Str) (x:Nat × Jk) (c:Pc) (ps:List Pc):Uh t x (c :: ps) = Z0c t x c ++ Uh t x ps:=Xl _ _ _ rfl
theorem Vz {t:Str} {x:Nat × Jk} {o:Option (List Pc)} {c:Pc} {dn:Str}:(o.map (c :: ·)).map (fun qs=>dn ++ Uh t x qs) = o.map (fun qs=>(dn ++ Z0c t x c) ++ Uh t x qs):=by
 cases o with
 | none=>rfl
 | some qs =>
  show some (dn ++ Uh t x (c :: qs)) = some ((dn ++ Z0c t x c) ++ Uh t x qs)
  rw [Tk,We]
section
variable {P:Program} {w:World} {K:PySem.W.Frag} {mg:Str→Option Value} {base:Heap} {f C CS CN CE:Addr} {fd:FuncData}
inductive spFmdI (vs:List V) (H:Hp) (Q:VK):Prop
 | mk (fm t:Str) (a:Addr) (x:Nat × Jk) (n:Nat) (_:vs = [.str fm,.str t,.ref a]) (_:FnS H (.ref a) x) (_:x.2.2.length = n) (_:n ≤ 9) (_:fm.length ≤ 12) (_:t.length ≤ 200) (_:∀ ps,pz fm n 0 = some ps→∀ H',Gro [] H H'→Q (.str (Uh t x ps)) H') (_:pz fm n 0 = none→∀ H',Gro [] H H'→Q .non H')
def Jb:Sp:=fun vs H Q _=>spFmdI vs H Q
abbrev Yg:Stmt:=Jd 18
theorem sc_l_formed:FnScope ["_law_form_here", "_law_text_here", "_law_find", "_law_done", "_law_at", "_law_pairs", "_law_told", "_law_pair_here"] ["_law_form_here", "_law_text_here", "_law_find"] (Z6 Yg):=Jf
theorem Z18 (T:Blt mg) (F:Fun K "_law_formed" "_law_formed" Yg f fd):FnOk P w K mg base Vg 1 f fd ["_law_form_here", "_law_text_here", "_law_find"] Jb:=by
 refine F.ok sc_l_formed (fun vs H Q E h=>?_) (fun cdv A outer s H vs Q E hr h=>?_)
 ·obtain ⟨fm,t,a,x,n,rfl,_⟩:=h
  rfl
 obtain ⟨fm,t,a,x,n,rfl,hx,hn,hn9,hf,ht,q1,q2⟩:=h
 refine Je ?_
 intro Xz
 refine ⟨_,(Z2 (pS 3 sc_l_formed.nd Zl)
  (Z2 (pS 4 sc_l_formed.nd Z4)
  (Z2 (pS 5 sc_l_formed.nd (Zo Ju (Wz (Z1 (Wz (Z1 (Zp Zt (pv 2) Z4 (fun _ _=>rfl)) (Z1 (Zp Zt (pv 2) Z4 (fun _ _=>rfl)) Z3))) Z3)) (Zp Zt (pv 2) Z4 (fun _ _=>rfl))))
  (Z2 (V5 PassesOwn.never (Zd Jc (pv 4) (Zj Yw rfl T.b_len PyProof.Rows.Boot.«len» (Z1 (pv 0) Z3)) (Zk _)) (Z2 (pS 6 sc_l_formed.nd (Ym Xr (pv 0) (Y2 (Zo Yr (pv 4) Z4)) (Y2 (Zo Yr (pv 4) Z4))))
  (Z2 (Zx (Zd Z0f (Zp Xt (pv 0) (pv 4) (fun _ _=>rfl)) Zl (Zk _)) (Z2 (pS 3 sc_l_formed.nd (Zo Zg (pv 3) (Zp Xt (pv 0) (pv 4) (fun _ _=>rfl))))
  (Z5 (pS 4 sc_l_formed.nd (Zo Ty (pv 4) Z4)))) (Z5 (Zx (Zd Ya (pv 6) Zl (Zk _)) (Z5 (pS 3 sc_l_formed.nd (Zo Zg (pv 3) Zl))) (Z5 (Zx (PW.pt (Tt (Zd Z0f (pv 6) Zl (Zk _)) (Tt (Zd Uy (pv 6) Zl (by with_unfolding_all rfl)) (Jn (Zd Jc (Y7 Ye rfl T.b_int PyProof.Rows.Boot.«int» (Z1 (pv 6) Z3)) (Zj Yd rfl T.b_len PyProof.Rows.Boot.«len» (Z1 (pv 5) Z3)) (Zk _)))))) (Z2 (pS 7 sc_l_formed.nd (Zp Zt (pv 5) (Y7 Ye rfl T.b_int PyProof.Rows.Boot.«int» (Z1 (pv 6) Z3)) (fun _ _=>rfl)))
  (Z5 (Zx (Vw (Jr (pv 7))) (Z5 (pS 3 sc_l_formed.nd (Zo Zg (pv 3) (Ym Xr (pv 1) (Y2 (Zp Zt (pv 7) Z4 (fun _ _=>rfl))) (Y2 (Zp Zt (pv 7) Z4 (fun _ _=>rfl))))))) Zm))) (Z5 (Zn Tw)))))))
  (Z5 (pS 4 sc_l_formed.nd (Zo Yr (pv 4) Z4))))))
  (Z5 (Zn (pv 3))))))),?_⟩
 refine Z0s ?_
 intro Ez Az1 Az2 Az3 Az4 Az5 Az6 Az7 Az8 Az9 Az10 Az11 Az12 Az13 Az14 Az15 Az16
 obtain ⟨a',gv,e,ha,ga,es,rfl,hga,hes⟩:=hx
 cases e
 have hl:=Paired.length hes
 have rest14:∀ (H':Hp) (pp pr:Addr),H' pp = some (.tup [.int x.1,.int x.2.1])→H' pr = some (.tup (.ref pp :: es))→Gro [] H H'→Az14 Ez [some (.str fm),some (.str t),some (.ref a),some (.str ""),some (.int 0),some (.ref pr),none,none] H':=by
  intro H' pp pr hpp hpr g
  have hes':=Paired.mapP hes fun v z h=>EnA.mono (x:=z) g.tups h
  have fin:∀ dn:Str,(some (dn ++ Uh t x []) = (pz fm n 0).map (Uh t x))→Q (.str dn) H':=fun dn h=>by
   obtain ⟨ps,h1,h2⟩:=Option.map_eq_some_iff.mp h.symm
   have e:Uh t x ps = dn:=h2.trans (Wt dn)
   rw [← e]
   exact q1 ps h1 H' g
  have none_:∀ dn:Str,((none:Option (List Pc)).map (fun qs=>dn ++ Uh t x qs) = (pz fm n 0).map (Uh t x))→Q .non H':=fun dn h=>by
   refine q2 ?_ H' g
   cases hz:pz fm n 0 with
   | none=>rfl
   | some ps=>rw [hz] at h; cases h
  refine ⟨fun μ σ H''=>∃ (p:Nat) (at_:Int) (dn:Str) (s6 s7:Option V),σ = [some (.str fm),some (.str t),some (.ref a),some (.str dn),some (.int at_),some (.ref pr),s6,s7]∧at_ = p∧(pz fm n p).map (fun qs=>dn ++ Uh t x qs) = (pz fm n 0).map (Uh t x)∧dn.length ≤ 200 * p∧p ≤ fm.length + 1∧H'' = H'∧μ = fm.length + 2 - p,⟨_,0,0, "",none,none,rfl,rfl,?_,Nat.zero_le _,Nat.zero_le _,rfl,rfl⟩,?_⟩
  ·cases pz fm n 0 with
   | none=>rfl
   | some ps=>show some (("":Str) ++ Uh t x ps) = _; rw [U7]; rfl
  rintro μ σ H'' ⟨p,at_,dn,s6,s7,rfl,rfl,hpz,hdn,hple,rfl,rfl⟩
  refine Za rfl (Za rfl ⟨fm,rfl,Yo (by omega),Wf rfl rfl (Za rfl (Yx (fun c=>?yes0) (fun c=>?no0)))⟩)
  case no0 =>
   have hc:¬ p < fm.length:=fun z=>c (decide_eq_true (by omega))
   rw [Wx hc] at hpz
   exact Za rfl (fin dn hpz)
  have hp:p < fm.length:=by have:=of_decide_eq_true c; omega
  have hch:=J8 (t:=fm) (i:=(p:Int)) (by omega) (by omega)
  have ech:(⟨#[fm.cps.toList.getD (p:Int).toNat 0]⟩:Str) = T9 fm p:=by rw [Int.toNat_natCast]; rfl
  have hs:Txt.slice fm (some ((p:Int) + 1)) (some ((p:Int) + 2)) = Xv fm p:=by
   rw [show (p:Int) + 1 = ((p + 1:Nat):Int) by omega,show (p:Int) + 2 = ((p + 2:Nat):Int) by omega,W4 (by omega) (by omega)]
   rfl
  refine ⟨_,fun _ _ q'=>q',?_⟩
  refine Za rfl (Za rfl (Wf rfl rfl ⟨_,rfl,Za rfl (Wf rfl rfl ⟨_,rfl,fm,rfl,Yo (by omega),?_⟩)⟩))
  rw [hs]
  refine Za rfl (Za rfl ⟨fm,_,_,rfl,rfl,Yo (by omega),hch,rfl,Za rfl (Yx (fun c1=>?_) (fun c1=>?_))⟩)
  ·have hd:¬ T9 fm p = "$":=fun z=>by
    have c1':(!decide (V.str (⟨#[fm.cps.toList.getD (p:Int).toNat 0]⟩:Str) = V.str "$")) = true:=c1
    rw [ech,z] at c1'
    exact absurd c1' (by decide)
   rw [Xh hp (J2 hd),Vz] at hpz
   refine Za rfl (Za rfl (Za rfl ⟨fm,_,_,rfl,rfl,Yo (by omega),hch,⟨_,_,rfl,rfl,Yo (by show dn.length + 1 ≤ _; omega),Za rfl (Wf rfl rfl (Za rfl (Wf rfl rfl ⟨_,?_,p + 1,_,dn ++ T9 fm p,_,_,rfl,?_,hpz,?_,by omega,rfl,rfl⟩)))⟩⟩))
   ·omega
   ·omega
   ·rw [Zs]
    show dn.length + 1 ≤ _
    omega
  have hd:T9 fm p = "$":=by
   have c1':¬ (!decide (V.str (⟨#[fm.cps.toList.getD (p:Int).toNat 0]⟩:Str) = V.str "$")) = true:=c1
   rw [ech] at c1'
   by_cases z:V.str (T9 fm p) = V.str "$"
   ·injection z
   ·rw [decide_eq_false z] at c1'
    exact absurd rfl c1'
  refine Za rfl ⟨rfl,Za rfl (Yx (fun c2=>?_) (fun c2=>?_))⟩
  ·have ht2:Xv fm p = "$":=by have z:=of_decide_eq_true c2; injection z
   rw [Yp hp (J3 hd ht2),Vz] at hpz
   refine Za rfl ⟨_,_,rfl,rfl,Yo (by show dn.length + 1 ≤ _; omega),Za rfl (Wf rfl rfl ⟨_,?_,p + 2,_,dn ++ "$",_,_,rfl,?_,hpz,?_,by omega,rfl,rfl⟩)⟩
   ·omega
   ·omega
   ·rw [Zs]
    show dn.length + 1 ≤ _
    omega
  have ht2:¬ Xv fm p = "$":=fun z=>c2 (decide_eq_true (by rw [z]))
  have bad:kd fm n p = .bad→Q .non H'':=fun hb=>by
   rw [Wy hp hb] at hpz
   exact none_ dn hpz
  have htl:=U2 fm p
  have dnone:(Xv fm p).length = 0→kd fm n p = .bad:=fun z=>Wq hd ht2 (by rw [Z1l z]; decide +kernel)
  refine Za rfl ⟨rfl,Za rfl (Yx (fun c3=>?y3) (fun c3=>Z1m (bad ?n3)))⟩
  case n3 =>
   refine dnone ?_
   have c3':¬ (!decide (V.str (Xv fm p) = V.str "")) = true:=c3
   by_cases z:V.str (Xv fm p) = V.str ""
   ·injection z with z
    rw [z]
    rfl
   ·rw [decide_eq_false z] at c3'
    exact absurd rfl c3'
  have h1l:(Xv fm p).length = 1:=by
   have:¬ (Xv fm p).length = 0:=fun z=>by
    have c3':(!decide (V.str (Xv fm p) = V.str "")) = true:=c3
    rw [Z1l z] at c3'
    exact absurd c3' (by decide)
   omega
  have hdi:=J6 h1l
  refine Za rfl ⟨_,_,rfl,rfl,Za rfl (Yx (fun c4=>?y4) (fun c4=>Z1m (bad ?n4)))⟩
  case n4 =>
   have c4':¬ (!(Builtin.Str.occurrences digS (Xv fm p) 0 digS.length 1).isEmpty) = true:=c4
   rw [hdi] at c4'
   cases hk:Jg (Xv fm p) with
   | none=>exact Wq hd ht2 hk
   | some k=>rw [hk] at c4'; exact absurd rfl c4'
  have c4':(!(Builtin.Str.occurrences digS (Xv fm p) 0 digS.length 1).isEmpty) = true:=c4
  rw [hdi] at c4'
  cases hk:Jg (Xv fm p) with
  | none=>rw [hk] at c4'; cases c4'
  | some k =>
  obtain ⟨hi,_,hk9⟩:=Ud hk
  refine Za rfl ⟨Xv fm p,k,rfl,hi,by omega,Za rfl ⟨pr,_,rfl,.inr (SqT.of hpr),Wf rfl rfl (Za rfl (Yx (fun c5=>?y5) (fun c5=>bad ?n5)))⟩⟩
  case n5 =>
   refine Ua hd ht2 hk fun z=>c5 (decide_eq_true ?_)
   show (k:Int) < (((V.ref pp :: es).length:Nat):Int)
   rw [List.length_cons]
   omega
  have hkn:k ≤ n:=by
   have:(k:Int) < (((V.ref pp :: es).length:Nat):Int):=of_decide_eq_true c5
   rw [List.length_cons] at this
   omega
  rw [Wv hp (J1 hd ht2 hk hkn),Vz] at hpz
  have done_:∀ s7:Option V,∀ dn':Str,dn' = dn ++ Z0c t x (.nm k)→dn'.length ≤ 200 * (p + 2)→∃ m',m' < fm.length + 2 - p∧∃ (p':Nat) (at_:Int) (dn:Str) (s6 s7':Option V),[some (V.str fm),some (V.str t),some (V.ref a),some (V.str dn'),some (V.int ((p:Int) + 2)),some (V.ref pr),some (V.str (Xv fm p)),s7] = [some (.str fm),some (.str t),some (.ref a),some (.str dn),some (.int at_),some (.ref pr),s6,s7']∧at_ = p'∧(pz fm n p').map (fun qs=>dn ++ Uh t x qs) = (pz fm n 0).map (Uh t x)∧dn.length ≤ 200 * p'∧p' ≤ fm.length + 1∧H'' = H''∧m' = fm.length + 2 - p':=fun s7 dn' e hl'=>by
   have hp2:p + 2 ≤ fm.length + 1:=by omega
   exact ⟨_,(by omega:fm.length + 2 - (p + 2) < _),p + 2,_,dn',_,_,rfl,by omega,by rw [e]; exact hpz,hl',hp2,rfl,rfl⟩
  cases k with
  | zero =>
   refine Za rfl (Za rfl ⟨Xv fm p,0,rfl,hi,by omega,pr,_,0,.ref pp,rfl,rfl,SqT.of hpr,Z0m,?_⟩)
   have hlen:(Txt.slice t (some (x.1:Int)) (some (x.2.1:Int))).length ≤ 200:=Nat.le_trans (Y8 t _ _) ht
   refine Za rfl (Za rfl (Zw (by rw [decide_eq_false (by intro z; cases z)]; rfl) (Za rfl (Za rfl (Tn hpp Z0m ⟨_,rfl,Tn hpp rfl ⟨_,rfl,t,rfl,Yo (by omega),⟨_,_,rfl,rfl,Yo (by omega),Za rfl (Wf rfl rfl (done_ _ _ rfl ?_))⟩⟩⟩)))))
   rw [Zs]
   omega
  | succ j =>
   have hj:j < es.length:=by omega
   obtain ⟨en,hen,hv⟩:=Yt hes' (List.getElem?_eq_getElem hj)
   have eix:Tp (.ref pp :: es) ((j + 1:Nat):Int) = some es[j]:=X6 (by rw [List.getElem?_cons_succ]; exact List.getElem?_eq_getElem hj)
   have ed:x.2.2.getD j none = en:=by rw [List.getD_eq_getElem?_getD,hen]; rfl
   have ec:Z0c t x (.nm (j + 1)) = Z2v t en:=by rw [← ed]; rfl
   refine Za rfl (Za rfl ⟨Xv fm p,((j + 1:Nat):Int),rfl,hi,by omega,pr,_,_,_,rfl,rfl,SqT.of hpr,eix,?_⟩)
   cases en with
   | none =>
    have e0:es[j] = V.non:=hv
    rw [e0]
    exact Za rfl (Za rfl (Zf (by decide) (Za rfl (Wf rfl rfl (done_ _ dn (by rw [ec]; exact (Wt dn).symm) (by omega))))))
   | some pq =>
    obtain ⟨pa,e0,hpa⟩:=hv
    rw [e0]
    have hlen:(Txt.slice t (some (pq.1:Int)) (some (pq.2:Int))).length ≤ 200:=Nat.le_trans (Y8 t _ _) ht
    refine Za rfl (Za rfl (Zw (by rw [decide_eq_false (by intro z; cases z)]; rfl) (Za rfl (Za rfl (Tn hpa Z0m ⟨_,rfl,Tn hpa rfl ⟨_,rfl,t,rfl,Yo (by omega),⟨_,_,rfl,rfl,Yo (by omega),Za rfl (Wf rfl rfl (done_ _ _ (by rw [ec]; rfl) ?_))⟩⟩⟩)))))
    rw [Zs]
    omega
 have g1:∀ pp,H pp = none→Gro [] H (Zy H pp (.tup [.int x.1,.int x.2.1])):=fun pp h=>Gro.new h _
 refine Tn ha Z0m (Tn ha rfl ⟨sz,fun pp hpp=>⟨sz,fun p1 hp1=>?_⟩⟩)
 have g2:Gro [] H (Zy (Zy H pp (.tup [.int x.1,.int x.2.1])) p1 (.tup [.ref pp])):=(Gro.new hpp _).tup hp1
 have e1:(Zy (Zy H pp (.tup [.int x.1,.int x.2.1])) p1 (.tup [.ref pp])) pp = some (.tup [.int x.1,.int x.2.1]):=by rw [Zb (Z7 Z8 hp1)]; exact Z8
 refine Tn (g2.tups _ _ ha) rfl ⟨p1,ga,_,es,rfl,rfl,SqT.of Z8,SqT.of (g2.tups _ _ hga),by simp,Yo (by show 1 + es.length ≤ _; omega),fun e=>?_,fun e pr hpr=>?_⟩
 ·subst e
  exact rest14 _ pp p1 e1 Z8 g2
 ·have g3:=Gro.new (S:=[]) hpr (.tup ([.ref pp] ++ es))
  exact rest14 _ pp pr (g3.tups _ _ e1) Z8 (g2.trans g3)
inductive spLfI (vs:List V) (H:Hp) (Q:VK):Prop
 | mk (b l:Addr) (n:Nat) (_:vs = [.ref b,.ref l,.int n]) (_:BoxAt H b) (_:LetAt H l) (_:n ≤ 9) (_:∀ (fm:Str) (H':Hp),fm.length ≤ 12→BoxAt H' b→Gro [b] H H'→Q (.str fm) H')
def Z1k:Sp:=fun vs H Q _=>spLfI vs H Q
abbrev X1:Stmt:=Jd 19
theorem sc_l_form:FnScope ["_law_box", "_law_letters_here", "_law_groups", "_law_form_here", "_law_k", "_law_kind"] ["_law_box", "_law_letters_here", "_law_groups"] (Z6 X1):=Jf
theorem Z2d (T:Blt mg) (O_l_take:Own P w K mg base 1 "_law_take" ["_law_box", "_law_many"] Yu) (O_l_sign:Own P w K mg base 1 "_law_sign" ["_law_cell"] Wu) (F:Fun K "_law_form" "_law_form" X1 f fd):FnOk P w K mg base Vg 2 f fd ["_law_box", "_law_letters_here", "_law_groups"] Z1k:=by
 refine F.ok sc_l_form (fun vs H Q E h=>?_) (fun cdv A outer s H vs Q E hr h=>?_)
 ·obtain ⟨b,l,n,rfl,_⟩:=h
  rfl
 obtain ⟨b,l,n,rfl,hb,hl,hn,q⟩:=h
 refine Je ?_
 intro Xz
 refine ⟨_,(Z2 (pS 3 sc_l_form.nd Zl)
  (Z2 (Tu PassesOwn.never rfl (Yq rfl T.b_range (Z1 (Ze (O_l_take.mono (by omega)) hr rfl (Z1 (pv 0) (Z1 Z4 Z3))) Z3)) (pN 4 sc_l_form.nd) (Z2 (pS 5 sc_l_form.nd (Ze (O_l_take.mono (by omega)) hr rfl (Z1 (pv 0) (Z1 Z4 Z3))))
  (Z2 (Zx (Zd Ya (pv 5) Z4 (Zk _)) (Z5 (pS 3 sc_l_form.nd (Zo Zg (pv 3) (Zp X5 (pv 1) (Ze (O_l_take.mono (by omega)) hr rfl (Z1 (pv 0) (Z1 Z4 Z3))) (fun _ _=>rfl))))) Zm)
  (Z2 (Zx (Zd Ya (pv 5) Z4 (Zk _)) (Z5 (pS 3 sc_l_form.nd (Zo Zg (Zo Zg (pv 3) Zl) (Y7 Wj rfl T.b_str PyProof.Rows.Boot.«str» (Z1 (Ze (O_l_take.mono (by omega)) hr rfl (Z1 (pv 0) (Z1 (Zo Yr (pv 2) Z4) Z3))) Z3))))) Zm)
  (Z2 (Zx (Zd Ya (pv 5) Z4 (Zk _)) (Z5 (pS 3 sc_l_form.nd (Zo Zg (pv 3) Zl))) Zm)
  (Z2 (Zx (Zd Ya (pv 5) Z4 (Zk _)) (Z5 (pS 3 sc_l_form.nd (Zo Zg (pv 3) (Ze (O_l_sign.mono (by omega)) hr rfl (Z1 (Ze (O_l_take.mono (by omega)) hr rfl (Z1 (pv 0) (Z1 Z4 Z3))) Z3))))) Zm)
  (Z5 (Zx (Zd Ya (pv 5) Z4 (Zk _)) (Z5 (pS 3 sc_l_form.nd (Zo Zg (Zo Zg (pv 3) Zl) (Ze (O_l_sign.mono (by omega)) hr rfl (Z1 (Ze (O_l_take.mono (by omega)) hr rfl (Z1 (pv 0) (Z1 Z4 Z3))) Z3))))) Zm))))))))
  (Z5 (Zn (pv 3))))),?_⟩
 refine Z0u ?_
 intro Ez Az1 Az2 Az3 Az4 Az5 Az6 Az7 Az8 Az9 Az10 Az11 Az12 Az13
 have lS:l ∉ [b]:=by simpa using Ne.symm (hb.ne_let hl)
 refine Za rfl ⟨b,7,rfl,hb,by decide,by decide,fun r H1 r0 r1 hb1 g1=>Za rfl ⟨by omega,by omega,?_⟩⟩
 refine W9 (n:=r.toNat) (fun k σ H'=>∃ (fm:Str) (k4 k5:Option V),σ = [some (.ref b),some (.ref l),some (.int n),some (.str fm),k4,k5]∧fm.length ≤ 2 * k∧BoxAt H' b∧Gro [b] H H') ⟨"",none,none,rfl,Nat.zero_le _,hb1,g1⟩ ?_ ?_
 ·rintro k σ H' hk ⟨fm,k4,k5,rfl,hfl,hb',g'⟩
  have l':=hl.gro g' lS
  refine Za rfl ⟨b,5,rfl,hb',by decide,by decide,fun kd H3 k0 k1 hb3 g3=>?_⟩
  have l3:=l'.gro g3 lS
  have hkd:kd = 0 ∨ kd = 1 ∨ kd = 2 ∨ kd = 3 ∨ kd = 4:=by omega
  rcases hkd with rfl | rfl | rfl | rfl | rfl
  ·refine Za rfl ⟨rfl,_,rfl,Zw (by decide) (Za rfl (Za rfl (Za rfl ⟨b,3,rfl,hb3,by decide,by decide,fun r3 H4 h30 h31 hb4 g4=>?_⟩)))⟩
   refine Z2n (l3.gro g4 lS) h30 h31 fun s1 hs1=>⟨_,_,rfl,rfl,Yo (by omega),?_⟩
   refine Za rfl ⟨rfl,_,rfl,Zf (by decide) (Za rfl ⟨rfl,_,rfl,Zf (by decide) (Za rfl ⟨rfl,_,rfl,Zf (by decide) (Za rfl ⟨rfl,_,rfl,Zf (by decide) ?_⟩)⟩)⟩)⟩
   exact ⟨fm ++ s1,_,_,rfl,by rw [Zs]; omega,hb4,(g'.trans g3).trans g4⟩
  ·refine Za rfl ⟨rfl,_,rfl,Zf (by decide) (Za rfl ⟨rfl,_,rfl,Zw (by decide) (Za rfl ⟨_,_,rfl,rfl,Yo (by show fm.length + 1 ≤ _; omega),Za rfl (Za rfl (Wf rfl rfl ⟨b,_,rfl,hb3,by omega,by omega,fun r3 H4 h30 h31 hb4 g4=>?_⟩))⟩)⟩)⟩
   have hr:(Str.ofString (toString r3)).length = 1∧r3.natAbs.log2 < 1920:=by
    have:r3 = 0 ∨ r3 = 1 ∨ r3 = 2 ∨ r3 = 3 ∨ r3 = 4 ∨ r3 = 5 ∨ r3 = 6 ∨ r3 = 7 ∨ r3 = 8 ∨ r3 = 9:=by omega
    rcases this with rfl | rfl | rfl | rfl | rfl | rfl | rfl | rfl | rfl | rfl <;> decide +kernel
   refine ⟨r3,rfl,hr.2,_,_,rfl,rfl,Yo (by rw [Zs,hr.1]; show fm.length + 1 + 1 ≤ _; omega),?_⟩
   refine Za rfl ⟨rfl,_,rfl,Zf (by decide) (Za rfl ⟨rfl,_,rfl,Zf (by decide) (Za rfl ⟨rfl,_,rfl,Zf (by decide) ?_⟩)⟩)⟩
   refine ⟨_,_,_,rfl,?_,hb4,(g'.trans g3).trans g4⟩
   rw [Zs,Zs,hr.1]
   show fm.length + 1 + 1 ≤ _
   omega
  ·refine Za rfl ⟨rfl,_,rfl,Zf (by decide) (Za rfl ⟨rfl,_,rfl,Zf (by decide) (Za rfl ⟨rfl,_,rfl,Zw (by decide) (Za rfl ⟨_,_,rfl,rfl,Yo (by show fm.length + 2 ≤ _; omega),?_⟩)⟩)⟩)⟩
   refine Za rfl ⟨rfl,_,rfl,Zf (by decide) (Za rfl ⟨rfl,_,rfl,Zf (by decide) ?_⟩)⟩
   refine ⟨_,_,_,rfl,?_,hb3,g'.trans g3⟩
   rw [Zs]
   show fm.length + 2 ≤ _
   omega
  ·refine Za rfl ⟨rfl,_,rfl,Zf (by decide) (Za rfl ⟨rfl,_,rfl,Zf (by decide) (Za rfl ⟨rfl,_,rfl,Zf (by decide) (Za rfl ⟨rfl,_,rfl,Zw (by decide) (Za rfl (Za rfl ⟨b,94,rfl,hb3,by decide,by decide,fun r3 H4 h30 h31 hb4 g4=>⟨r3,rfl,fun s1 hs1=>⟨_,_,rfl,rfl,Yo (by omega),?_⟩⟩⟩))⟩)⟩)⟩)⟩
   refine Za rfl ⟨rfl,_,rfl,Zf (by decide) ?_⟩
   exact ⟨fm ++ s1,_,_,rfl,by rw [Zs]; omega,hb4,(g'.trans g3).trans g4⟩
  ·refine Za rfl ⟨rfl,_,rfl,Zf (by decide) (Za rfl ⟨rfl,_,rfl,Zf (by decide) (Za rfl ⟨rfl,_,rfl,Zf (by decide) (Za rfl ⟨rfl,_,rfl,Zf (by decide) (Za rfl ⟨rfl,_,rfl,Zw (by decide) (Za rfl ⟨_,_,rfl,rfl,Yo (by show fm.length + 1 ≤ _; omega),Za rfl ⟨b,94,rfl,hb3,by decide,by decide,fun r3 H4 h30 h31 hb4 g4=>⟨r3,rfl,fun s1 hs1=>⟨_,_,rfl,rfl,Yo (by rw [Zs]; show fm.length + 1 + s1.length ≤ _; omega),?_⟩⟩⟩⟩)⟩)⟩)⟩)⟩)⟩
   refine ⟨_,_,_,rfl,?_,hb4,(g'.trans g3).trans g4⟩
   rw [Zs,Zs,hs1]
   show fm.length + 1 + 1 ≤ _
   omega
 ·rintro σ H' ⟨fm,k4,k5,rfl,hfl,hb',g'⟩
  exact Za rfl (q fm H' (by omega) hb' g')
inductive spPrI (vs:List V) (H:Hp) (Q:VK):Prop
 | mk (b:Addr) (sz0:Nat) (_:vs = [.ref b,.int sz0]) (_:BoxAt H b) (_:sz0 ≤ 200) (_:∀ (a:Addr) (p:Nat × Nat) (H':Hp),BoxAt H' b→H' a = some (.tup [.int p.1,.int p.2])→Gro [b] H H'→Q (.ref a) H')
def Z1i:Sp:=fun vs H Q _=>spPrI vs H Q
abbrev X0:Stmt:=Jd 20
theorem sc_l_pair:FnScope ["_law_box", "_law_size", "_law_one", "_law_two"] ["_law_box", "_law_size"] (Z6 X0):=Jf
theorem Z2b (T:Blt mg) (O_l_take:Own P w K mg base 1 "_law_take" ["_law_box", "_law_many"] Yu) (F:Fun K "_law_pair" "_law_pair" X0 f fd):FnOk P w K mg base Vg 2 f fd ["_law_box", "_law_size"] Z1i:=by
 refine F.ok sc_l_pair (fun vs H Q E h=>?_) (fun cdv A outer s H vs Q E hr h=>?_)
 ·obtain ⟨b,sz0,rfl,_⟩:=h
  rfl
 obtain ⟨b,sz0,rfl,hb,hs,q⟩:=h
 refine Je ?_
 intro Xz
 refine ⟨_,(Z2 (pS 2 sc_l_pair.nd (Ze (O_l_take.mono (by omega)) hr rfl (Z1 (pv 0) (Z1 (Zo Yr (pv 1) Z4) Z3))))
  (Z2 (pS 3 sc_l_pair.nd (Ze (O_l_take.mono (by omega)) hr rfl (Z1 (pv 0) (Z1 (Zo Yr (pv 1) Z4) Z3))))
  (Z5 (Zn (Wz (Z1 (Zj (T7 rfl) rfl T.b_min PyProof.Rows.Boot.«min» (Z1 (pv 2) (Z1 (pv 3) Z3))) (Z1 (Zj (T8 rfl) rfl T.b_max PyProof.Rows.Boot.«max» (Z1 (pv 2) (Z1 (pv 3) Z3))) Z3))))))),?_⟩
 refine Vv ?_
 intro Ez Az1 Az2
 refine Za rfl (Za rfl (Wf rfl rfl ⟨b,_,rfl,hb,by omega,by omega,fun r1 H1 r10 r11 hb1 g1=>?_⟩))
 refine Za rfl (Za rfl (Wf rfl rfl ⟨b,_,rfl,hb1,by omega,by omega,fun r2 H2 r20 r21 hb2 g2=>?_⟩))
 obtain ⟨x,rfl⟩:=Int.eq_ofNat_of_zero_le r10
 obtain ⟨y,rfl⟩:=Int.eq_ofNat_of_zero_le r20
 refine Za rfl (Za rfl ⟨_,_,rfl,Za rfl (Za rfl ⟨_,_,rfl,⟨sz,fun a ha=>?_⟩⟩)⟩)
 by_cases hxy:(y:Int) < (x:Int)
 ·rw [if_pos hxy,if_neg (by omega:¬ (y:Int) > (x:Int))]
  exact q a (y,x) _ (hb2.new ha) Z8 ((g1.trans g2).tup ha)
 ·rw [if_neg hxy]
  by_cases hxy2:(y:Int) > (x:Int)
  ·rw [if_pos hxy2]
   exact q a (x,y) _ (hb2.new ha) Z8 ((g1.trans g2).tup ha)
  ·rw [if_neg hxy2]
   exact q a (x,x) _ (hb2.new ha) Z8 ((g1.trans g2).tup ha)
structure XOth (K:PySem.W.Frag) (CN CE CM CO CU:Addr):Prop where
 zn:XIs K CN
 ca:Um K CN CE
 k1:PySem.W.kitOne K (.ref CN) (.ref CN) = some true
 k2:PySem.W.kitOne K (.ref CN) (.type "ValueError") = some true
 k3:PySem.W.kitOne K (.ref CN) (.ref CM) = some false
 k4:PySem.W.kitOne K (.ref CN) (.ref CO) = some false
 k5:PySem.W.kitOne K (.ref CN) (.ref CU) = some false
inductive spNfI (vs:List V) (H:Hp) (Q:VK):Prop
 | mk (fm t:Str) (a:Addr) (x:Nat × Jk) (n:Nat) (_:vs = [.str fm,.str t,.ref a]) (_:FnS H (.ref a) x) (_:x.2.2.length = n) (_:n ≤ 9) (_:fm.length ≤ 12) (_:t.length ≤ 200) (_:pz fm n 0 = none) (_:∀ H',Q (.bl true) H')
def Z1j:Sp:=fun vs H Q _=>spNfI vs H Q
abbrev Y9:Stmt:=Jd 21
theorem sc_l_no_form:FnScope ["_law_form_here", "_law_text_here", "_law_find", "_law_refused", "e"] ["_law_form_here", "_law_text_here", "_law_find"] (Z6 Y9):=Jf
theorem Z2c {CM CO CU:Addr} (T:Blt mg) (Yf:mg "ValueError" = none) (XM_SeekError:mg "SeekError" = some (.ref CE)) (XM_NoForm:mg "NoForm" = some (.ref CN)) (XM_Memory:mg "Memory" = some (.ref CM)) (XM_Over:mg "Over" = some (.ref CO)) (XM_Unread:mg "Unread" = some (.ref CU)) (Z:XOth K CN CE CM CO CU) (O_formed:OwnX P w K mg base 3 "formed" ["form", "text", "find"] (Z09 CN)) (F:Fun K "_law_no_form" "_law_no_form" Y9 f fd):FnOk P w K mg base Vg 4 f fd ["_law_form_here", "_law_text_here", "_law_find"] Z1j:=by
 refine F.ok sc_l_no_form (fun vs H Q E h=>?_) (fun cdv A outer s H vs Q E hr h=>?_)
 ·obtain ⟨fm,t,a,x,n,rfl,_⟩:=h
  rfl
 obtain ⟨fm,t,a,x,n,rfl,hx,hn,hn9,hf,ht,hb,q⟩:=h
 refine Je ?_
 intro Xz
 refine ⟨_,(Z2 (pS 3 sc_l_no_form.nd Z28)
  (Z2 (Jo (i:=4) sc_l_no_form.nd rfl rfl rfl rfl rfl XM_SeekError (fun _ _ _ hxb=>(Z5 (X3 (Xi hxb (O_formed.mono (by omega)) hr rfl (Z1 (pv 0) (Z1 (pv 1) (Z1 (pv 2) Z3))))))) (fun _=>(Z2 (pS 3 sc_l_no_form.nd (Xs (Zj (Yn (K:=K) rfl) rfl T.b_isinstance PyProof.Rows.Boot.«isinstance» (Z1 (pv 4) (Z1 (X4 (v:=.ref _) rfl XM_NoForm rfl) Z3))) (V0 (Zj (Yn (K:=K) rfl) rfl T.b_isinstance PyProof.Rows.Boot.«isinstance» (Z1 (pv 4) (Z1 (Wp (v:=.ty "ValueError") rfl Yf PyProof.Rows.Boot.«ValueError» rfl) Z3))))))
  (Z2 (pS 3 sc_l_no_form.nd (Xs (pv 3) (Xs (Vx (Zj (Yn (K:=K) rfl) rfl T.b_isinstance PyProof.Rows.Boot.«isinstance» (Z1 (pv 4) (Z1 (X4 (v:=.ref _) rfl XM_Memory rfl) Z3)))) (V0 (Vx (Zj (Yn (K:=K) rfl) rfl T.b_isinstance PyProof.Rows.Boot.«isinstance» (Z1 (pv 4) (Z1 (X4 (v:=.ref _) rfl XM_Over rfl) Z3))))))))
  (Z5 (pS 3 sc_l_no_form.nd (Xs (pv 3) (V0 (Vx (Zj (Yn (K:=K) rfl) rfl T.b_isinstance PyProof.Rows.Boot.«isinstance» (Z1 (pv 4) (Z1 (X4 (v:=.ref _) rfl XM_Unread rfl) Z3))))))))))))
  (Z5 (Zn (pv 3))))),?_⟩
 refine Vv ?_
 intro Ez Az1 Az2
 refine Za rfl (Za rfl (Za rfl ⟨fm,t,a,x,n,rfl,hx,hn,hn9,hf,ht,fun ps hps=>(by rw [hb] at hps; cases hps),fun _ H' g=>⟨CN,rfl,Z.ca,fun e he=>?_⟩⟩))
 have h0:(Zy H' e (W1 e CN)) e = some (W1 e CN):=Z8
 refine Za rfl ⟨e,CN,_,.ref CN,true,rfl,h0,Z.zn,rfl,Z.k1,Za rfl (Vo ?_)⟩
 refine Za rfl ⟨e,CN,_,.type "ValueError",true,rfl,h0,Z.zn,rfl,Z.k2,?_⟩
 refine Za rfl (Za rfl (Vo ?_))
 refine Za rfl ⟨e,CN,_,.ref CM,false,rfl,h0,Z.zn,rfl,Z.k3,Za rfl (Za rfl (Vo ?_))⟩
 refine Za rfl ⟨e,CN,_,.ref CO,false,rfl,h0,Z.zn,rfl,Z.k4,Za rfl ?_⟩
 refine Za rfl (Za rfl (Vo ?_))
 refine Za rfl ⟨e,CN,_,.ref CU,false,rfl,h0,Z.zn,rfl,Z.k5,Za rfl ?_⟩
 exact Za rfl (q _)
end
section
variable {P:Program} {w:World} {K:PySem.W.Frag} {mg:Str→Option Value} {base:Heap} {f CN:Addr} {fd:FuncData}
inductive spLawI (K:PySem.W.Frag) (vs:List V) (H:Hp) (Q:VK):Prop
 | mk (a:Addr) (ns:List Int) (_:vs = [.ref a]) (_:SqL K H a (ns.map V.int)) (_:ns.length ≤ 63) (_:∀ H',Q (.bl true) H')
def Wm (K:PySem.W.Frag):Sp:=fun vs H Q _=>spLawI K vs H Q
abbrev Ys:Stmt:=Jd 22
theorem sc_law:FnScope ["_law_script", "_law_box", "_law_letters_here", "_law_size", "_law_text_here", "_law_whole", "_law_groups", "_law_k", "_law_pair_here", "_law_find", "_law_form_here", "_law_due", "_law_told"] ["_law_script"] (Z6 Ys):=Jf
theorem Z17 (T:Blt mg) (O_l_letters:Own P w K mg base 2 "_law_letters" ["_law_box"] X7) (O_l_take:Own P w K mg base 1 "_law_take" ["_law_box", "_law_many"] Yu) (O_l_text:Own P w K mg base 2 "_law_text" ["_law_box", "_law_letters_here", "_law_size"] Vr) (O_l_pair:Own P w K mg base 2 "_law_pair" ["_law_box", "_law_size"] Z1i)
  (O_l_formed:Own P w K mg base 1 "_law_formed" ["_law_form_here", "_law_text_here", "_law_find"] Jb) (O_l_form:Own P w K mg base 2 "_law_form" ["_law_box", "_law_letters_here", "_law_groups"] Z1k) (O_l_no_form:Own P w K mg base 4 "_law_no_form" ["_law_form_here", "_law_text_here", "_law_find"] Z1j) (O_formed:OwnX P w K mg base 3 "formed" ["form", "text", "find"] (Z09 CN))
  (F:Fun K "law" "law" Ys f fd):FnOk P w K mg base Vg 20 f fd ["_law_script"] (Wm K):=by
 refine F.ok sc_law (fun vs H Q E h=>?_) (fun cdv A outer s H vs Q E hr h=>?_)
 ·obtain ⟨a,ns,rfl,_⟩:=h
  rfl
 obtain ⟨a,ns,rfl,hS,h63,q⟩:=h
 refine Je ?_
 intro Xz
 refine ⟨_,(Z2 (pS 1 sc_law.nd (Y7 Wk rfl T.b_list PyProof.Rows.Boot.«list» (Z1 (pv 0) Z3)))
  (Z2 (pS 2 sc_law.nd (Ze (O_l_letters.mono (by omega)) hr rfl (Z1 (pv 1) Z3)))
  (Z2 (pS 3 sc_law.nd (Ze (O_l_take.mono (by omega)) hr rfl (Z1 (pv 1) (Z1 Z4 Z3))))
  (Z2 (Zx (Zd Ya (Ze (O_l_take.mono (by omega)) hr rfl (Z1 (pv 1) (Z1 Z4 Z3))) Z4 (Zk _)) (Z5 (pS 3 sc_law.nd (Ze (O_l_take.mono (by omega)) hr rfl (Z1 (pv 1) (Z1 Z4 Z3))))) Zm)
  (Z2 (pS 4 sc_law.nd (Ze (O_l_text.mono (by omega)) hr rfl (Z1 (pv 1) (Z1 (pv 2) (Z1 (pv 3) Z3)))))
  (Z2 (pS 5 sc_law.nd (Ze (O_l_pair.mono (by omega)) hr rfl (Z1 (pv 1) (Z1 (pv 3) Z3))))
  (Z2 (pS 6 sc_law.nd (Vy Z3))
  (Z2 (Tu PassesOwn.never rfl (Yq rfl T.b_range (Z1 (Ze (O_l_take.mono (by omega)) hr rfl (Z1 (pv 1) (Z1 Z4 Z3))) Z3)) (pN 7 sc_law.nd) (Z2 (pS 8 sc_law.nd (Ze (O_l_pair.mono (by omega)) hr rfl (Z1 (pv 1) (Z1 (pv 3) Z3))))
  (Z2 (Zx (Zd Ya (Ze (O_l_take.mono (by omega)) hr rfl (Z1 (pv 1) (Z1 Z4 Z3))) Z4 (Zk _)) (Z5 (pS 8 sc_law.nd Tw)) Zm)
  (Z5 (X3 (Wn PySem.F.plainAttrs_list PySem.F.slot_list_append PySem.F.type_list_append X8 (pv 6) (Z1 (pv 8) Z3)))))))
  (Z2 (pS 9 sc_law.nd (Wz (Z1 (Zp Zt (pv 5) Z4 (fun _ _=>rfl)) (Z1 (Zp Zt (pv 5) Z4 (fun _ _=>rfl)) (Z1 (Y7 W0 rfl T.b_tuple PyProof.Rows.Boot.«tuple» (Z1 (pv 6) Z3)) Z3)))))
  (Z2 (pS 10 sc_law.nd (Ze (O_l_form.mono (by omega)) hr rfl (Z1 (pv 1) (Z1 (pv 2) (Z1 (Zj Yd rfl T.b_len PyProof.Rows.Boot.«len» (Z1 (pv 6) Z3)) Z3)))))
  (Z2 (pS 11 sc_law.nd (Ze (O_l_formed.mono (by omega)) hr rfl (Z1 (pv 10) (Z1 (pv 4) (Z1 (pv 9) Z3)))))
  (Z2 (Zx (Vw (Tx (pv 11))) (Z5 (Zn (Ze (O_l_no_form.mono (by omega)) hr rfl (Z1 (pv 10) (Z1 (pv 4) (Z1 (pv 9) Z3)))))) Zm)
  (Z2 (pS 12 sc_law.nd (Xi Z14 (O_formed.mono (by omega)) hr rfl (Z1 (pv 10) (Z1 (pv 4) (Z1 (pv 9) Z3)))))
  (Z5 (Zn (Xs (Zj (Xc (T := "str") (J4 (by simp))) rfl T.b_isinstance PyProof.Rows.Boot.«isinstance» (Z1 (pv 12) (Z1 (Wp (v:=.ty "str") rfl T.b_str PyProof.Rows.Boot.«str» rfl) Z3))) (V0 (Jq Ya (pv 12) (pv 11) (Zk _))))))))))))))))))),?_⟩
 refine Z0w ?_
 intro Ez Az1 Az2 Az3 Az4 Az5 Az6 Az7 Az8 Az9 Az10 Az11 Az12 Az13 Az14 Az15 Az16 Az17 Az18 Az19
 refine (Za rfl ⟨a,Za rfl ⟨.inl hS,fun b hb=>?_⟩⟩)
 refine (Za rfl ⟨b,rfl,⟨ns,Z8,h63⟩,fun l H1 hb1 hl1 g1=>?_⟩)
 have bl:b ≠ l:=hb1.ne_let hl1
 have lS:l ∉ [b]:=by simpa using Ne.symm bl
 have rest16:∀ (H':Hp) (sz0:Nat),BoxAt H' b→LetAt H' l→sz0 ≤ 200→Az16 Ez [some (.ref a),some (.ref b),some (.ref l),some (.int sz0),none,none,none,none,none,none,none,none,none] H':=by
  intro H' sz0 hb' hl' hs
  refine Za rfl (Za rfl (Za rfl ⟨b,l,sz0,rfl,hb',hl',by omega,by omega,fun t H2 ht hb2 g2=>?_⟩))
  have ht2:t.length ≤ 200:=by omega
  refine Za rfl (Za rfl ⟨b,sz0,rfl,hb2,hs,fun wa wp H3 hb3 hwa g3=>?_⟩)
  have l3:=(hl'.gro g2 lS).gro g3 lS
  refine ⟨sz,fun gl hgl=>?_⟩
  have gz:=Gro.new (S:=[]) hgl (.lst [])
  have hgl4:(Zy H3 gl (.lst [])) gl = some (.lst []):=Z8
  have bg:b ≠ gl:=Z7 hb3.choose_spec.1 hgl
  have lg:l ≠ gl:=by
   obtain ⟨_,_,_,e,_⟩:=l3
   exact Z7 e hgl
  have hb4:=hb3.new (o:=.lst []) hgl
  have l4:=l3.new (o:=.lst []) hgl
  have hwa4:=gz.tups _ _ hwa
  generalize Zy H3 gl (.lst []) = H4 at *
  refine Za rfl ⟨b,10,rfl,hb4,by decide,by decide,fun r H5 r0 r1 hb5 g5=>Za rfl ⟨by omega,by omega,?_⟩⟩
  have lS2:l ∉ [b,gl]:=by simp [Ne.symm bl,lg]
  have gS:gl ∉ [b]:=by simpa using Ne.symm bg
  refine W9 (n:=r.toNat) (fun k σ H'=>∃ (es:List V) (gs:Gs) (s7 s8:Option V),σ = [some (.ref a),some (.ref b),some (.ref l),some (.int sz0),some (.str t),some (.ref wa),some (.ref gl),s7,s8,none,none,none,none]∧H' gl = some (.lst es)∧Paired (EnA H') es gs∧gs.length = k∧BoxAt H' b∧Gro [b,gl] H5 H') ⟨[],[],none,none,rfl,g5.keep _ _ hgl4 gS,.nil,rfl,hb5,Gro.refl⟩ ?_ ?_
  ·rintro k σ H' hk ⟨es,gs,s7,s8,rfl,hgl',hes,hel,hb',g'⟩
   refine Za rfl (Za rfl ⟨b,sz0,rfl,hb',hs,fun pa pp H6 hb6 hpa g6=>?_⟩)
   refine Za rfl ⟨b,3,rfl,hb6,by decide,by decide,fun r3 H7 _ _ hb7 g7=>?_⟩
   have g67:=g6.trans g7
   have hgl7:=g67.keep _ _ hgl' gS
   have hes7:=Paired.mapP hes fun v z h=>EnA.mono (x:=z) g67.tups h
   have hpa7:=g7.tups _ _ hpa
   have hell:=Paired.length hes
   have fin:∀ (v:V) (z:En),EnA H7 v z→∃ (es':List V) (gs':Gs) (s7 s8:Option V),[some (V.ref a),some (.ref b),some (.ref l),some (.int sz0),some (.str t),some (.ref wa),some (.ref gl),some (.int (0 + (k:Int))),some v,none,none,none,none] = [some (.ref a),some (.ref b),some (.ref l),some (.int sz0),some (.str t),some (.ref wa),some (.ref gl),s7,s8,none,none,none,none]∧(Zy H7 gl (.lst (es ++ [v]))) gl = some (.lst es')∧Paired (EnA (Zy H7 gl (.lst (es ++ [v])))) es' gs'∧gs'.length = k + 1∧BoxAt (Zy H7 gl (.lst (es ++ [v]))) b∧Gro [b,gl] H5 (Zy H7 gl (.lst (es ++ [v]))):=fun v z hz=>by
    have gs':Gro [gl] H7 (Zy H7 gl (.lst (es ++ [v]))):=Gro.set (by simp) hgl7 _
    refine ⟨es ++ [v],gs ++ [z],_,_,rfl,Z8,(Paired.mapP hes7 fun v z h=>EnA.mono (x:=z) gs'.tups h).snoc (EnA.mono gs'.tups hz),by simp [hel],hb7.gro gs' (by simpa using bg),(g'.trans (g67.mono (by simp))).trans (gs'.mono (by simp))⟩
   refine ⟨rfl,_,rfl,Yx (fun _=>?_) (fun _=>?_)⟩
   ·exact Za rfl ⟨.inl ⟨rfl,_,SqL.of hgl7⟩,Za rfl ⟨gl,_,_,rfl,rfl,hgl7,Zr (by omega),fin .non none rfl⟩⟩
   ·exact Za rfl ⟨.inl ⟨rfl,_,SqL.of hgl7⟩,Za rfl ⟨gl,_,_,rfl,rfl,hgl7,Zr (by omega),fin (.ref pa) (some pp) ⟨pa,rfl,hpa7⟩⟩⟩
  ·rintro σ H' ⟨es,gs,s7,s8,rfl,hgl',hes,hel,hb',g'⟩
   have hwa':=g'.tups _ _ (g5.tups _ _ hwa4)
   have l':=(l4.gro g5 lS).gro g' lS2
   have hell:=Paired.length hes
   refine Tn hwa' Z0m (Tn hwa' rfl (Za rfl ⟨gl,Za rfl (.inl ⟨SqL.of hgl',fun gt hgt=>⟨sz,fun fa hfa=>?_⟩⟩)⟩))
   have g8:Gro [] H' (Zy (Zy H' gt (.tup es)) fa (.tup [.int wp.1,.int wp.2,.ref gt])):=(Gro.new hgt _).tup hfa
   have hfn:FnS (Zy (Zy H' gt (.tup es)) fa (.tup [.int wp.1,.int wp.2,.ref gt])) (.ref fa) (wp.1,(wp.2,gs)):=⟨fa,.ref gt,rfl,Z8,gt,es,rfl,by rw [Zb (Z7 Z8 hfa)]; exact Z8,Paired.mapP hes fun v z h=>EnA.mono (x:=z) g8.tups h⟩
   have hgl8:=g8.keep _ _ hgl' (by simp)
   have hb8:=hb'.gro g8 (by simp)
   have l8:=l'.gro g8 (by simp)
   generalize Zy (Zy H' gt (.tup es)) fa (.tup [.int wp.1,.int wp.2,.ref gt]) = H8 at *
   refine Za rfl (Za rfl (Za rfl ⟨gl,_,rfl,.inl (SqL.of hgl8),⟨b,l,gs.length,by rw [hell]; rfl,hb8,l8,by omega,fun fm H9 hfm hb9 g9=>?_⟩⟩))
   have hfn9:=hfn.mono g9.tups
   refine Za rfl (Za rfl (Za rfl ⟨fm,t,fa,(wp.1,(wp.2,gs)),gs.length,rfl,hfn9,rfl,by omega,hfm,ht2,fun ps hps HA gA=>?some_,fun hbad HA gA=>?none_⟩))
   case none_ =>
    exact Za rfl (Za rfl (Zw (by decide) (Za rfl (Za rfl (Za rfl ⟨fm,t,fa,(wp.1,(wp.2,gs)),gs.length,rfl,hfn9.mono gA.tups,rfl,by omega,hfm,ht2,hbad,fun H'=>q H'⟩)))))
   refine Za rfl (Za rfl (Zf (by intro z; have z':=of_decide_eq_true z; cases z') (Za rfl (Za rfl (Za rfl ⟨fm,t,fa,(wp.1,(wp.2,gs)),gs.length,rfl,hfn9.mono gA.tups,rfl,by omega,hfm,ht2,fun ps' hps' HB gB=>?_,fun hbad=>(by rw [hps] at hbad; cases hbad)⟩)))))
   rw [hps] at hps'
   cases hps'
   refine Za rfl ⟨_,_,rfl,rfl,Za rfl (Vo (Za rfl (Za rfl ⟨rfl,?_⟩)))⟩
   rw [decide_eq_true (by rfl)]
   exact q _
 refine Za rfl ⟨b,9,rfl,hb1,by decide,by decide,fun r2 H2 r20 r21 hb2 g2=>?_⟩
 obtain ⟨z2,rfl⟩:=Int.eq_ofNat_of_zero_le r20
 refine Za rfl ⟨b,4,rfl,hb2,by decide,by decide,fun r3 H3 _ _ hb3 g3=>⟨rfl,_,rfl,Yx (fun _=>?_) (fun _=>?_)⟩⟩
 ·refine Za rfl ⟨b,200,rfl,hb3,by decide,by decide,fun r4 H4 r40 r41 hb4 g4=>?_⟩
  obtain ⟨z4,rfl⟩:=Int.eq_ofNat_of_zero_le r40
  exact rest16 H4 z4 hb4 (hl1.gro ((g2.trans g3).trans g4) lS) (by omega)
 ·exact rest16 H3 z2 hb3 (hl1.gro (g2.trans g3) lS) (by omega)
end
section
variable {K:PySem.W.Frag} {mg:Str→Option Value} {h:Heap}
theorem Y1 {x:Str} {st:Stmt} {ps:List Str} {f:Addr} {oc:Value} {od an:Option Addr} {osl:Array (Option Value)} {kV doc pm cdv ct:Value} (X:K.In h) (G:h.Ns mainGlobals mg) (a:PySem.W.nsIn K mainGlobals x = some (some (.ref f)))
  (l:K.lookup f = some ⟨oc,od,.func (PySem.W.fnOf x x (Yc st) (Y3 st) (Z6 st) .none kV doc pm an cdv ct),osl⟩) (c:PySem.W.codeIn K cdv x = true) (k:PySem.W.keepIn K (.ref f) = true)
  (hb:∀ (kV doc pm:Value) (an:Option Addr) (cdv ct:Value) (us:List Value),us.length = ps.length→bindArgs (PySem.W.fnOf x x (Yc st) (Y3 st) (Z6 st) .none kV doc pm an cdv ct) ⟨us,[]⟩ = pure (ps.zip us)):Def K mg x st ps :=
 ⟨f,_,U1 (st:=st) l c k,PySem.W.mg_of X G a,(U1 (st:=st) l c k).binds hb⟩
theorem Z0p {l:PySem.W.OpenLaw} {w:World} {fa f:Addr} {oc:Value} {od an:Option Addr} {osl:Array (Option Value)} {kV doc pm cdv ct:Value} (X:K.In h) (G:h.Ns mainGlobals mg) (hfa:mg "law" = some (.ref fa)) (a:PySem.W.nsIn K mainGlobals "law" = some (some (.ref f)))
  (lk:K.lookup f = some ⟨oc,od,.func (PySem.W.fnOf "law" "law" (Yc Ys) (Y3 Ys) (Z6 Ys) .none kV doc pm an cdv ct),osl⟩) (c:PySem.W.codeIn K cdv "law" = true) (k:PySem.W.keepIn K (.ref f) = true)
  (rest:∀ (base:Heap) (f:Addr) (fd:FuncData),Fun K "law" "law" Ys f fd→FnOk l.prog w K mg base Vg 20 f fd ["_law_script"] (Wm K)) :
  ∃ fd:FuncData,(∀ (s:Shared) (v:Value),BindsTo s fd ⟨[v],[]⟩ [("_law_script",v)])∧∀ base:Heap,K.In base→base.Ns mainGlobals mg→FnOk l.prog w K mg base Vg 20 fa fd ["_law_script"] (Wm K):=by
 have e:=hfa.symm.trans (PySem.W.mg_of X G a)
 cases e
 exact ⟨PySem.W.fnOf "law" "law" (Yc Ys) (Y3 Ys) (Z6 Ys) .none kV doc pm an cdv ct,fun s v=>.of_eq rfl,fun base _ _=>rest base _ _ (U1 (st:=Ys) lk c k)⟩
theorem T6 {x y:Str} {t:Tok} (X:K.In h) (G:h.Ns mainGlobals mg) (a:PySem.W.nsIn K mainGlobals x = some (some (.str y t))):∃ t,mg x = some (.str y t):=⟨t,PySem.W.mg_of X G a⟩
theorem Def.ownX {P:Program} {w:World} {base:Heap} {x:Str} {st:Stmt} {ps:List Str} {k:Nat} {sp:Sp} (D:Def K mg x st ps) (h:∀ f fd,Fun K x x st f fd→FnOk P w K mg base (Ji P w) k f fd ps sp):OwnX P w K mg base k x ps sp:=by
 obtain ⟨f,fd,F,m,b⟩:=D.ex
 exact ⟨f,fd,h f fd F,m,F.kp,b⟩
theorem Z0g {N:Addr} {oc:Value} {od:Option Addr} {es:Array DictEntry} {n:Nat} {osl:Array (Option Value)} (l:K.lookup N = some ⟨oc,od,.dict es n,osl⟩) (hs:(es.toList.all fun e=>match e.key with | .str _ _=>true | _=>false) = true):∀ h,K.In h→h.Ns N (nsFind es):=fun h X=>by
 refine ⟨_,es,n,X _ _ l,rfl,fun e he=>?_,fun _=>rfl⟩
 have:=List.all_eq_true.mp hs e (by simpa using he)
 cases hk:e.key with
 | str y t=>exact ⟨y,t,rfl⟩
 | _=>rw [hk] at this; cases this
theorem U0 {C D:Addr} {cd:ClassData} (a:PySem.W.clsIn K D = some cd) (b:PySem.W.typeIn K (.ref D) = some (.type "type")) (c:PySem.W.subIn K (.ref C) (.ref D) = some false) (d:(Value.ref C == Value.ref D) = false):PySem.W.kitOne K (.ref C) (.ref D) = some false:=by
 unfold PySem.W.kitOne
 rw [if_neg (by rw [d]; decide)]
 show (if ((PySem.W.clsIn K D).isSome && PySem.W.typeIn K (.ref D) == some (.type "type")) = true then PySem.W.subIn K (.ref C) (.ref D) else none) = _
 rw [a,b,if_pos (by simp),c]
theorem Z1u {CN CE CM CO CU N N':Addr} {nm q:Str} {bs:List Value} {hdct:Bool} {sn:List Str} {sub:List Value} {ab:Bool} {col:Option Bool} {dd:Option Addr} {k0 k1 k2 k3 k5:Option Value} {oc oc':Value} {od od' dd':Option Addr} {es es':Array DictEntry} {n n':Nat} {osl osl':Array (Option Value)} {nm' q':Str} {bs':List Value} {hdct':Bool} {sn':List Str} {sub':List Value} {ab':Bool} {col':Option Bool} {k0' k1' k2' k3' k5':Option Value} {ni':String} {c1 c2 c3 c4:ClassData}
  (X:K.In h) (G:h.Ns mainGlobals mg) (a1:PySem.W.nsIn K mainGlobals "NoForm" = some (some (.ref CN))) (l:K.lookup CN = some ⟨.type "type",dd,.cls ⟨nm,bs,[.ref CN,.ref CE,.type "ValueError",.type "Exception",.type "BaseException",.type "object"],N,q,hdct,sn,sub,ab,col,false⟩,#[k0,k1,k2,k3,some (.builtin "ValueError.__new__"),k5]⟩) (ln:K.lookup N = some ⟨oc,od,.dict es n,osl⟩)
  (l':K.lookup CE = some ⟨.type "type",dd',.cls ⟨nm',bs',[.ref CE,.type "ValueError",.type "Exception",.type "BaseException",.type "object"],N',q',hdct',sn',sub',ab',col',false⟩,#[k0',k1',k2',k3',some (.builtin ni'),k5']⟩) (ln':K.lookup N' = some ⟨oc',od',.dict es' n',osl'⟩)
  (s1:(es.toList.all fun e=>match e.key with | .str _ _=>true | _=>false) = true) (s2:(es'.toList.all fun e=>match e.key with | .str _ _=>true | _=>false) = true) (i1:nsFind es "__init__" = none) (i2:nsFind es' "__init__" = none)
  (a2:PySem.W.nsIn K mainGlobals "SeekError" = some (some (.ref CE))) (a3:PySem.W.nsIn K mainGlobals "Memory" = some (some (.ref CM))) (a4:PySem.W.nsIn K mainGlobals "Over" = some (some (.ref CO))) (a5:PySem.W.nsIn K mainGlobals "Unread" = some (some (.ref CU)))
  (z1:PySem.W.clsIn K CN = some c1) (z2:PySem.W.findIn K (.ref CN) "__getattribute__" = some (some (.builtin "BaseException.__getattribute__"))) (z3:PySem.W.findIn K (.ref CN) "__getattr__" = some none) (z4:PySem.W.findIn K (.ref CN) "__class__" = some (some (.builtin "object.__class__"))) (z5:PySem.W.specialIn K (.builtin "object.__class__") "__get__" = some (some (.builtin "getset_descriptor.__get__"))) (z6:PySem.W.takesIn K (.builtin "object.__class__") = some true) (z7:PySem.W.mroIn K CN (.type "object") = some true)
  (v1:PySem.W.subIn K (.ref CN) (.type "ValueError") = some true) (m1:PySem.W.clsIn K CM = some c2) (m2:PySem.W.typeIn K (.ref CM) = some (.type "type")) (m3:PySem.W.subIn K (.ref CN) (.ref CM) = some false) (m4:(Value.ref CN == Value.ref CM) = false) (o1:PySem.W.clsIn K CO = some c3) (o2:PySem.W.typeIn K (.ref CO) = some (.type "type")) (o3:PySem.W.subIn K (.ref CN) (.ref CO) = some false) (o4:(Value.ref CN == Value.ref CO) = false) (u1:PySem.W.clsIn K CU = some c4) (u2:PySem.W.typeIn K (.ref CU) = some (.type "type")) (u3:PySem.W.subIn K (.ref CN) (.ref CU) = some false) (u4:(Value.ref CN == Value.ref CU) = false) :
  ∃ CN CE CM CO CU,XC K mg "NoForm" CN CE∧mg "SeekError" = some (.ref CE)∧mg "Memory" = some (.ref CM)∧mg "Over" = some (.ref CO)∧mg "Unread" = some (.ref CU)∧XOth K CN CE CM CO CU:=by
 have xc:XC K mg "NoForm" CN CE:=⟨PySem.W.mg_of X G a1,nm,q,N,bs,hdct,sn,sub,ab,col,dd,k0,k1,k2,k3,k5,es,l,Z0g ln s1,i1,fun h' X'=>.own (X' _ _ l') (Z0g ln' s2 h' X') i2 .base⟩
 have co':Z2s K CE Z2r:=⟨nm',q',N',bs',hdct',sn',sub',ab',col',dd',k0',k1',k2',k3',k5',ni',l'⟩
 refine ⟨CN,CE,CM,CO,CU,xc,PySem.W.mg_of X G a2,PySem.W.mg_of X G a3,PySem.W.mg_of X G a4,PySem.W.mg_of X G a5,⟨⟨_,xc.co,rfl⟩,by rw [z1]; rfl,z2,z3,z4,z5,z6,z7⟩,⟨_,_,xc.co,co',rfl,.inr (by simp)⟩,?_,?_,U0 m1 m2 m3 m4,U0 o1 o2 o3 o4,U0 u1 u2 u3 u4⟩
 ·unfold PySem.W.kitOne
  rw [if_pos (by simp)]
 ·unfold PySem.W.kitOne
  rw [if_neg (by intro z; cases beq_iff_eq.mp z)]
  show (if PySem.W.kitMeta "ValueError" = true then PySem.W.subIn K (.ref CN) (.type "ValueError") else none) = _
  rw [if_pos (by decide +kernel),v1]
theorem Z1a {P:Program} {w:World} {CN CE CM CO CU:Addr} {t1:Tok} (T:Blt mg) (Yf:mg "ValueError" = none) (Xp:mg "DIGITS" = some (.str digS t1)) (d1:Def K mg "_law_take" Yy ["_law_box", "_law_many"]) (d2:Def K mg "_law_sign" Yz ["_law_cell"]) (d3:Def K mg "_law_letters" Y0 ["_law_box"]) (d4:Def K mg "_law_text" Yk ["_law_box", "_law_letters_here", "_law_size"]) (d5:Def K mg "_law_formed" Yg ["_law_form_here", "_law_text_here", "_law_find"]) (d6:Def K mg "_law_form" X1 ["_law_box", "_law_letters_here", "_law_groups"]) (d7:Def K mg "_law_pair" X0 ["_law_box", "_law_size"]) (d8:Def K mg "_law_no_form" Y9 ["_law_form_here", "_law_text_here", "_law_find"])
  (e1:Def K mg "formed" X2 ["form", "text", "find"]) (e4:Def K mg "form_pieces" Zz ["form", "groups"]) (e5:Def K mg "marked_piece" Zu ["sign", "groups"]) (e6:Def K mg "filled" Yl ["pieces", "text", "find"]) (e7:Def K mg "taken_text" Y5 ["number", "text", "find"]) (xc:XC K mg "NoForm" CN CE) (x1:mg "SeekError" = some (.ref CE)) (x2:mg "Memory" = some (.ref CM)) (x3:mg "Over" = some (.ref CO)) (x4:mg "Unread" = some (.ref CU)) (Z:XOth K CN CE CM CO CU)
  (base:Heap) (f:Addr) (fd:FuncData) (F:Fun K "law" "law" Ys f fd):FnOk P w K mg base Vg 20 f fd ["_law_script"] (Wm K):=by
 have ta:Own P w K mg base 1 "_law_take" ["_law_box", "_law_many"] Yu:=d1.own fun _ _ F=>Jw F
 have si:Own P w K mg base 1 "_law_sign" ["_law_cell"] Wu:=d2.own fun _ _ F=>Jx F
 have le:Own P w K mg base 2 "_law_letters" ["_law_box"] X7:=d3.own fun _ _ F=>Vi T ta si F
 have tx:Own P w K mg base 2 "_law_text" ["_law_box", "_law_letters_here", "_law_size"] Vr:=d4.own fun _ _ F=>Jv T ta F
 have mp:OwnX P w K mg base 1 "marked_piece" ["sign", "groups"] (Vs CN):=e5.ownX fun _ _ F=>Jy T Xp xc F
 have fp:OwnX P w K mg base 2 "form_pieces" ["form", "groups"] (Vt CN):=e4.ownX fun _ _ F=>Jz T mp F
 have tk:Own P w K mg base 1 "taken_text" ["number", "text", "find"] Ja:=e7.own fun _ _ F=>Z16 F
 have fl:Own P w K mg base 2 "filled" ["pieces", "text", "find"] Vu:=e6.own fun _ _ F=>Z00 T tk F
 have fo:OwnX P w K mg base 3 "formed" ["form", "text", "find"] (Z09 CN):=e1.ownX fun _ _ F=>Z2e T fp fl F
 have fm:Own P w K mg base 1 "_law_formed" ["_law_form_here", "_law_text_here", "_law_find"] Jb:=d5.own fun _ _ F=>Z18 T F
 have lf:Own P w K mg base 2 "_law_form" ["_law_box", "_law_letters_here", "_law_groups"] Z1k:=d6.own fun _ _ F=>Z2d T ta si F
 have pr:Own P w K mg base 2 "_law_pair" ["_law_box", "_law_size"] Z1i:=d7.own fun _ _ F=>Z2b T ta F
 have nf:Own P w K mg base 4 "_law_no_form" ["_law_form_here", "_law_text_here", "_law_find"] Z1j:=d8.own fun _ _ F=>Z2c T Yf x1 xc.mgx x2 x3 x4 Z fo F
 exact Z17 T le ta tx pr fm lf nf fo F
end
theorem Z31 {l:PySem.W.OpenLaw} {q:Program} {loose:List Str} {XP:(Str→Option Value)→Heap→Prop} {YP:World→Heap→Prop} {d:DefRec} {K:Params→PySem.W.Frag} (hn:l.most = some 63) (hdf:d.params.defaults = [])
  (hY:∀ (w:World) (h:Heap),YP w h→(K w.params).In h)
  (F:∀ (w:World) (mg:Str→Option Value) (fa:Addr) (h:Heap),(K w.params).In h→h.Ns mainGlobals mg→mg d.name = some (.ref fa) →
   ∃ fd:FuncData,(∀ (s:Shared) (u:Value),BindsTo s fd ⟨[u],[]⟩ [("_law_script",u)])∧∀ base:Heap,(K w.params).In base→base.Ns mainGlobals mg→FnOk l.prog w (K w.params) mg base Vg 20 fa fd ["_law_script"] (Wm (K w.params))) :
  PySem.W.WalkO q loose XP YP l.row.toRowW d [] (fun f vs=>PySem.call f vs) :=
 Jl (n:=63) (k:=20) (x := "_law_script") (CX:=fun _=>Vg) (sp:=fun w=>Wm (K w.params)) hn (by decide) hdf ⟨rfl,by decide,by decide⟩ hY F (fun _ _ a ns hl _ hS=>⟨a,ns,rfl,hS,hl,fun _=>rfl⟩) fun _ _ _ _ _ z=>z
end Seek
namespace PySem.W.Fast
def tw16635674090239324978:=0
def tw15381142871791228074:=0
def tw13270552025962856239:=0
def tw2414097371192748056:=0
def tw8454157274330709381:=0
def tw6783008137487121157:=0
def tw9677762245963653623:=0
def tw18051163385596140561:=0
def tw11547776827506385271:=0
def tw11980244658861340152:=0
def tw11791235372346029602:=0
def tw10297379196632622139:=0
def tw7950811289543663321:=0
def tw6324403161316701577:=0
def tw10489378588306494985:=0
def tw9631626835354198739:=0
def tw2366596407878623306:=0
def tw10926126703453455885:=0
def tw9986138609858195143:=0
def tw6311291882919701617:=0
def tw15826315277349764051:=0
def tw2778655577388298338:=0
def tw573800866454341826:=0
def tw3967012707944417556:=0
def tw7633301858368698040:=0
def tw4849232193019266797:=0
def tw16037363754444675994:=0
def tw7025092184808761048:=0
def tw10007721649637974610:=0
def tw7235853115206817639:=0
def tw4012505732343663093:=0
def tw6195068932122246649:=0
def tw2256125740488574421:=0
def tw6875054646299295799:=0
def tw4842999862137157753:=0
def tw7802915848583288735:=0
def tw13267543074721399834:=0
def tw12592569663548493527:=0
def tw2673306345684168985:=0
def tw2209194511098382173:=0
def tw4973331948831471822:=0
def tw15832057811924813064:=0
def tw8693531911489149032:=0
def tw2752691728823041904:=0
def tw9271310198642504932:=0
def tw10380566473958517628:=0
def tw6970521353899902687:=0
def tw2010889664726573462:=0
def tw2247785532891315224:=0
def tw2975366955197238772:=0
def tw654893054008623628:=0
def tw860906831276721958:=0
def tw4147588875187910533:=0
def tw4490479005613756518:=0
def tw2737664464049103587:=0
def tw14023433387123901050:=0
def tw9414047441438158206:=0
def tw16611865206287621906:=0
def tw11584209530292090004:=0
def tw5638154493009115374:=0
def tw3172836631643105498:=0
def tw17622265525231235751:=0
def tw7616209970811875531:=0
def tw4313646194262766267:=0
def tw9558575609193692921:=0
def tw929978295218998185:=0
def tw1810013734564497295:=0
def tw7344715623217478969:=0
def tw14081413835861382758:=0
def tw3668748116279542844:=0
def tw1149377640883956322:=0
def tw1183810675552526111:=0
def tw9829740819538043362:=0
def tw9448306446842384764:=0
def tw16893810731385292338:=0
def tw6389743157792901780:=0
def tw12503668214317903956:=0
def tw1558057241498175516:=0
def tw10947558666693051735:=0
def tw3923657092674534291:=0
end PySem.W.Fast
open PySem PySem.W PyProof.Rows Seek L2
set_option maxRecDepth 100000 in
set_option maxHeartbeats 0 in
theorem PySem.Challenge.cw_seek_k23_formed_holds : PySem.Challenge.rw_seek_k23_formed.Holds := by
 w_on; o_law; k_head; (case hw=>w_witness2)
 k_fill
 refine Z31 (l:=PySem.Challenge.rw_seek_k23_formed) rfl rfl (fun w h Y=>PySem.W.kIn_of Y) ?F
 case F =>
  intro w mg fa h KX G hmg
  have z:∀ {x:Str} {K:PySem.W.Frag},K.In h→PySem.W.nsIn K mainGlobals x = some none→mg x = none:=fun X e=>PySem.W.mg_none_of X G e
  have T:Seek.Blt mg:=by
   refine' ⟨z KX ?b1,z KX ?b2,z KX ?b3,z KX ?b4,z KX ?b5,z KX ?b6,z KX ?b7,z KX ?b8,z KX ?b9,z KX ?b10,z KX ?b11,z KX ?b12,z KX ?b13⟩
   (case b1=>k_is); (case b2=>k_is); (case b3=>k_is); (case b4=>k_is); (case b5=>k_is); (case b6=>k_is); (case b7=>k_is); (case b8=>k_is); (case b9=>k_is); (case b10=>k_is); (case b11=>k_is); (case b12=>k_is); (case b13=>k_is)
  have q1:=(by
   refine' Y1 (x := "_law_take") (st:=Yy) (ps:=["_law_box", "_law_many"]) KX G ?a ?l ?c ?k (fun _ _ _ _ _ _ us hl=>match us,hl with | [_,_],_=>rfl)
   (case a=>k_is); (case l=>k_is); (case c=>k_is); (case k=>k_is))
  have q2:=(by
   refine' Y1 (x := "_law_sign") (st:=Yz) (ps:=["_law_cell"]) KX G ?a ?l ?c ?k (fun _ _ _ _ _ _ us hl=>match us,hl with | [_],_=>rfl)
   (case a=>k_is); (case l=>k_is); (case c=>k_is); (case k=>k_is))
  have q3:=(by
   refine' Y1 (x := "_law_letters") (st:=Y0) (ps:=["_law_box"]) KX G ?a ?l ?c ?k (fun _ _ _ _ _ _ us hl=>match us,hl with | [_],_=>rfl)
   (case a=>k_is); (case l=>k_is); (case c=>k_is); (case k=>k_is))
  have q4:=(by
   refine' Y1 (x := "_law_text") (st:=Yk) (ps:=["_law_box", "_law_letters_here", "_law_size"]) KX G ?a ?l ?c ?k (fun _ _ _ _ _ _ us hl=>match us,hl with | [_,_,_],_=>rfl)
   (case a=>k_is); (case l=>k_is); (case c=>k_is); (case k=>k_is))
  have q5:=(by
   refine' Y1 (x := "_law_formed") (st:=Yg) (ps:=["_law_form_here", "_law_text_here", "_law_find"]) KX G ?a ?l ?c ?k (fun _ _ _ _ _ _ us hl=>match us,hl with | [_,_,_],_=>rfl)
   (case a=>k_is); (case l=>k_is); (case c=>k_is); (case k=>k_is))
  have q6:=(by
   refine' Y1 (x := "_law_form") (st:=X1) (ps:=["_law_box", "_law_letters_here", "_law_groups"]) KX G ?a ?l ?c ?k (fun _ _ _ _ _ _ us hl=>match us,hl with | [_,_,_],_=>rfl)
   (case a=>k_is); (case l=>k_is); (case c=>k_is); (case k=>k_is))
  have q7:=(by
   refine' Y1 (x := "_law_pair") (st:=X0) (ps:=["_law_box", "_law_size"]) KX G ?a ?l ?c ?k (fun _ _ _ _ _ _ us hl=>match us,hl with | [_,_],_=>rfl)
   (case a=>k_is); (case l=>k_is); (case c=>k_is); (case k=>k_is))
  have q8:=(by
   refine' Y1 (x := "_law_no_form") (st:=Y9) (ps:=["_law_form_here", "_law_text_here", "_law_find"]) KX G ?a ?l ?c ?k (fun _ _ _ _ _ _ us hl=>match us,hl with | [_,_,_],_=>rfl)
   (case a=>k_is); (case l=>k_is); (case c=>k_is); (case k=>k_is))
  have r1:=(by
   refine' Y1 (x := "formed") (st:=X2) (ps:=["form", "text", "find"]) KX G ?a ?l ?c ?k (fun _ _ _ _ _ _ us hl=>match us,hl with | [_,_,_],_=>rfl)
   (case a=>k_is); (case l=>k_is); (case c=>k_is); (case k=>k_is))
  have r2:=(by
   refine' Y1 (x := "form_pieces") (st:=Zz) (ps:=["form", "groups"]) KX G ?a ?l ?c ?k (fun _ _ _ _ _ _ us hl=>match us,hl with | [_,_],_=>rfl)
   (case a=>k_is); (case l=>k_is); (case c=>k_is); (case k=>k_is))
  have r3:=(by
   refine' Y1 (x := "marked_piece") (st:=Zu) (ps:=["sign", "groups"]) KX G ?a ?l ?c ?k (fun _ _ _ _ _ _ us hl=>match us,hl with | [_,_],_=>rfl)
   (case a=>k_is); (case l=>k_is); (case c=>k_is); (case k=>k_is))
  have r4:=(by
   refine' Y1 (x := "filled") (st:=Yl) (ps:=["pieces", "text", "find"]) KX G ?a ?l ?c ?k (fun _ _ _ _ _ _ us hl=>match us,hl with | [_,_,_],_=>rfl)
   (case a=>k_is); (case l=>k_is); (case c=>k_is); (case k=>k_is))
  have r5:=(by
   refine' Y1 (x := "taken_text") (st:=Y5) (ps:=["number", "text", "find"]) KX G ?a ?l ?c ?k (fun _ _ _ _ _ _ us hl=>match us,hl with | [_,_,_],_=>rfl)
   (case a=>k_is); (case l=>k_is); (case c=>k_is); (case k=>k_is))
  have bv:mg "ValueError" = none:=by
   refine' z KX ?b
   (case b=>k_is)
  have c5:∃ t1,mg "DIGITS" = some (.str Seek.digS t1):=by
   refine' T6 KX G ?a
   (case a=>k_is)
  have xo:∃ CN CE CM CO CU,L2.XC (Z3l KX) mg "NoForm" CN CE∧mg "SeekError" = some (.ref CE)∧mg "Memory" = some (.ref CM)∧mg "Over" = some (.ref CO)∧mg "Unread" = some (.ref CU)∧Seek.XOth (Z3l KX) CN CE CM CO CU:=by
   dsimp only [Z3l]
   refine' Z1u KX G ?a1 ?l ?ln ?l2 ?ln2 ?s1 ?s2 ?i1 ?i2 ?a2 ?a3 ?a4 ?a5 ?z1 ?z2 ?z3 ?z4 ?z5 ?z6 ?z7 ?v1 ?m1 ?m2 ?m3 ?m4 ?o1 ?o2 ?o3 ?o4 ?u1 ?u2 ?u3 ?u4
   (case a1=>k_is); (case l=>k_is); (case ln=>k_is); (case l2=>k_is); (case ln2=>k_is); (case s1=>kernel_rfl); (case s2=>kernel_rfl); (case i1=>kernel_rfl); (case i2=>kernel_rfl); (case a2=>k_is); (case a3=>k_is); (case a4=>k_is); (case a5=>k_is); (case z1=>k_is); (case z2=>k_is); (case z3=>k_is); (case z4=>k_is); (case z5=>k_is); (case z6=>k_is); (case z7=>k_is); (case v1=>k_is); (case m1=>k_is); (case m2=>k_is); (case m3=>k_is); (case m4=>decide); (case o1=>k_is); (case o2=>k_is); (case o3=>k_is); (case o4=>decide); (case u1=>k_is); (case u2=>k_is); (case u3=>k_is); (case u4=>decide)
  obtain ⟨t1,hdg⟩:=c5
  obtain ⟨CN,CE,CM,CO,CU,xc,x1,x2,x3,x4,Z⟩:=xo
  refine' Z0p KX G hmg ?a ?l ?c ?k (Z1a T bv hdg q1 q2 q3 q4 q5 q6 q7 q8 r1 r2 r3 r4 r5 xc x1 x2 x3 x4 Z)
  (case a=>k_is); (case l=>k_is); (case c=>k_is); (case k=>k_is)