import PyProof.Rows.All
import Wide.All
import OpenK.AllK
import Wide.FinOn
import Lean
import PyProof.EqAt
import PyProof.EqKinds
import PyProof.TupleCall
import PyProof.StrLawsIdx
import PySem.Challenge.RW_seek_k27_moves_of_all_rows
set_option Elab.async false
set_option linter.all false
set_option maxRecDepth 100000
set_option maxHeartbeats 4000000
namespace L2
open PySem PySem.Spec PyProof.Rows
abbrev Key:=Sum Int Str
def Z1n:Key→Value→Bool
 | .inl k,v=>Value.isInt k v
 | .inr x,v=>Value.isStrOf x v
def Zen (w:World):Key→Int
 | .inl k=>hashInt k
 | .inr x=>hashStr w x
theorem Yj:∀ {k:Key} {v:Value},Z1n k v = true→(∃ i t,k = Sum.inl i∧v = Value.int i t) ∨ (∃ x t,k = Sum.inr x∧v = Value.str x t)
 | .inl i,v,h=>by
  obtain ⟨t,e⟩:=Value.isInt_shape (k:=i) (v:=v) h
  exact .inl ⟨i,t,rfl,e⟩
 | .inr x,v,h=>by
  obtain ⟨t,e⟩:=Value.isStrOf_shape (x:=x) (v:=v) h
  exact .inr ⟨x,t,rfl,e⟩
theorem Z5s (i:Int) (t:Tok):Z1n (.inl i) (.int i t) = true:=by simp [Z1n,Value.isInt]
theorem Us (x:Str) (t:Tok):Z1n (.inr x) (.str x t) = true:=by simp [Z1n,Value.isStrOf]
theorem Zcl (a b:Int):decide ((Sum.inl a:Key) = Sum.inl b) = (a == b):=by
 by_cases e:a = b
 ·subst e; simp
 ·have h:¬ (Sum.inl a:Key) = Sum.inl b:=fun q=>e (Sum.inl.inj q)
  rw [decide_eq_false h]
  exact (beq_eq_false_iff_ne.mpr e).symm
theorem Zci (a b:Str):decide ((Sum.inr a:Key) = Sum.inr b) = decide (a = b):=by
 by_cases e:a = b
 ·subst e; simp
 ·have h:¬ (Sum.inr a:Key) = Sum.inr b:=fun q=>e (Sum.inr.inj q)
  rw [decide_eq_false h,decide_eq_false e]
theorem Zck (a:Int) (b:Str):decide ((Sum.inl a:Key) = Sum.inr b) = false:=decide_eq_false (fun q=>nomatch q)
theorem Zcj (a:Str) (b:Int):decide ((Sum.inr a:Key) = Sum.inl b) = false:=decide_eq_false (fun q=>nomatch q)
def Xv (prog:Program) (w:World):PySem.KeyKind prog w Key where
 is:=Z1n
 hash:=Zen w
 inj:=fun v a b ha hb=>by
  rcases Yj ha with ⟨i,t,rfl,rfl⟩ | ⟨x,t,rfl,rfl⟩
  ·rcases Yj hb with ⟨j,u,rfl,e⟩ | ⟨y,u,rfl,e⟩
   ·injection e with e1 _; rw [e1]
   ·exact nomatch e
  ·rcases Yj hb with ⟨j,u,rfl,e⟩ | ⟨y,u,rfl,e⟩
   ·exact nomatch e
   ·injection e with e1 _; rw [e1]
 byValue:=fun k v h=>by
  rcases Yj h with ⟨i,t,rfl,rfl⟩ | ⟨x,t,rfl,rfl⟩ <;> rfl
 pyHash:=fun hv h=>by
  rcases Yj hv with ⟨i,t,rfl,rfl⟩ | ⟨x,t,rfl,rfl⟩
  ·exact wpAny_pyHash_int h
  ·exact wpAny_pyHash_str h
 eqBool:=fun hu hv h=>by
  rcases Yj hu with ⟨i,t,rfl,rfl⟩ | ⟨x,t,rfl,rfl⟩
  ·rcases Yj hv with ⟨j,u,rfl,rfl⟩ | ⟨y,u,rfl,rfl⟩
   ·rw [Zcl] at h; exact wpAny_eqBool_int h
   ·rw [Zck] at h; exact SeqAt.EqAt.int_str i t y u _ _ _ _ h
  ·rcases Yj hv with ⟨j,u,rfl,rfl⟩ | ⟨y,u,rfl,rfl⟩
   ·rw [Zcj] at h; exact SeqAt.EqAt.str_int x t j u _ _ _ _ h
   ·rw [Zci] at h; exact wpAny_eqBool_str h
 «strs»:=fun k x t v h=>by
  rcases Yj h with ⟨i,u,rfl,e⟩ | ⟨y,u,rfl,e⟩
  ·exact nomatch e
  ·injection e with e1 _
   subst e1
   cases v <;> rfl
theorem Z1k (prog:Program) (w:World) (i:Int) (t:Tok):(Xv prog w).is (.inl i) (.int i t) = true:=Z5s i t
theorem Z1j (prog:Program) (w:World) (x:Str) (t:Tok):(Xv prog w).is (.inr x) (.str x t) = true:=Us x t
inductive V where
 | non | bl (b:Bool) | int (i:Int) | str (x:Str) | byt (b:Array UInt8) | flt (b:UInt64) | ref (a:Addr) | ty (n:String)
 deriving DecidableEq
def RelV:V→Value→Prop
 | .non,u=>u = Value.none
 | .bl b,u=>u = Value.bool b
 | .int i,u=>∃ t,u = Value.int i t
 | .str x,u=>∃ t,u = Value.str x t
 | .byt b,u=>∃ t,u = Value.bytes b t
 | .flt b,u=>∃ t,u = Value.float b t
 | .ref a,u=>u = Value.ref a
 | .ty n,u=>u = Value.type n
abbrev Vals:List V→List Value→Prop:=Paired RelV
theorem Vals.length {xs:List V} {us:List Value} (r:Vals xs us):xs.length = us.length:=Paired.length r
theorem Vals.get:∀ {xs:List V} {us:List Value} {i:Nat} {x:V},Vals xs us→xs[i]? = some x→∃ u,us[i]? = some u∧RelV x u
 | _,_,_,_,.nil,e=>by simp at e
 | _,_,0,_,.cons r _,e=>by simp at e; subst e; exact ⟨_,rfl,r⟩
 | _,_,i + 1,x,.cons _ t,e=>by
  obtain ⟨u,h1,h2⟩:=Vals.get (i:=i) (x:=x) t (by simpa using e)
  exact ⟨u,by simpa using h1,h2⟩
theorem Vals.set {x:V} {u:Value} (r:RelV x u):∀ {xs:List V} {us:List Value} (i:Nat),Vals xs us→Vals (xs.set i x) (us.set i u)
 | _,_,_,.nil=>.nil
 | _,_,0,.cons _ t=>.cons r t
 | _,_,i + 1,.cons q t=>.cons q (Vals.set r i t)
theorem Vals.append:∀ {xs ys:List V} {us ws:List Value},Vals xs us→Vals ys ws→Vals (xs ++ ys) (us ++ ws)
 | _,_,_,_,.nil,s=>s
 | _,_,_,_,.cons r t,s=>.cons r (Vals.append t s)
theorem Vals.take:∀ {xs:List V} {us:List Value} (n:Nat),Vals xs us→Vals (xs.take n) (us.take n)
 | _,_,0,_=>.nil
 | _,_,_ + 1,.nil=>.nil
 | _,_,n + 1,.cons r t=>.cons r (Vals.take n t)
theorem Vals.drop:∀ {xs:List V} {us:List Value} (n:Nat),Vals xs us→Vals (xs.drop n) (us.drop n)
 | _,_,0,r=>r
 | _,_,_ + 1,.nil=>.nil
 | _,_,n + 1,.cons _ t=>Vals.drop n t
def RelO:Option V→Option Value→Prop
 | some v,some u=>RelV v u
 | none,none=>True
 | _,_=>False
def KV {κ:Type}:List (κ × V)→List (κ × Value)→Prop:=Paired fun (p:κ × V) (q:κ × Value)=>p.1 = q.1∧RelV p.2 q.2
def kV:Key→V
 | .inl i=>.int i
 | .inr x=>.str x
inductive HO where
 /-- a list -/
 | lst (xs:List V)
 /-- a tuple (never changes) -/
 | tup (xs:List V)
 /-- a dict whose keys are ints and texts; one whose keys are tuples of ints and texts (the empty one is both) -/
 | dK (kvs:List (Key × V)) | dT (kvs:List (List Key × V))
 /-- a set of ints: its members,its size -/
 | set (S:Int→Bool) (n:Nat)
 /-- an instance of the class at C,its dict at dx,its attributes -/
 | ins (C dx:Addr) (fs:List (Str × V))
 /-- the dict of the instance at x -/
 | own (x:Addr)
 /-- the dict of an exception -/
 | xd (fs:List (Str × V))
 /-- a bound method,f of x -/
 | met (f x:Addr)
 /-- a range object lo,lo + 1,.. below hi -/
 | rng (lo hi:Int)
 /-- a thing that is known to the object (the script; a dict while a loop walks it): read,never written while it is so -/
 | frz (o:Obj) (u:HO)
 /-- a code object's table -/
 | tbl (ps:Array Value)
 /-- any other thing,by what is true of its one object (a def of one's own: SetO a S n:=HO.ext fun h=>..) -/
 | ext (φ:Heap→Prop)
abbrev Hp:=Addr→Option HO
def upd (H:Hp) (a:Addr) (o:HO):Hp:=fun b=>if b = a then some o else H b
theorem Z3 {H:Hp} {a:Addr} {o:HO}:upd H a o a = some o:=by unfold upd; rw [if_pos rfl]
theorem Zl {H:Hp} {a b:Addr} {o:HO} (h:b ≠ a):upd H a o b = H b:=by unfold upd; rw [if_neg h]
theorem Z4b {H:Hp} {a:Addr} {o u:HO}:upd (upd H a o) a u = upd H a u:=by
 funext b; unfold upd; split <;> rfl
theorem Z1i {H:Hp} {a b:Addr} {o u:HO} (h:H a = some o) (h':H b = some u) (d:o ≠ u):a ≠ b:=by
 intro e; subst e; rw [h] at h'; exact d (Option.some.inj h')
theorem Z7 {H:Hp} {a b:Addr} {o:HO} (h:H a = some o) (h':H b = none):a ≠ b:=by
 intro e; subst e; rw [h] at h'; cases h'
section
variable (P:Program) (w:World)
def ObjOk (H:Hp) (h:Heap) (a:Addr):HO→Prop
 | .lst xs=>xs.length ≤ sizeLine∧∃ (its:List Value) (n:Nat),Vals xs its∧h.get? a = some { cls:=.type "list",data:=.seq its.toArray n }
 | .tup xs=>xs.length ≤ sizeLine∧∃ its:List Value,Vals xs its∧IsTup h a its.toArray
 | .dK kvs=>kvs.length ≤ sizeLine∧(a == sysModules) = false∧∃ vs,KV kvs vs∧h.DictOf (Xv P w) a vs
 | .dT kvs=>kvs.length ≤ sizeLine∧(a == sysModules) = false∧∃ xs:List (List Key × Addr × Value),
   Paired (fun (p:List Key × V) (q:List Key × Addr × Value)=>p.1 = q.1∧H q.2.1 = some (.tup (p.1.map kV))∧RelV p.2 q.2.2) kvs xs ∧
   ∃ o es ep,h.get? a = some o∧o.ExactDict∧o.data = .dict es ep∧es.toList = xs.map (entryOfKey (tupleKind (Xv P w)))∧(xs.map (·.1)).Nodup
 | .set S n=>h.SetOf (intKind P w) a S n
 | .ins C dx fs=>H dx = some (.own a)∧fs.length ≤ 1000∧dx ≠ a∧h.get? a = some (PySem.W.instObj C dx) ∧
   ∃ mA,h.Ns1 dx mA∧(∀ f,RelO (fs.lookup f) (mA f))∧PySem.Within mA (fs.map (·.1))
 | .own _=>∃ o,h.get? a = some o
 | .xd fs=>∃ mA,h.Ns1 a mA∧∀ f,RelO (fs.lookup f) (mA f)
 | .rng lo hi=>∃ t u v,h.get? a = some { cls:=.type "range",data:=.fields #[.int lo t,.int hi u,.int 1 v] }
 | .frz o u=>h.get? a = some o∧ObjOk H h a u
 | .tbl ps=>h.get? a = some { cls:=.none,data:=.fields ps }
 | .met f x=>h.get? a = some (PySem.W.methodObj (.ref f) (.ref x))
 | .ext φ=>φ h∧(∃ o,h.get? a = some o)∧∀ h1 h2:Heap,φ h1→(∀ o,h1.get? a = some o→h2.get? a = some o)→φ h2
def HOk (H:Hp) (h:Heap):Prop:=∀ a o,H a = some o→ObjOk P w H h a o
end
section
variable {P:Program} {w:World} {H H':Hp} {h h':Heap} {a:Addr} {o:HO}
theorem ObjOk.lt (x:ObjOk P w H h a o):a < h.objs.size:=by
 cases o with
 | lst xs=>obtain ⟨_,_,_,_,e⟩:=x; exact Heap.lt_size e
 | tup xs=>obtain ⟨_,_,_,p⟩:=x; exact p.lt
 | dK kvs=>obtain ⟨_,_,_,_,o,_,_,e,_⟩:=x; exact Heap.lt_size e
 | dT kvs=>obtain ⟨_,_,_,_,o,_,_,e,_⟩:=x; exact Heap.lt_size e
 | set S n=>obtain ⟨o,_,_,_,e,_⟩:=x; exact Heap.lt_size e
 | ins C dx fs=>obtain ⟨_,_,_,e,_⟩:=x; exact Heap.lt_size e
 | own y=>obtain ⟨_,e⟩:=x; exact Heap.lt_size e
 | xd fs=>obtain ⟨_,⟨_,_,_,e,_⟩,_⟩:=x; exact Heap.lt_size e
 | rng lo hi=>obtain ⟨_,_,_,e⟩:=x; exact Heap.lt_size e
 | frz ob u=>obtain ⟨e,_⟩:=x; exact Heap.lt_size e
 | tbl ps=>exact Heap.lt_size (show h.get? a = some _ from x)
 | met f y=>exact Heap.lt_size (show h.get? a = some _ from x)
 | ext φ=>obtain ⟨_,⟨_,e⟩,_⟩:=x; exact Heap.lt_size e
theorem Paired.mapP {α β:Type} {F G:α→β→Prop}:∀ {l₁:List α} {l₂:List β},Paired F l₁ l₂→(∀ a b,F a b→G a b)→Paired G l₁ l₂
 | _,_,.nil,_=>.nil
 | _,_,.cons r t,f=>.cons (f _ _ r) (Paired.mapP t f)
theorem ObjOk.stay (x:ObjOk P w H h a o) (k:∀ b u,(b = a ∨ H b = some (.own a))→h.get? b = some u→h'.get? b = some u)
  (ho:∀ b,H b = some (.own a)→H' b = some (.own a)) (ht:∀ b xs,H b = some (.tup xs)→H' b = some (.tup xs)):ObjOk P w H' h' a o:=by
 induction o with
 | lst xs=>obtain ⟨z,its,n,r,e⟩:=x; exact ⟨z,its,n,r,k _ _ (.inl rfl) e⟩
 | tup xs=>obtain ⟨z,its,r,ob,e,c⟩:=x; exact ⟨z,its,r,ob,k _ _ (.inl rfl) e,c⟩
 | dK kvs=>obtain ⟨z,y,vs,r,ob,es,ep,e,c⟩:=x; exact ⟨z,y,vs,r,ob,es,ep,k _ _ (.inl rfl) e,c⟩
 | dT kvs =>
  obtain ⟨z,y,xs,r,ob,es,ep,e,c⟩:=x
  exact ⟨z,y,xs,Paired.mapP r fun p q z=>⟨z.1,ht _ _ z.2.1,z.2.2⟩,ob,es,ep,k _ _ (.inl rfl) e,c⟩
 | set S n=>obtain ⟨ob,es,ep,t,e,c⟩:=x; exact ⟨ob,es,ep,t,k _ _ (.inl rfl) e,c⟩
 | ins C dx fs =>
  obtain ⟨d,z,ne,e,mA,⟨od,es,ep,e2,c⟩,r⟩:=x
  exact ⟨ho _ d,z,ne,k _ _ (.inl rfl) e,mA,⟨od,es,ep,k _ _ (.inr d) e2,c⟩,r⟩
 | own y=>obtain ⟨ob,e⟩:=x; exact ⟨ob,k _ _ (.inl rfl) e⟩
 | xd fs=>obtain ⟨mA,⟨od,es,ep,e,c⟩,r⟩:=x; exact ⟨mA,⟨od,es,ep,k _ _ (.inl rfl) e,c⟩,r⟩
 | rng lo hi=>obtain ⟨t,u,v,e⟩:=x; exact ⟨t,u,v,k _ _ (.inl rfl) e⟩
 | frz ob u ih=>obtain ⟨e,q⟩:=x; exact ⟨k _ _ (.inl rfl) e,ih q⟩
 | tbl ps =>
  have e:h.get? a = some { cls:=.none,data:=.fields ps }:=x
  show h'.get? a = some { cls:=.none,data:=.fields ps }
  exact k a _ (.inl rfl) e
 | met f y =>
  have e:h.get? a = some (PySem.W.methodObj (.ref f) (.ref y)):=x
  show h'.get? a = some (PySem.W.methodObj (.ref f) (.ref y))
  exact k a _ (.inl rfl) e
 | ext φ=>obtain ⟨p,⟨o,e⟩,st⟩:=x; exact ⟨st _ _ p fun o q=>k _ _ (.inl rfl) q,⟨o,k _ _ (.inl rfl) e⟩,st⟩
theorem HOk.lt (x:HOk P w H h) (e:H a = some o):a < h.objs.size:=(x a o e).lt
theorem HOk.fresh (x:HOk P w H h) (e:h.objs.size ≤ a):H a = none:=by
 cases q:H a with
 | none=>rfl
 | some u=>exact absurd (Nat.lt_of_lt_of_le (x.lt q) e) (Nat.lt_irrefl _)
theorem HOk.kept (x:HOk P w H h) (k:∀ b u,h.get? b = some u→h'.get? b = some u):HOk P w H h':=fun a o e =>
 (x a o e).stay (fun b u _ q=>k b u q) (fun _ q=>q) fun _ _ q=>q
theorem HOk.laid (x:HOk P w H h) (k:∀ b u,h.get? b = some u→h'.get? b = some u) (hp:h.objs.size ≤ a) (new:ObjOk P w (upd H a o) h' a o):HOk P w (upd H a o) h':=fun b u e=>by
 have hn:=x.fresh hp
 by_cases hb:b = a
 ·subst hb; rw [Z3] at e; cases e; exact new
 ·rw [Zl hb] at e
  exact (x b u e).stay (fun c v _ q=>k c v q) (fun c q=>by rw [Zl (Z7 q hn)]; exact q) fun c xs q=>by rw [Zl (Z7 q hn)]; exact q
end
def Rd (H:Hp) (a:Addr) (u:HO):Prop:=H a = some u ∨ ∃ o,H a = some (.frz o u)
theorem Rd.ok {P:Program} {w:World} {H:Hp} {h:Heap} {a:Addr} {u:HO} (r:Rd H a u) (x:HOk P w H h):ObjOk P w H h a u:=by
 rcases r with r | ⟨o,r⟩
 ·exact x a u r
 ·obtain ⟨_,q⟩:=x a _ r
  exact q
def Mut:Option HO→Prop
 | some (.lst _)=>True
 | some (.dK _)=>True
 | some (.dT _)=>True
 | some (.set _ _)=>True
 | some (.ins _ _ _)=>True
 | some (.ext _)=>True
 | _=>False
section
variable {P:Program} {w:World} {H:Hp} {h h':Heap} {x e:Addr} {o':HO}
theorem HOk.write (ok:HOk P w H h) (mu:Mut (H x)) (he:e = x ∨ H e = some (.own x)) (k:∀ b u,b ≠ e→h.get? b = some u→h'.get? b = some u) (heo:∃ u,h'.get? e = some u)
  (new:ObjOk P w (upd H x o') h' x o'):HOk P w (upd H x o') h':=fun b u q=>by
 have nown:∀ c y,H c = some (.own y)→c ≠ x:=fun c y r z=>by subst z; rw [r] at mu; exact mu
 have ntup:∀ c xs,H c = some (.tup xs)→c ≠ x:=fun c xs r z=>by subst z; rw [r] at mu; exact mu
 by_cases hb:b = x
 ·subst hb; rw [Z3] at q; cases q; exact new
 ·rw [Zl hb] at q
  by_cases hbe:b = e
  ·have q':H b = some (.own x):=by
    rcases he with z | z
    ·exact absurd (hbe.trans z) hb
    ·rw [hbe]; exact z
   rw [q] at q'; cases q'
   obtain ⟨v,hv⟩:=heo
   exact ⟨v,by rw [hbe]; exact hv⟩
  ·refine (ok b u q).stay (fun c v hc r=>k c v ?_ r) (fun c r=>by rw [Zl (nown c b r)]; exact r) fun c xs r=>by rw [Zl (ntup c xs r)]; exact r
   rcases hc with rfl | hc
   ·exact hbe
   ·rintro rfl
    rcases he with z | z
    ·exact nown c b hc z
    ·rw [hc] at z; cases z; exact hb rfl
end
structure Un (fs ex:List Addr) (H H':Hp) (h h':Heap):Prop where
 keep:∀ b o,h.get? b = some o→H b = none→b ∉ fs→b ∉ ex→h'.get? b = some o
 slot:∀ b o,h.get? b = some o→H b = none→b ∈ fs→b ∉ ex→∃ sl,h'.get? b = some { o with slots:=sl }
 free:∀ b o,h.get? b = some o→H b = none→b ∉ ex→H' b = none
 there:∀ b o,h.get? b = some o→b ∉ ex→∃ o',h'.get? b = some o'
 tups:∀ b xs,H b = some (.tup xs)→H' b = some (.tup xs)
 frzs:∀ b o u,H b = some (.frz o u)→H' b = some (.frz o u)
 tbls:∀ b ps,H b = some (.tbl ps)→∃ more,H' b = some (.tbl (ps ++ more))
section
variable {fs fs' ex ex':List Addr} {H H1 H2:Hp} {h h1 h2 h':Heap} {a x e:Addr} {o:HO}
theorem Un.any (u:Un fs ex H H1 h h1) {b:Addr} {ob:Obj} (q:h.get? b = some ob) (n:H b = none) (hx:b ∉ ex):∃ sl,h1.get? b = some { ob with slots:=sl }:=by
 by_cases hb:b ∈ fs
 ·exact u.slot b ob q n hb hx
 ·exact ⟨ob.slots,u.keep b ob q n hb hx⟩
theorem Un.kept (k:∀ b u,h.get? b = some u→h'.get? b = some u):Un fs ex H H h h' :=
 ⟨fun b ob q _ _ _=>k b ob q,fun b ob q _ _ _=>⟨ob.slots,k b ob q⟩,fun _ _ _ n _=>n,fun b ob q _=>⟨ob,k b ob q⟩,fun _ _ q=>q,fun _ _ _ q=>q,fun _ ps q=>⟨#[],by rw [q]; simp⟩⟩
theorem Un.refl:Un fs ex H H h h:=Un.kept fun _ _ q=>q
theorem Un.laid (k:∀ b u,h.get? b = some u→h'.get? b = some u) (hp:h.objs.size ≤ a) (hn:H a = none):Un fs ex H (upd H a o) h h' where
 keep:=fun b u q _ _ _=>k b u q
 slot:=fun b u q _ _ _=>⟨u.slots,k b u q⟩
 free:=fun b u q n _=>by rw [Zl (Nat.ne_of_lt (Nat.lt_of_lt_of_le (Heap.lt_size q) hp))]; exact n
 there:=fun b u q _=>⟨u,k b u q⟩
 tups:=fun b xs q=>by rw [Zl (Z7 q hn)]; exact q
 frzs:=fun b u xs q=>by rw [Zl (Z7 q hn)]; exact q
 tbls:=fun b ps q=>⟨#[],by rw [Zl (Z7 q hn),q]; simp⟩
theorem Un.write (mu:Mut (H x)) (he:e = x ∨ H e = some (.own x)) (k:∀ b u,b ≠ e→h.get? b = some u→h'.get? b = some u) (heo:∃ u,h'.get? e = some u):Un fs ex H (upd H x o) h h':=by
 have hx:∀ b,H b = none→b ≠ x:=fun b n z=>by subst z; rw [n] at mu; exact mu
 have hb:∀ b,H b = none→b ≠ e:=fun b n z=>by
  subst z
  rcases he with r | r
  ·exact hx b n r
  ·rw [n] at r; cases r
 have hm:∀ b u,H b = some u→¬ Mut (some u)→b ≠ x:=fun b u q nm z=>by subst z; rw [q] at mu; exact nm mu
 refine ⟨fun b u q n _ _=>k b u (hb b n) q,fun b u q n _ _=>⟨u.slots,k b u (hb b n) q⟩,fun b u q n _=>by rw [Zl (hx b n)]; exact n,fun b u q _=>?_,
  fun b xs q=>by rw [Zl (hm b _ q fun z=>z)]; exact q,fun b u xs q=>by rw [Zl (hm b _ q fun z=>z)]; exact q,fun b ps q=>⟨#[],by rw [Zl (hm b _ q fun z=>z),q]; simp⟩⟩
 by_cases hbe:b = e
 ·subst hbe; exact heo
 ·exact ⟨u,k b u hbe q⟩
end
def trk (h:Heap) (H:Hp):List Addr:=(List.range h.objs.size).filter fun a=>(H a).isSome
def Z7s (h:Heap) (H:Hp):Heap:=PySem.W.hideAll h (trk h H)
theorem Z5z (h:Heap) (H:Hp):(Z7s h H).objs.size = h.objs.size:=PySem.W.hideAll_size _ _
theorem Z7r {h:Heap} {H:Hp} {b:Addr} {o:Obj} (e:h.get? b = some o) (n:H b = none):(Z7s h H).get? b = some o :=
 PySem.W.hideAll_get _ e fun hm=>by
  have q:(H b).isSome = true:=(List.mem_filter.mp hm).2
  rw [n] at q; simp at q
theorem Z9y {h:Heap} {H:Hp} {b:Addr} {o:Obj} (e:(Z7s h H).get? b = some o):h.get? b = some o∧H b = none:=by
 have e':h.get? b = some o:=PySem.W.of_hideAll (trk h H) e
 refine ⟨e',?_⟩
 cases q:H b with
 | none=>rfl
 | some x =>
  have hm:b ∈ trk h H:=List.mem_filter.mpr ⟨List.mem_range.mpr (Heap.lt_size e'),by simp [q]⟩
  have z:(Z7s h H).get? b = none:=PySem.W.hideAll_none (trk h H) hm
  rw [z] at e; cases e
def Zaf (g h:Heap) (L:Addr):List (Addr × Obj):=(List.range h.objs.size).filterMap fun a=>if a = L ∨ (g.get? a).isSome = true then none else (h.get? a).map fun o=>(a,o)
def rest (g h:Heap) (L d:Addr):List (Addr × Obj):=(Zaf g h L).filter fun p=>decide (p.1 ≠ d)
structure Mod (K:PySem.W.Frag) (mg:Str→Option Value) (base:Heap):Prop where
 kin:K.In base
 glob:base.Ns mainGlobals mg
 blt:∃ mb,base.Ns builtinsNs mb∧∀ x:Str,x ≠ "__name__"→mb x = bootBuiltins x
 nolimit:base.NoLimit
structure Cx where
 prog:Program
 w:World
 K:PySem.W.Frag
 mg:Str→Option Value
 base:Heap
 A:Around
 N:List Str
 s₀:Shared
 H₀:Hp
 env:Env
 outer:List Env
 stack:List Env
 ex:List Addr
 fn:Str→Bool
 calm:Bool
 pn:List (Addr × Obj)
 xe:Value→Shared→Prop
def frs (l:List Env):List Addr:=l.filterMap (·.frame)
abbrev Cx.fs (X:Cx):List Addr:=frs X.outer
def Vis (sc:Scope) (x:Str):Prop:=sc.names.lookup x = some .local ∨ sc.names.lookup x = some .cell ∨ sc.names.lookup x = some .free
def Loc (sc:Scope) (x:Str):Prop:=sc.names.lookup x = some .local ∨ sc.names.lookup x = some .cell
def Zfe (env:Env) (h:Heap) (m:Str→Option Value) (x:Str) (u:Value):Prop :=
 (env.kindOf x = some .local∧m x = some u) ∨ ((env.kindOf x = some .cell ∨ env.kindOf x = some .free)∧∃ c,env.cells.lookup x = some c∧h.IsCell c (some u))
structure Cx.Ok (X:Cx):Prop where
 mod:Mod X.K X.mg X.base
 kind:X.env.scope.kind = .function
 glob:X.env.globals = mainGlobals
 blt:X.env.builtins = builtinsNs
 above:X.s₀.heap.objs.size ≤ X.env.locals
 inj:∀ x y c,X.env.cells.lookup x = some c→X.env.cells.lookup y = some c→x = y
 has:∀ x,(X.env.kindOf x = some .cell ∨ X.env.kindOf x = some .free)→∃ c,X.env.cells.lookup x = some c
 cab:∀ x c,X.fn x = true→X.env.cells.lookup x = some c→X.s₀.heap.objs.size ≤ c
 hd:X.calm = true→X.A.handled = none
 frames:X.A.frames = some X.stack
 stk:X.stack = X.outer ∨ (X.stack = X.env :: X.outer∧X.env.frame = some X.env.locals)
 exf:∀ b ∈ X.ex,b ≠ X.env.locals∧∀ x c,X.env.cells.lookup x = some c→c ≠ b
 bs:∀ b o,X.base.get? b = some o→X.s₀.heap.get? b = some o∧X.H₀ b = none
 bsz:X.base.objs.size ≤ X.s₀.heap.objs.size
 noex:∀ b o,X.base.get? b = some o→b ∉ X.ex
 exfs:∀ b ∈ X.ex,b ∉ X.fs
 funs:X.s₀.heap.FunFrames X.base X.outer
 frf:∀ b ∈ X.fs,X.H₀ b = none
structure Inv (X:Cx) (pins:List (Addr × Obj)) (σ:List (Option V)) (H:Hp) (s:Shared):Prop where
 ok:X.Ok
 os:s.os = X.s₀.os
 bare:AllBare s.gens
 base:Un X.fs X.ex X.H₀ H X.s₀.heap s.heap
 loc:∃ m,s.heap.Ns X.env.locals m∧∀ (i:Nat) (x:Str) (v:V),X.N[i]? = some x→σ[i]? = some (some v)→Vis X.env.scope x→∃ u,RelV v u∧Zfe X.env s.heap m x u
 cell:∀ x c,X.env.cells.lookup x = some c→∃ v,s.heap.IsCell c v
 free:H X.env.locals = none
 freeC:∀ x c,X.env.cells.lookup x = some c→H c = none
 pin:∀ p ∈ X.pn ++ pins,s.heap.get? p.1 = some p.2∧H p.1 = none∧p.1 ≠ X.env.locals∧p.1 ∉ X.fs∧∀ v,p.2.data ≠ .cell v
 hok:HOk X.prog X.w H s.heap
 len:σ.length = X.N.length
section
variable {X:Cx} {pins:List (Addr × Obj)} {σ:List (Option V)} {H H':Hp} {s:Shared} {h':Heap}
theorem Cx.Ok.nofr (ok:X.Ok) {b:Addr} {o:Obj} (e:X.base.get? b = some o):b ∉ X.fs:=fun hb=>by
 have:=(ok.funs.mem hb).1
 rw [e] at this; cases this
theorem Inv.bs (I:Inv X pins σ H s):∀ b o,X.base.get? b = some o→s.heap.get? b = some o∧H b = none:=fun b o e =>
 ⟨I.base.keep b o (I.ok.bs b o e).1 (I.ok.bs b o e).2 (I.ok.nofr e) (I.ok.noex b o e),I.base.free b o (I.ok.bs b o e).1 (I.ok.bs b o e).2 (I.ok.noex b o e)⟩
theorem Inv.bk (I:Inv X pins σ H s):∀ b o,X.base.get? b = some o→s.heap.get? b = some o:=fun b o e=>(I.bs b o e).1
theorem Inv.mod (I:Inv X pins σ H s):Mod X.K X.mg X.base:=I.ok.mod
theorem Inv.kIn (I:Inv X pins σ H s):X.K.In s.heap:=I.ok.mod.kin.keeps I.bk
theorem Inv.lt (I:Inv X pins σ H s):X.env.locals < s.heap.objs.size:=let ⟨_,hn,_⟩:=I.loc; hn.lt
theorem Inv.sz (I:Inv X pins σ H s):X.s₀.heap.objs.size ≤ s.heap.objs.size:=Nat.le_trans I.ok.above (Nat.le_of_lt I.lt)
theorem Inv.nofs (I:Inv X pins σ H s) {a:Addr} (h:s.heap.objs.size ≤ a):a ∉ X.fs:=fun hb=>by
 obtain ⟨_,o,ho,_⟩:=I.ok.funs.mem hb
 exact absurd (Nat.lt_of_lt_of_le (Heap.lt_size ho) (Nat.le_trans I.sz h)) (Nat.lt_irrefl _)
theorem Inv.cne (I:Inv X pins σ H s):∀ x c,X.env.cells.lookup x = some c→c ≠ X.env.locals:=fun x c e z=>by
 obtain ⟨v,o,ho,hd⟩:=I.cell x c e
 obtain ⟨m,⟨o',es,ep,ho',hd',_⟩,_⟩:=I.loc
 rw [z,ho'] at ho; cases ho; rw [hd'] at hd; cases hd
theorem Inv.funs (I:Inv X pins σ H s):s.heap.FunFrames X.base X.outer:=by
 have all:∀ (l:List Env),(∀ b ∈ frs l,b ∈ X.fs)→X.s₀.heap.FunFrames X.base l→s.heap.FunFrames X.base l:=by
  intro l
  induction l with
  | nil=>intro _ _; trivial
  | cons env r ih =>
   intro hs hl
   obtain ⟨hk,⟨L,o,hf,hn,ho,hd⟩,hr⟩:=hl
   have hL:L ∈ X.fs:=hs L (by unfold frs; rw [List.filterMap_cons,hf]; exact List.mem_cons_self)
   obtain ⟨sl,e⟩:=I.base.slot L o ho (I.ok.frf L hL) hL fun z=>I.ok.exfs L z hL
   exact ⟨hk,⟨L,_,hf,hn,e,hd⟩,ih (fun b hb=>hs b (by unfold frs; rw [List.filterMap_cons,hf]; exact List.mem_cons_of_mem _ hb)) hr⟩
 exact all X.outer (fun _ hb=>hb) I.ok.funs
theorem Inv.stack (I:Inv X pins σ H s):s.heap.FunFrames X.base X.stack:=by
 rcases I.ok.stk with e | ⟨e,hf⟩
 ·rw [e]; exact I.funs
 ·rw [e]
  obtain ⟨m,hn,_⟩:=I.loc
  refine .cons (by rw [I.ok.kind]; decide) hf hn ?_ I.funs
  exact Heap.get?_none_of_le (Nat.le_trans I.ok.bsz I.ok.above)
theorem Inv.stkSub (I:Inv X pins σ H s):∀ b ∈ frs X.stack,b ∈ X.env.locals :: X.fs:=fun b hb=>by
 rcases I.ok.stk with e | ⟨e,hf⟩
 ·rw [e] at hb; exact List.mem_cons_of_mem _ hb
 ·rw [e] at hb
  unfold frs at hb
  rw [List.filterMap_cons,hf] at hb
  exact hb
theorem Inv.stkFree (I:Inv X pins σ H s):∀ b ∈ frs X.stack,H b = none:=fun b hb=>by
 rcases List.mem_cons.mp (I.stkSub b hb) with e | hb
 ·rw [e]; exact I.free
 ·obtain ⟨_,o,ho,_⟩:=I.ok.funs.mem hb
  exact I.base.free b o ho (I.ok.frf b hb) fun z=>I.ok.exfs b z hb
theorem Inv.step {g':Array GenState} {t':Nat} {d':Drawn} {ch:List Addr} (I:Inv X pins σ H s)
  (hch:∀ b ∈ ch,(b ∈ X.ex ∨ X.s₀.heap.objs.size ≤ b)∧b ≠ X.env.locals∧(∀ x c,X.env.cells.lookup x = some c→c ≠ b)∧∀ p ∈ X.pn ++ pins,p.1 ≠ b)
  (keep:∀ b o,b ≠ X.env.locals→b ∉ X.fs→b ∉ ch→s.heap.get? b = some o→H b = none→h'.get? b = some o)
  (slot:∀ b o,b ≠ X.env.locals→b ∈ X.fs→b ∉ ch→s.heap.get? b = some o→H b = none→∃ sl,h'.get? b = some { o with slots:=sl }) (free:∀ b o,b ∉ ch→s.heap.get? b = some o→H b = none→H' b = none)
  (there:∀ b o,b ∉ ch→s.heap.get? b = some o→∃ o',h'.get? b = some o')
  (tups:∀ b xs,H b = some (.tup xs)→H' b = some (.tup xs)) (frzs:∀ b o u,H b = some (.frz o u)→H' b = some (.frz o u)) (tbls:∀ b ps,H b = some (.tbl ps)→∃ more,H' b = some (.tbl (ps ++ more)))
  (ns:∀ m,s.heap.Ns X.env.locals m→h'.Ns X.env.locals m) (hok:HOk X.prog X.w H' h') (hg:AllBare g') :
  Inv X pins σ H' { s with heap:=h',gens:=g',drawn:=d',toks:=t' }:=by
 have neL:∀ b o,X.s₀.heap.get? b = some o→b ≠ X.env.locals:=fun b o e=>Nat.ne_of_lt (Nat.lt_of_lt_of_le (Heap.lt_size e) I.ok.above)
 have neC:∀ b o,X.s₀.heap.get? b = some o→b ∉ X.ex→b ∉ ch:=fun b o e hx hb=>by
  rcases (hch b hb).1 with z | z
  ·exact hx z
  ·exact absurd (Nat.lt_of_lt_of_le (Heap.lt_size e) z) (Nat.lt_irrefl _)
 have cellK:∀ x c,X.env.cells.lookup x = some c→∀ v,s.heap.IsCell c v→h'.IsCell c v:=fun x c e v ⟨o,ho,hd⟩=>by
  have nch:c ∉ ch:=fun z=>(hch c z).2.2.1 x c e rfl
  by_cases hc:c ∈ X.fs
  ·obtain ⟨sl,q⟩:=slot c o (I.cne x c e) hc nch ho (I.freeC x c e)
   exact ⟨_,q,hd⟩
  ·exact ⟨o,keep c o (I.cne x c e) hc nch ho (I.freeC x c e),hd⟩
 refine ⟨I.ok,I.os,hg,⟨fun b o e n hb hx=>?_,fun b o e n hb hx=>?_,fun b o e n hx=>?_,fun b o e hx=>?_,fun b xs e=>tups b xs (I.base.tups b xs e),fun b o xs e=>frzs b o xs (I.base.frzs b o xs e),fun b ps e=>?_⟩,?_,fun x c e=>?_,?_,fun x c e=>?_,fun p hp=>?_,hok,I.len⟩
 ·exact keep b o (neL b o e) hb (neC b o e hx) (I.base.keep b o e n hb hx) (I.base.free b o e n hx)
 ·obtain ⟨sl,e1⟩:=I.base.slot b o e n hb hx
  obtain ⟨sl',e2⟩:=slot b _ (neL b o e) hb (neC b o e hx) e1 (I.base.free b o e n hx)
  exact ⟨sl',e2⟩
 ·obtain ⟨o',e1⟩:=I.base.there b o e hx
  exact free b o' (neC b o e hx) e1 (I.base.free b o e n hx)
 ·obtain ⟨o',e1⟩:=I.base.there b o e hx
  exact there b o' (neC b o e hx) e1
 ·obtain ⟨m1,e1⟩:=I.base.tbls b ps e
  obtain ⟨m2,e2⟩:=tbls b _ e1
  exact ⟨m1 ++ m2,by rw [e2,Array.append_assoc]⟩
 ·obtain ⟨m,hn,hl⟩:=I.loc
  refine ⟨m,ns m hn,fun i x v e1 e2 e3=>?_⟩
  obtain ⟨u,r,l⟩:=hl i x v e1 e2 e3
  refine ⟨u,r,?_⟩
  rcases l with l | ⟨k,c,e,z⟩
  ·exact .inl l
  ·exact .inr ⟨k,c,e,cellK x c e _ z⟩
 ·obtain ⟨v,z⟩:=I.cell x c e
  exact ⟨v,cellK x c e v z⟩
 ·obtain ⟨m,⟨o,_,_,ho,_⟩,_⟩:=I.loc
  exact free _ o (fun z=>(hch _ z).2.1 rfl) ho I.free
 ·obtain ⟨v,o,ho,hd⟩:=I.cell x c e
  exact free c o (fun z=>(hch c z).2.2.1 x c e rfl) ho (I.freeC x c e)
 ·obtain ⟨e,n,ne,nf,d⟩:=I.pin p hp
  have nch:p.1 ∉ ch:=fun z=>(hch p.1 z).2.2.2 p hp rfl
  exact ⟨keep p.1 p.2 ne nf nch e n,free p.1 p.2 nch e n,ne,nf,d⟩
theorem Inv.un {t':Nat} (I:Inv X pins σ H s) (u:Un X.fs [] H H' s.heap h') (hok:HOk X.prog X.w H' h'):Inv X pins σ H' { s with heap:=h',toks:=t' }:=by
 obtain ⟨m,⟨o,es,ep,ho,r⟩,_⟩:=id I.loc
 obtain ⟨sl,hL⟩:=u.any ho I.free (by simp)
 exact I.step (g':=s.gens) (d':=s.drawn) (ch:=[]) (fun _ z=>nomatch z) (fun b o _ hb _ e n=>u.keep b o e n hb (by simp)) (fun b o _ hb _ e n=>u.slot b o e n hb (by simp)) (fun b o _ e n=>u.free b o e n (by simp)) (fun b o _ e=>u.there b o e (by simp)) u.tups u.frzs u.tbls (fun m' hm=>by
  obtain ⟨o',es',ep',ho',r'⟩:=hm
  rw [ho] at ho'; cases ho'
  exact ⟨_,es',ep',hL,r'⟩) hok I.bare
theorem Inv.call {g':Array GenState} {t':Nat} {d':Drawn} {ch:List Addr} (I:Inv X pins σ H s) (u:Un (frs X.stack) ch H H' s.heap h') (hok:HOk X.prog X.w H' h') (hg:AllBare g')
  (hch:∀ b ∈ ch,(b ∈ X.ex ∨ X.s₀.heap.objs.size ≤ b)∧b ≠ X.env.locals∧(∀ x c,X.env.cells.lookup x = some c→c ≠ b)∧∀ p ∈ X.pn ++ pins,p.1 ≠ b) :
  Inv X pins σ H' { s with heap:=h',gens:=g',drawn:=d',toks:=t' }:=by
 obtain ⟨m,⟨o,es,ep,ho,r⟩,_⟩:=id I.loc
 obtain ⟨sl,hL⟩:=u.any ho I.free fun z=>(hch _ z).2.1 rfl
 exact I.step (ch:=ch) hch (fun b o hL hb hc e n=>u.keep b o e n (fun z=>(List.mem_cons.mp (I.stkSub b z)).elim hL hb) hc) (fun b o _ _ hc e n=>u.any e n hc) (fun b o hc e n=>u.free b o e n hc) (fun b o hc e=>u.there b o e hc) u.tups u.frzs u.tbls (fun m' hm=>by
  obtain ⟨o',es',ep',ho',r'⟩:=hm
  rw [ho] at ho'; cases ho'
  exact ⟨_,es',ep',hL,r'⟩) hok hg
theorem Inv.turned {t':Nat} {it:Addr} (I:Inv X pins σ H s) (k:∀ b o,b ≠ it→s.heap.get? b = some o→h'.get? b = some o) (hn:H it = none) (hL:it ≠ X.env.locals)
  (h1:it ∈ X.ex ∨ X.s₀.heap.objs.size ≤ it) (h2:∀ x c,X.env.cells.lookup x = some c→c ≠ it) (h3:∀ p ∈ X.pn ++ pins,p.1 ≠ it):Inv X pins σ H { s with heap:=h',toks:=t' }:=by
 have nit:∀ b u,H b = some u→b ≠ it:=fun b u e z=>by rw [z,hn] at e; cases e
 refine I.step (g':=s.gens) (d':=s.drawn) (ch:=[it]) (fun b hb=>?_) (fun b o _ _ hc e _=>k b o (fun z=>hc (by simp [z])) e) (fun b o _ _ hc e _=>⟨o.slots,k b o (fun z=>hc (by simp [z])) e⟩) (fun _ _ _ _ n=>n)
  (fun b o hc e=>⟨o,k b o (fun z=>hc (by simp [z])) e⟩) (fun _ _ e=>e) (fun _ _ _ e=>e) (fun b ps e=>⟨#[],by rw [e]; simp⟩) (fun m hm=>?_) (fun b u e=>?_) I.bare
 ·have e:b = it:=by simpa using hb
  subst e
  exact ⟨h1,hL,h2,h3⟩
 ·obtain ⟨o,es,ep,ho,r⟩:=hm
  exact ⟨o,es,ep,k _ o (Ne.symm hL) ho,r⟩
 ·refine (I.hok b u e).stay (fun c v hc q=>k c v ?_ q) (fun _ q=>q) fun _ _ q=>q
  rcases hc with z | z
  ·rw [z]; exact nit b u e
  ·exact nit c _ z
theorem Inv.tok (I:Inv X pins σ H s) (t:Nat):Inv X pins σ H { s with toks:=t }:=I.un (h':=s.heap) (t':=t) Un.refl I.hok
theorem Inv.kept {t':Nat} (I:Inv X pins σ H s) (k:∀ b u,s.heap.get? b = some u→h'.get? b = some u):Inv X pins σ H { s with heap:=h',toks:=t' }:=I.un (Un.kept k) (I.hok.kept k)
theorem Inv.laid {a:Addr} {o:HO} {t':Nat} (I:Inv X pins σ H s) (k:∀ b u,s.heap.get? b = some u→h'.get? b = some u) (hp:s.heap.objs.size ≤ a) (new:ObjOk X.prog X.w (upd H a o) h' a o) :
  Inv X pins σ (upd H a o) { s with heap:=h',toks:=t' }:=I.un (Un.laid k hp (I.hok.fresh hp)) (I.hok.laid k hp new)
theorem Inv.write {x e:Addr} {o:HO} {t':Nat} (I:Inv X pins σ H s) (mu:Mut (H x)) (he:e = x ∨ H e = some (.own x)) (k:∀ b u,b ≠ e→s.heap.get? b = some u→h'.get? b = some u) (heo:∃ u,h'.get? e = some u)
  (new:ObjOk X.prog X.w (upd H x o) h' x o):Inv X pins σ (upd H x o) { s with heap:=h',toks:=t' }:=I.un (Un.write mu he k heo) (I.hok.write mu he k heo new)
theorem Inv.pins_of {pins':List (Addr × Obj)} (I:Inv X pins σ H s) (h:∀ p ∈ pins',s.heap.get? p.1 = some p.2∧H p.1 = none∧p.1 ≠ X.env.locals∧p.1 ∉ X.fs∧∀ v,p.2.data ≠ .cell v):Inv X pins' σ H s :=
 ⟨I.ok,I.os,I.bare,I.base,I.loc,I.cell,I.free,I.freeC,fun p hp=>(List.mem_append.mp hp).elim (fun z=>I.pin p (List.mem_append_left _ z)) (h p),I.hok,I.len⟩
theorem Z2j {N:List Str} (hN:N.Nodup) {i j:Nat} {x:Str} (a:N[i]? = some x) (b:N[j]? = some x):i = j:=by
 obtain ⟨h1,e1⟩:=List.getElem?_eq_some_iff.mp a
 obtain ⟨h2,e2⟩:=List.getElem?_eq_some_iff.mp b
 exact (List.getElem_inj hN).mp (e1.trans e2.symm)
theorem Jp {M:Model} {A:Around} {E:Value→Shared→Prop} {i:Nat} {x:Str} {v:V} {u:Value} {Q:Unit→Shared→Prop} (I:Inv X pins σ H s) (hN:X.N.Nodup) (hi:X.N[i]? = some x) (hx:Loc X.env.scope x) (r:RelV v u)
  (h:∀ s',Inv X pins (σ.set i (some v)) H s'→(∃ a,Heap.SameBut a s.heap s'.heap∧(a = X.env.locals ∨ X.env.cells.lookup x = some a))→Q () s') (hf:X.fn x = true ∨ X.env.scope.names.lookup x = some .local:=by first | exact .inl rfl | exact .inr rfl | assumption):wpAny M A (storeName X.env x u) Q E s:=by
 obtain ⟨m,hn,hl⟩:=id I.loc
 have hcls:(X.env.scope.kind == .class || (X.env.scope.kind == .module && X.env.locals != X.env.globals)) = false:=by rw [I.ok.kind]; rfl
 have hiσ:i < σ.length:=by rw [I.len]; exact (List.getElem?_eq_some_iff.mp hi).1
 have cne:=I.cne
 have tracked:∀ {a:Addr} {h':Heap},(∃ o,s.heap.get? a = some o∧H a = none)→Heap.SameBut a s.heap h'→HOk X.prog X.w H h':=fun {a h'} ha hs b ob e=>by
  obtain ⟨_,_,hfree⟩:=ha
  refine (I.hok b ob e).stay (fun c w' hc q=>(hs.2 c ?_).trans q) (fun _ q=>q) fun _ _ q=>q
  rintro rfl
  rcases hc with rfl | hc
  ·rw [hfree] at e; cases e
  ·rw [hfree] at hc; cases hc
 rcases hx with hk | hk
 ·refine wpAny_storeName_local hk hn (fun h' hn' hs=>?_) hcls
  obtain ⟨oL,_,_,hoL,_⟩:=id hn
  refine h _ ⟨I.ok,I.os,I.bare,⟨fun b o e n hb hx=>?_,fun b o e n hb hx=>?_,I.base.free,fun b o e hx=>?_,I.base.tups,I.base.frzs,I.base.tbls⟩,⟨_,hn',fun j y v' e1 e2 e3=>?_⟩,fun y c e=>?_,I.free,I.freeC,fun p hp=>?_,tracked ⟨oL,hoL,I.free⟩ hs,by simpa using I.len⟩ ⟨_,hs,.inl rfl⟩
  ·exact (hs.2 b (Nat.ne_of_lt (Nat.lt_of_lt_of_le (Heap.lt_size e) I.ok.above))).trans (I.base.keep b o e n hb hx)
  ·obtain ⟨sl,e1⟩:=I.base.slot b o e n hb hx
   exact ⟨sl,(hs.2 b (Nat.ne_of_lt (Nat.lt_of_lt_of_le (Heap.lt_size e) I.ok.above))).trans e1⟩
  ·obtain ⟨o',e1⟩:=I.base.there b o e hx
   exact ⟨o',(hs.2 b (Nat.ne_of_lt (Nat.lt_of_lt_of_le (Heap.lt_size e) I.ok.above))).trans e1⟩
  ·by_cases hj:j = i
   ·subst hj
    rw [hi] at e1; cases e1
    rw [List.getElem?_set_self hiσ] at e2
    cases e2
    exact ⟨u,r,.inl ⟨hk,by simp⟩⟩
   ·rw [List.getElem?_set_ne (Ne.symm hj)] at e2
    obtain ⟨u',r',q⟩:=hl j y v' e1 e2 e3
    refine ⟨u',r',?_⟩
    rcases q with ⟨k,e⟩ | ⟨k,c,e,z⟩
    ·refine .inl ⟨k,?_⟩
     have:y ≠ x:=fun e=>hj (Z2j hN e1 (e ▸ hi))
     simp [this,e]
    ·exact .inr ⟨k,c,e,z.sameBut hs (cne y c e)⟩
  ·obtain ⟨w',z⟩:=I.cell y c e
   exact ⟨w',z.sameBut hs (cne y c e)⟩
  ·obtain ⟨e,n,ne,nf,d⟩:=I.pin p hp
   exact ⟨(hs.2 p.1 ne).trans e,n,ne,nf,d⟩
 ·have hfn:X.fn x = true:=by
   rcases hf with z | z
   ·exact z
   ·rw [z] at hk; cases hk
  obtain ⟨c,hc⟩:=I.ok.has x (.inl hk)
  obtain ⟨w',z⟩:=I.cell x c hc
  refine wpAny_storeName_cell I.ok.kind hk hc z (fun h' hc' hs=>?_)
  obtain ⟨oc,hoc,hocd⟩:=id z
  refine h { s with heap:=h' } ⟨I.ok,I.os,I.bare,⟨fun b o e n hb hx=>?_,fun b o e n hb hx=>?_,I.base.free,fun b o e hx=>?_,I.base.tups,I.base.frzs,I.base.tbls⟩,⟨m,hn.sameBut hs (Ne.symm (cne x c hc)),fun j y v' e1 e2 e3=>?_⟩,fun y c' e=>?_,I.free,I.freeC,fun p hp=>?_,tracked ⟨oc,hoc,I.freeC x c hc⟩ hs,by simpa using I.len⟩ ⟨c,hs,.inr hc⟩
  ·exact (hs.2 b (Nat.ne_of_lt (Nat.lt_of_lt_of_le (Heap.lt_size e) (I.ok.cab x c hfn hc)))).trans (I.base.keep b o e n hb hx)
  ·obtain ⟨sl,e1⟩:=I.base.slot b o e n hb hx
   exact ⟨sl,(hs.2 b (Nat.ne_of_lt (Nat.lt_of_lt_of_le (Heap.lt_size e) (I.ok.cab x c hfn hc)))).trans e1⟩
  ·obtain ⟨o',e1⟩:=I.base.there b o e hx
   exact ⟨o',(hs.2 b (Nat.ne_of_lt (Nat.lt_of_lt_of_le (Heap.lt_size e) (I.ok.cab x c hfn hc)))).trans e1⟩
  ·by_cases hj:j = i
   ·subst hj
    rw [hi] at e1; cases e1
    rw [List.getElem?_set_self hiσ] at e2
    cases e2
    exact ⟨u,r,.inr ⟨.inl hk,c,hc,hc'⟩⟩
   ·rw [List.getElem?_set_ne (Ne.symm hj)] at e2
    obtain ⟨u',r',q⟩:=hl j y v' e1 e2 e3
    refine ⟨u',r',?_⟩
    rcases q with q | ⟨k,c',e,z'⟩
    ·exact .inl q
    ·refine .inr ⟨k,c',e,z'.sameBut hs ?_⟩
     rintro rfl
     exact hj (Z2j hN e1 (I.ok.inj _ _ _ e hc ▸ hi))
  ·by_cases hcc:c' = c
   ·subst hcc; exact ⟨_,hc'⟩
   ·obtain ⟨w2,z2⟩:=I.cell y c' e
    exact ⟨w2,z2.sameBut hs hcc⟩
  ·obtain ⟨e,n,ne,nf,d⟩:=I.pin p hp
   refine ⟨(hs.2 p.1 ?_).trans e,n,ne,nf,d⟩
   intro q
   rw [q,hoc] at e
   have q':oc = p.2:=Option.some.inj e
   exact d w' (by rw [← q']; exact hocd)
theorem Z1w {M:Model} {A:Around} {E:Value→Shared→Prop} {i:Nat} {x:Str} {v:V} {u:Value} {Q:Unit→Shared→Prop} (I:Inv X pins σ H s) (hN:X.N.Nodup) (hi:X.N[i]? = some x) (hx:Loc X.env.scope x) (r:RelV v u)
  (h:∀ s',Inv X pins (σ.set i (some v)) H s'→Q () s') (hf:X.fn x = true ∨ X.env.scope.names.lookup x = some .local:=by first | exact .inl rfl | exact .inr rfl | assumption):wpAny M A (storeName X.env x u) Q E s :=
 Jp I hN hi hx r (fun s' I' _=>h s' I') hf
theorem Inv.call' {s':Shared} {ch:List Addr} (I:Inv X pins σ H s) (ho:s'.os = s.os) (u:Un (frs X.stack) ch H H' s.heap s'.heap) (hok:HOk X.prog X.w H' s'.heap) (hg:AllBare s'.gens)
  (hch:∀ b ∈ ch,(b ∈ X.ex ∨ X.s₀.heap.objs.size ≤ b)∧b ≠ X.env.locals∧(∀ x c,X.env.cells.lookup x = some c→c ≠ b)∧∀ p ∈ X.pn ++ pins,p.1 ≠ b):Inv X pins σ H' s':=by
 obtain ⟨h',g',d',t',o'⟩:=s'
 have e:o' = s.os:=ho
 subst e
 exact I.call (g':=g') (t':=t') (d':=d') u hok hg hch
end
abbrev XK:=Value→Option Addr→Hp→Prop
abbrev St:=List (Option V)
abbrev VK:=V→Hp→Prop
abbrev TE:=St→Hp→VK→Prop
abbrev TT:=St→Hp→(Bool→Hp→Prop)→Prop
abbrev TA:=St→Hp→(List V→Hp→Prop)→Prop
structure Ends where
 nx:St→Hp→Prop
 rt:VK
 bk:St→Hp→Prop:=fun _ _=>False
 ct:St→Hp→Prop:=fun _ _=>False
abbrev TS:=Ends→St→Hp→Prop
def EP (X:Cx) (pins:List (Addr × Obj)) (σ:St) (Q:VK) (u:Value) (s':Shared):Prop:=∃ v H',Inv X pins σ H' s'∧RelV v u∧Q v H'
def TP (X:Cx) (pins:List (Addr × Obj)) (σ:St) (Q:Bool→Hp→Prop) (b:Bool) (s':Shared):Prop:=∃ H',Inv X pins σ H' s'∧Q b H'
def AP (X:Cx) (pins:List (Addr × Obj)) (σ:St) (Q:List V→Hp→Prop) (us:List Value) (s':Shared):Prop:=∃ vs H',Inv X pins σ H' s'∧Vals vs us∧Q vs H'
def SP (X:Cx) (pins:List (Addr × Obj)) (D:Ends) (f:Flow) (s':Shared):Prop :=
 match f with
 | .next=>∃ σ' H',Inv X pins σ' H' s'∧D.nx σ' H'
 | .brk=>∃ σ' H',Inv X pins σ' H' s'∧D.bk σ' H'
 | .cont=>∃ σ' H',Inv X pins σ' H' s'∧D.ct σ' H'
 | .ret u=>∃ v σ' H',Inv X pins σ' H' s'∧RelV v u∧D.rt v H'
def PE (X:Cx) (e:Expr) (t:TE):Prop :=
 ∀ (pins:List (Addr × Obj)) (s:Shared) (σ:St) (H:Hp) (Q:VK),Inv X pins σ H s→t σ H Q→wpAny (model X.prog X.w) X.A (eval e X.env) (EP X pins σ Q) X.xe s
def PT (X:Cx) (e:Expr) (t:TT):Prop :=
 ∀ (pins:List (Addr × Obj)) (s:Shared) (σ:St) (H:Hp) (Q:Bool→Hp→Prop),Inv X pins σ H s→t σ H Q→wpAny (model X.prog X.w) X.A (isTrue e X.env (eval e X.env)) (TP X pins σ Q) X.xe s
def PW (X:Cx) (e:Expr) (t:TT):Prop :=
 ∀ (whole:Sem Value) (pins:List (Addr × Obj)) (s:Shared) (σ:St) (H:Hp) (Q:Bool→Hp→Prop),Inv X pins σ H s→t σ H Q→wpAny (model X.prog X.w) X.A (isTrue e X.env whole) (TP X pins σ Q) X.xe s
theorem PW.pt {X:Cx} {e:Expr} {t:TT} (h:PW X e t):PT X e t:=h _
def PA (X:Cx) (es:List Expr) (t:TA):Prop :=
 ∀ (pos:Pos) (pins:List (Addr × Obj)) (s:Shared) (σ:St) (H:Hp) (Q:List V→Hp→Prop),Inv X pins σ H s→t σ H Q→wpAny (model X.prog X.w) X.A (spliced (backTo pos (starEach es X.env))) (AP X pins σ Q) X.xe s
def PS (X:Cx) (st:Stmt) (t:TS):Prop :=
 ∀ (pins:List (Addr × Obj)) (s:Shared) (σ:St) (H:Hp) (D:Ends),Inv X pins σ H s→t D σ H→wpAny (model X.prog X.w) X.A (exec st X.env) (SP X pins D) X.xe s
def PSs (X:Cx) (st:List Stmt) (t:TS):Prop :=
 ∀ (pins:List (Addr × Obj)) (s:Shared) (σ:St) (H:Hp) (D:Ends),Inv X pins σ H s→t D σ H→wpAny (model X.prog X.w) X.A (execs st X.env) (SP X pins D) X.xe s
theorem thn {α:Type} {t:Sem α} {Q Q':α→Shared→Prop} {M:Model} {A:Around} {E:Value→Shared→Prop} {s:Shared} (h:wpAny M A t Q E s) (hQ:∀ a s,Q a s→Q' a s):wpAny M A t Q' E s:=wpAny_mono h hQ fun _ _ x=>x
section
variable {X:Cx}
theorem bin {a b:Expr} {ta tb:TE} (ha:PE X a ta) (hb:PE X b tb) {pins:List (Addr × Obj)} {s:Shared} {σ:St} {H:Hp} {R:V→V→Hp→Prop} (I:Inv X pins σ H s) (h:ta σ H fun x H1=>tb σ H1 fun y H2=>R x y H2)
  {α:Type} {Q:α→Shared→Prop} {f:Value→Value→Sem α}
  (hf:∀ v u s2 x y H2,Inv X pins σ H2 s2→RelV x v→RelV y u→R x y H2→wpAny (model X.prog X.w) X.A (f v u) Q X.xe s2) :
  wpAny (model X.prog X.w) X.A (eval a X.env) (fun v s₁=>wpAny (model X.prog X.w) X.A (eval b X.env) (fun u s₂=>wpAny (model X.prog X.w) X.A (f v u) Q X.xe s₂) X.xe s₁) X.xe s:=by
 refine thn (ha pins s σ H _ I h) fun v s1 ⟨x,H1,I1,r1,q1⟩=>?_
 refine thn (hb pins s1 σ H1 _ I1 q1) fun u s2 ⟨y,H2,I2,r2,q2⟩=>?_
 exact hf v u s2 x y H2 I2 r1 r2 q2
def V9 (i:Nat):TE:=fun σ H Q=>∃ v,σ[i]? = some (some v)∧Q v H
def tC (v:V):TE:=fun _ H Q=>Q v H
theorem Zc3 {i:Nat} {x:Str} {pos:Pos} (hN:X.N[i]? = some x) (hv:Vis X.env.scope x) (hd:(x == ("__debug__":Str)) = false:=by decide) (hcd:(x == ("__classdict__":Str)) = false:=by decide):PE X (.Name x pos) (V9 i):=by
 intro pins s σ H Q I h
 obtain ⟨v,e,h⟩:=h
 obtain ⟨m,hn,hl⟩:=I.loc
 obtain ⟨u,r,l⟩:=hl i x v hN e hv
 have fin:EP X pins σ Q u s:=⟨v,H,I,r,h⟩
 rcases l with ⟨hk,hm⟩ | ⟨hk,c,hc,hcell⟩
 ·exact wpAny_Name (wpAny_loadName_local I.ok.kind hk hn hm fin) hd
 ·rcases hk with hk | hk
  ·exact wpAny_Name (wpAny_loadName_cell I.ok.kind hk hc hcell fin) hd
  ·exact wpAny_Name (wpAny_loadName_free I.ok.kind hk hc hcell fin hcd) hd
theorem Z2 {i j pos}:PE X (.Constant (.int i) j pos) (tC (.int i)):=fun _ _ _ H _ I h=>wpAny_Constant_int ⟨.int i,H,I.tok _,⟨_,rfl⟩,h⟩
theorem Wt {b j pos}:PE X (.Constant (.bool b) j pos) (tC (.bl b)):=fun _ _ _ H _ I h=>Constant_bool ⟨.bl b,H,I,rfl,h⟩
theorem Uk {j pos}:PE X (.Constant .none j pos) (tC .non):=fun _ _ _ H _ I h=>Constant_none ⟨.non,H,I,rfl,h⟩
theorem Ze {x j pos}:PE X (.Constant (.str x) j pos) (tC (.str x)):=fun _ _ _ H _ I h=>Calls.Constant_str ⟨.str x,H,I.tok _,⟨_,rfl⟩,h⟩
def Gl (X:Cx) (x:Str):Prop:=X.env.kindOf x = some .globalImplicit
theorem Z1m {E:Value→Shared→Prop} {pins:List (Addr × Obj)} {s:Shared} {σ:St} {H:Hp} {x:Str} {u:Value} {pos:Pos} {Q:Value→Shared→Prop} (I:Inv X pins σ H s) (hg:Gl X x) (hm:X.mg x = some u) (h:Q u s)
  (hd:(x == ("__debug__":Str)) = false:=by decide):wpAny (model X.prog X.w) X.A (eval (.Name x pos) X.env) Q E s :=
 Calls.Name_function_global I.ok.kind hg (Calls.loadGlobal_global (by rw [I.ok.glob]; exact I.mod.glob.keeps I.bk) hm h) hd
theorem Z0h {E:Value→Shared→Prop} {pins:List (Addr × Obj)} {s:Shared} {σ:St} {H:Hp} {x:Str} {u:Value} {pos:Pos} {Q:Value→Shared→Prop} (I:Inv X pins σ H s) (hg:Gl X x) (hm:X.mg x = none) (hv:bootBuiltins x = some u) (h:Q u s)
  (hn:x ≠ "__name__":=by decide) (hd:(x == ("__debug__":Str)) = false:=by decide):wpAny (model X.prog X.w) X.A (eval (.Name x pos) X.env) Q E s:=by
 obtain ⟨mb,h1,h2⟩:=I.mod.blt
 exact Calls.Name_function_global I.ok.kind hg (Calls.loadGlobal_builtin (by rw [I.ok.glob]; exact I.mod.glob.keeps I.bk) hm (by rw [I.ok.blt]; exact h1.keeps I.bk) ((h2 x hn).trans hv) h) hd
theorem Vq {x:Str} {v:V} {u:Value} {pos:Pos} (hg:Gl X x) (hm:X.mg x = some u) (r:RelV v u) (hd:(x == ("__debug__":Str)) = false:=by decide):PE X (.Name x pos) (tC v) :=
 fun _ _ _ H _ I h=>Z1m I hg hm ⟨v,H,I,r,h⟩ hd
theorem Xg {x:Str} {v:V} {u:Value} {pos:Pos} (hg:Gl X x) (hm:X.mg x = none) (hv:bootBuiltins x = some u) (r:RelV v u) (hn:x ≠ "__name__":=by decide) (hd:(x == ("__debug__":Str)) = false:=by decide):PE X (.Name x pos) (tC v) :=
 fun _ _ _ H _ I h=>Z0h I hg hm hv ⟨v,H,I,r,h⟩ hn hd
variable {a b:Expr} {ta tb:TE} {pos:Pos}
def PC (X:Cx) (op:CmpOp) (a b:Expr) (t:TE):Prop :=
 ∀ (pins:List (Addr × Obj)) (s:Shared) (σ:St) (H:Hp) (Q:VK),Inv X pins σ H s→t σ H Q →
  wpAny (model X.prog X.w) X.A (eval a X.env) (fun v s₁=>wpAny (model X.prog X.w) X.A (eval b X.env) (fun u s₂=>wpAny (model X.prog X.w) X.A (compareOp op v u) (EP X pins σ Q) X.xe s₂) X.xe s₁) X.xe s
theorem Z2l (b:Expr) {op:CmpOp} (h:op ≠ .In) (h2:op ≠ .NotIn):behindInMarks op b = false:=by
 have e1:(op == CmpOp.In) = false:=by cases op <;> first | rfl | exact absurd rfl h
 have e2:(op == CmpOp.NotIn) = false:=by cases op <;> first | rfl | exact absurd rfl h2
 cases b <;> simp [behindInMarks,e1,e2]
def Zeh (ta:TE):TE:=fun σ H Q=>ta σ H fun x H1=>Q (.bl (decide (x = .non))) H1
def Zdd (ta:TE):TE:=fun σ H Q=>ta σ H fun x H1=>Q (.bl (!decide (x = .non))) H1
theorem RelV.none_iff {x:V} {v:Value} (r:RelV x v):(v == Value.none) = decide (x = .non):=by
 cases x with
 | non=>cases r; rfl
 | bl _=>cases r; rfl
 | int _=>obtain ⟨t,rfl⟩:=r; rfl
 | str _=>obtain ⟨t,rfl⟩:=r; rfl
 | byt _=>obtain ⟨t,rfl⟩:=r; rfl
 | flt _=>obtain ⟨t,rfl⟩:=r; rfl
 | ref _=>cases r; rfl
 | ty _=>cases r; rfl
theorem Wf {j pos'} (ha:PE X a ta):PC X .Is a (.Constant .none j pos') (Zeh ta):=by
 intro pins s σ H Q I h
 refine thn (ha pins s σ H _ I h) fun v s1 ⟨x,H1,I1,r1,q1⟩=>?_
 exact Constant_none (is_none_gen ⟨.bl _,H1,I1,by rw [r1.none_iff]; rfl,q1⟩)
theorem Z53 {j pos'} (ha:PE X a ta):PC X .IsNot a (.Constant .none j pos') (Zdd ta):=by
 intro pins s σ H Q I h
 refine thn (ha pins s σ H _ I h) fun v s1 ⟨x,H1,I1,r1,q1⟩=>?_
 exact Constant_none (isnot_none_gen ⟨.bl _,H1,I1,by rw [r1.none_iff]; rfl,q1⟩)
def tB (t:TE):TT:=fun σ H Q=>t σ H fun x H1=>∃ c,x = .bl c∧Q c H1
theorem Z2e {op:CmpOp} {t:TE} (h:PC X op a b t) (h1:behindInMarks op b = false:=by first | exact Z2l _ (by decide) (by decide) | rfl):PE X (.Compare a [op] [b] pos) t:=fun pins s σ H Q I hw=>wpAny_Compare1 (h pins s σ H Q I hw) h1
theorem Ve {op:CmpOp} {t:TE} (h:PC X op a b t) (h1:behindInMarks op b = false:=by first | exact Z2l _ (by decide) (by decide) | rfl):PT X (.Compare a [op] [b] pos) (tB t):=by
 intro pins s σ H Q I hw
 refine wpAny_isTrue_Compare1 (thn (h pins s σ H _ I hw) fun v s1 h1=>thn h1 fun u s2 h2=>thn h2 fun c s3 ⟨x,H1,I1,r1,q1⟩=>?_) h1
 obtain ⟨d,rfl,q⟩:=q1
 cases r1
 exact wpAny_truthy_bool ⟨H1,I1,q⟩
theorem Yy {e:Expr} {t:TE} (h:PE X e t) (he:∀ whole,isTrue e X.env whole = (do let v ← whole; standAt e.pos; holding [v] (truthy v)):=by intro _; rfl):PT X e (tB t):=by
 intro pins s σ H Q I hw
 refine isTrue_plain (thn (h pins s σ H _ I hw) fun v s1 ⟨x,H1,I1,r1,q1⟩=>?_) (he _)
 obtain ⟨d,rfl,q⟩:=q1
 cases r1
 exact wpAny_truthy_bool ⟨H1,I1,q⟩
variable {tA tB':TT} {rest:List Expr}
def Zej (t u:TT):TT:=fun σ H Q=>t σ H fun c H1=>if c = true then u σ H1 Q else Q false H1
def tOr (t u:TT):TT:=fun σ H Q=>t σ H fun c H1=>if c = true then Q true H1 else u σ H1 Q
def Zes (t:TT):TT:=fun σ H Q=>t σ H fun c H1=>Q (!c) H1
theorem X2 (ha:PT X a tA):PW X (.BoolOp .And [a] pos) tA:=by
 intro wh pins s σ H Q I h
 refine isTrue_and (thn (ha pins s σ H Q I h) fun c s1 e=>?_)
 cases c with
 | true=>exact isTrue_and_nil e
 | false=>exact e
theorem Xe (ha:PT X a tA):PW X (.BoolOp .Or [a] pos) tA:=by
 intro wh pins s σ H Q I h
 refine isTrue_or (thn (ha pins s σ H Q I h) fun c s1 e=>?_)
 cases c with
 | false=>exact isTrue_or_nil e
 | true=>exact e
theorem Xp (ha:PT X a tA) (hb:PW X (.BoolOp .And (b :: rest) pos) tB'):PW X (.BoolOp .And (a :: b :: rest) pos) (Zej tA tB'):=by
 intro wh pins s σ H Q I h
 refine isTrue_and (thn (ha pins s σ H _ I h) fun c s1 ⟨H1,I1,q1⟩=>?_)
 cases c with
 | true=>exact hb wh pins s1 σ H1 Q I1 q1
 | false=>exact ⟨H1,I1,q1⟩
theorem Ws (ha:PT X a tA) (hb:PW X (.BoolOp .Or (b :: rest) pos) tB'):PW X (.BoolOp .Or (a :: b :: rest) pos) (tOr tA tB'):=by
 intro wh pins s σ H Q I h
 refine isTrue_or (thn (ha pins s σ H _ I h) fun c s1 ⟨H1,I1,q1⟩=>?_)
 cases c with
 | true=>exact ⟨H1,I1,q1⟩
 | false=>exact hb wh pins s1 σ H1 Q I1 q1
theorem Z2a (ha:PT X a tA):PT X (.UnaryOp .Not a pos) (Zes tA):=by
 intro pins s σ H Q I h
 exact isTrue_not (ha pins s σ H (fun c H1=>Q (!c) H1) I h)
def Zdh (ta tb:TE):TE:=fun σ H Q=>ta σ H fun x H1=>∃ c,x = .bl c∧if c = true then tb σ H1 Q else Q (.bl false) H1
def Zeg (ta tb:TE):TE:=fun σ H Q=>ta σ H fun x H1=>∃ c,x = .bl c∧if c = true then Q (.bl true) H1 else tb σ H1 Q
def Zdc (ta:TE):TE:=fun σ H Q=>ta σ H fun x H1=>∃ c,x = .bl c∧Q (.bl (!c)) H1
theorem Tg {op} {t:TE} (h:PE X a t):PE X (.BoolOp op [a] pos) t:=fun pins s σ H Q I hw=>BoolOp_one (h pins s σ H Q I hw)
theorem Z07 (ha:PE X a ta) (hb:PE X (.BoolOp .And (b :: rest) pos) tb):PE X (.BoolOp .And (a :: b :: rest) pos) (Zdh ta tb):=by
 intro pins s σ H Q I h
 refine BoolOp_and (thn (ha pins s σ H _ I h) fun v s1 ⟨x,H1,I1,r1,q1⟩=>?_)
 obtain ⟨c,rfl,q1⟩:=q1
 cases r1
 refine wpAny_truthy_bool ?_
 cases c with
 | true=>exact hb pins s1 σ H1 Q I1 q1
 | false=>exact ⟨.bl false,H1,I1,rfl,q1⟩
theorem Zc4 (ha:PE X a ta) (hb:PE X (.BoolOp .Or (b :: rest) pos) tb):PE X (.BoolOp .Or (a :: b :: rest) pos) (Zeg ta tb):=by
 intro pins s σ H Q I h
 refine BoolOp_or (thn (ha pins s σ H _ I h) fun v s1 ⟨x,H1,I1,r1,q1⟩=>?_)
 obtain ⟨c,rfl,q1⟩:=q1
 cases r1
 refine wpAny_truthy_bool ?_
 cases c with
 | false=>exact hb pins s1 σ H1 Q I1 q1
 | true=>exact ⟨.bl true,H1,I1,rfl,q1⟩
theorem Zc5 (ha:PE X a ta):PE X (.UnaryOp .Not a pos) (Zdc ta):=by
 intro pins s σ H Q I h
 refine UnaryOp_ (thn (ha pins s σ H _ I h) fun v s1 ⟨x,H1,I1,r1,q1⟩=>?_)
 obtain ⟨c,rfl,q1⟩:=q1
 cases r1
 exact not_of (wpAny_truthy_bool ⟨.bl (!c),H1,I1,rfl,q1⟩)
def tIf (t:TT) (ta tb:TE):TE:=fun σ H Q=>t σ H fun c H1=>if c = true then ta σ H1 Q else tb σ H1 Q
theorem Vi {c:Expr} (hc:PT X c tA) (ha:PE X a ta) (hb:PE X b tb):PE X (.IfExp c a b pos) (tIf tA ta tb):=by
 intro pins s σ H Q I h
 refine wpAny_IfExp (thn (hc pins s σ H _ I h) fun d s1 ⟨H1,I1,q1⟩=>?_)
 cases d with
 | true=>exact ha pins s1 σ H1 Q I1 q1
 | false=>exact hb pins s1 σ H1 Q I1 q1
end
def SqL (K:PySem.W.Frag) (H:Hp) (a:Addr) (xs:List V):Prop :=
 Rd H a (.lst xs) ∨
  ∃ (o:Obj) (its:Array Value) (n:Nat),K.lookup a = some o∧o.cls = .type "list"∧o.dict = none∧o.data = .seq its n∧its.size ≤ sizeLine∧Vals xs its.toList
def SqT (K:PySem.W.Frag) (H:Hp) (a:Addr) (xs:List V):Prop :=
 Rd H a (.tup xs) ∨
  ∃ (o:Obj) (its:Array Value) (n:Nat),K.lookup a = some o∧o.cls = .type "tuple"∧o.data = .seq its n∧its.size ≤ sizeLine∧Vals xs its.toList
def Zfd:Value→Option V
 | .none=>some .non
 | .bool b=>some (.bl b)
 | .int i _=>some (.int i)
 | .str x _=>some (.str x)
 | .bytes b _=>some (.byt b)
 | .float b _=>some (.flt b)
 | .ref a=>some (.ref a)
 | .type n=>some (.ty n)
 | _=>none
theorem RelV.abs {x:V} {u:Value} (r:RelV x u):Zfd u = some x:=by
 cases x with
 | non=>cases r; rfl
 | bl _=>cases r; rfl
 | int _=>obtain ⟨t,rfl⟩:=r; rfl
 | str _=>obtain ⟨t,rfl⟩:=r; rfl
 | byt _=>obtain ⟨t,rfl⟩:=r; rfl
 | flt _=>obtain ⟨t,rfl⟩:=r; rfl
 | ref _=>cases r; rfl
 | ty _=>cases r; rfl
theorem RelV.inj {x y:V} {u:Value} (r:RelV x u) (q:RelV y u):x = y:=Option.some.inj (r.abs.symm.trans q.abs)
theorem Vals.inj:∀ {xs ys:List V} {us:List Value},Vals xs us→Vals ys us→xs = ys
 | _,_,_,.nil,.nil=>rfl
 | _,_,_,.cons r t,.cons r' t'=>by rw [r.inj r',Vals.inj t t']
section
variable {X:Cx} {pins:List (Addr × Obj)} {σ:St} {H:Hp} {s:Shared} {a:Addr} {xs ys:List V}
theorem SqL.of {K:PySem.W.Frag} (h:H a = some (.lst xs)):SqL K H a xs:=.inl (.inl h)
theorem SqT.of {K:PySem.W.Frag} (h:H a = some (.tup xs)):SqT K H a xs:=.inl (.inl h)
theorem Inv.list (I:Inv X pins σ H s) (h:SqL X.K H a xs):∃ its:List Value,Vals xs its∧PlainL s.heap a its.toArray∧xs.length ≤ sizeLine:=by
 rcases h with h | ⟨o,its,n,hk,hc,hd,hs,hz,r⟩
 ·obtain ⟨z,its,n,r,e⟩:=h.ok I.hok
  exact ⟨its,r,⟨_,n,e,rfl,rfl,rfl⟩,z⟩
 ·refine ⟨its.toList,r,⟨o,n,I.kIn a o hk,hc,hd,by simpa using hs⟩,?_⟩
  have e:=r.length
  simp only [Array.length_toList] at e
  omega
theorem Inv.tuple (I:Inv X pins σ H s) (h:SqT X.K H a xs):∃ its:List Value,Vals xs its∧IsTup s.heap a its.toArray∧xs.length ≤ sizeLine:=by
 rcases h with h | ⟨o,its,n,hk,hc,hs,hz,r⟩
 ·obtain ⟨z,its,r,p⟩:=h.ok I.hok
  exact ⟨its,r,p,z⟩
 ·refine ⟨its.toList,r,⟨o,I.kIn a o hk,hc,n,by simpa using hs⟩,?_⟩
  have e:=r.length
  simp only [Array.length_toList] at e
  omega
theorem Inv.list_inj (I:Inv X pins σ H s) (h:SqL X.K H a xs) (h':SqL X.K H a ys):xs = ys:=by
 obtain ⟨its,r,⟨o,n,e,_,_,d⟩,_⟩:=I.list h
 obtain ⟨its',r',⟨o',n',e',_,_,d'⟩,_⟩:=I.list h'
 rw [e] at e'; cases e'
 rw [d] at d'
 injection d' with d1 _
 have:its = its':=by simpa using congrArg Array.toList d1
 subst this
 exact r.inj r'
theorem Inv.tuple_inj (I:Inv X pins σ H s) (h:SqT X.K H a xs) (h':SqT X.K H a ys):xs = ys:=by
 obtain ⟨its,r,⟨o,e,_,n,d⟩,_⟩:=I.tuple h
 obtain ⟨its',r',⟨o',e',_,n',d'⟩,_⟩:=I.tuple h'
 rw [e] at e'; cases e'
 rw [d] at d'
 injection d' with d1 _
 have:its = its':=by simpa using congrArg Array.toList d1
 subst this
 exact r.inj r'
end
abbrev Cx.wish (X:Cx) (E:Value→Shared→Prop):Cx:={ X with xe:=E }
abbrev Cx.nox (X:Cx):Cx:=X.wish fun _ _=>False
theorem Cx.Ok.wish {X:Cx} (ok:X.Ok) (E:Value→Shared→Prop):(X.wish E).Ok :=
 ⟨ok.mod,ok.kind,ok.glob,ok.blt,ok.above,ok.inj,ok.has,ok.cab,ok.hd,ok.frames,ok.stk,ok.exf,ok.bs,ok.bsz,ok.noex,ok.exfs,ok.funs,ok.frf⟩
theorem Cx.Ok.unwish {X:Cx} {E:Value→Shared→Prop} (ok:(X.wish E).Ok):X.Ok :=
 ⟨ok.mod,ok.kind,ok.glob,ok.blt,ok.above,ok.inj,ok.has,ok.cab,ok.hd,ok.frames,ok.stk,ok.exf,ok.bs,ok.bsz,ok.noex,ok.exfs,ok.funs,ok.frf⟩
section
variable {X:Cx} {pins:List (Addr × Obj)} {σ:St} {H:Hp} {s:Shared} {E:Value→Shared→Prop}
theorem Inv.wish (I:Inv X pins σ H s) (E:Value→Shared→Prop):Inv (X.wish E) pins σ H s:=⟨I.ok.wish E,I.os,I.bare,I.base,I.loc,I.cell,I.free,I.freeC,I.pin,I.hok,I.len⟩
theorem Inv.unwish (I:Inv (X.wish E) pins σ H s):Inv X pins σ H s:=⟨I.ok.unwish,I.os,I.bare,I.base,I.loc,I.cell,I.free,I.freeC,I.pin,I.hok,I.len⟩
theorem SP.unwish {D:Ends} {f:Flow} {s':Shared} (h:SP (X.wish E) pins D f s'):SP X pins D f s':=by
 cases f with
 | next=>obtain ⟨σ',H',I,q⟩:=h; exact ⟨σ',H',I.unwish,q⟩
 | brk=>obtain ⟨σ',H',I,q⟩:=h; exact ⟨σ',H',I.unwish,q⟩
 | cont=>obtain ⟨σ',H',I,q⟩:=h; exact ⟨σ',H',I.unwish,q⟩
 | ret u=>obtain ⟨v,σ',H',I,r,q⟩:=h; exact ⟨v,σ',H',I.unwish,r,q⟩
theorem PSs.nox {st:List Stmt} {t:TS} (h:PSs X.nox st t):PSs X st t:=fun pins s σ H D I hw =>
 wpAny_mono (h pins s σ H D (I.wish _) hw) (fun _ _ q=>q.unwish) fun _ _ z=>False.elim z
end
section
variable {X:Cx} {st:Stmt} {rest:List Stmt} {t u:TS} {e:Expr} {te:TE} {pos:Pos}
def Zi:TS:=fun D σ H=>D.nx σ H
def Za (t u:TS):TS:=fun D σ H=>t { D with nx:=u D } σ H
theorem Zf:PSs X [] Zi:=fun _ _ σ H _ I h=>wpAny_execs_nil ⟨σ,H,I,h⟩
theorem Z1 (h1:PS X st t) (h2:PSs X rest u):PSs X (st :: rest) (Za t u):=by
 intro pins s σ H D I h
 refine wpAny_execs_cons (thn (h1 pins s σ H { D with nx:=u D } I h) fun f s1 q=>?_)
 cases f with
 | next =>
  obtain ⟨σ',H',I',q⟩:=q
  exact h2 pins s1 σ' H' D I' q
 | ret v=>exact q
 | brk=>exact q
 | cont=>exact q
theorem Z5 (h1:PS X st t):PSs X [st] t:=by
 intro pins s σ H D I h
 refine wpAny_execs_cons (thn (h1 pins s σ H D I h) fun f s1 q=>?_)
 cases f with
 | next=>exact wpAny_execs_nil q
 | ret v=>exact q
 | brk=>exact q
 | cont=>exact q
theorem Inv.quiet {pins:List (Addr × Obj)} {σ:St} {H:Hp} {s:Shared} (I:Inv X pins σ H s):interactive X.env = false:=by simp [interactive,I.ok.kind]
def Zdf (te:TE):TS:=fun D σ H=>te σ H fun _ H1=>D.nx σ H1
theorem Zm (he:PE X e te) (hs:swapsWith e none pos.line X.env = pure false:=by rfl):PS X (.Expr e pos) (Zdf te):=by
 intro pins s σ H D I h
 exact wpAny_Expr_any (thn (he pins s σ H _ I h) fun v s1 ⟨x,H1,I1,r1,q1⟩=>⟨σ,H1,I1,q1⟩) I.quiet hs
def Zda (te:TE):TS:=fun D σ H=>te σ H D.rt
theorem Zh (he:PE X e te):PS X (.Return (some e) pos) (Zda te):=by
 intro pins s σ H D I h
 exact wpAny_Return_some (thn (he pins s σ H _ I h) fun v s1 ⟨x,H1,I1,r1,q1⟩=>⟨x,σ,H1,I1,r1,q1⟩)
def Zd9:TS:=fun D _ H=>D.rt .non H
theorem Z4z:PS X (.Return none pos) Zd9:=fun _ _ σ H _ I h=>wpAny_Return_none ⟨.non,σ,H,I,rfl,h⟩
def Zq (c:TT) (t u:TS):TS:=fun D σ H=>c σ H fun b H1=>if b = true then t D σ H1 else u D σ H1
theorem Zo {c:Expr} {a b:List Stmt} {tc:TT} (hc:PT X c tc) (ha:PSs X a t) (hb:PSs X b u):PS X (.If c a b pos) (Zq tc t u):=by
 intro pins s σ H D I h
 refine wpAny_If (thn (hc pins s σ H _ I h) fun d s1 ⟨H1,I1,q1⟩=>?_)
 cases d with
 | true=>exact ha pins s1 σ H1 D I1 q1
 | false=>exact hb pins s1 σ H1 D I1 q1
end
abbrev TG:=V→St→Hp→(St→Hp→Prop)→Prop
abbrev TGs:=List V→St→Hp→(St→Hp→Prop)→Prop
def PG (X:Cx) (target:Expr) (t:TG):Prop :=
 ∀ (pins:List (Addr × Obj)) (s:Shared) (σ:St) (H:Hp) (v:V) (u:Value) (Q:St→Hp→Prop),Inv X pins σ H s→RelV v u→t v σ H Q →
  wpAny (model X.prog X.w) X.A (assign target X.env u) (fun _ s'=>∃ σ' H',Inv X pins σ' H' s'∧Q σ' H') X.xe s
def PGs (X:Cx) (ts:List Expr) (t:TGs):Prop :=
 ∀ (pins:List (Addr × Obj)) (s:Shared) (σ:St) (H:Hp) (vs:List V) (us:List Value) (Q:St→Hp→Prop),Inv X pins σ H s→Vals vs us→t vs σ H Q →
  wpAny (model X.prog X.w) X.A (assignInOrder ((assignEach ts X.env).map (·.2)) us) (fun _ s'=>∃ σ' H',Inv X pins σ' H' s'∧Q σ' H') X.xe s
abbrev Zed:=V→V→V→Hp→(Hp→Prop)→Prop
def Zep (X:Cx) (t:Zed):Prop :=
 ∀ (pins:List (Addr × Obj)) (s:Shared) (σ:St) (H:Hp) (o i v:V) (ov iv u:Value) (Q:Hp→Prop),Inv X pins σ H s→RelV o ov→RelV i iv→RelV v u→t o i v H Q →
  wpAny (model X.prog X.w) X.A (setItem ov iv u) (fun _ s'=>∃ H',Inv X pins σ H' s'∧Q H') X.xe s
section
variable {X:Cx} {pos:Pos}
def Z1p (i:Nat):TG:=fun v σ H Q=>Q (σ.set i (some v)) H
theorem Z51 {i:Nat} {x:Str} (hN:X.N.Nodup) (hi:X.N[i]? = some x) (hx:Loc X.env.scope x) (hf:X.fn x = true ∨ X.env.scope.names.lookup x = some .local:=by first | exact .inl rfl | exact .inr rfl | assumption):PG X (.Name x pos) (Z1p i):=by
 intro pins s σ H v u Q I r h
 exact wpAny_assign_Name (Z1w I hN hi hx r (fun s' I'=>⟨_,H,I',h⟩) hf)
def Zf5:TGs:=fun vs σ H Q=>vs = []∧Q σ H
def Ze8 (t:TG) (u:TGs):TGs:=fun vs σ H Q=>∃ v r,vs = v :: r∧t v σ H fun σ' H'=>u r σ' H' Q
theorem Z9b:PGs X [] Zf5:=by
 intro pins s σ H vs us Q I r h
 obtain ⟨e,h⟩:=h
 subst e
 cases r
 exact assignInOrder_nil ⟨σ,H,I,h⟩
theorem Z2c {e:Expr} {es:List Expr} {t:TG} {u:TGs} (h1:PG X e t) (h2:PGs X es u)
  (hs:(assignEach (e :: es) X.env).map (·.2) = assign e X.env :: (assignEach es X.env).map (·.2):=by rfl):PGs X (e :: es) (Ze8 t u):=by
 intro pins s σ H vs us Q I r h
 obtain ⟨v,vr,e1,h⟩:=h
 subst e1
 cases r with
 | cons r rr =>
  rw [hs]
  refine assignInOrder_cons (thn (h1 pins s σ H _ _ _ I r h) fun _ s1 ⟨σ1,H1,I1,q1⟩=>?_)
  exact h2 pins s1 σ1 H1 _ _ Q I1 rr q1
def Zf3 (K:PySem.W.Frag) (n:Nat) (t:TGs):TG:=fun v σ H Q=>∃ a xs,v = .ref a∧SqT K H a xs∧xs.length = n∧t xs σ H Q
theorem Zc2 {es:List Expr} {k:Nat} {t:TGs} {n:Nat} (hc:X.calm = true) (h:PGs X es t)
  (hn:(assignEach es X.env).length = n:=by rfl) (hst:(assignEach es X.env).findIdx? (·.1) = none:=by rfl):PG X (.Tuple es k pos) (Zf3 X.K n t):=by
 intro pins s σ H v u Q I r hw
 obtain ⟨a,xs,e1,hq,hl,hw⟩:=hw
 subst e1
 cases r
 obtain ⟨its,rv,ht,hz⟩:=I.tuple hq
 refine assign_Tuple_tuple (I.ok.hd hc) ht (by simp [hn,← hl,rv.length]) hst fun h' hx=>?_
 have I1:Inv X pins σ H { s with heap:=h' }:=I.kept (t':=s.toks) fun b o e=>hx b o (Nat.ne_of_lt (Heap.lt_size e)) e
 exact h pins _ σ H xs _ Q I1 (by simpa using rv) hw
def Zf4 (to ti:TE) (t:Zed):TG:=fun v σ H Q=>to σ H fun o H1=>ti σ H1 fun i H2=>t o i v H2 fun H3=>Q σ H3
theorem W1 {o i:Expr} {to ti:TE} {t:Zed} (ho:PE X o to) (hi:PE X i ti) (hs:Zep X t)
  (ha:∀ v,assign (.Subscript o i pos) X.env v = (do
   let ov ← holding [v] (eval o X.env)
   let iv ← holding [v,ov] (eval i X.env)
   standAt pos
   holding [v,ov,iv] (setItem ov iv v)
   release [v,ov,iv] []):=by intro _; rfl):PG X (.Subscript o i pos) (Zf4 to ti t):=by
 intro pins s σ H v u Q I r h
 rw [ha]
 refine wpAny_bind (wpAny_holding (thn (ho pins s σ H _ I h) fun ov s1 ⟨x,H1,I1,r1,q1⟩=>?_))
 refine wpAny_bind (wpAny_holding (thn (hi pins s1 σ H1 _ I1 q1) fun iv s2 ⟨y,H2,I2,r2,q2⟩=>?_))
 refine wpAny_bind (wpAny_standAt (wpAny_bind (wpAny_holding (thn (hs pins s2 σ H2 x y v ov iv u _ I2 r1 r2 r q2) fun _ s3 ⟨H3,I3,q3⟩=>?_))))
 exact wpAny_release ⟨σ,H3,I3,q3⟩
def Zak (te:TE) (g:TG):TS:=fun D σ H=>te σ H fun x H1=>g x σ H1 D.nx
theorem W0 {tg e:Expr} {te:TE} {g:TG} (he:PE X e te) (hg:PG X tg g) (hs:swapsWithSole [tg] e pos.line X.env = pure false:=by rfl) (hw:swappedStores [tg] e X.env = pure none:=by rfl)
  (h1:(assignEach [tg] X.env).map (·.2) = [assign tg X.env]:=by rfl):PS X (.Assign [tg] e pos) (Zak te g):=by
 intro pins s σ H D I h
 refine wpAny_Assign_stores (thn (he pins s σ H _ I h) fun v s1 ⟨x,H1,I1,r1,q1⟩=>?_) hs hw
 rw [h1]
 exact thn (hg pins s1 σ H1 x v _ I1 r1 q1) fun _ s2 q=>q
theorem Zbz {i:Nat} {x:Str} {e:Expr} {te:TE} {pos':Pos} (hN:X.N.Nodup) (hi:X.N[i]? = some x) (hx:Loc X.env.scope x) (he:PE X e te) (hs:swapsWith e (some (.Name x pos')) pos.line X.env = pure false:=by rfl) (hf:X.fn x = true ∨ X.env.scope.names.lookup x = some .local:=by first | exact .inl rfl | exact .inr rfl | assumption) :
  PS X (.Assign [.Name x pos'] e pos) (Zak te (Z1p i)):=by
 intro pins s σ H D I h
 refine wpAny_Assign_Name (thn (he pins s σ H _ I h) fun v s1 ⟨y,H1,I1,r1,q1⟩=>?_) hs
 exact Z1w I1 hN hi hx r1 (fun s2 I2=>⟨_,H1,I2,q1⟩) hf
end
section
variable {X:Cx} {pos:Pos}
def Wv (c:TT) (tb:TS):TS:=fun D σ H=>∃ W:Nat→St→Hp→Prop,(∃ m,W m σ H)∧∀ m σ H,W m σ H →
 c σ H fun b H1=>if b = true then ∃ N:St→Hp→Prop,(∀ σ' H',N σ' H'→∃ m',m' < m∧W m' σ' H')∧tb { D with nx:=N,ct:=N,bk:=D.nx } σ H1 else D.nx σ H1
theorem U2 {c:Expr} {body:List Stmt} {tc:TT} {tb:TS} (hp:PassesOwn (model X.prog X.w) X.A X.env X.xe) (hc:PT X c tc) (hb:PSs X body tb):PS X (.While c body [] pos) (Wv tc tb):=by
 intro pins s σ H D I h
 obtain ⟨W,⟨m0,w0⟩,turn⟩:=h
 refine wpAny_While (codeAny_whileLoop (fun n s'=>∃ σ' H',Inv X pins σ' H' s'∧W n σ' H') ?_ m0 ⟨σ,H,I,w0⟩)
 rintro n s1 ⟨σ1,H1,I1,w1⟩
 refine wpAny_passesOwn hp (thn (hc pins s1 σ1 H1 _ I1 (turn n σ1 H1 w1)) fun b s2 ⟨H2,I2,q2⟩=>?_)
 cases b with
 | true =>
  obtain ⟨N,hN,q2⟩:=q2
  rw [if_pos rfl]
  refine wpAny_passesOwn hp (thn (hb pins s2 σ1 H2 _ I2 q2) fun f s3 q3=>?_)
  cases f with
  | next =>
   obtain ⟨σ3,H3,I3,n3⟩:=q3
   obtain ⟨m',hm,w3⟩:=hN σ3 H3 n3
   exact ⟨m',hm,σ3,H3,I3,w3⟩
  | cont =>
   obtain ⟨σ3,H3,I3,n3⟩:=q3
   obtain ⟨m',hm,w3⟩:=hN σ3 H3 n3
   exact ⟨m',hm,σ3,H3,I3,w3⟩
  | brk=>exact q3
  | ret v=>exact q3
 | false =>
  rw [if_neg Bool.false_ne_true]
  exact wpAny_execs_nil ⟨σ1,H2,I2,q2⟩
end
structure It where
 go:Nat→Hp→Prop
 yld:Nat→Hp→V→Hp→Prop
 stop:Nat→Hp→Prop
def Z48 (X:Cx) (pins:List (Addr × Obj)) (H:Hp) (b:Addr):Prop :=
 H b = none∧b ≠ X.env.locals∧b ∉ X.fs∧(b ∈ X.ex ∨ X.s₀.heap.objs.size ≤ b)∧(∀ x c,X.env.cells.lookup x = some c→c ≠ b)∧∀ p ∈ X.pn ++ pins,p.1 ≠ b
theorem Inv.fpOk {X:Cx} {pins:List (Addr × Obj)} {σ:St} {H H':Hp} {s:Shared} {b:Addr} (I:Inv X pins σ H s) (hb:s.heap.objs.size ≤ b) (hn:H' b = none):Z48 X pins H' b:=by
 refine ⟨hn,Nat.ne_of_gt (Nat.lt_of_lt_of_le I.lt hb),I.nofs hb,.inr (Nat.le_trans I.sz hb),fun x c e z=>?_,fun p hp z=>?_⟩
 ·obtain ⟨v,q⟩:=I.cell x c e
  exact absurd (Nat.lt_of_lt_of_le q.lt (by rw [z]; exact hb)) (Nat.lt_irrefl _)
 ·exact absurd (Nat.lt_of_lt_of_le (Heap.lt_size (I.pin p hp).1) (by rw [z]; exact hb)) (Nat.lt_irrefl _)
structure Turn (P:Program) (w:World) (K:PySem.W.Frag) (tg:Expr) (J:It) (fp:List Addr) (it:Addr) (tn:Nat→Heap→Prop):Prop where
 mem:it ∈ fp
 obj:∀ i h,tn i h→∀ b ∈ fp,∃ o,h.get? b = some o∧∀ v,o.data ≠ .cell v
 keep:∀ i h h',tn i h→(∀ b ∈ fp,∀ o,h.get? b = some o→h'.get? b = some o)→tn i h'
 item:∀ (X:Cx),X.prog = P→X.w = w→X.K = K→X.calm = true→∀ (i:Nat) (pins:List (Addr × Obj)) (s:Shared) (σ:St) (H:Hp) (E:Value→Shared→Prop),Inv X pins σ H s→(∀ b ∈ fp,Z48 X pins H b)→tn i s.heap→J.go i H →
  wpAny (model P w) X.A (pyNext (.ref it)) (fun r s1=>∃ u,r = some u ∧
   wpAny (model P w) X.A (letOwnedTupleGo tg (.ref it) u) (fun _ s2=>∃ x H',Inv X pins σ H' s2∧RelV x u∧J.yld i H x H'∧tn (i + 1) s2.heap∧∀ b ∈ fp,H' b = none) E s1) E s
 done:∀ (X:Cx),X.prog = P→X.w = w→X.K = K→X.calm = true→∀ (i:Nat) (pins:List (Addr × Obj)) (s:Shared) (σ:St) (H:Hp) (E:Value→Shared→Prop),Inv X pins σ H s→(∀ b ∈ fp,Z48 X pins H b)→tn i s.heap→J.stop i H →
  wpAny (model P w) X.A (pyNext (.ref it)) (fun r s1=>r = none∧Inv X pins σ H s1) E s
 self:∀ (A:Around) (i:Nat) (s:Shared) (Q:Value→Shared→Prop) (E:Value→Shared→Prop),tn i s.heap→Q (.ref it) s→wpAny (model P w) A (pyIter (.ref it)) Q E s
abbrev TI:=St→Hp→(It→Hp→Prop)→Prop
def PIE (X:Cx) (pins:List (Addr × Obj)) (σ:St) (tg:Expr) (R:It→Hp→Prop) (itv:Value) (s2:Shared):Prop :=
 ∃ (it:Addr) (fp:List Addr) (tn:Nat→Heap→Prop) (J:It) (H':Hp),itv = .ref it∧Inv X pins σ H' s2∧Turn X.prog X.w X.K tg J fp it tn∧tn 0 s2.heap∧(∀ b ∈ fp,Z48 X pins H' b)∧R J H'
def PI (X:Cx) (tg iter:Expr) (wi:TI):Prop :=
 ∀ (pins:List (Addr × Obj)) (s:Shared) (σ:St) (H:Hp) (R:It→Hp→Prop),Inv X pins σ H s→wi σ H R →
  wpAny (model X.prog X.w) X.A (eval iter X.env) (fun v s1=>wpAny (model X.prog X.w) X.A (pyIter v) (PIE X pins σ tg R) X.xe s1) X.xe s
theorem Za7 {M : Model} {A : Around} {E : Value → Shared → Prop} {s : Shared} {tg : Expr} {it : Addr} {u : Value} {o : Obj} {n : String} {vs : Array Value} {Q : Unit → Shared → Prop} (ho : s.heap.get? it = some o) (hc : o.cls = .type n) (hd : o.data = .fields vs)
    (hn : ["enumerate", "zip", "dict_itemiterator", "dict_reverseitemiterator", "odict_iterator", "itertools.zip_longest", "itertools.pairwise"].contains n = false) (hQ : Q () s) : wpAny M A (letOwnedTupleGo tg (.ref it) u) Q E s := by
  unfold letOwnedTupleGo
  cases tg <;> first
    | exact wpAny_pure hQ
    | (cases u <;> first
        | exact wpAny_pure hQ
        | (refine wpAny_bind (wpAny_load ho ?_)
           rw [hc, hd]
           show wpAny M A (if (["enumerate", "zip", "dict_itemiterator", "dict_reverseitemiterator", "odict_iterator", "itertools.zip_longest", "itertools.pairwise"].contains n && vs[0]? == some (rawInt _)) = true then _ else _) Q E s
           rw [if_neg (by intro h; rw [hn, Bool.false_and] at h; cases h)]
           exact wpAny_pure hQ))
def Itl (K:PySem.W.Frag) (a:Addr):It :=
 ⟨fun i H=>∃ xs x,SqL K H a xs∧xs[i]? = some x,fun i H x H'=>H' = H∧∀ xs,SqL K H a xs→xs[i]? = some x,fun i H=>∃ xs,SqL K H a xs∧xs.length ≤ i⟩
def Itt (K:PySem.W.Frag) (a:Addr):It :=
 ⟨fun i H=>∃ xs x,SqT K H a xs∧xs[i]? = some x,fun i H x H'=>H' = H∧∀ xs,SqT K H a xs→xs[i]? = some x,fun i H=>∃ xs,SqT K H a xs∧xs.length ≤ i⟩
def Itr (lo:Int) (n:Nat):It:=⟨fun i _=>i < n,fun i H x H'=>H' = H∧x = .int (lo + i),fun i _=>n ≤ i⟩
theorem Z4c {P:Program} {w:World} {K:PySem.W.Frag} {tg:Expr} (a it:Addr):Turn P w K tg (Itl K a) [it] it (fun i h=>h.IsListIter it a i) where
 mem:=by simp
 obj:=fun i h st b hb=>by
  have e:b = it:=by simpa using hb
  subst e
  obtain ⟨o,e,c,d⟩:=st
  exact ⟨o,e,fun v z=>by rw [d] at z; cases z⟩
 keep:=fun i h h' st k=>st.at fun o e=>k it (by simp) o e
 item:=by
  intro X hP hw hK hc i pins s σ H E I hf st hg
  subst hP hw hK
  obtain ⟨xs,x,hq,hx⟩:=hg
  obtain ⟨its,rv,p,hz⟩:=I.list hq
  obtain ⟨u,hu,ru⟩:=rv.get hx
  obtain ⟨f0,f1,f2,f3,f4,f5⟩:=hf it (by simp)
  refine wpAny_pyNext_list_item st p.isList (x:=u) (by simpa using hu) fun h' st' sb=>?_
  have I1:Inv X pins σ H { s with heap:=h' }:=I.turned (t':=s.toks) (fun b o hb e=>(sb.2 b hb).trans e) f0 f1 f3 f4 f5
  obtain ⟨o,e,c,d⟩:=id st'
  exact ⟨u,rfl,Za7 (s:={ s with heap:=h' }) e c d (by decide) ⟨x,H,I1,ru,⟨rfl,fun ys hy=>by rw [I.list_inj hy hq]; exact hx⟩,st',fun b hb=>(hf b hb).1⟩⟩
 done:=by
  intro X hP hw hK hc i pins s σ H E I hf st hg
  subst hP hw hK
  obtain ⟨xs,hq,hx⟩:=hg
  obtain ⟨its,rv,p,hz⟩:=I.list hq
  obtain ⟨f0,f1,f2,f3,f4,f5⟩:=hf it (by simp)
  have hl:=rv.length
  exact wpAny_pyNext_list_end (I.ok.hd hc) st p.isList (by simp; omega) fun h' eb=>⟨rfl,I.turned (t':=s.toks) (fun b o hb e=>eb b o hb e) f0 f1 f3 f4 f5⟩
 self:=fun _ _ _ _ _ st h=>wpAny_pyIter_listiter st h
theorem Z36 {P:Program} {w:World} {K:PySem.W.Frag} {tg:Expr} (a it:Addr):Turn P w K tg (Itt K a) [it] it (fun i h=>h.IsTupleIter it a i) where
 mem:=by simp
 obj:=fun i h st b hb=>by
  have e:b = it:=by simpa using hb
  subst e
  obtain ⟨o,e,c,d⟩:=st
  exact ⟨o,e,fun v z=>by rw [d] at z; cases z⟩
 keep:=fun i h h' st k=>st.at fun o e=>k it (by simp) o e
 item:=by
  intro X hP hw hK hc i pins s σ H E I hf st hg
  subst hP hw hK
  obtain ⟨xs,x,hq,hx⟩:=hg
  obtain ⟨its,rv,p,hz⟩:=I.tuple hq
  obtain ⟨u,hu,ru⟩:=rv.get hx
  obtain ⟨f0,f1,f2,f3,f4,f5⟩:=hf it (by simp)
  refine wpAny_pyNext_tuple_item st (show s.heap.IsTuple a its.toArray from p) (x:=u) (by simpa using hu) fun h' st' sb=>?_
  have I1:Inv X pins σ H { s with heap:=h' }:=I.turned (t':=s.toks) (fun b o hb e=>(sb.2 b hb).trans e) f0 f1 f3 f4 f5
  obtain ⟨o,e,c,d⟩:=id st'
  exact ⟨u,rfl,Za7 (s:={ s with heap:=h' }) e c d (by decide) ⟨x,H,I1,ru,⟨rfl,fun ys hy=>by rw [I.tuple_inj hy hq]; exact hx⟩,st',fun b hb=>(hf b hb).1⟩⟩
 done:=by
  intro X hP hw hK hc i pins s σ H E I hf st hg
  subst hP hw hK
  obtain ⟨xs,hq,hx⟩:=hg
  obtain ⟨its,rv,p,hz⟩:=I.tuple hq
  obtain ⟨f0,f1,f2,f3,f4,f5⟩:=hf it (by simp)
  have hl:=rv.length
  exact wpAny_pyNext_tuple_end (I.ok.hd hc) st (show s.heap.IsTuple a its.toArray from p) (by simp; omega) fun h' eb=>⟨rfl,I.turned (t':=s.toks) (fun b o hb e=>eb b o hb e) f0 f1 f3 f4 f5⟩
 self:=fun _ _ _ _ _ st h=>wpAny_pyIter_tupleiter st h
theorem Z37 {P:Program} {w:World} {K:PySem.W.Frag} {tg:Expr} (it:Addr) (lo:Int) (n:Nat):Turn P w K tg (Itr lo n) [it] it (fun i h=>IsRangeIter h it (lo + (i:Nat) * 1) ((n:Int) - (i:Nat)) 1) where
 mem:=by simp
 obj:=fun i h st b hb=>by
  have e:b = it:=by simpa using hb
  subst e
  exact ⟨_,st,fun v z=>by
   have z':Data.fields _ = Data.cell v:=z
   cases z'⟩
 keep:=fun i h h' st k=>k it (by simp) _ st
 item:=by
  intro X hP hw hK hc i pins s σ H E I hf st hg
  subst hP hw hK
  obtain ⟨f0,f1,f2,f3,f4,f5⟩:=hf it (by simp)
  have W:=Walks.range (prog:=X.prog) (w:=X.w) (I.ok.hd hc) it lo 1 n
  refine W.item i s _ _ hg st fun v h' tk hv st' kk=>?_
  obtain ⟨t,rfl⟩:=hv
  have I1:Inv X pins σ H { s with heap:=h',toks:=tk }:=I.turned (fun b o hb e=>kk b o (by simpa using hb) e) f0 f1 f3 f4 f5
  refine ⟨_,rfl,Za7 (s:={ s with heap:=h',toks:=tk }) (n := "range_iterator") st' rfl rfl (by decide) ⟨.int (lo + i),H,I1,⟨t,?_⟩,⟨rfl,rfl⟩,st',fun b hb=>(hf b hb).1⟩⟩
  rw [Int.mul_one]
 done:=by
  intro X hP hw hK hc i pins s σ H E I hf st hg
  subst hP hw hK
  obtain ⟨f0,f1,f2,f3,f4,f5⟩:=hf it (by simp)
  exact wpAny_pyNext_range_end (I.ok.hd hc) st (by have:n ≤ i:=hg; omega) fun h' eb=>⟨rfl,I.turned (t':=s.toks) (fun b o hb e=>eb b o hb e) f0 f1 f3 f4 f5⟩
 self:=fun _ _ _ _ _ st h=>wpAny_pyIter_rangeiter st h
section
variable {X:Cx} {tg:Expr}
def Ze7 (K:PySem.W.Frag) (tl:TE):TI:=fun σ H R=>tl σ H fun x H1=>∃ a,x = .ref a∧(∃ xs,SqL K H1 a xs)∧R (Itl K a) H1
def Zf2 (K:PySem.W.Frag) (tl:TE):TI:=fun σ H R=>tl σ H fun x H1=>∃ a,x = .ref a∧(∃ xs,SqT K H1 a xs)∧R (Itt K a) H1
theorem We {l:Expr} {tl:TE} (hl:PE X l tl):PI X tg l (Ze7 X.K tl):=by
 intro pins s σ H R I h
 refine thn (hl pins s σ H _ I h) fun v s1 ⟨x,H1,I1,r1,q1⟩=>?_
 obtain ⟨a,e,⟨xs,hq⟩,q⟩:=q1
 subst e
 cases r1
 obtain ⟨its,rv,p,hz⟩:=I1.list hq
 refine wpAny_pyIter_list p.isList ?_
 refine ⟨s1.heap.objs.size,[s1.heap.objs.size],_,_,H1,rfl,I1.kept (t':=s1.toks) fun b o e=>Heap.get?_push_of_some _ e,Z4c a _,⟨_,Heap.get?_push_size _ rfl,rfl,rfl⟩,fun b hb=>?_,q⟩
 have e:b = s1.heap.objs.size:=by simpa using hb
 subst e
 exact I1.fpOk (Nat.le_refl _) (I1.hok.fresh (Nat.le_refl _))
theorem Vg {l:Expr} {tl:TE} (hl:PE X l tl):PI X tg l (Zf2 X.K tl):=by
 intro pins s σ H R I h
 refine thn (hl pins s σ H _ I h) fun v s1 ⟨x,H1,I1,r1,q1⟩=>?_
 obtain ⟨a,e,⟨xs,hq⟩,q⟩:=q1
 subst e
 cases r1
 obtain ⟨its,rv,p,hz⟩:=I1.tuple hq
 refine wpAny_pyIter_tuple (show s1.heap.IsTuple a its.toArray from p) ?_
 refine ⟨s1.heap.objs.size,[s1.heap.objs.size],_,_,H1,rfl,I1.kept (t':=s1.toks) fun b o e=>Heap.get?_push_of_some _ e,Z36 a _,⟨_,Heap.get?_push_size _ rfl,rfl,rfl⟩,fun b hb=>?_,q⟩
 have e:b = s1.heap.objs.size:=by simpa using hb
 subst e
 exact I1.fpOk (Nat.le_refl _) (I1.hok.fresh (Nat.le_refl _))
theorem Z6w {pins:List (Addr × Obj)} {σ:St} {H:Hp} {s:Shared} {R:It→Hp→Prop} {E:Value→Shared→Prop} {lo hi:Int} {t u v:Tok} {tk:Nat} (I:Inv X pins σ H s) (h1:-(2 ^ 62) ≤ lo) (h2:lo < 2 ^ 62) (h3:-(2 ^ 62) ≤ hi) (h4:hi < 2 ^ 62)
  (q:R (Itr lo (hi - lo).toNat) H):wpAny (model X.prog X.w) X.A (pyIter (.ref s.heap.objs.size)) (PIE X pins σ tg R) E { s with heap:=s.heap.push { cls:=.type "range",data:=.fields #[.int lo t,.int hi u,.int 1 v] },toks:=tk }:=by
 refine wpAny_pyIter_range (IsRange.new ..) (small_one h1 h2 h3 h4) ?_
 have I1:Inv X pins σ H { s with heap:=s.heap.push { cls:=.type "range",data:=.fields #[.int lo t,.int hi u,.int 1 v] },toks:=tk }:=I.kept fun b o e=>Heap.get?_push_of_some _ e
 refine ⟨(s.heap.push { cls:=.type "range",data:=.fields #[.int lo t,.int hi u,.int 1 v] }).objs.size,[(s.heap.push { cls:=.type "range",data:=.fields #[.int lo t,.int hi u,.int 1 v] }).objs.size],_,_,H,rfl,
  I1.kept (t':=tk) fun b o e=>Heap.get?_push_of_some _ e,Z37 _ lo (hi - lo).toNat,?_,fun b hb=>?_,q⟩
 ·have e1:lo + ((0:Nat):Int) * 1 = lo:=by simp
  have e2:(((hi - lo).toNat:Nat):Int) - ((0:Nat):Int) = Builtin.Range.rangeSize lo hi 1:=by rw [rangeSize_one]; split <;> omega
  show IsRangeIter _ _ (lo + ((0:Nat):Int) * 1) ((((hi - lo).toNat:Nat):Int) - ((0:Nat):Int)) 1
  rw [e1,e2]
  exact Heap.get?_push_size _ rfl
 ·have e:b = (s.heap.push { cls:=.type "range",data:=.fields #[.int lo t,.int hi u,.int 1 v] }).objs.size:=by simpa using hb
  subst e
  exact I1.fpOk (Nat.le_refl _) (I1.hok.fresh (Nat.le_refl _))
def Ze6 (ta:TA):TI:=fun σ H R=>ta σ H fun vs H1=>∃ j:Int,vs = [.int j]∧-(2 ^ 62) ≤ j∧j < 2 ^ 62∧R (Itr 0 j.toNat) H1
theorem Xf {a:Expr} {ta:TA} {p pos:Pos} (hg:Gl X "range") (hm:X.mg "range" = none) (ha:PA X [a] ta) (hs:starEach [a] X.env = [(false,eval a X.env)]:=by rfl):PI X tg (.Call (.Name "range" p) [a] [] pos) (Ze6 ta):=by
 intro pins s σ H R I h
 refine Call_ (Z0h I hg hm boot_range (PyProof.Rows.callWith_type1 (thn (ha pos pins s σ H _ I h) fun us s1 ⟨vs,H1,I1,r1,q1⟩=>?_) hs rfl))
 obtain ⟨j,e,q1,q2,q⟩:=q1
 subst e
 cases r1 with
 | cons r rr =>
  cases rr
  obtain ⟨t,rfl⟩:=r
  exact call_range_1 (Z6w I1 (by omega) (by omega) q1 q2 (by simpa using q))
def Vv (wi:TI) (g:TG) (tb:TS):TS:=fun D σ H=>wi σ H fun J H1=>∃ W:Nat→Nat→St→Hp→Prop,(∃ m,W 0 m σ H1)∧∀ i m σ H,W i m σ H →
 (J.stop i H∧D.nx σ H) ∨ (J.go i H∧∃ N:St→Hp→Prop,(∀ σ' H',N σ' H'→∃ m',m' < m∧W (i + 1) m' σ' H')∧∀ x H',J.yld i H x H'→g x σ H' fun σ2 H2=>tb { D with nx:=N,ct:=N,bk:=D.nx } σ2 H2)
def Te (fp:List Addr) (h:Heap):List (Addr × Obj):=fp.filterMap fun b=>(h.get? b).map fun o=>(b,o)
theorem Wq {fp:List Addr} {h:Heap} {b:Addr} {o:Obj} (hb:b ∈ fp) (e:h.get? b = some o):(b,o) ∈ Te fp h:=List.mem_filterMap.mpr ⟨b,hb,by rw [e]; rfl⟩
theorem Z5j {fp:List Addr} {h:Heap} {p:Addr × Obj} (hp:p ∈ Te fp h):p.1 ∈ fp∧h.get? p.1 = some p.2:=by
 obtain ⟨b,hb,e⟩:=List.mem_filterMap.mp hp
 cases q:h.get? b with
 | none=>rw [q] at e; cases e
 | some o =>
  rw [q] at e
  have e':(b,o) = p:=Option.some.inj e
  subst e'
  exact ⟨hb,q⟩
theorem Inv.pinned {pins:List (Addr × Obj)} {σ:St} {H:Hp} {s:Shared} {fp:List Addr} (I:Inv X pins σ H s) (hf:∀ b ∈ fp,Z48 X pins H b) (ho:∀ b ∈ fp,∃ o,s.heap.get? b = some o∧∀ v,o.data ≠ .cell v):Inv X (pins ++ Te fp s.heap) σ H s :=
 I.pins_of fun p hp=>(List.mem_append.mp hp).elim (fun z=>I.pin p (List.mem_append_right _ z)) fun z=>by
  obtain ⟨hb,e⟩:=Z5j z
  obtain ⟨f0,f1,f2,_⟩:=hf p.1 hb
  obtain ⟨o,e',d⟩:=ho p.1 hb
  rw [e] at e'; cases e'
  exact ⟨e,f0,f1,f2,d⟩
theorem Inv.unpinned {pins pl:List (Addr × Obj)} {σ:St} {H:Hp} {s:Shared} (I:Inv X (pins ++ pl) σ H s):Inv X pins σ H s:=I.pins_of fun p hp=>I.pin p (List.mem_append_right _ (List.mem_append_left _ hp))
theorem Xl {iter:Expr} {body:List Stmt} {wi:TI} {g:TG} {tb:TS} {pos:Pos} (hp:PassesOwn (model X.prog X.w) X.A X.env X.xe) (hc:X.calm = true) (hi:PI X tg iter wi) (hg:PG X tg g) (hb:PSs X body tb)
  (hs:∀ x,foldedSetIterable iter X.env x = pure x:=by intro _; rfl):PS X (.For tg iter body [] pos) (Vv wi g tb):=by
 intro pins s σ H D I h
 refine wpAny_For (thn (hi pins s σ H _ I h) fun v s1 h1=>thn h1 fun itv s2 h2=>?_) hs
 obtain ⟨it,fp,tn,J,H2,e,I2,T,st2,f2,W,⟨m0,w0⟩,turn⟩:=h2
 subst e
 have stat:∀ {H':Hp},(∀ b ∈ fp,H' b = none)→∀ b ∈ fp,Z48 X pins H' b:=fun hn b hb=>⟨hn b hb,(f2 b hb).2⟩
 refine codeAny_forLoop_any (fun n s'=>∃ i σ' H',Inv X pins σ' H' s'∧tn i s'.heap∧(∀ b ∈ fp,H' b = none)∧W i n σ' H') ?_ m0 ⟨0,σ,H2,I2,st2,fun b hb=>(f2 b hb).1,w0⟩
 rintro n s3 ⟨i,σ3,H3,I3,st3,fr3,w3⟩
 rcases turn i n σ3 H3 w3 with ⟨stop,qn⟩ | ⟨go,N,hN,step⟩
 ·refine wpAny_passesOwn hp (thn (T.done X rfl rfl rfl hc i pins s3 σ3 H3 X.xe I3 (stat fr3) st3 stop) fun r s4 ⟨hr,I4⟩=>?_)
  subst hr
  exact wpAny_execs_nil ⟨σ3,H3,I4,qn⟩
 ·refine wpAny_passesOwn hp (thn (T.item X rfl rfl rfl hc i pins s3 σ3 H3 X.xe I3 (stat fr3) st3 go) fun r s4 ⟨u,hr,h4⟩=>?_)
  subst hr
  refine wpAny_passesOwn hp (thn h4 fun _ s5 ⟨x,H5,I5,r5,y5,st5,fr5⟩=>?_)
  have I5':=I5.pinned (stat fr5) (T.obj _ _ st5)
  refine wpAny_passesOwn hp (thn (hg _ s5 σ3 H5 x u _ I5' r5 (step x H5 y5)) fun _ s6 ⟨σ6,H6,I6,q6⟩=>?_)
  refine wpAny_passesOwn hp (thn (hb _ s6 σ6 H6 _ I6 q6) fun f s7 q7=>?_)
  have again:∀ {σ7:St} {H7:Hp},Inv X (pins ++ Te fp s5.heap) σ7 H7 s7→N σ7 H7→∃ m,m < n∧∃ i σ' H',Inv X pins σ' H' s7∧tn i s7.heap∧(∀ b ∈ fp,H' b = none)∧W i m σ' H':=fun {σ7 H7} I7 n7=>by
   obtain ⟨m',hm,w7⟩:=hN σ7 H7 n7
   refine ⟨m',hm,i + 1,σ7,H7,I7.unpinned,T.keep _ _ _ st5 fun b hb o e=>(I7.pin (b,o) (List.mem_append_right _ (List.mem_append_right _ (Wq hb e)))).1,fun b hb=>?_,w7⟩
   obtain ⟨o,e,d⟩:=T.obj _ _ st5 b hb
   exact (I7.pin (b,o) (List.mem_append_right _ (List.mem_append_right _ (Wq hb e)))).2.1
  cases f with
  | next=>obtain ⟨σ7,H7,I7,n7⟩:=q7; exact again I7 n7
  | cont=>obtain ⟨σ7,H7,I7,n7⟩:=q7; exact again I7 n7
  | brk=>obtain ⟨σ7,H7,I7,q7⟩:=q7; exact ⟨σ7,H7,I7.unpinned,q7⟩
  | ret v=>obtain ⟨x7,σ7,H7,I7,r7,q7⟩:=q7; exact ⟨x7,σ7,H7,I7.unpinned,r7,q7⟩
end
theorem Ji {K:PySem.W.Frag} {a:Addr} {xs:List V} {g:TG} {tb:TS} {D:Ends} {σ:St} {H:Hp} (Pv:Nat→St→Hp→Prop) (h0:Pv 0 σ H) (hl:∀ i σ H,i ≤ xs.length→Pv i σ H→SqL K H a xs)
  (hs:∀ i x σ H,xs[i]? = some x→Pv i σ H→g x σ H fun σ2 H2=>tb { D with nx:=Pv (i + 1),ct:=Pv (i + 1),bk:=D.nx } σ2 H2) (hd:∀ σ H,Pv xs.length σ H→D.nx σ H) :
  ∃ W:Nat→Nat→St→Hp→Prop,(∃ m,W 0 m σ H)∧∀ i m σ H,W i m σ H →
   ((Itl K a).stop i H∧D.nx σ H) ∨ ((Itl K a).go i H∧∃ N:St→Hp→Prop,(∀ σ' H',N σ' H'→∃ m',m' < m∧W (i + 1) m' σ' H')∧∀ x H',(Itl K a).yld i H x H'→g x σ H' fun σ2 H2=>tb { D with nx:=N,ct:=N,bk:=D.nx } σ2 H2):=by
 refine ⟨fun i m σ H=>m = xs.length - i∧i ≤ xs.length∧Pv i σ H,⟨xs.length,by simp,Nat.zero_le _,h0⟩,?_⟩
 rintro i m σ H ⟨rfl,hi,p⟩
 have q:=hl i σ H hi p
 by_cases hlt:i < xs.length
 ·refine .inr ⟨⟨xs,xs[i],q,by simp [hlt]⟩,Pv (i + 1),fun σ' H' p'=>⟨xs.length - (i + 1),by omega,rfl,hlt,p'⟩,fun x H' y=>?_⟩
  obtain ⟨e,y⟩:=y
  subst e
  exact hs i x σ _ (y xs q) p
 ·have e:i = xs.length:=by omega
  subst e
  exact .inl ⟨⟨xs,q,Nat.le_refl _⟩,hd σ H p⟩
theorem Uv {K:PySem.W.Frag} {a:Addr} {xs:List V} {g:TG} {tb:TS} {D:Ends} {σ:St} {H:Hp} (Pv:Nat→St→Hp→Prop) (h0:Pv 0 σ H) (hl:∀ i σ H,i ≤ xs.length→Pv i σ H→SqT K H a xs)
  (hs:∀ i x σ H,xs[i]? = some x→Pv i σ H→g x σ H fun σ2 H2=>tb { D with nx:=Pv (i + 1),ct:=Pv (i + 1),bk:=D.nx } σ2 H2) (hd:∀ σ H,Pv xs.length σ H→D.nx σ H) :
  ∃ W:Nat→Nat→St→Hp→Prop,(∃ m,W 0 m σ H)∧∀ i m σ H,W i m σ H →
   ((Itt K a).stop i H∧D.nx σ H) ∨ ((Itt K a).go i H∧∃ N:St→Hp→Prop,(∀ σ' H',N σ' H'→∃ m',m' < m∧W (i + 1) m' σ' H')∧∀ x H',(Itt K a).yld i H x H'→g x σ H' fun σ2 H2=>tb { D with nx:=N,ct:=N,bk:=D.nx } σ2 H2):=by
 refine ⟨fun i m σ H=>m = xs.length - i∧i ≤ xs.length∧Pv i σ H,⟨xs.length,by simp,Nat.zero_le _,h0⟩,?_⟩
 rintro i m σ H ⟨rfl,hi,p⟩
 have q:=hl i σ H hi p
 by_cases hlt:i < xs.length
 ·refine .inr ⟨⟨xs,xs[i],q,by simp [hlt]⟩,Pv (i + 1),fun σ' H' p'=>⟨xs.length - (i + 1),by omega,rfl,hlt,p'⟩,fun x H' y=>?_⟩
  obtain ⟨e,y⟩:=y
  subst e
  exact hs i x σ _ (y xs q) p
 ·have e:i = xs.length:=by omega
  subst e
  exact .inl ⟨⟨xs,q,Nat.le_refl _⟩,hd σ H p⟩
theorem Vk {lo:Int} {n:Nat} {g:TG} {tb:TS} {D:Ends} {σ:St} {H:Hp} (Pv:Nat→St→Hp→Prop) (h0:Pv 0 σ H)
  (hs:∀ i σ H,i < n→Pv i σ H→g (.int (lo + i)) σ H fun σ2 H2=>tb { D with nx:=Pv (i + 1),ct:=Pv (i + 1),bk:=D.nx } σ2 H2) (hd:∀ σ H,Pv n σ H→D.nx σ H) :
  ∃ W:Nat→Nat→St→Hp→Prop,(∃ m,W 0 m σ H)∧∀ i m σ H,W i m σ H →
   ((Itr lo n).stop i H∧D.nx σ H) ∨ ((Itr lo n).go i H∧∃ N:St→Hp→Prop,(∀ σ' H',N σ' H'→∃ m',m' < m∧W (i + 1) m' σ' H')∧∀ x H',(Itr lo n).yld i H x H'→g x σ H' fun σ2 H2=>tb { D with nx:=N,ct:=N,bk:=D.nx } σ2 H2):=by
 refine ⟨fun i m σ H=>m = n - i∧i ≤ n∧Pv i σ H,⟨n,by simp,Nat.zero_le _,h0⟩,?_⟩
 rintro i m σ H ⟨rfl,hi,p⟩
 by_cases hlt:i < n
 ·refine .inr ⟨hlt,Pv (i + 1),fun σ' H' p'=>⟨n - (i + 1),by omega,rfl,hlt,p'⟩,fun x H' y=>?_⟩
  obtain ⟨e,y⟩:=y
  subst e y
  exact hs i σ _ hlt p
 ·have e:i = n:=by omega
  subst e
  exact .inl ⟨Nat.le_refl _,hd σ H p⟩
theorem Z6k {c:TT} {tb:TS} {D:Ends} {σ:St} {H:Hp} (Pv:St→Hp→Prop) (μ:St→Hp→Nat) (h0:Pv σ H)
  (hs:∀ σ H,Pv σ H→c σ H fun b H1=>if b = true then tb { D with nx:=fun σ' H'=>Pv σ' H'∧μ σ' H' < μ σ H,ct:=fun σ' H'=>Pv σ' H'∧μ σ' H' < μ σ H,bk:=D.nx } σ H1 else D.nx σ H1)
  (mono:∀ σ H Q Q',(∀ b H1,Q b H1→Q' b H1)→c σ H Q→c σ H Q'):Wv c tb D σ H:=by
 refine ⟨fun m σ H=>m = μ σ H∧Pv σ H,⟨_,rfl,h0⟩,?_⟩
 rintro m σ H ⟨rfl,p⟩
 refine mono σ H _ _ (fun b H1 q=>?_) (hs σ H p)
 cases b with
 | true=>exact ⟨_,fun σ' H' ⟨p',l⟩=>⟨_,l,rfl,p'⟩,q⟩
 | false=>exact q
abbrev R2:=V→V→Hp→VK→Prop
def OpR (X:Cx) (f:Value→Value→Sem Value) (r:R2):Prop :=
 ∀ (pins:List (Addr × Obj)) (s:Shared) (σ:St) (H:Hp) (x y:V) (v u:Value) (Q:VK),Inv X pins σ H s→RelV x v→RelV y u→r x y H Q →
  wpAny (model X.prog X.w) X.A (f v u) (EP X pins σ Q) X.xe s
def UnR (X:Cx) (f:Value→Sem Value) (r:V→Hp→VK→Prop):Prop :=
 ∀ (pins:List (Addr × Obj)) (s:Shared) (σ:St) (H:Hp) (x:V) (v:Value) (Q:VK),Inv X pins σ H s→RelV x v→r x H Q →
  wpAny (model X.prog X.w) X.A (f v) (EP X pins σ Q) X.xe s
def T6 (X:Cx) (f:Value) (r:List V→Hp→VK→Prop):Prop :=
 ∀ (pins:List (Addr × Obj)) (s:Shared) (σ:St) (H:Hp) (xs:List V) (us:List Value) (Q:VK),Inv X pins σ H s→Vals xs us→r xs H Q →
  wpAny (model X.prog X.w) X.A (call f us) (EP X pins σ Q) X.xe s
def tOp (r:R2) (ta tb:TE):TE:=fun σ H Q=>ta σ H fun x H1=>tb σ H1 fun y H2=>r x y H2 Q
def tUn (r:V→Hp→VK→Prop) (ta:TE):TE:=fun σ H Q=>ta σ H fun x H1=>r x H1 Q
def rI (C:Int→Int→Prop) (g:Int→Int→V):R2:=fun x y H Q=>∃ i j,x = .int i∧y = .int j∧C i j∧Q (g i j) H
def rI0 (g:Int→Int→V):R2:=fun x y H Q=>∃ i j,x = .int i∧y = .int j∧Q (g i j) H
def rU (g:Int→V):V→Hp→VK→Prop:=fun x H Q=>∃ i,x = .int i∧Q (g i) H
section
variable {X:Cx} {a b c:Expr} {ta tb tc:TE} {pos:Pos}
theorem Zeb (ha:PE X a ta) (hb:PE X b tb) {pins:List (Addr × Obj)} {s:Shared} {σ:St} {H:Hp} {R:V→V→Hp→Prop} (I:Inv X pins σ H s)
  (h:ta σ H fun x H1=>tb σ H1 fun y H2=>R x y H2) {Q:Value→Shared→Prop} {f:Value→Value→Sem Value}
  (hf:∀ v u s2 x y H2,Inv X pins σ H2 s2→RelV x v→RelV y u→R x y H2→wpAny (model X.prog X.w) X.A (f v u) Q X.xe s2) :
  wpAny (model X.prog X.w) X.A (eval a X.env) (fun v s₁=>wpAny (model X.prog X.w) X.A (eval b X.env) (fun u s₂=>wpAny (model X.prog X.w) X.A (f v u) Q X.xe s₂) X.xe s₁) X.xe s:=by
 refine thn (ha pins s σ H _ I h) fun v s1 ⟨x,H1,I1,r1,q1⟩=>?_
 refine thn (hb pins s1 σ H1 _ I1 q1) fun u s2 ⟨y,H2,I2,r2,q2⟩=>?_
 exact hf v u s2 x y H2 I2 r1 r2 q2
theorem Zu {op:Operator} {r:R2} (ho:OpR X (binaryOp op) r) (ha:PE X a ta) (hb:PE X b tb):PE X (.BinOp a op b pos) (tOp r ta tb):=by
 intro pins s σ H Q I h
 exact wpAny_BinOp (Zeb ha hb I h fun v u s2 x y H2 I2 rx ry q=>ho pins s2 σ H2 x y v u Q I2 rx ry q)
theorem Uj {op:UnaryOp} {r:V→Hp→VK→Prop} (ho:UnR X (unaryOp op) r) (ha:PE X a ta):PE X (.UnaryOp op a pos) (tUn r ta):=by
 intro pins s σ H Q I h
 exact UnaryOp_ (thn (ha pins s σ H _ I h) fun v s1 ⟨x,H1,I1,r1,q1⟩=>ho pins s1 σ H1 x v Q I1 r1 q1)
theorem opI {f:Value→Value→Sem Value} {C:Int→Int→Prop} {g:Int→Int→Int}
  (rule:∀ (i j:Int) (t u:Tok) (s:Shared) (Q:Value→Shared→Prop) (E:Value→Shared→Prop),C i j→Q (.int (g i j) s.toks) { s with toks:=s.toks + 1 }→wpAny (model X.prog X.w) X.A (f (.int i t) (.int j u)) Q E s) :
  OpR X f (rI C fun i j=>.int (g i j)):=by
 intro pins s σ H x y v u Q I rx ry h
 obtain ⟨i,j,rfl,rfl,hc,q⟩:=h
 obtain ⟨t,rfl⟩:=rx
 obtain ⟨t',rfl⟩:=ry
 exact rule i j t t' s _ _ hc ⟨.int (g i j),H,I.tok _,⟨_,rfl⟩,q⟩
theorem Zem {f:Value→Value→Sem Value} {g:Int→Int→Int}
  (rule:∀ (i j:Int) (t u:Tok) (s:Shared) (Q:Value→Shared→Prop) (E:Value→Shared→Prop),Q (.int (g i j) s.toks) { s with toks:=s.toks + 1 }→wpAny (model X.prog X.w) X.A (f (.int i t) (.int j u)) Q E s) :
  OpR X f (rI0 fun i j=>.int (g i j)):=by
 intro pins s σ H x y v u Q I rx ry h
 obtain ⟨i,j,rfl,rfl,q⟩:=h
 obtain ⟨t,rfl⟩:=rx
 obtain ⟨t',rfl⟩:=ry
 exact rule i j t t' s _ _ ⟨.int (g i j),H,I.tok _,⟨_,rfl⟩,q⟩
theorem Zd4 {f:Value→Value→Sem Value} {g:Int→Int→Bool}
  (rule:∀ (i j:Int) (t u:Tok) (s:Shared) (Q:Value→Shared→Prop) (E:Value→Shared→Prop),Q (.bool (g i j)) s→wpAny (model X.prog X.w) X.A (f (.int i t) (.int j u)) Q E s) :
  OpR X f (rI0 fun i j=>.bl (g i j)):=by
 intro pins s σ H x y v u Q I rx ry h
 obtain ⟨i,j,rfl,rfl,q⟩:=h
 obtain ⟨t,rfl⟩:=rx
 obtain ⟨t',rfl⟩:=ry
 exact rule i j t t' s _ _ ⟨.bl (g i j),H,I,rfl,q⟩
def Zff (i j:Int):Prop:=0 < j∧j < 1073741824
def CMul (i j:Int):Prop:=(-(2 ^ 64) < i∧i < 2 ^ 64) ∨ (-(2 ^ 64) < j∧j < 2 ^ 64)
theorem CMul.ok {i j:Int} (h:CMul i j):IntMulOk i j:=by
 rcases h with ⟨h1,h2⟩ | ⟨h1,h2⟩
 ·exact .of_left (intBits_le_64 h1 h2)
 ·exact .of_right (intBits_le_64 h1 h2)
theorem Ya:OpR X (binaryOp .Add) (rI0 fun i j=>.int (i + j)):=Zem fun _ _ _ _ _ _ _ q=>add_int q
theorem Yh:OpR X (binaryOp .Sub) (rI0 fun i j=>.int (i - j)):=Zem fun _ _ _ _ _ _ _ q=>sub_int q
theorem Zc8:OpR X (binaryOp .Mult) (rI CMul fun i j=>.int (i * j)):=opI fun _ _ _ _ _ _ _ hc q=>mul_int q hc.ok
theorem Z5c:OpR X (binaryOp .FloorDiv) (rI Zff fun i j=>.int (i / j)):=opI fun i j _ _ _ _ _ hc q=>by
 have h1:(0:Int) < j:=hc.1
 have h2:j < 1073741824:=hc.2
 exact floordiv_int (by omega) (by rw [Int.fdiv_eq_ediv_of_nonneg i (by omega)]; exact q) (.inl (PyProof.noPylong_small (by omega)))
theorem Z8d:OpR X (binaryOp .Mod) (rI (fun _ j=>0 < j) fun i j=>.int (i % j)):=opI fun i j _ _ _ _ _ hc q=>by
 have h1:(0:Int) < j:=hc
 exact mod_int' (by omega) (by rw [Int.fmod_eq_emod_of_nonneg i (by omega)]; exact q)
theorem unI {f:Value→Sem Value} {g:Int→Int}
  (rule:∀ (i:Int) (t:Tok) (s:Shared) (Q:Value→Shared→Prop) (E:Value→Shared→Prop),Q (.int (g i) s.toks) { s with toks:=s.toks + 1 }→wpAny (model X.prog X.w) X.A (f (.int i t)) Q E s) :
  UnR X f (rU fun i=>.int (g i)):=by
 intro pins s σ H x v Q I rx h
 obtain ⟨i,rfl,q⟩:=h
 obtain ⟨t,rfl⟩:=rx
 exact rule i t s _ _ ⟨.int (g i),H,I.tok _,⟨_,rfl⟩,q⟩
theorem W9:UnR X (unaryOp .USub) (rU fun i=>.int (-i)):=unI fun _ _ _ _ _ q=>neg_int q
end
def Zek:V→V→Bool
 | .non,.non=>true | .non,.int _=>true | .int _,.non=>true | .non,.bl _=>true | .bl _,.non=>true | .non,.str _=>true | .str _,.non=>true
 | .int _,.int _=>true | .bl _,.bl _=>true | .str _,.str _=>true | .byt _,.byt _=>true
 | .int _,.str _=>true | .str _,.int _=>true | .bl _,.str _=>true | .str _,.bl _=>true
 | _,_=>false
def rEq:R2:=fun x y H Q=>Zek x y = true∧Q (.bl (decide (x = y))) H
def rNe:R2:=fun x y H Q=>Zek x y = true∧Q (.bl (!decide (x = y))) H
theorem Z67 {i j:Int}:decide (V.int i = V.int j) = (i == j):=by
 rw [Bool.eq_iff_iff]
 simp
theorem Z8l {i j:Bool}:decide (V.bl i = V.bl j) = (i == j):=by
 rw [Bool.eq_iff_iff]
 simp
theorem Jj {i j:Str}:decide (V.str i = V.str j) = (i == j):=by
 rw [Bool.eq_iff_iff]
 simp
theorem Z68 {i j:Array UInt8}:decide (V.byt i = V.byt j) = (i.toList == j.toList):=by
 rw [Bool.eq_iff_iff]
 cases i
 cases j
 simp
section
variable {X:Cx} {a b c:Expr} {ta tb tc:TE} {pos:Pos}
theorem Yb {pins:List (Addr × Obj)} {σ:St} {H:Hp} {s:Shared} {Q:VK} {k k':Bool} (I:Inv X pins σ H s) (q:Q (.bl k) H) (e:k = k'):EP X pins σ Q (.bool k') s:=by
 subst e
 exact ⟨.bl k,H,I,rfl,q⟩
theorem Zs:OpR X (compareOp .Eq) rEq:=by
 intro pins s σ H x y v u Q I rx ry h
 obtain ⟨hs,q⟩:=h
 cases x with
 | non =>
  cases rx
  cases y with
  | non=>cases ry; exact PySem.EqNone.eq_none_none (Yb I q (by simp))
  | bl j=>cases ry; exact PySem.EqNone.eq_none_bool (Yb I q (by simp))
  | int j=>obtain ⟨t',rfl⟩:=ry; exact PySem.EqNone.eq_none_int (Yb I q (by simp))
  | str j=>obtain ⟨t',rfl⟩:=ry; exact PySem.EqNone.eq_none_str (Yb I q (by simp))
  | _=>exact absurd (show false = true from hs) Bool.false_ne_true
 | bl i =>
  cases rx
  cases y with
  | non=>cases ry; exact PySem.EqNone.eq_bool_none (Yb I q (by simp))
  | bl j=>cases ry; exact eq_bool (Yb I q Z8l)
  | str j=>obtain ⟨t',rfl⟩:=ry; exact PySem.EqMixed.eq_bool_str (Yb I q (by simp))
  | _=>exact absurd (show false = true from hs) Bool.false_ne_true
 | int i =>
  obtain ⟨t,rfl⟩:=rx
  cases y with
  | non=>cases ry; exact PySem.EqNone.eq_int_none (Yb I q (by simp))
  | int j=>obtain ⟨t',rfl⟩:=ry; exact eq_int (Yb I q Z67)
  | str j=>obtain ⟨t',rfl⟩:=ry; exact PySem.EqMixed.eq_int_str (Yb I q (by simp))
  | _=>exact absurd (show false = true from hs) Bool.false_ne_true
 | str i =>
  obtain ⟨t,rfl⟩:=rx
  cases y with
  | non=>cases ry; exact PySem.EqNone.eq_str_none (Yb I q (by simp))
  | bl j=>cases ry; exact PySem.EqMixed.eq_str_bool (Yb I q (by simp))
  | int j=>obtain ⟨t',rfl⟩:=ry; exact PySem.EqMixed.eq_str_int (Yb I q (by simp))
  | str j=>obtain ⟨t',rfl⟩:=ry; exact eq_str (Yb I q Jj)
  | _=>exact absurd (show false = true from hs) Bool.false_ne_true
 | byt i =>
  obtain ⟨t,rfl⟩:=rx
  cases y with
  | byt j=>obtain ⟨t',rfl⟩:=ry; exact PySem.W.eq_bytes (Yb I q Z68)
  | _=>exact absurd (show false = true from hs) Bool.false_ne_true
 | _=>cases y <;> exact absurd (show false = true from hs) Bool.false_ne_true
theorem Z3l:OpR X (compareOp .NotEq) rNe:=by
 intro pins s σ H x y v u Q I rx ry h
 obtain ⟨hs,q⟩:=h
 cases x with
 | non =>
  cases rx
  cases y with
  | non=>cases ry; exact PySem.EqNone.ne_none_none (Yb I q (by simp))
  | bl j=>cases ry; exact PySem.EqNone.ne_none_bool (Yb I q (by simp))
  | int j=>obtain ⟨t',rfl⟩:=ry; exact PySem.EqNone.ne_none_int (Yb I q (by simp))
  | str j=>obtain ⟨t',rfl⟩:=ry; exact PySem.EqNone.ne_none_str (Yb I q (by simp))
  | _=>exact absurd (show false = true from hs) Bool.false_ne_true
 | bl i =>
  cases rx
  cases y with
  | non=>cases ry; exact PySem.EqNone.ne_bool_none (Yb I q (by simp))
  | bl j=>cases ry; exact ne_bool (Yb I q (congrArg not Z8l))
  | str j=>obtain ⟨t',rfl⟩:=ry; exact PySem.EqMixed.ne_bool_str (Yb I q (by simp))
  | _=>exact absurd (show false = true from hs) Bool.false_ne_true
 | int i =>
  obtain ⟨t,rfl⟩:=rx
  cases y with
  | non=>cases ry; exact PySem.EqNone.ne_int_none (Yb I q (by simp))
  | int j=>obtain ⟨t',rfl⟩:=ry; exact ne_int (Yb I q (congrArg not Z67))
  | str j=>obtain ⟨t',rfl⟩:=ry; exact PySem.EqMixed.ne_int_str (Yb I q (by simp))
  | _=>exact absurd (show false = true from hs) Bool.false_ne_true
 | str i =>
  obtain ⟨t,rfl⟩:=rx
  cases y with
  | non=>cases ry; exact PySem.EqNone.ne_str_none (Yb I q (by simp))
  | bl j=>cases ry; exact PySem.EqMixed.ne_str_bool (Yb I q (by simp))
  | int j=>obtain ⟨t',rfl⟩:=ry; exact PySem.EqMixed.ne_str_int (Yb I q (by simp))
  | str j=>obtain ⟨t',rfl⟩:=ry; exact ne_str (Yb I q (congrArg not Jj))
  | _=>exact absurd (show false = true from hs) Bool.false_ne_true
 | byt i =>
  obtain ⟨t,rfl⟩:=rx
  cases y with
  | byt j=>obtain ⟨t',rfl⟩:=ry; exact PySem.W.ne_bytes (Yb I q (congrArg not Z68))
  | _=>exact absurd (show false = true from hs) Bool.false_ne_true
 | _=>cases y <;> exact absurd (show false = true from hs) Bool.false_ne_true
theorem Wh:OpR X (compareOp .Lt) (rI0 fun i j=>.bl (decide (i < j))):=Zd4 fun _ _ _ _ _ _ _ q=>lt_int q
theorem Z9l:OpR X (compareOp .LtE) (rI0 fun i j=>.bl (decide (i ≤ j))):=Zd4 fun _ _ _ _ _ _ _ q=>le_int q
theorem Z0c:OpR X (compareOp .Gt) (rI0 fun i j=>.bl (decide (j < i))):=Zd4 fun _ _ _ _ _ _ _ q=>gt_int q
theorem Z5b:OpR X (compareOp .GtE) (rI0 fun i j=>.bl (decide (j ≤ i))):=Zd4 fun _ _ _ _ _ _ _ q=>ge_int q
theorem Zc (b:Expr) {op:CmpOp} (h:op ≠ .In:=by decide) (h2:op ≠ .NotIn:=by decide):behindInMarks op b = false:=by
 have e1:(op == CmpOp.In) = false:=by cases op <;> first | rfl | exact absurd rfl h
 have e2:(op == CmpOp.NotIn) = false:=by cases op <;> first | rfl | exact absurd rfl h2
 cases b <;> simp [behindInMarks,e1,e2]
theorem Yp {op:CmpOp} {r:R2} (ho:OpR X (compareOp op) r) (ha:PE X a ta) (hb:PE X b tb) (hm:behindInMarks op b = false):PE X (.Compare a [op] [b] pos) (tOp r ta tb):=by
 intro pins s σ H Q I h
 exact wpAny_Compare1 (Zeb ha hb I h fun v u s2 x y H2 I2 rx ry q=>ho pins s2 σ H2 x y v u Q I2 rx ry q) hm
def Z8r (t:TE):TT:=fun σ H Q=>t σ H fun x H'=>∃ k,x = .bl k∧Q k H'
theorem Z9 {op:CmpOp} {r:R2} (ho:OpR X (compareOp op) r) (ha:PE X a ta) (hb:PE X b tb) (hm:behindInMarks op b = false):PT X (.Compare a [op] [b] pos) (Z8r (tOp r ta tb)):=by
 intro pins s σ H Q I h
 refine wpAny_isTrue_Compare1 (thn (ha pins s σ H _ I h) fun v s1 ⟨x,H1,I1,r1,q1⟩=>thn (hb pins s1 σ H1 _ I1 q1) fun u s2 ⟨y,H2,I2,r2,q2⟩ =>
  thn (ho pins s2 σ H2 x y v u _ I2 r1 r2 q2) fun c s3 ⟨z,H3,I3,r3,k,e,q3⟩=>?_) hm
 subst e
 cases r3
 exact wpAny_truthy_bool ⟨H3,I3,q3⟩
theorem To:(sizeLine:Nat) < 2 ^ 63:=by rw [sizeLine_eq]; decide
theorem Z3m:OpR X (binaryOp .Add) (fun x y H Q=>∃ i j,x = .str i∧y = .str j∧i.length + j.length ≤ sizeLine∧Q (.str (i ++ j)) H):=by
 intro pins s σ H x y v u Q I rx ry h
 obtain ⟨i,j,rfl,rfl,hz,q⟩:=h
 obtain ⟨t,rfl⟩:=rx
 obtain ⟨t',rfl⟩:=ry
 exact add_str (fun t' tk=>⟨.str (i ++ j),H,I.tok _,⟨_,rfl⟩,q⟩) hz
theorem Tv {x:V} {us:List Value} (r:Vals [x] us):∃ u,us = [u]∧RelV x u:=by
 cases r with
 | cons r1 r2=>cases r2; exact ⟨_,rfl,r1⟩
theorem Zat {x y:V} {us:List Value} (r:Vals [x,y] us):∃ u w',us = [u,w']∧RelV x u∧RelV y w':=by
 cases r with
 | cons r1 r2 =>
  cases r2 with
  | cons r3 r4=>cases r4; exact ⟨_,_,rfl,r1,r3⟩
theorem Z6e (hc:X.calm = true):T6 X (.builtin "max") (fun xs H Q=>∃ i j,xs = [.int i,.int j]∧Q (.int (if j > i then j else i)) H):=by
 intro pins s σ H xs us Q I r h
 obtain ⟨i,j,rfl,q⟩:=h
 obtain ⟨u,w',rfl,⟨t,rfl⟩,⟨t',rfl⟩⟩:=Zat r
 refine max_two_ints (I.ok.hd hc) fun h' tk k=>⟨_,H,I.kept k,?_,q⟩
 by_cases hj:j > i
 ·rw [if_pos hj,if_pos hj]; exact ⟨_,rfl⟩
 ·rw [if_neg hj,if_neg hj]; exact ⟨_,rfl⟩
theorem Wl:T6 X (.type "int") (fun xs H Q=>(∃ i,xs = [.int i]∧Q (.int i) H) ∨ ∃ k,xs = [.bl k]∧Q (.int (if k then 1 else 0)) H):=by
 intro pins s σ H xs us Q I r h
 rcases h with ⟨i,rfl,q⟩ | ⟨k,rfl,q⟩
 ·obtain ⟨u,rfl,t,rfl⟩:=Tv r
  exact call_int_int ⟨.int i,H,I,⟨_,rfl⟩,q⟩
 ·obtain ⟨u,rfl,r1⟩:=Tv r
  cases r1
  exact call_int_bool ⟨.int (if k then 1 else 0),H,I.tok _,⟨_,rfl⟩,q⟩
theorem Wr:T6 X (.builtin "ord") (fun xs H Q=>∃ x,xs = [.str x]∧x.length = 1∧Q (.int (x.cps.getD 0 0:Nat)) H):=by
 intro pins s σ H xs us Q I r h
 obtain ⟨x,rfl,hz,q⟩:=h
 obtain ⟨u,rfl,t,rfl⟩:=Tv r
 exact ord_of_one hz ⟨.int _,H,I.tok _,⟨_,rfl⟩,q⟩
end
structure ObjM (h:Heap) (x dx C:Addr) (mA:Str→Option Value):Prop where
 obj:h.get? x = some (PySem.W.instObj C dx)
 ns:h.Ns1 dx mA
 ne:dx ≠ x
theorem Z5m {h:Heap} {dx:Addr} {mA:Str→Option Value} (n:h.Ns1 dx mA):∃ od,h.get? dx = some od∧∀ name,PySem.W.lookIn name od = some (mA name):=by
 obtain ⟨o,es,ep,ho,hd,hk,_,hm⟩:=n
 refine ⟨o,ho,fun name=>?_⟩
 have e:=hm name
 unfold nsFind findBy at e
 rw [← Array.find?_toList] at e
 unfold PySem.W.lookIn
 rw [hd]
 dsimp only
 split
 ·rename_i y q
  rw [q] at e
  exact congrArg some e
 ·rename_i q
  rw [q] at e
  have a:es.toList.any (·.refKey) = false:=by
   rw [List.any_eq_false]
   intro y hy
   obtain ⟨z,t,hkey⟩:=hk y (Array.mem_toList_iff.mp hy)
   simp [DictEntry.refKey,hkey]
  have a':¬ es.toList.any (·.refKey) = true:=by rw [a]; exact Bool.false_ne_true
  rw [if_neg a']
  exact congrArg some e
theorem ObjM.look {h:Heap} {x dx C:Addr} {mA:Str→Option Value} (I:ObjM h x dx C mA):∃ od,PySem.W.InstAt h x (PySem.W.instObj C dx) C (some od)∧∀ name,PySem.W.lookIn name od = some (mA name) :=
 let ⟨od,ho,hl⟩:=Z5m I.ns
 ⟨od,⟨I.obj,rfl,rfl,ho⟩,hl⟩
section
variable {prog:Program} {w:World} {A:Around} {E:Value→Shared→Prop} {s:Shared} {K:PySem.W.Frag} {x dx C f:Addr} {mA:Str→Option Value} {name:Str} {v:Value}
theorem Za8 {expr:Bool} {Q:Value→Shared→Prop} (X:K.In s.heap) (I:ObjM s.heap x dx C mA) (hg:PySem.W.plainGet K C name = true) (hh:PySem.W.hasDictIn K C = true)
  (ha:PySem.W.findIn K (.ref C) name = some none) (hv:mA name = some v) (hv':PySem.W.handedIn v = true) (h:Q v { s with toks:=s.toks + 1 }) :
  wpAny (model prog w) A (getAttr (.ref x) name expr) Q E s:=by
 obtain ⟨od,J,hl⟩:=I.look
 exact PySem.W.get_value X J (PySem.W.plainGet_of hg).1 (PySem.W.findObj_own hh ha rfl (by rw [hl,hv])) hv' h
theorem Z7v {pl:Sem Bool} {Q:Value × List Value→Shared→Prop} (X:K.In s.heap) (I:ObjM s.heap x dx C mA) (hg:PySem.W.plainGet K C name = true)
  (hf:PySem.W.findIn K (.ref C) name = some (some (.ref f))) (ht:PySem.W.isFn K (.ref f) = true) (hv:mA name = none) (h:Q (.ref f,[.ref x]) s) :
  wpAny (model prog w) A (getMethod (.ref x) name pl) Q E s:=by
 obtain ⟨od,J,hl⟩:=I.look
 exact PySem.W.method_fn X J (PySem.W.plainGet_of hg).1 (PySem.W.plainGet_of hg).2 hf (beq_iff_eq.mp ht) (by show (PySem.W.lookIn name od).map (·.isSome) = some false; rw [hl,hv]; rfl) h
theorem Z8z {ns:List Str} {Q:Unit→Shared→Prop} (X:K.In s.heap) (I:ObjM s.heap x dx C mA)
  (hs:PySem.W.findIn K (.ref C) "__setattr__" = some (some (.builtin "object.__setattr__"))) (hp:PySem.W.plainOver K C = true) (ht:PySem.W.takerIn K C name = some none) (hh:PySem.W.hasDictIn K C = true)
  (hw:PySem.Within mA ns) (hsz:ns.length ≤ sizeLine)
  (h:∀ h',ObjM h' x dx C (fun y=>if y = name then some v else mA y)→Heap.SameBut dx s.heap h'→Q () { s with heap:=h',toks:=s.toks + 2 }) :
  wpAny (model prog w) A (setAttr (.ref x) name v) Q E s:=by
 obtain ⟨od,J,hl⟩:=I.look
 refine PySem.W.set_plain X J hs (PySem.W.osa_open (s:={ s with toks:=s.toks + 1 }) (r:=none) X J hp ht fun b=>?_)
 obtain ⟨cd,hc,hd'⟩:=PySem.W.any_some hh
 have hx:s.heap.get? x = some ⟨.ref C,some dx,.plain,#[]⟩:=I.obj
 refine wpAny_bind (wpAny_pure (wpAny_bind (wpAny_bind (wpAny_loadPart hx (wpAny_bind (PySem.W.Looks.here (s:={ s with toks:=s.toks + 1 }) (PySem.W.looks_clsIn X hc) ?_))))))
 rw [hd']
 refine wpAny_pure (a:=some dx) (wpAny_bind (wpAny_pure (wpAny_bind ?_)))
 refine wpAny_nsSet1 (s:={ s with toks:=s.toks + 1 }) I.ns fun h' hn2 hs2=>?_
 obtain ⟨oD,esD,epD,hoD,hdD,hcD⟩:=hn2.count (PySem.Within.cons name v hw)
 refine wpAny_bind (wpAny_lookBehind hoD (by rw [hdD]; exact pastItsLine_dict (Nat.le_trans hcD (by rw [List.length_cons]; omega))) ?_)
 exact wpAny_pure (h _ ⟨(hs2.2 _ (Ne.symm I.ne)).trans I.obj,hn2,I.ne⟩ hs2)
theorem Z7l {R:Result→Shared→Prop} {vs:List Value} {kw:List (Str × Value)} (X:K.In s.heap) (hm:PySem.W.makesIn K C = true)
  (hi:PySem.W.findIn K (.ref C) "__init__" = some (some (.ref f))) (hf:PySem.W.typeIn K (.ref f) = some (.type "function"))
  (h:codeAny (model prog w) (A.under (.builtin "type.__call__" ⟨.ref C :: vs,kw⟩)) (.call (.ref f) ⟨.ref (s.heap.objs.size + 1) :: vs,kw⟩) (PySem.W.InitBack (s.heap.objs.size + 1) R)
   { s with heap:=(s.heap.push PySem.W.emptyDict).push (PySem.W.instObj C s.heap.objs.size) }) :
  codeAny (model prog w) A (.call (.ref C) ⟨vs,kw⟩) R s:=by
 obtain ⟨hh,g,d,t,os⟩:=s
 exact PySem.W.make_core (PySem.W.makes_of X hm) (PySem.W.looks_findIn X hi) (fun self=>PySem.W.bind_fn X self hf) (.inl rfl) h
end
def Yw (f:Str) (v:V):List (Str × V)→List (Str × V)
 | []=>[(f,v)]
 | (g,x) :: r=>if g = f then (g,v) :: r else (g,x) :: Yw f v r
theorem Up (f g:Str) (v:V):∀ fs:List (Str × V),(Yw f v fs).lookup g = if g = f then some v else fs.lookup g
 | []=>by
  show List.lookup g [(f,v)] = _
  by_cases h:g = f
  ·have hb:(g == f) = true:=beq_iff_eq.mpr h
   simp only [List.lookup,hb,if_pos h]
  ·have hb:(g == f) = false:=beq_eq_false_iff_ne.mpr h
   simp only [List.lookup,hb,if_neg h]
 | (k,x) :: r=>by
  have ih:=Up f g v r
  rw [show Yw f v ((k,x) :: r) = (if k = f then (k,v) :: r else (k,x) :: Yw f v r) from rfl]
  by_cases hk:k = f
  ·rw [if_pos hk]
   by_cases h:g = k
   ·have hb:(g == k) = true:=beq_iff_eq.mpr h
    simp only [List.lookup,hb,if_pos (h.trans hk)]
   ·have hb:(g == k) = false:=beq_eq_false_iff_ne.mpr h
    simp only [List.lookup,hb,if_neg (fun e:g = f=>h (e.trans hk.symm))]
  ·rw [if_neg hk]
   by_cases h:g = k
   ·have hb:(g == k) = true:=beq_iff_eq.mpr h
    simp only [List.lookup,hb,if_neg (fun e:g = f=>hk (h.symm.trans e))]
   ·have hb:(g == k) = false:=beq_eq_false_iff_ne.mpr h
    simp only [List.lookup,hb]
    exact ih
theorem Ur (f:Str) (v:V):∀ fs:List (Str × V),f ∈ (Yw f v fs).map (·.1)∧∀ g,g ∈ fs.map (·.1)→g ∈ (Yw f v fs).map (·.1)
 | []=>⟨by simp [Yw],fun g h=>by simp at h⟩
 | (k,x) :: r=>by
  obtain ⟨i1,i2⟩:=Ur f v r
  rw [show Yw f v ((k,x) :: r) = (if k = f then (k,v) :: r else (k,x) :: Yw f v r) from rfl]
  by_cases hk:k = f
  ·rw [if_pos hk]
   subst hk
   exact ⟨by simp,fun g h=>by simpa using h⟩
  ·rw [if_neg hk]
   refine ⟨?_,fun g h=>?_⟩
   ·rw [List.map_cons]
    exact List.mem_cons_of_mem _ i1
   ·rw [List.map_cons] at h ⊢
    rcases List.mem_cons.mp h with e | e
    ·exact List.mem_cons.mpr (.inl e)
    ·exact List.mem_cons_of_mem _ (i2 g e)
theorem Uq (f:Str) (v:V):∀ fs:List (Str × V),(Yw f v fs).length ≤ fs.length + 1
 | []=>by simp [Yw]
 | (k,x) :: r=>by
  have ih:=Uq f v r
  rw [show Yw f v ((k,x) :: r) = (if k = f then (k,v) :: r else (k,x) :: Yw f v r) from rfl]
  by_cases hk:k = f
  ·rw [if_pos hk,List.length_cons,List.length_cons]; omega
  ·rw [if_neg hk,List.length_cons,List.length_cons]; omega
theorem RelO.some_of {v:V} {o:Option Value} (r:RelO (some v) o):∃ u,o = some u∧RelV v u:=by
 cases o with
 | none=>exact (show False from r).elim
 | some u=>exact ⟨u,rfl,r⟩
theorem RelO.none_of {o:Option Value} (r:RelO none o):o = none:=by
 cases o with
 | none=>rfl
 | some u=>exact (show False from r).elim
theorem Z62 {v:V} {u:Value} (r:RelV v u):PySem.W.handedIn u = true:=by
 cases v with
 | non=>cases (show u = Value.none from r); rfl
 | bl b=>cases (show u = Value.bool b from r); rfl
 | int i=>obtain ⟨t,e⟩:=(show ∃ t,u = Value.int i t from r); cases e; rfl
 | str x=>obtain ⟨t,e⟩:=(show ∃ t,u = Value.str x t from r); cases e; rfl
 | byt b=>obtain ⟨t,e⟩:=(show ∃ t,u = Value.bytes b t from r); cases e; rfl
 | flt b=>obtain ⟨t,e⟩:=(show ∃ t,u = Value.float b t from r); cases e; rfl
 | ref a=>cases (show u = Value.ref a from r); rfl
 | ty n=>cases (show u = Value.type n from r); rfl
section
variable {P:Program} {w:World} {H H':Hp} {h h':Heap} {a C dx:Addr} {fs fs':List (Str × V)}
theorem Je (hok:HOk P w H h) (e:H a = some (.ins C dx fs)):∃ mA,ObjM h a dx C mA∧(∀ f,RelO (fs.lookup f) (mA f))∧PySem.Within mA (fs.map (·.1))∧fs.length ≤ 1000∧H dx = some (.own a):=by
 obtain ⟨d,z,ne,ob,mA,n,r,q⟩:=(show ObjOk P w H h a (.ins C dx fs) from hok a _ e)
 exact ⟨mA,⟨ob,n,ne⟩,r,q,z,d⟩
end
structure Cls (K:PySem.W.Frag) (C:Addr):Prop where
 pg:PySem.W.plainGet K C Str.empty = true
 hd:PySem.W.hasDictIn K C = true
 po:PySem.W.plainOver K C = true
 sa:PySem.W.findIn K (.ref C) "__setattr__" = some (some (.builtin "object.__setattr__"))
theorem Cls.get {K:PySem.W.Frag} {C:Addr} (c:Cls K C) (f:Str):PySem.W.plainGet K C f = true:=c.pg
def NoAttr (K:PySem.W.Frag) (C:Addr) (f:Str):Prop:=PySem.W.findIn K (.ref C) f = some none
theorem NoAttr.taker {K:PySem.W.Frag} {C:Addr} {f:Str} (n:NoAttr K C f):PySem.W.takerIn K C f = some none:=by
 unfold PySem.W.takerIn
 rw [show PySem.W.findIn K (.ref C) f = some none from n]
 rfl
structure Meth (K:PySem.W.Frag) (C:Addr) (m:Str) (f:Addr):Prop where
 at_:PySem.W.findIn K (.ref C) m = some (some (.ref f))
 fn:PySem.W.isFn K (.ref f) = true
 kp:PySem.W.keepIn K (.ref f) = true
section
variable {X:Cx} {pins:List (Addr × Obj)} {σ:St} {H:Hp} {s:Shared} {a C dx:Addr} {fs:List (Str × V)} {f:Str} {v:V} {A:Around} {E:Value→Shared→Prop}
theorem Tp {b:Bool} {Q:Value→Shared→Prop} (I:Inv X pins σ H s) (e:H a = some (.ins C dx fs)) (c:Cls X.K C) (n:NoAttr X.K C f) (l:fs.lookup f = some v)
  (h:∀ u s',Inv X pins σ H s'→RelV v u→Q u s'):wpAny (model X.prog X.w) A (getAttr (.ref a) f b) Q E s:=by
 obtain ⟨mA,O,r,_,_,_⟩:=Je I.hok e
 obtain ⟨u,hu,ru⟩:=RelO.some_of (v:=v) (o:=mA f) (by rw [← l]; exact r f)
 exact Za8 I.kIn O (c.get f) c.hd n hu (Z62 ru) (h u _ (I.tok _) ru)
theorem Vs {m:Str} {g:Addr} {pl:Sem Bool} {Q:Value × List Value→Shared→Prop} (I:Inv X pins σ H s) (e:H a = some (.ins C dx fs)) (c:Cls X.K C) (k:Meth X.K C m g) (l:fs.lookup m = none)
  (h:Q (.ref g,[.ref a]) s):wpAny (model X.prog X.w) A (getMethod (.ref a) m pl) Q E s:=by
 obtain ⟨mA,O,r,_,_,_⟩:=Je I.hok e
 have hn:mA m = none:=RelO.none_of (by rw [← l]; exact r m)
 exact Z7v I.kIn O (c.get m) k.at_ k.fn hn h
theorem Tc {y:V} {u:Value} {Q:Unit→Shared→Prop} (I:Inv X pins σ H s) (e:H a = some (.ins C dx fs)) (c:Cls X.K C) (n:NoAttr X.K C f) (hl:fs.length < 1000) (ry:RelV y u)
  (h:∀ s',Inv X pins σ (upd H a (.ins C dx (Yw f y fs))) s'→Q () s'):wpAny (model X.prog X.w) A (setAttr (.ref a) f u) Q E s:=by
 obtain ⟨mA,O,r,wi,_,ho⟩:=Je I.hok e
 have hz:(fs.map (·.1)).length ≤ sizeLine:=by rw [List.length_map,sizeLine_eq]; omega
 refine Z8z I.kIn O c.sa c.po n.taker c.hd wi hz fun h' O' sb=>h _ ?_
 have hd:∃ o,h'.get? dx = some o:=let ⟨o,_,_,e',_⟩:=O'.ns; ⟨o,e'⟩
 refine I.write (x:=a) (e:=dx) (by rw [e]; exact True.intro) (.inr ho) (fun b q hb z=>(sb.2 b hb).trans z) hd ?_
 refine ⟨by rw [Zl O.ne]; exact ho,?_,O.ne,O'.obj,_,O'.ns,fun g=>?_,fun g hg=>?_⟩
 ·have:=Uq f y fs; omega
 ·show RelO ((Yw f y fs).lookup g) (if g = f then some u else mA g)
  rw [Up]
  by_cases q:g = f
  ·rw [if_pos q,if_pos q]; exact ry
  ·rw [if_neg q,if_neg q]; exact r g
 ·by_cases q:g = f
  ·rw [q]; exact (Ur f y fs).1
  ·refine (Ur f y fs).2 g (wi g fun z=>hg ?_)
   show (if g = f then some u else mA g) = none
   rw [if_neg q]; exact z
theorem Inv.made (I:Inv X pins σ H s):Inv X pins σ (upd (upd H s.heap.objs.size (.own (s.heap.objs.size + 1))) (s.heap.objs.size + 1) (.ins C s.heap.objs.size []))
  { s with heap:=(s.heap.push PySem.W.emptyDict).push (PySem.W.instObj C s.heap.objs.size) }:=by
 have e1:(s.heap.push PySem.W.emptyDict).get? s.heap.objs.size = some PySem.W.emptyDict:=Heap.get?_push_size s.heap rfl
 have e2:((s.heap.push PySem.W.emptyDict).push (PySem.W.instObj C s.heap.objs.size)).get? (s.heap.objs.size + 1) = some (PySem.W.instObj C s.heap.objs.size):=by
  have:=Heap.get?_push_size (s.heap.push PySem.W.emptyDict) (o:=PySem.W.instObj C s.heap.objs.size) rfl
  rwa [Heap.size_push] at this
 have e3:(s.heap.push PySem.W.emptyDict).Ns s.heap.objs.size (fun _=>none):=⟨PySem.W.emptyDict,#[],_,e1,rfl,(fun e he=>absurd he (by simp)),fun _=>rfl⟩
 have I1:=I.laid (a:=s.heap.objs.size) (o:=.own (s.heap.objs.size + 1)) (h':=s.heap.push PySem.W.emptyDict) (t':=s.toks) (fun b u q=>Heap.get?_push_of_some _ q) (Nat.le_refl _) ⟨_,e1⟩
 refine I1.laid (a:=s.heap.objs.size + 1) (o:=.ins C s.heap.objs.size []) (t':=s.toks) (fun b u q=>Heap.get?_push_of_some _ q) (Nat.le_of_eq (Heap.size_push _ _)) ?_
 have ne:s.heap.objs.size ≠ s.heap.objs.size + 1:=Nat.ne_of_lt (Nat.lt_succ_self _)
 refine ⟨by rw [Zl ne,Z3],Nat.zero_le _,ne,e2,fun _=>none,(Heap.Ns1.of_empty e3).at fun o q=>Heap.get?_push_of_some _ q,fun _=>True.intro,fun y hy=>absurd rfl hy⟩
theorem Zac {prog:Program} {w:World} {env:Env} {e:Expr} {f:Str} {pos:Pos} {s:Shared} {Q:Value→Shared→Prop} (hb:attributeBase e f env (eval e env) = eval e env)
  (h:wpAny (model prog w) A (eval e env) (fun o s₁=>wpAny (model prog w) A (getAttr o f true) Q E s₁) E s):wpAny (model prog w) A (eval (.Attribute e f pos) env) Q E s :=
 Attribute_any_ h (by rw [arm_eval_Attribute,hb])
end
def Zei (K:PySem.W.Frag) (ta:TE) (f:Str):TE:=fun σ H Q=>ta σ H fun x H1=>∃ a C dx fs v,x = .ref a∧H1 a = some (.ins C dx fs)∧Cls K C∧NoAttr K C f∧fs.lookup f = some v∧Q v H1
def Zao (K:PySem.W.Frag) (ta tv:TE) (f:Str):TS:=fun D σ H=>tv σ H fun y H1=>ta σ H1 fun x H2=>∃ a C dx fs,x = .ref a∧H2 a = some (.ins C dx fs)∧Cls K C∧NoAttr K C f∧fs.length < 1000 ∧
 D.nx σ (upd H2 a (.ins C dx (Yw f y fs)))
def Zer (X:Cx) (op:Operator) (rd:V→V→Hp→VK→Prop):Prop :=
 ∀ (pins:List (Addr × Obj)) (s:Shared) (σ:St) (H:Hp) (x y:V) (u v:Value) (Q:VK),Inv X pins σ H s→RelV x u→RelV y v→rd x y H Q→wpAny (model X.prog X.w) X.A (inplaceOp op u v) (EP X pins σ Q) X.xe s
def Z94 (K:PySem.W.Frag) (ta tv:TE) (rd:V→V→Hp→VK→Prop) (f:Str):TS:=fun D σ H=>ta σ H fun x H1=>∃ a C dx fs v,x = .ref a∧H1 a = some (.ins C dx fs)∧Cls K C∧NoAttr K C f∧fs.lookup f = some v ∧
 tv σ H1 fun y H2=>rd v y H2 fun z H3=>∃ dx' fs',H3 a = some (.ins C dx' fs')∧fs'.length < 1000∧D.nx σ (upd H3 a (.ins C dx' (Yw f z fs')))
section
variable {X:Cx} {o e value:Expr} {f:Str} {pos pos' tpos:Pos} {ta tv:TE}
theorem Zt (he:PE X e ta) (hb:attributeBase e f X.env (eval e X.env) = eval e X.env):PE X (.Attribute e f pos) (Zei X.K ta f):=by
 intro pins s σ H Q I h
 refine Zac hb (thn (he pins s σ H _ I h) fun u s1 ⟨x,H1,I1,rx,a,C,dx,fs,v,ex,ea,c,n,l,q⟩=>?_)
 subst ex
 obtain rfl:u = Value.ref a:=rx
 exact Tp I1 ea c n l fun u' s2 I2 ru=>⟨v,H1,I2,ru,q⟩
theorem Yg (ha:PE X o ta) (hv:PE X value tv) (hs:swapsWith value (some (.Attribute o f pos')) pos.line X.env = pure false):PS X (.Assign [.Attribute o f pos'] value pos) (Zao X.K ta tv f):=by
 intro pins s σ H D I h
 refine plainObj_wpAny_Assign_Attribute (thn (hv pins s σ H _ I h) fun u s1 ⟨y,H1,I1,ry,q⟩=>thn (ha pins s1 σ H1 _ I1 q) fun ov s2 ⟨x,H2,I2,rx,a,C,dx,fs,ex,ea,c,n,l,q2⟩=>?_) hs
 subst ex
 obtain rfl:ov = Value.ref a:=rx
 exact Tc I2 ea c n l ry fun s3 I3=>⟨σ,_,I3,q2⟩
theorem Uf {op:Operator} {rd:V→V→Hp→VK→Prop} (ha:PE X o ta) (hv:PE X value tv) (hop:Zer X op rd):PS X (.AugAssign (.Attribute o f tpos) op value pos) (Z94 X.K ta tv rd f):=by
 intro pins s σ H D I h
 refine wpAny_AugAssign_AttributeAny (thn (ha pins s σ H _ I h) fun ov s1 ⟨x,H1,I1,rx,a,C,dx,fs,v,ex,ea,c,n,l,q⟩=>?_)
 subst ex
 obtain rfl:ov = Value.ref a:=rx
 refine Tp I1 ea c n l fun u s2 I2 ru=>thn (hv pins s2 σ H1 _ I2 q) fun w3 s3 ⟨y,H2,I3,ry,q3⟩=>thn (hop pins s3 σ H2 v y u w3 _ I3 ru ry q3) fun w4 s4 ⟨z,H3,I4,rz,dx',fs',ea',l',q4⟩=>?_
 exact Tc I4 ea' c n l' rz fun s5 I5=>⟨σ,_,I5,q4⟩
def Zf1:V→V→Hp→VK→Prop:=fun x y H Q=>∃ i j,x = .int i∧y = .int j∧Q (.int (i + j)) H
theorem Z5y:Zer X .Add Zf1:=by
 rintro pins s σ H x y u v Q I rx ry ⟨i,j,rfl,rfl,q⟩
 obtain ⟨t,rfl⟩:=(show ∃ t,u = Value.int i t from rx)
 obtain ⟨t',rfl⟩:=(show ∃ t',v = Value.int j t' from ry)
 exact PyProof.Rows.iadd_int ⟨.int (i + j),H,I.tok _,⟨_,rfl⟩,q⟩
theorem methcall_of {pl:Sem Bool} {m:Str} {apos:Pos} {args:List Expr} {pins:List (Addr × Obj)} {s:Shared} {σ:St} {H:Hp} {Q:Value→Shared→Prop} {te:TE} (he:PE X e te) (I:Inv X pins σ H s)
  (h:te σ H fun x H1=>∃ a C dx fs g,x = .ref a∧H1 a = some (.ins C dx fs)∧Cls X.K C∧Meth X.K C m g∧fs.lookup m = none ∧
   ∀ s1,Inv X pins σ H1 s1→wpAny (model X.prog X.w) X.A (callWith pos (.ref g) [.ref a] (backTo pos (starEach args X.env)) (backToKw pos (keywordEach [] X.env))) Q X.xe s1)
  (ht:eval (.Call (.Attribute e m apos) args [] pos) X.env = (do
   let ov ← eval e X.env
   standAt apos.atName
   let (f,first) ← holding [ov] (getMethod ov m pl)
   callWith pos f first (backTo pos (starEach args X.env)) (backToKw pos (keywordEach [] X.env)))) :
  wpAny (model X.prog X.w) X.A (eval (.Call (.Attribute e m apos) args [] pos) X.env) Q X.xe s:=by
 refine PySem.W.methodCall_KW (pl:=pl) (thn (he pins s σ H _ I h) fun u s1 ⟨x,H1,I1,rx,a,C,dx,fs,g,ex,ea,c,k,l,q⟩=>?_) ht
 subst ex
 obtain rfl:u = Value.ref a:=rx
 exact Vs I1 ea c k l (q s1 I1)
end
section
variable {X:Cx} {pins:List (Addr × Obj)} {σ:St} {H:Hp} {s:Shared} {A:Around} {E:Value→Shared→Prop} {Q:Value→Shared→Prop} {c:Value} {b:Bool}
inductive TyOf (K:PySem.W.Frag) (H:Hp):V→Value→Prop where
 | non:TyOf K H .non (.type "NoneType")
 | bl (x:Bool):TyOf K H (.bl x) (.type "bool")
 | int (i:Int):TyOf K H (.int i) (.type "int")
 | str (x:Str):TyOf K H (.str x) (.type "str")
 | flt (x:UInt64):TyOf K H (.flt x) (.type "float")
 | lst {a:Addr} {xs:List V} (e:H a = some (.lst xs)):TyOf K H (.ref a) (.type "list")
 | frz {a:Addr} {o:Obj} {xs:List V} (e:H a = some (.frz o (.lst xs))):TyOf K H (.ref a) (.type "list")
 | tup {a:Addr} {xs:List V} (e:H a = some (.tup xs)):TyOf K H (.ref a) (.type "tuple")
 | dK {a:Addr} {kvs:List (Key × V)} (e:H a = some (.dK kvs)):TyOf K H (.ref a) (.type "dict")
 | dT {a:Addr} {kvs:List (List Key × V)} (e:H a = some (.dT kvs)):TyOf K H (.ref a) (.type "dict")
 | ins {a C dx:Addr} {fs:List (Str × V)} (e:H a = some (.ins C dx fs)) (cl:Cls K C) (ha:PySem.W.findIn K (.ref C) "__class__" = some (some (.builtin "object.__class__")))
   (hn:PySem.W.specialIn K (.builtin "object.__class__") "__get__" = some (some (.builtin "getset_descriptor.__get__"))) (htk:PySem.W.takesIn K (.builtin "object.__class__") = some true)
   (hm:PySem.W.mroIn K C (.type "object") = some true):TyOf K H (.ref a) (.ref C)
theorem Z5w {x:V} {u t:Value} (I:Inv X pins σ H s) (rx:RelV x u) (ty:TyOf X.K H x t) (e:PySem.W.kitOne X.K t c = some b) (h:∀ tk,Q (.bool b) { s with toks:=tk }) :
  wpAny (model X.prog X.w) A (call (.builtin "isinstance") [u,c]) Q E s:=by
 cases ty with
 | non=>cases (show u = Value.none from rx); exact PySem.W.kia_one PySem.W.kitx_none I.kIn True.intro e (fun z=>nomatch z) h
 | bl y=>cases (show u = Value.bool y from rx); exact PySem.W.kia_one PySem.W.kitx_bool I.kIn True.intro e (fun z=>nomatch z) h
 | int i=>obtain ⟨t,q⟩:=(show ∃ t,u = Value.int i t from rx); cases q; exact PySem.W.kia_one PySem.W.kitx_int I.kIn True.intro e (fun z=>nomatch z) h
 | str y=>obtain ⟨t,q⟩:=(show ∃ t,u = Value.str y t from rx); cases q; exact PySem.W.kia_one PySem.W.kitx_str I.kIn True.intro e (fun z=>nomatch z) h
 | flt y=>obtain ⟨t,q⟩:=(show ∃ t,u = Value.float y t from rx); cases q; exact PySem.W.kia_one PySem.W.kitx_float I.kIn True.intro e (fun z=>nomatch z) h
 | @lst a xs ea =>
  cases (show u = Value.ref a from rx)
  obtain ⟨_,_,n,_,h1⟩:=(show ObjOk X.prog X.w H s.heap a (.lst xs) from I.hok a _ ea)
  exact PySem.W.kia_one PySem.W.kitx_list I.kIn ⟨_,h1,rfl⟩ e (fun z=>nomatch z) h
 | @frz a ob xs ea =>
  cases (show u = Value.ref a from rx)
  obtain ⟨_,_,_,n,_,h1⟩:=(show ObjOk X.prog X.w H s.heap a (.frz ob (.lst xs)) from I.hok a _ ea)
  exact PySem.W.kia_one PySem.W.kitx_list I.kIn ⟨_,h1,rfl⟩ e (fun z=>nomatch z) h
 | @tup a xs ea =>
  cases (show u = Value.ref a from rx)
  obtain ⟨_,_,_,p⟩:=(show ObjOk X.prog X.w H s.heap a (.tup xs) from I.hok a _ ea)
  obtain ⟨o,h1,h2,_⟩:=p
  exact PySem.W.kia_one PySem.W.kitx_tuple I.kIn ⟨o,h1,h2⟩ e (fun z=>nomatch z) h
 | @dK a kvs ea =>
  cases (show u = Value.ref a from rx)
  obtain ⟨_,_,vs,_,p⟩:=(show ObjOk X.prog X.w H s.heap a (.dK kvs) from I.hok a _ ea)
  obtain ⟨o,es,ep,h1,h2,_⟩:=p
  exact PySem.W.kia_one PySem.W.kitx_dict I.kIn ⟨o,h1,h2.1⟩ e (fun z=>nomatch z) h
 | @dT a kvs ea =>
  cases (show u = Value.ref a from rx)
  obtain ⟨_,_,xs,_,o,es,ep,h1,h2,_⟩:=(show ObjOk X.prog X.w H s.heap a (.dT kvs) from I.hok a _ ea)
  exact PySem.W.kia_one PySem.W.kitx_dict I.kIn ⟨o,h1,h2.1⟩ e (fun z=>nomatch z) h
 | @ins a C dx fs ea cl ha hn htk hm =>
  cases (show u = Value.ref a from rx)
  obtain ⟨mA,O,_⟩:=Je I.hok ea
  obtain ⟨od,J,_⟩:=O.look
  exact PySem.W.kia_one (PySem.W.kitx_own (cl.get _) cl.hd ha hn htk hm) I.kIn J e (fun z=>nomatch z) h
end
structure Room (k:Nat) (A:Around):Prop where
 hd:A.handled = none
 dp:A.depth + 3 * k + 5 < recursionLimit
 un:A.units + 16 * k + 200 < cLine
theorem Room.mono {j k:Nat} {A:Around} (r:Room k A) (h:j ≤ k):Room j A:=⟨r.hd,by have:=r.dp; omega,by have:=r.un; omega⟩
theorem Room.deeper {k:Nat} {A:Around} (r:Room (k + 1) A) (env:Env):Room k (A.deeper env) :=
 ⟨r.hd,by have:=r.dp; show A.depth + 1 + 3 * k + 5 < _; omega,by have:=r.un; show A.units + 3 + 16 * k + 200 < _; omega⟩
theorem Z40 {A:Around} {C:Addr} {us:List Value} {kw:List (Str × Value)}:(A.under (.builtin "type.__call__" ⟨.ref C :: us,kw⟩)).depth = A.depth + 1:=by
 first | rfl | simp [Around.under,Code.weight,Code.isCreation,Code.isGuard,Code.isCaller,Code.frames,Code.isFrame,guardIds]
theorem Z3z {A:Around} {C:Addr} {us:List Value} {kw:List (Str × Value)}:(A.under (.builtin "type.__call__" ⟨.ref C :: us,kw⟩)).units = A.units + 1:=by
 first | rfl | simp [Around.under,Code.cUnits,Code.frames,Code.isFrame]
theorem Room.make {k:Nat} {A:Around} (r:Room (k + 1) A) (C:Addr) (us:List Value) (kw:List (Str × Value)):Room k (A.under (.builtin "type.__call__" ⟨.ref C :: us,kw⟩)) :=
 ⟨r.hd,by have:=r.dp; rw [Z40]; omega,by have:=r.un; rw [Z3z]; omega⟩
theorem Room.depth {k:Nat} {A:Around} (r:Room k A):A.depth < recursionLimit:=by have:=r.dp; omega
theorem Room.units0 {k:Nat} {A:Around} (r:Room k A):A.units < cLine:=by have:=r.un; omega
def T1:TA:=fun _ H Q=>Q [] H
def Yv (ta:TE) (tr:TA):TA:=fun σ H Q=>ta σ H fun x H1=>tr σ H1 fun xs H2=>Q (x :: xs) H2
section
variable {X:Cx} {e:Expr} {es:List Expr} {te:TE} {t:TA} {pos:Pos}
theorem Z4:PA X [] T1:=fun _ _ _ _ H Q I h=>Calls.spliced_nil ⟨[],H,I,.nil,h⟩
theorem Z0 (ha:PE X e te) (hr:PA X es t) (hs:starEach (e :: es) X.env = (false,eval e X.env) :: starEach es X.env:=by rfl):PA X (e :: es) (Yv te t):=by
 intro pos pins s σ H Q I h
 rw [hs]
 show wpAny _ _ (spliced ((false,eval e X.env) :: backTo pos (starEach es X.env))) _ _ s
 refine Calls.spliced_cons (thn (ha pins s σ H _ I h) fun u s1 ⟨x,H1,I1,r1,q1⟩=>?_)
 exact thn (hr pos pins s1 σ H1 _ I1 q1) fun us s2 ⟨xs,H2,I2,r2,q2⟩=>⟨x :: xs,H2,I2,.cons r1 r2,q2⟩
def Zav (t:TA):TE:=fun σ H Q=>t σ H fun xs H1=>xs.length ≤ sizeLine∧∀ p,H1 p = none→Q (.ref p) (upd H1 p (.tup xs))
def Zd0 (t:TA):TE:=fun σ H Q=>t σ H fun xs H1=>xs.length ≤ sizeLine∧∀ p,H1 p = none→Q (.ref p) (upd H1 p (.lst xs))
theorem Zj {x1} (h:PA X es t):PE X (.Tuple es x1 pos) (Zav t):=by
 intro pins s σ H Q I hq
 refine wpAny_Tuple_spliced (thn (h pos pins s σ H _ I hq) fun us s1 ⟨xs,H1,I1,r,z,q⟩=>⟨by rw [← r.length]; exact z,?_⟩)
 have hf:H1 s1.heap.objs.size = none:=I1.hok.fresh (Nat.le_refl _)
 refine ⟨.ref s1.heap.objs.size,upd H1 s1.heap.objs.size (.tup xs),I1.laid (t':=s1.toks) (fun b u e=>Heap.get?_push_of_some _ e) (Nat.le_refl _) ?_,rfl,q _ hf⟩
 exact ⟨z,us,r,⟨_,Heap.get?_push_size _ rfl,rfl,_,rfl⟩⟩
theorem Zv (h:PA X es t):PE X (.List es pos) (Zd0 t):=by
 intro pins s σ H Q I hq
 refine wpAny_List_spliced (thn (h pos pins s σ H _ I hq) fun us s1 ⟨xs,H1,I1,r,z,q⟩=>⟨by rw [← r.length]; exact z,?_⟩)
 have hf:H1 s1.heap.objs.size = none:=I1.hok.fresh (Nat.le_refl _)
 refine ⟨.ref s1.heap.objs.size,upd H1 s1.heap.objs.size (.lst xs),I1.laid (t':=s1.toks) (fun b u e=>Heap.get?_push_of_some _ e) (Nat.le_refl _) ?_,rfl,q _ hf⟩
 exact ⟨z,us,0,r,Heap.get?_push_size _ rfl⟩
end
abbrev Sp:=List V→Hp→VK→XK→Prop
abbrev CXT:=List Env→Hp→Shared→XK→Value→Shared→Prop
structure Env0 (P:Program) (w:World) (K:PySem.W.Frag) (mg:Str→Option Value) (base:Heap) (A:Around) (outer:List Env) (s:Shared) (H:Hp):Prop where
 frames:A.frames = some outer
 mod:Mod K mg base
 bs:∀ b o,base.get? b = some o→s.heap.get? b = some o∧H b = none
 bsz:base.objs.size ≤ s.heap.objs.size
 funs:s.heap.FunFrames base outer
 frf:∀ b ∈ frs outer,H b = none
 hok:HOk P w H s.heap
 bare:AllBare s.gens
def CE (outer:List Env) (P:Program) (w:World) (H:Hp) (s:Shared) (Q:VK) (u:Value) (s':Shared):Prop :=
 ∃ v H',s'.os = s.os∧AllBare s'.gens∧Un (frs outer) [] H H' s.heap s'.heap∧HOk P w H' s'.heap∧RelV v u∧Q v H'
def CR (CX:CXT) (outer:List Env) (P:Program) (w:World) (H:Hp) (s:Shared) (Q:VK) (E:XK) (r:Result) (s':Shared):Prop :=
 match r with
 | .ok (.ret u)=>CE outer P w H s Q u s'
 | .ok _=>False
 | .error e=>CX outer H s E e s'
structure FnOk (P:Program) (w:World) (K:PySem.W.Frag) (mg:Str→Option Value) (base:Heap) (CX:CXT) (k:Nat) (f:Addr) (fd:FuncData) (ps:List Str) (sp:Sp):Prop where
 len:∀ vs H Q E,sp vs H Q E→vs.length = ps.length
 run:∀ (A:Around) (outer:List Env) (s:Shared) (H:Hp) (args:Args) (us:List Value) (vs:List V) (Q:VK) (E:XK),Room k A→Env0 P w K mg base A outer s H→BindsTo s fd args (ps.zip us)→Vals vs us→sp vs H Q E →
  codeAny (model P w) A (.call (.ref f) args) (CR CX outer P w H s Q E) s
theorem FnOk.mono {P:Program} {w:World} {K:PySem.W.Frag} {mg:Str→Option Value} {base:Heap} {CX:CXT} {j k:Nat} {f:Addr} {fd:FuncData} {ps:List Str} {sp:Sp} (F:FnOk P w K mg base CX j f fd ps sp) (h:j ≤ k) :
  FnOk P w K mg base CX k f fd ps sp:=⟨F.len,fun A outer s H args us vs Q E hr=>F.run A outer s H args us vs Q E (hr.mono h)⟩
theorem FnOk.imp {P:Program} {w:World} {K:PySem.W.Frag} {mg:Str→Option Value} {base:Heap} {CX:CXT} {k:Nat} {f:Addr} {fd:FuncData} {ps:List Str} {sp sp':Sp} (F:FnOk P w K mg base CX k f fd ps sp)
  (h:∀ vs H Q E,sp' vs H Q E→sp vs H Q E):FnOk P w K mg base CX k f fd ps sp' :=
 ⟨fun vs H Q E q=>F.len vs H Q E (h _ _ _ _ q),fun A outer s H args us vs Q E hr he hb hv hs=>F.run A outer s H args us vs Q E hr he hb hv (h _ _ _ _ hs)⟩
theorem Env0.make {P:Program} {w:World} {K:PySem.W.Frag} {mg:Str→Option Value} {base:Heap} {A:Around} {outer:List Env} {s:Shared} {H:Hp} (e:Env0 P w K mg base A outer s H) (C:Addr) (us:List Value) (kw:List (Str × Value)) :
  Env0 P w K mg base (A.under (.builtin "type.__call__" ⟨.ref C :: us,kw⟩)) outer s H:=⟨by first | exact e.frames | (simpa [Around.under,Code.envs,Code.isFrame,pushEnvs] using e.frames),e.mod,e.bs,e.bsz,e.funs,e.frf,e.hok,e.bare⟩
section
variable {X:Cx} {pins:List (Addr × Obj)} {σ:St} {H:Hp} {s s':Shared}
theorem Inv.env0 (I:Inv X pins σ H s):Env0 X.prog X.w X.K X.mg X.base X.A X.stack s H :=
 ⟨I.ok.frames,I.ok.mod,I.bs,Nat.le_trans I.ok.bsz I.sz,I.stack,I.stkFree,I.hok,I.bare⟩
theorem Inv.after {Q:VK} {u:Value} (I:Inv X pins σ H s) (h:CE X.stack X.prog X.w H s Q u s'):EP X pins σ Q u s':=by
 obtain ⟨v,H',os,bare,un,hok,r,q⟩:=h
 obtain ⟨hh,g,d,t,os'⟩:=s'
 obtain rfl:os' = s.os:=os
 exact ⟨v,H',I.call (h':=hh) (g':=g) (d':=d) (t':=t) (ch:=[]) un hok bare (fun b z=>absurd z (by simp)),r,q⟩
end
def Z0y (sp:Sp) (dvs:List V) (E:XK) (t:TA):TE:=fun σ H Q=>t σ H fun vs H1=>sp (vs ++ dvs) H1 Q E
def Z6q (C:Addr) (m:Str) (sp:Sp) (dvs:List V) (E:XK) (ta:TE) (t:TA):TE:=fun σ H Q=>ta σ H fun x H1=>∃ a dx fs,x = .ref a∧H1 a = some (.ins C dx fs)∧fs.lookup m = none ∧
 t σ H1 fun vs H2=>sp (x :: (vs ++ dvs)) H2 Q E
def Zaw (C:Addr) (sp:Sp) (dvs:List V) (E:XK) (t:TA):TE:=fun σ H Q=>t σ H fun vs H1=>∀ x dx,H1 x = none→H1 dx = none→dx ≠ x →
 sp (.ref x :: (vs ++ dvs)) (upd (upd H1 dx (.own x)) x (.ins C dx [])) (fun v H2=>v = .non∧Q (.ref x) H2) E
def Binds (K:PySem.W.Frag) (fd:FuncData) (ps:List Str) (ds:List Value):Prop :=
 ∀ (s:Shared) (us:List Value),K.In s.heap→(us ++ ds).length = ps.length→BindsTo s fd ⟨us,[]⟩ (ps.zip (us ++ ds))
theorem Binds.all {K:PySem.W.Frag} {fd:FuncData} {ps:List Str} (h:∀ us:List Value,us.length = ps.length→bindArgs fd ⟨us,[]⟩ = pure (ps.zip us)):Binds K fd ps []:=fun s us _ hl=>by
 rw [List.append_nil] at hl ⊢
 exact .of_eq (h us hl)
def T0 (CX:CXT) (X:Cx) (E:XK):Prop:=∀ (pins:List (Addr × Obj)) (σ:St) (H:Hp) (s:Shared) (e:Value) (s':Shared),Inv X pins σ H s→CX X.stack H s E e s'→X.xe e s'
section
variable {X:Cx} {CX:CXT} {k:Nat} {f C:Addr} {fd:FuncData} {ps:List Str} {sp:Sp} {dvs:List V} {ds:List Value} {E:XK} {x m:Str} {p pos apos:Pos} {e o:Expr} {es:List Expr} {ta:TE} {t:TA}
theorem Z25 {pins:List (Addr × Obj)} {σ:St} {H:Hp} {s:Shared} {Q:VK} {us:List Value} {vs:List V} (F:FnOk X.prog X.w X.K X.mg X.base CX k f fd ps sp) (hr:Room k X.A) (hb:Binds X.K fd ps ds) (hd:Vals dvs ds) (hx:T0 CX X E)
  (I:Inv X pins σ H s) (r:Vals vs us) (h:sp (vs ++ dvs) H Q E):wpAny (model X.prog X.w) X.A (call (.ref f) us) (EP X pins σ Q) X.xe s:=by
 have r2:Vals (vs ++ dvs) (us ++ ds):=r.append hd
 have hl:(us ++ ds).length = ps.length:=by rw [← r2.length]; exact F.len _ _ _ _ h
 refine wpAny_call (codeAny_mono (F.run X.A X.stack s H ⟨us,[]⟩ (us ++ ds) (vs ++ dvs) Q E hr I.env0 (hb s us I.kIn hl) r2 h) fun r s' hq=>?_)
 cases r with
 | error e=>exact hx pins σ H s e s' I hq
 | ok fl =>
  cases fl with
  | ret u=>exact I.after hq
  | next=>exact False.elim hq
  | brk=>exact False.elim hq
  | cont=>exact False.elim hq
theorem Z9h (F:FnOk X.prog X.w X.K X.mg X.base CX k f fd ps sp) (hr:Room k X.A) (hg:Gl X x) (hm:X.mg x = some (.ref f)) (hk:PySem.W.keepIn X.K (.ref f) = true) (hb:Binds X.K fd ps ds) (hd:Vals dvs ds) (hx:T0 CX X E)
  (ha:PA X (e :: es) t) (hdb:(x == ("__debug__":Str)) = false:=by decide) (he:starEach (e :: es) X.env = (false,eval e X.env) :: starEach es X.env:=by rfl) (hpl:(backTo pos (starEach es X.env)).any (·.1) = false:=by rfl) :
  PE X (.Call (.Name x p) (e :: es) [] pos) (Z0y sp dvs E t):=by
 intro pins s σ H Q I h
 refine wpAny_Call_Name_kw (Z1m I hg hm ?_ hdb)
 refine PySem.W.callWith_K (h₀:=X.base) I.ok.mod.kin hk (thn (ha pos pins s σ H _ I h) fun us s1 ⟨vs,H1,I1,r,q⟩=>⟨I1.kIn,?_⟩) he hpl
 exact Z25 F hr hb hd hx I1 r q
theorem Z9e {pl:Sem Bool} (he:PE X o ta) (c:Cls X.K C) (hm:Meth X.K C m f) (F:FnOk X.prog X.w X.K X.mg X.base CX k f fd ps sp) (hr:Room k X.A) (hb:Binds X.K fd ps ds) (hd:Vals dvs ds) (hx:T0 CX X E) (ha:PA X (e :: es) t)
  (hst:starEach (e :: es) X.env = (false,eval e X.env) :: starEach es X.env:=by rfl) (hpl:(backTo pos (starEach es X.env)).any (·.1) = false:=by rfl)
  (ht:eval (.Call (.Attribute o m apos) (e :: es) [] pos) X.env = (do
   let ov ← eval o X.env
   standAt apos.atName
   let (f,first) ← holding [ov] (getMethod ov m pl)
   callWith pos f first (backTo pos (starEach (e :: es) X.env)) (backToKw pos (keywordEach [] X.env))):=by rfl) :
  PE X (.Call (.Attribute o m apos) (e :: es) [] pos) (Z6q C m sp dvs E ta t):=by
 intro pins s σ H Q I h
 refine PySem.W.methodCall_KW (pl:=pl) (thn (he pins s σ H _ I h) fun u s1 ⟨x,H1,I1,rx,a,dx,fs,ex,ea,l,q⟩=>?_) ht
 subst ex
 obtain rfl:u = Value.ref a:=rx
 refine Vs I1 ea c hm l ?_
 refine PySem.W.callWith_K (first:=[.ref a]) (h₀:=X.base) I.ok.mod.kin hm.kp (thn (ha pos pins s1 σ H1 _ I1 q) fun us s2 ⟨vs,H2,I2,r,q2⟩=>⟨I2.kIn,?_⟩) hst hpl
 exact Z25 (us:=.ref a :: us) (vs:=.ref a :: vs) F hr hb hd hx I2 (.cons rfl r) q2
theorem Z70 {pl:Sem Bool} (he:PE X o ta) (c:Cls X.K C) (hm:Meth X.K C m f) (F:FnOk X.prog X.w X.K X.mg X.base CX k f fd ps sp) (hr:Room k X.A) (hb:Binds X.K fd ps ds) (hd:Vals dvs ds) (hx:T0 CX X E)
  (ht:eval (.Call (.Attribute o m apos) [] [] pos) X.env = (do
   let ov ← eval o X.env
   standAt apos.atName
   let (f,first) ← holding [ov] (getMethod ov m pl)
   callWith pos f first (backTo pos (starEach [] X.env)) (backToKw pos (keywordEach [] X.env))):=by rfl) :
  PE X (.Call (.Attribute o m apos) [] [] pos) (Z6q C m sp dvs E ta T1):=by
 intro pins s σ H Q I h
 refine PySem.W.methodCall_KW (pl:=pl) (thn (he pins s σ H _ I h) fun u s1 ⟨x,H1,I1,rx,a,dx,fs,ex,ea,l,q⟩=>?_) ht
 subst ex
 obtain rfl:u = Value.ref a:=rx
 refine Vs I1 ea c hm l ?_
 exact PySem.W.callWith_K0 (first:=[.ref a]) I1.kIn hm.kp (Z25 (us:=[.ref a]) (vs:=[.ref a]) F hr hb hd hx I1 (.cons rfl .nil) q)
structure Mk (K:PySem.W.Frag) (C f:Addr):Prop where
 makes:PySem.W.makesIn K C = true
 init:PySem.W.findIn K (.ref C) "__init__" = some (some (.ref f))
 fn:PySem.W.isFn K (.ref f) = true
 kp:PySem.W.keepIn K (.ref C) = true
theorem Z6u {pins:List (Addr × Obj)} {σ:St} {H:Hp} {s:Shared} {Q:VK} {us:List Value} {vs:List V} (M:Mk X.K C f) (F:FnOk X.prog X.w X.K X.mg X.base CX k f fd ps sp) (hr:Room (k + 1) X.A) (hb:Binds X.K fd ps ds) (hd:Vals dvs ds)
  (hx:T0 CX X E) (I:Inv X pins σ H s) (r:Vals vs us)
  (h:∀ x dx,H x = none→H dx = none→dx ≠ x→sp (.ref x :: (vs ++ dvs)) (upd (upd H dx (.own x)) x (.ins C dx [])) (fun v H2=>v = .non∧Q (.ref x) H2) E) :
  wpAny (model X.prog X.w) X.A (call (.ref C) us) (EP X pins σ Q) X.xe s:=by
 have hq:=h (s.heap.objs.size + 1) s.heap.objs.size (I.hok.fresh (Nat.le_succ _)) (I.hok.fresh (Nat.le_refl _)) (Nat.ne_of_lt (Nat.lt_succ_self _))
 have I2:=Inv.made (C:=C) I
 have r2:Vals (V.ref (s.heap.objs.size + 1) :: (vs ++ dvs)) (Value.ref (s.heap.objs.size + 1) :: (us ++ ds)):=.cons rfl (r.append hd)
 have hl:(Value.ref (s.heap.objs.size + 1) :: us ++ ds).length = ps.length:=by
  have e:=r2.length
  rw [F.len _ _ _ _ hq] at e
  exact e.symm
 refine wpAny_call (Z7l (f:=f) I.kIn M.makes M.init (beq_iff_eq.mp M.fn) (codeAny_mono (F.run _ X.stack _ _ ⟨Value.ref (s.heap.objs.size + 1) :: us,[]⟩ (Value.ref (s.heap.objs.size + 1) :: (us ++ ds)) _ _ E (hr.make C us [])
  (I2.env0.make C us []) (hb _ (Value.ref (s.heap.objs.size + 1) :: us) I2.kIn hl) r2 hq) fun r s' hq'=>?_))
 cases r with
 | error e=>exact hx pins σ _ _ e s' I2 hq'
 | ok fl =>
  cases fl with
  | ret u =>
   obtain ⟨v,H',I3,rv,ev,q3⟩:=I2.after hq'
   subst ev
   exact ⟨rv,⟨V.ref (s.heap.objs.size + 1),H',I3,rfl,q3⟩⟩
  | next=>exact False.elim hq'
  | brk=>exact False.elim hq'
  | cont=>exact False.elim hq'
theorem Z9g (M:Mk X.K C f) (F:FnOk X.prog X.w X.K X.mg X.base CX k f fd ps sp) (hr:Room (k + 1) X.A) (hg:Gl X x) (hm:X.mg x = some (.ref C)) (hb:Binds X.K fd ps ds) (hd:Vals dvs ds) (hx:T0 CX X E)
  (ha:PA X (e :: es) t) (hdb:(x == ("__debug__":Str)) = false:=by decide) (he:starEach (e :: es) X.env = (false,eval e X.env) :: starEach es X.env:=by rfl) (hpl:(backTo pos (starEach es X.env)).any (·.1) = false:=by rfl) :
  PE X (.Call (.Name x p) (e :: es) [] pos) (Zaw C sp dvs E t):=by
 intro pins s σ H Q I h
 refine wpAny_Call_Name_kw (Z1m I hg hm ?_ hdb)
 refine PySem.W.callWith_K (h₀:=X.base) I.ok.mod.kin M.kp (thn (ha pos pins s σ H _ I h) fun us s1 ⟨vs,H1,I1,r,q⟩=>⟨I1.kIn,?_⟩) he hpl
 exact Z6u M F hr hb hd hx I1 r q
end
def PK (X:Cx) (kws:List Keyword) (t:TA):Prop :=
 ∀ (pos:Pos) (pins:List (Addr × Obj)) (s:Shared) (σ:St) (H:Hp) (Q:List V→Hp→Prop),Inv X pins σ H s→t σ H Q→wpAny (model X.prog X.w) X.A (evalAll ((backToKw pos (keywordEach kws X.env)).map (·.2))) (AP X pins σ Q) X.xe s
section
variable {X:Cx} {CX:CXT} {k:Nat} {f C:Addr} {fd:FuncData} {ps ks:List Str} {sp:Sp} {E:XK} {x m:Str} {p pos apos kpos:Pos} {e o:Expr} {es:List Expr} {kws:List Keyword} {te ta:TE} {t tk:TA} {nm:Option Str}
theorem Zc1:PK X [] T1:=fun _ _ _ _ H Q I h=>wpAny_evalAll_nil ⟨[],H,I,.nil,h⟩
theorem Z9a (ha:PE X e te) (hr:PK X kws t):PK X (⟨nm,e,kpos⟩ :: kws) (Yv te t):=by
 intro pos pins s σ H Q I h
 show wpAny _ _ (evalAll ((do let v ← eval e X.env; standAt pos; pure v) :: (backToKw pos (keywordEach kws X.env)).map (·.2))) _ _ s
 refine wpAny_evalAll_cons (wpAny_bind (thn (ha pins s σ H _ I h) fun u s1 ⟨x,H1,I1,r1,q1⟩=>wpAny_bind (wpAny_standAt (wpAny_pure ?_))))
 exact thn (hr pos pins s1 σ H1 _ I1 q1) fun us s2 ⟨xs,H2,I2,r2,q2⟩=>⟨x :: xs,H2,I2,.cons r1 r2,q2⟩
variable {g:List Value→List Value→List Value} {gV:List V→List V→List V}
end
structure FnScope (N P:List Str) (sc:Scope):Prop where
 kind:sc.kind = .function
 co:sc.isCoroutine = false
 gen:sc.isGenerator = false
 nd:N.Nodup
 pre:N.take P.length = P
 par:∀ x ∈ P,sc.names.lookup x = some .local ∨ sc.names.lookup x = some .cell
 nofree:∀ y ∈ sc.names,y.2 ≠ .free
theorem Z0r {kindOf:Str→Option NameKind} {x:Str}:∀ {binds:List (Str × Value)} {m:Str→Option Value},(∀ v,(x,v) ∉ binds)→bindL kindOf binds m x = m x
 | [],_,_=>rfl
 | (n,v) :: r,m,h=>by
  unfold bindL
  rw [Z0r fun w hw=>h w (List.mem_cons_of_mem _ hw)]
  split
  ·have:x ≠ n:=by rintro rfl; exact h v List.mem_cons_self
   simp [this]
  ·rfl
theorem Z0t {kindOf:Str→Option NameKind} {x:Str}:∀ {binds:List (Str × Value)} {m:Str→Option Value},(∀ v,(x,v) ∉ binds)→bindC kindOf binds m x = m x
 | [],_,_=>rfl
 | (n,v) :: r,m,h=>by
  unfold bindC
  rw [Z0t fun w hw=>h w (List.mem_cons_of_mem _ hw)]
  split
  ·rfl
  ·have:x ≠ n:=by rintro rfl; exact h v List.mem_cons_self
   simp [this]
theorem Z0s {kindOf:Str→Option NameKind} {x:Str} {v:Value}:∀ {P:List Str} {vs:List Value} {i:Nat} {m:Str→Option Value},P.Nodup→P[i]? = some x→vs[i]? = some v→kindOf x = some .local →
  bindL kindOf (P.zip vs) m x = some v
 | [],_,_,_,_,h,_,_=>by simp at h
 | _ :: _,[],_,_,_,_,h,_=>by simp at h
 | p :: P,w :: vs,0,m,nd,h1,h2,hk=>by
  simp at h1 h2; subst h1; subst h2
  show bindL kindOf ((p,w) :: P.zip vs) m p = _
  unfold bindL
  rw [Z0r fun v hv=>(List.nodup_cons.mp nd).1 (List.of_mem_zip hv).1,if_pos hk]
  simp
 | p :: P,w :: vs,i + 1,m,nd,h1,h2,hk=>by
  show bindL kindOf ((p,w) :: P.zip vs) m x = _
  unfold bindL
  exact Z0s (i:=i) (List.nodup_cons.mp nd).2 (by simpa using h1) (by simpa using h2) hk
theorem Z0u {kindOf:Str→Option NameKind} {x:Str} {v:Value}:∀ {P:List Str} {vs:List Value} {i:Nat} {m:Str→Option Value},P.Nodup→P[i]? = some x→vs[i]? = some v→kindOf x ≠ some .local →
  bindC kindOf (P.zip vs) m x = some v
 | [],_,_,_,_,h,_,_=>by simp at h
 | _ :: _,[],_,_,_,_,h,_=>by simp at h
 | p :: P,w :: vs,0,m,nd,h1,h2,hk=>by
  simp at h1 h2; subst h1; subst h2
  show bindC kindOf ((p,w) :: P.zip vs) m p = _
  unfold bindC
  rw [Z0t fun v hv=>(List.nodup_cons.mp nd).1 (List.of_mem_zip hv).1,if_neg hk]
  simp
 | p :: P,w :: vs,i + 1,m,nd,h1,h2,hk=>by
  show bindC kindOf ((p,w) :: P.zip vs) m x = _
  unfold bindC
  exact Z0u (i:=i) (List.nodup_cons.mp nd).2 (by simpa using h1) (by simpa using h2) hk
def start (N:List Str) (vs:List V):St:=vs.map some ++ List.replicate (N.length - vs.length) none
def Zas (CX:CXT) (P:Program) (w:World) (K:PySem.W.Frag) (mg:Str→Option Value) (base:Heap) (N:List Str) (qual:Str) (scope:Scope) (f:Addr) (cd:Value) (A:Around) (outer:List Env) (s:Shared) (H:Hp) (E:XK):Cx where
 prog:=P
 w:=w
 K:=K
 mg:=mg
 base:=base
 A:=A.deeper (envOfC qual scope s.heap.objs.size f cd)
 N:=N
 s₀:=s
 H₀:=H
 env:=envOfC qual scope s.heap.objs.size f cd
 outer:=outer
 stack:=envOfC qual scope s.heap.objs.size f cd :: outer
 ex:=[]
 calm:=true
 fn:=fun _=>true
 pn:=[]
 xe:=fun e s'=>wpAny (model P w) (A.deeper (envOfC qual scope s.heap.objs.size f cd)) (leaving (envOfC qual scope s.heap.objs.size f cd) e) (fun _ s''=>CX outer H s E e s'') (fun e' s''=>CX outer H s E e' s'') s'
theorem Z32 {sc:Scope} {n:Nat} {x:Str} (h:sc.names.lookup x = some .cell):∃ c,(cellsFrom n sc.names []).lookup x = some c:=by
 have q:=PySem.W.cellsFrom_some sc.names n [] (.inl h)
 exact Option.isSome_iff_exists.mp q
theorem Z5x {CX:CXT} {P:Program} {w:World} {K:PySem.W.Frag} {mg:Str→Option Value} {base:Heap} {N ps:List Str} {qual:Str} {scope:Scope} {f:Addr} {cd:Value} {A:Around} {outer:List Env} {s s1:Shared} {H:Hp} {E:XK} {us:List Value} {vs:List V}
  (S:FnScope N ps scope) (hd:A.handled = none) (e0:Env0 P w K mg base A outer s H) (hl:vs.length = ps.length) (r:Vals vs us)
  (x:InCallC s s.heap.objs.size (bindL (envOfC qual scope s.heap.objs.size f cd).kindOf (ps.zip us) fun _=>none) (cellsFrom (s.heap.objs.size + 1) scope.names []) (bindC (envOfC qual scope s.heap.objs.size f cd).kindOf (ps.zip us) fun _=>none) s1) :
  Inv (Zas CX P w K mg base N qual scope f cd A outer s H E) [] (start N vs) H s1:=by
 have hpl:ps.length ≤ N.length:=by have:=congrArg List.length S.pre; rw [List.length_take] at this; omega
 obtain ⟨h1,tk,rfl,hk⟩:=x.done
 have noA:∀ b:Addr,b ∉ (Zas CX P w K mg base N qual scope f cd A outer s H E).ex:=fun b z=>absurd (show b ∈ ([]:List Addr) from z) (by simp)
 refine ⟨⟨e0.mod,S.kind,rfl,rfl,Nat.le_refl _,fun y z c h1 h2=>?_,fun y hy=>?_,fun y c _ h=>?_,fun _=>hd,Around.frames_deeper e0.frames,.inr ⟨rfl,rfl⟩,fun b z=>absurd z (noA b),e0.bs,e0.bsz,fun b _ _=>noA b,fun b z=>absurd z (noA b),e0.funs,e0.frf⟩,
  rfl,e0.bare,Un.kept hk,⟨_,x.toInCall.ns,fun i y v h1 h2 h3=>?_⟩,fun y c h=>⟨_,x.cell y c h⟩,e0.hok.fresh (Nat.le_refl _),fun y c h=>?_,fun p hp=>absurd (show p ∈ ([]:List (Addr × Obj)) from hp) (by simp),e0.hok.kept hk,?_⟩
 ·exact name_of_addr x.apart (PySem.mem_of_lookup h1) (PySem.mem_of_lookup h2)
 ·have hy:scope.names.lookup y = some .cell ∨ scope.names.lookup y = some .free:=hy
  rcases hy with hy | hy
  ·exact Z32 hy
  ·exact absurd rfl (S.nofree _ (PySem.mem_of_lookup hy))
 ·exact Nat.le_of_lt (x.above y c (PySem.mem_of_lookup h))
 ·have hi:i < vs.length:=by
   unfold start at h2
   by_cases hi:i < vs.length
   ·exact hi
   ·rw [List.getElem?_append_right (by simpa using hi)] at h2
    rw [List.getElem?_replicate] at h2
    split at h2 <;> cases h2
  have ha:vs[i]? = some v:=by
   unfold start at h2
   rw [List.getElem?_append_left (by simpa using hi),List.getElem?_map] at h2
   cases e:vs[i]? with
   | none=>rw [e] at h2; cases h2
   | some a=>rw [e] at h2; cases h2; rfl
  obtain ⟨u,hu,rv⟩:=r.get ha
  have hp:ps[i]? = some y:=by
   rw [← S.pre,List.getElem?_take_of_lt (by omega)]; exact h1
  have ndP:ps.Nodup:=by rw [← S.pre]; exact S.nd.sublist (List.take_sublist _ _)
  refine ⟨u,rv,?_⟩
  rcases S.par y (List.mem_of_getElem? hp) with k | k
  ·exact .inl ⟨k,Z0s ndP hp hu k⟩
  ·obtain ⟨c,e⟩:=Z32 (n:=s.heap.objs.size + 1) k
   refine .inr ⟨.inl k,c,e,?_⟩
   have q:=x.cell y c e
   rw [Z0u ndP hp hu (by show scope.names.lookup y ≠ _; rw [k]; decide)] at q
   exact q
 ·exact e0.hok.fresh (Nat.le_of_lt (x.above y c (PySem.mem_of_lookup h)))
 ·unfold start
  show _ = N.length
  rw [List.length_append,List.length_map,List.length_replicate]
  omega
theorem Ze9 {CX:CXT} {P:Program} {w:World} {K:PySem.W.Frag} {mg:Str→Option Value} {base:Heap} {k:Nat} {f:Addr} {name qual:Str} {params:Arguments} {body:List Stmt} {scope:Scope} {dV kV doc pm cdv ct oc:Value} {an od:Option Addr}
  {osl:Array (Option Value)} {N ps:List Str} {sp:Sp} (lk:K.lookup f = some ⟨oc,od,.func (PySem.W.fnOf name qual params body scope dV kV doc pm an cdv ct),osl⟩) (hcd:PySem.W.codeIn K cdv qual = true) (S:FnScope N ps scope)
  (len:∀ vs H Q E,sp vs H Q E→vs.length = ps.length)
  (hbody:∀ (A:Around) (outer:List Env) (s:Shared) (H:Hp) (vs:List V) (Q:VK) (E:XK),Room k (A.deeper (envOfC qual scope s.heap.objs.size f cdv))→sp vs H Q E →
   ∃ t,PSs (Zas CX P w K mg base N qual scope f cdv A outer s H E) body t∧t { nx:=fun _ H'=>Q .non H',rt:=Q } (start N vs) H) :
  FnOk P w K mg base CX (k + 1) f (PySem.W.fnOf name qual params body scope dV kV doc pm an cdv ct) ps sp:=by
 refine ⟨len,fun A outer s H args us vs Q E hr e0 hb r hsp=>?_⟩
 have hl:=len _ _ _ _ hsp
 have KX:K.In s.heap:=e0.mod.kin.keeps fun b o e=>(e0.bs b o e).1
 have lim:s.heap.NoLimit:=e0.mod.nolimit.keeps fun b o e=>(e0.bs b o e).1
 have hkind:∀ y ∈ ps.zip us,scope.names.lookup y.1 = some .local ∨ (scope.names.lookup y.1 = some .cell∧((cellsFrom (s.heap.objs.size + 1) scope.names []).lookup y.1).isSome = true):=fun ⟨n,v⟩ hy=>by
  rcases S.par n (List.of_mem_zip hy).1 with q | q
  ·exact .inl q
  ·exact .inr ⟨q,PySem.W.cellsFrom_some _ _ _ (.inl q)⟩
 refine codeAny_call_function hr.depth (KX _ _ lk) rfl S.co S.gen rfl (PySem.W.codeRec_of KX hcd) (hb _ _ _ _ ?_)
 refine wpAny_newFunctionEnv_cells S.kind hkind fun env he s1 x=>?_
 subst he
 refine ⟨lim.keeps x.toInCall.keep,codeAny_func ?_⟩
 obtain ⟨t,ht,hq⟩:=hbody A outer s H vs Q E (hr.deeper _) hsp
 have I:Inv (Zas CX P w K mg base N qual scope f cdv A outer s H E) [] (start N vs) H s1:=Z5x S hr.hd e0 hl r x
 refine wpAny_mono (ht [] s1 (start N vs) H _ I hq) (fun fl s' hs=>?_) fun e s' hs=>hs
 have fin:∀ {σ':St} {H':Hp} {v:V} {u:Value},Inv (Zas CX P w K mg base N qual scope f cdv A outer s H E) [] σ' H' s'→RelV v u→Q v H'→CE outer P w H s Q u s' :=
  fun {σ' H' v u} J rv q=>⟨v,H',J.os,J.bare,J.base,J.hok,rv,q⟩
 cases fl with
 | ret u =>
  obtain ⟨v,σ',H',J,rv,q⟩:=hs
  exact fin J rv q
 | next =>
  obtain ⟨σ',H',J,q⟩:=hs
  exact fin (v:=V.non) (u:=Value.none) J rfl q
 | brk =>
  obtain ⟨_,_,_,q⟩:=hs
  exact False.elim q
 | cont =>
  obtain ⟨_,_,_,q⟩:=hs
  exact False.elim q
section
variable {X:Cx} {x:Str} {p pos:Pos} {e:Expr} {es:List Expr} {t:TA} {id T:String} {r:List V→Hp→VK→Prop}
def tCB (r:List V→Hp→VK→Prop) (t:TA):TE:=fun σ H Q=>t σ H fun vs H1=>r vs H1 Q
theorem Zp (hc:T6 X (.builtin id) r) (hg:Gl X x) (hm:X.mg x = none) (hv:bootBuiltins x = some (.builtin id)) (ha:PA X (e :: es) t) (hn:x ≠ "__name__":=by decide) (hdb:(x == ("__debug__":Str)) = false:=by decide)
  (he:starEach (e :: es) X.env = (false,eval e X.env) :: starEach es X.env:=by rfl) (hpl:(backTo pos (starEach es X.env)).any (·.1) = false:=by rfl):PE X (.Call (.Name x p) (e :: es) [] pos) (tCB r t):=by
 intro pins s σ H Q I h
 refine wpAny_Call_Name_kw (Z0h I hg hm hv ?_ hn hdb)
 exact PyProof.Rows.callWith_builtin1 (thn (ha pos pins s σ H _ I h) fun us s1 ⟨vs,H1,I1,r1,q1⟩=>hc pins s1 σ H1 vs us Q I1 r1 q1) he hpl
theorem Ys (hc:T6 X (.type T) r) (hg:Gl X x) (hm:X.mg x = none) (hv:bootBuiltins x = some (.type T)) (ha:PA X (e :: es) t) (hn:x ≠ "__name__":=by decide) (hdb:(x == ("__debug__":Str)) = false:=by decide)
  (he:starEach (e :: es) X.env = (false,eval e X.env) :: starEach es X.env:=by rfl) (hpl:(backTo pos (starEach es X.env)).any (·.1) = false:=by rfl):PE X (.Call (.Name x p) (e :: es) [] pos) (tCB r t):=by
 intro pins s σ H Q I h
 refine wpAny_Call_Name_kw (Z0h I hg hm hv ?_ hn hdb)
 exact PyProof.Rows.callWith_type1 (thn (ha pos pins s σ H _ I h) fun us s1 ⟨vs,H1,I1,r1,q1⟩=>hc pins s1 σ H1 vs us Q I1 r1 q1) he hpl
end
end L2
namespace HT
open PySem PyProof.Rows
section
open PySem.SeqAt
open PySem.AutoSeq1 (wpAny_loadPart')
open PySem.MeetsSeq PySem.MeetsSeq2 PySem.MeetsSeq3
end
section
variable {prog:Program} {w:World} {A:Around} {E:Value→Shared→Prop} {s:Shared}
theorem cat_tup {t b:Addr} {vs ws:List Value} {Q:Value→Shared→Prop} (ht:IsTup s.heap t vs.toArray) (hb:IsTup s.heap b ws.toArray) (hv:vs ≠ [])
  (h1:ws = []→Q (.ref t) s) (h2:ws ≠ []→Q (.ref s.heap.objs.size) { s with heap:=s.heap.push { cls:=.type "tuple",data:=.seq (vs ++ ws).toArray } })
  (hsz:vs.length + ws.length ≤ sizeLine):wpAny (model prog w) A (binaryOp .Add (.ref t) (.ref b)) Q E s:=by
 obtain ⟨⟨cls,dd,data,sl⟩,ho,hc,n,hd⟩:=id ht
 obtain ⟨⟨cls2,dd2,data2,sl2⟩,ho2,hc2,n2,hd2⟩:=id hb
 simp only at hc hd hc2 hd2
 subst hc hd hc2 hd2
 have e:vs.toArray ++ ws.toArray = (vs ++ ws).toArray:=by simp
 by_cases hw:ws = []
 ·exact concat_meets ⟨_,ho,rfl⟩ ⟨_,ho2,rfl⟩ noFill_tuple_add seq_tuple_add PySem.F.slot_tuple_add PySem.F.entry_tuple_add (PySem.F.args_tuple_add_2 _ _)
   (tuple_addW1 t b vs.toArray ws.toArray n n2 dd dd2 sl sl2 (by simpa using hv) (by simp [hw])) ⟨ho,ho2,h1 hw⟩
 ·refine concat_meets ⟨_,ho,rfl⟩ ⟨_,ho2,rfl⟩ noFill_tuple_add seq_tuple_add PySem.F.slot_tuple_add PySem.F.entry_tuple_add (PySem.F.args_tuple_add_2 _ _)
   (tuple_addW2 t b vs.toArray ws.toArray n n2 dd dd2 sl sl2 (by simpa using hv) (by simpa using hw) (by rw [List.size_toArray,List.size_toArray]; exact hsz)) ⟨ho,ho2,?_⟩
  rw [e]
  exact h2 hw
def sIx (n d:Nat):Option Int→Nat
 | none=>d
 | some v=>if v < 0 then (v + (n:Int)).toNat else min v.toNat n
theorem sIx_none (n d:Nat):sIx n d none = d:=rfl
theorem sIx_nat (n d k:Nat):sIx n d (some (k:Int)) = min k n:=by
 show (if (k:Int) < 0 then ((k:Int) + (n:Int)).toNat else min (k:Int).toNat n) = min k n
 rw [if_neg (by omega),Int.toNat_natCast]
theorem Zaz (n d:Nat) (hd:d ≤ n) (o:Option Int):sIx n d o ≤ n:=by
 cases o with
 | none=>exact hd
 | some v =>
  show (if v < 0 then (v + (n:Int)).toNat else min v.toNat n) ≤ n
  by_cases hv:v < 0
  ·rw [if_pos hv]; omega
  ·rw [if_neg hv]; exact Nat.min_le_right _ _
theorem Z6c (v:Int) (n d:Nat):(if v < 0 then max (v + (n:Int)) 0 else min v (n:Int)) = ((sIx n d (some v):Nat):Int):=by
 show (if v < 0 then max (v + (n:Int)) 0 else min v (n:Int)) = (((if v < 0 then (v + (n:Int)).toNat else min v.toNat n):Nat):Int)
 by_cases hv:v < 0
 ·simp only [if_pos hv]; omega
 ·simp only [if_neg hv]; omega
theorem Z45 (lo hi:Option Int) (n:Nat):Builtin.Slice.sliceAdjust lo hi 1 (n:Int) = (((sIx n 0 lo:Nat):Int),((sIx n n hi:Nat):Int)):=by
 have h1:¬ ((1:Int) < 0):=by omega
 unfold Builtin.Slice.sliceAdjust
 simp only [h1,if_false]
 refine Prod.ext ?_ ?_
 ·cases lo with
  | none=>rfl
  | some v=>exact Z6c v n 0
 ·cases hi with
  | none=>rfl
  | some v=>exact Z6c v n n
theorem Z3i (i j:Nat):Builtin.Slice.slicePlaces (i:Int) (j:Int) 1 = j - i:=by
 unfold Builtin.Slice.slicePlaces
 have h1:(1:Int) > 0:=by omega
 simp only [h1,if_true,Int.ediv_one]
 split <;> omega
theorem T9 {v:Value} {o:Option Int} {Q:Option Int→Shared→Prop} (p:IsPart v o) (h:Q o s):wpAny (model prog w) A (Builtin.Slice.slicePartIndex v) Q E s:=by
 cases p with
 | none=>exact slicePart_none h
 | int i t=>exact slicePart_int h
theorem Vw {sl:Addr} {vl vu:Value} {lo hi:Option Int} {n:Nat} {Q:Int × Int × Nat→Shared→Prop} (hs:s.heap.IsSliceOf sl vl vu .none) (pl:IsPart vl lo) (pu:IsPart vu hi)
  (h:Q (((sIx n 0 lo:Nat):Int),1,sIx n n hi - sIx n 0 lo) s):wpAny (model prog w) A (Builtin.Slice.sliceApplied (.ref sl) (pure (n:Int))) Q E s:=by
 obtain ⟨os,hos,hcs,hds⟩:=id hs
 unfold Builtin.Slice.sliceApplied Builtin.Slice.sliceFields
 refine wpAny_bind (wpAny_bind (wpAny_field hos hds (x:=vl) rfl (wpAny_bind (wpAny_field hos hds (x:=vu) rfl (wpAny_bind (wpAny_field hos hds (x:=.none) rfl (wpAny_pure ?_)))))))
 refine wpAny_bind (slicePart_none ?_)
 show wpAny _ _ (if ((1:Int) == 0) = true then _ else _) _ _ s
 rw [if_neg (by decide)]
 refine wpAny_bind (T9 pl (wpAny_bind (T9 pu (wpAny_bind (wpAny_pure ?_)))))
 show wpAny _ _ (match Builtin.Slice.sliceAdjust lo hi 1 (n:Int) with | (lo,hi)=>pure (lo,(1:Int),Builtin.Slice.slicePlaces lo hi 1)) _ _ s
 rw [Z45 lo hi n]
 show wpAny _ _ (pure (((sIx n 0 lo:Nat):Int),(1:Int),Builtin.Slice.slicePlaces ((sIx n 0 lo:Nat):Int) ((sIx n n hi:Nat):Int) 1)) _ _ s
 rw [Z3i]
 exact wpAny_pure h
theorem Z6x (xs:Array Value) (i k:Nat):((List.range k).filterMap fun (m:Nat)=>xs[((i:Int) + (m:Int) * 1).toNat]?).toArray = ((xs.toList.drop i).take k).toArray:=by
 have e:(fun (m:Nat)=>xs[((i:Int) + (m:Int) * 1).toNat]?) = fun m=>xs[i + m]?:=by
  funext m
  have:((i:Int) + (m:Int) * 1).toNat = i + m:=by omega
  rw [this]
 rw [e]
 have:=pick_run xs i k
 rw [List.filterMap_map] at this
 have e2:((fun x=>xs[x]?) ∘ fun x=>i + x) = fun m=>xs[i + m]?:=rfl
 rw [e2] at this
 rw [this]
theorem getItem_tuple_cut {t sl:Addr} {items:Array Value} {vl vu:Value} {lo hi:Option Int} {Q:Value→Shared→Prop} (ht:IsTup s.heap t items) (hs:s.heap.IsSliceOf sl vl vu .none) (pl:IsPart vl lo) (pu:IsPart vu hi)
  (hw:¬ (sIx items.size 0 lo = 0∧sIx items.size items.size hi = items.size))
  (h:Q (.ref s.heap.objs.size) { s with heap:=s.heap.push { cls:=.type "tuple",data:=.seq ((items.toList.drop (sIx items.size 0 lo)).take (sIx items.size items.size hi - sIx items.size 0 lo)).toArray } })
  (hsz:items.size ≤ sizeLine):wpAny (model prog w) A (getItem (.ref t) (.ref sl)) Q E s:=by
 have htake:sizeOk (.seq ((items.toList.drop (sIx items.size 0 lo)).take (sIx items.size items.size hi - sIx items.size 0 lo)).toArray):=by
  show ((items.toList.drop (sIx items.size 0 lo)).take (sIx items.size items.size hi - sIx items.size 0 lo)).toArray.size ≤ sizeLine
  rw [List.size_toArray,List.length_take,List.length_drop,Array.length_toList]
  omega
 have hj:sIx items.size items.size hi ≤ items.size:=Zaz _ _ (Nat.le_refl _) hi
 obtain ⟨os,hos,hcs,hds⟩:=id hs
 have hTs:s.TypeIs (.ref sl) "slice":=⟨os,hos,hcs⟩
 unfold getItem
 try with_reducible refine wpAny_holding ?_
 first | refine wpAny_bind (wpAny_pure ?_) | skip
 refine wpAny_bind (wpAny_sequenceKey ht.typeIs (by decide) ?_)
 refine wpAny_bind (wpAny_callSpecial?_slot (name:=Str.ofString "__getitem__") ht.typeIs PyProof.Rows.slot_tuple_getitem
  (wpAny_call_entry PyProof.Rows.slot_tuple_getitem ht.typeIs entry_tuple_getitem ?_ (args_tuple_getitem _ _)))
 show wpAny _ _ (Builtin.Tuple.tupleItemsOf (.ref t) >>= _) _ _ s
 refine wpAny_bind (tupleItemsOf_ ht ?_)
 refine wpAny_bind (wpAny_typeOf hTs ?_)
 rw [if_pos (by decide)]
 refine wpAny_bind (Vw hs pl pu ?_)
 have hno:¬ ((((sIx items.size 0 lo:Nat):Int) == 0 && (1:Int) == 1 && (sIx items.size items.size hi - sIx items.size 0 lo) == items.size) = true):=by
  intro q
  rw [Bool.and_eq_true,Bool.and_eq_true] at q
  have q1:((sIx items.size 0 lo:Nat):Int) = 0:=eq_of_beq q.1.1
  have q2:sIx items.size items.size hi - sIx items.size 0 lo = items.size:=eq_of_beq q.2
  exact hw ⟨by omega,by omega⟩
 show wpAny _ _ (if (((sIx items.size 0 lo:Nat):Int) == 0 && (1:Int) == 1 && (sIx items.size items.size hi - sIx items.size 0 lo) == items.size) = true then _ else _) _ _ s
 rw [if_neg hno,Z6x]
 first
  | exact wpAny_bind (m:=Builtin.Tuple.tupleExact _) (wpAny_newObj_type (wpAny_pure ⟨_,rfl,wpAny_pure h⟩) htake)
  | exact wpAny_bind (m:=Builtin.Tuple.tupleExact _) (wpAny_newObj_type (wpAny_bind (wpAny_pure (wpAny_pure ⟨_,rfl,wpAny_pure h⟩))) htake)
  | exact wpAny_bind (wpAny_bind (m:=Builtin.Tuple.tupleExact _) (wpAny_newObj_type (wpAny_pure (wpAny_pure ⟨_,rfl,wpAny_pure h⟩)) htake))
  | exact wpAny_bind (wpAny_bind (m:=Builtin.Tuple.tupleExact _) (wpAny_newObj_type (wpAny_pure ⟨_,rfl,wpAny_pure h⟩) htake))
end
end HT
namespace L2
open PySem PySem.Spec PyProof.Rows
abbrev TO:=St→Hp→(Option Int→Hp→Prop)→Prop
def PO (X:Cx) (e:Option Expr) (t:TO):Prop :=
 ∀ (pins:List (Addr × Obj)) (s:Shared) (σ:St) (H:Hp) (Q:Option Int→Hp→Prop),Inv X pins σ H s→t σ H Q →
  wpAny (model X.prog X.w) X.A (evalPart e X.env) (fun u s'=>∃ o H',Inv X pins σ H' s'∧IsPart u o∧Q o H') X.xe s
def Z4e:TO:=fun _ H Q=>Q none H
def Zdb (t:TE):TO:=fun σ H Q=>t σ H fun x H1=>∃ i,x = .int i∧Q (some i) H1
section
variable {X:Cx} {e:Expr} {te:TE} {lo hi:Option Expr} {tl th:TO} {pos p2:Pos}
theorem Yf:PO X none Z4e:=by
 intro pins s σ H Q I h
 rw [evalPart_none]
 exact wpAny_pure ⟨none,H,I,.none,h⟩
theorem Y3 (h:PE X e te):PO X (some e) (Zdb te):=by
 intro pins s σ H Q I hw
 rw [evalPart_some]
 refine thn (h pins s σ H _ I hw) fun u s1 ⟨x,H1,I1,r1,q1⟩=>?_
 obtain ⟨i,rfl,q⟩:=q1
 obtain ⟨t,rfl⟩:=r1
 exact ⟨some i,H1,I1,.int i t,q⟩
def SlR (X:Cx) (r:V→Option Int→Option Int→Hp→VK→Prop):Prop :=
 ∀ (pins:List (Addr × Obj)) (s:Shared) (σ:St) (H:Hp) (x:V) (v vl vu:Value) (lo hi:Option Int) (sl:Addr) (Q:VK),Inv X pins σ H s→RelV x v→s.heap.IsSliceOf sl vl vu .none→IsPart vl lo→IsPart vu hi→r x lo hi H Q →
  ∃ T id,typeLookup (.type T) "__getitem__" = pure (some (.builtin id))∧s.TypeIs v T∧wpAny (model X.prog X.w) X.A (getItem v (.ref sl)) (EP X pins σ Q) X.xe s
def tSl (r:V→Option Int→Option Int→Hp→VK→Prop) (te:TE) (tl th:TO):TE:=fun σ H Q=>te σ H fun x H1=>tl σ H1 fun l H2=>th σ H2 fun u H3=>r x l u H3 Q
theorem Y1 {r:V→Option Int→Option Int→Hp→VK→Prop} (hr:SlR X r) (he:PE X e te) (hl:PO X lo tl) (hu:PO X hi th):PE X (.Subscript e (.Slice lo hi none p2) pos) (tSl r te tl th):=by
 intro pins s σ H Q I h
 refine Subscript_ (thn (he pins s σ H _ I h) fun v s1 ⟨x,H1,I1,r1,q1⟩=>?_)
 refine wpAny_Slice (thn (hl pins s1 σ H1 _ I1 q1) fun vl s2 ⟨l,H2,I2,pl,q2⟩=>thn (hu pins s2 σ H2 _ I2 q2) fun vu s3 ⟨u,H3,I3,pu,q3⟩=>?_)
 rw [evalPart_none]
 refine wpAny_pure ?_
 have I4:Inv X pins σ H3 { s3 with heap:=s3.heap.push { cls:=.type "slice",data:=.fields #[vl,vu,.none] } }:=I3.kept (t':=s3.toks) fun b ob q=>Heap.get?_push_of_some _ q
 obtain ⟨T,id,hT,ht,hg⟩:=hr pins { s3 with heap:=s3.heap.push { cls:=.type "slice",data:=.fields #[vl,vu,.none] } } σ H3 x v vl vu l u s3.heap.objs.size Q I4 r1 (Heap.IsSliceOf.new ..) pl pu q3
 show wpAny (model X.prog X.w) X.A (subscriptTail e (.Slice lo hi none p2) v (.ref s3.heap.objs.size)) (EP X pins σ Q) X.xe { s3 with heap:=s3.heap.push { cls:=.type "slice",data:=.fields #[vl,vu,.none] } }
 exact tail_any (ops:=[.ref s3.heap.objs.size,v]) ht hT hg (by with_unfolding_all rfl)
def T4 (xs:List V) (lo hi:Option Int):List V:=(xs.drop (HT.sIx xs.length 0 lo)).take (HT.sIx xs.length xs.length hi - HT.sIx xs.length 0 lo)
theorem Uy (xs:List V) (lo hi:Option Int):(T4 xs lo hi).length ≤ xs.length:=by
 unfold T4
 rw [List.length_take,List.length_drop]
 omega
def Zap (K:PySem.W.Frag):V→Option Int→Option Int→Hp→VK→Prop:=fun x lo hi H Q=>∃ a xs,x = .ref a∧SqT K H a xs ∧
 ¬ (HT.sIx xs.length 0 lo = 0∧HT.sIx xs.length xs.length hi = xs.length)∧∀ p,H p = none→Q (.ref p) (upd H p (.tup (T4 xs lo hi)))
theorem Xk:SlR X (Zap X.K):=by
 intro pins s σ H x v vl vu lo hi sl Q I rx hs pl pu h
 obtain ⟨a,xs,rfl,hx,hw,q⟩:=h
 cases rx
 obtain ⟨its,r,ht,hz⟩:=I.tuple hx
 have hlen:its.toArray.size = xs.length:=by rw [List.size_toArray]; exact r.length.symm
 refine ⟨"tuple",_,PyProof.Rows.slot_tuple_getitem.lookup,ht.typeIs,?_⟩
 refine HT.getItem_tuple_cut ht hs pl pu (by rw [hlen]; exact hw) ?_ (by rw [hlen]; exact hz)
 rw [hlen]
 refine ⟨.ref s.heap.objs.size,_,I.laid (t':=s.toks) (o:=.tup (T4 xs lo hi)) (fun b ob q=>Heap.get?_push_of_some _ q) (Nat.le_refl _) ?_,rfl,q _ (I.hok.fresh (Nat.le_refl _))⟩
 exact ⟨Nat.le_trans (Uy xs lo hi) hz,_,(r.drop (HT.sIx xs.length 0 lo)).take (HT.sIx xs.length xs.length hi - HT.sIx xs.length 0 lo),IsTup.new _ _⟩
def Zds (K:PySem.W.Frag):R2:=fun x y H Q=>∃ a b xs ys,x = .ref a∧y = .ref b∧SqT K H a xs∧SqT K H b ys∧xs ≠ []∧xs.length + ys.length ≤ sizeLine ∧
 (ys = []→Q (.ref a) H)∧(ys ≠ []→∀ p,H p = none→Q (.ref p) (upd H p (.tup (xs ++ ys))))
theorem Vals.nil_iff {xs:List V} {us:List Value} (r:Vals xs us):us = [] ↔ xs = []:=by
 cases r with
 | nil=>simp
 | cons _ _=>simp
theorem Z9m:OpR X (binaryOp .Add) (Zds X.K):=by
 intro pins s σ H x y v u Q I rx ry h
 obtain ⟨a,b,xs,ys,rfl,rfl,ha,hb,hx,hz,q1,q2⟩:=h
 cases rx
 cases ry
 obtain ⟨its,r1,p1,_⟩:=I.tuple ha
 obtain ⟨its2,r2,p2,_⟩:=I.tuple hb
 refine HT.cat_tup p1 p2 (fun z=>hx (r1.nil_iff.mp z)) (fun z=>⟨.ref a,H,I,rfl,q1 (r2.nil_iff.mp z)⟩) (fun z=>?_) (by rw [← r1.length,← r2.length]; exact hz)
 refine ⟨.ref s.heap.objs.size,_,I.laid (t':=s.toks) (o:=.tup (xs ++ ys)) (fun b ob q=>Heap.get?_push_of_some _ q) (Nat.le_refl _) ?_,rfl,q2 (fun w=>z (r2.nil_iff.mpr w)) _ (I.hok.fresh (Nat.le_refl _))⟩
 exact ⟨by rw [List.length_append]; exact hz,_,r1.append r2,IsTup.new _ _⟩
end
def ixN (n:Nat) (i:Int):Option Nat:=if 0 ≤ i then (if i < n then some i.toNat else none) else if -(n:Int) ≤ i then some (i + n).toNat else none
def atI {α:Type} (xs:List α) (i:Int):Option α:=(ixN xs.length i).bind fun j=>xs[j]?
theorem Z5v {n:Nat} {i:Int} {j:Nat} (h:ixN n i = some j):seqIndex? i n = some j∧j < n∧-(n:Int) ≤ i∧i < n:=by
 unfold ixN at h
 by_cases h0:0 ≤ i
 ·rw [if_pos h0] at h
  by_cases h1:i < n
  ·rw [if_pos h1] at h
   have e:i.toNat = j:=Option.some.inj h
   exact ⟨by rw [seqIndex_of h0 h1,e],by omega,by omega,h1⟩
  ·rw [if_neg h1] at h; cases h
 ·rw [if_neg h0] at h
  by_cases h1:-(n:Int) ≤ i
  ·rw [if_pos h1] at h
   have e:(i + n).toNat = j:=Option.some.inj h
   exact ⟨by rw [seqIndex_neg (by omega) h1,e],by omega,h1,by omega⟩
  ·rw [if_neg h1] at h; cases h
theorem Z1s {α:Type} {xs:List α} {i:Int} {v:α} (h:atI xs i = some v):∃ j,seqIndex? i xs.length = some j∧xs[j]? = some v∧j < xs.length∧-(xs.length:Int) ≤ i∧i < xs.length:=by
 unfold atI at h
 cases e:ixN xs.length i with
 | none=>rw [e] at h; cases h
 | some j =>
  rw [e] at h
  obtain ⟨h1,h2,h3,h4⟩:=Z5v e
  exact ⟨j,h1,h,h2,h3,h4⟩
theorem Xy {α:Type} {xs:List α} {j:Nat} {v:α} (h:xs[j]? = some v):atI xs (j:Int) = some v:=by
 have hj:j < xs.length:=(List.getElem?_eq_some_iff.mp h).1
 have e:ixN xs.length (j:Int) = some j:=by
  unfold ixN
  rw [if_pos (by omega),if_pos (by omega)]; simp
 unfold atI; rw [e]; exact h
theorem Vn {α:Type} (xs:List α) (v:α):atI (xs ++ [v]) (-1) = some v:=by
 have hl:(xs ++ [v]).length = xs.length + 1:=by simp
 have e:ixN (xs ++ [v]).length (-1) = some xs.length:=by
  unfold ixN
  rw [hl,if_neg (by decide),if_pos (by omega)]
  congr 1
  omega
 unfold atI
 rw [e]
 show (xs ++ [v])[xs.length]? = some v
 simp
def Zai (b:Expr):Prop:=∀ o i,subscripted b false o i = operate [o,i] (getItem o i)
def IxR (X:Cx) (r:R2):Prop :=
 ∀ (value slice:Expr) (pins:List (Addr × Obj)) (s:Shared) (σ:St) (H:Hp) (x y:V) (v u:Value) (Q:VK),Inv X pins σ H s→RelV x v→RelV y u→r x y H Q →
  subscripted slice false v u = operate [v,u] (getItem v u)→wpAny (model X.prog X.w) X.A (subscriptTail value slice v u) (EP X pins σ Q) X.xe s
def MtR (X:Cx) (id:String) (r:V→List V→Hp→VK→Prop):Prop :=
 ∀ (pins:List (Addr × Obj)) (s:Shared) (σ:St) (H:Hp) (x:V) (xs:List V) (v:Value) (us:List Value) (Q:VK),Inv X pins σ H s→RelV x v→Vals xs us→r x xs H Q →
  wpAny (model X.prog X.w) X.A (call (.builtin id) (v :: us)) (EP X pins σ Q) X.xe s
section
variable {X:Cx} {a b:Expr} {ta tb:TE} {pos:Pos}
theorem Z8 {r:R2} (hr:IxR X r) (ha:PE X a ta) (hb:PE X b tb) (hs:Zai b):PE X (.Subscript a b pos) (tOp r ta tb):=by
 intro pins s σ H Q I h
 exact Subscript_ (Zeb ha hb I h fun v u s2 x y H2 I2 rx ry q=>hr a b pins s2 σ H2 x y v u Q I2 rx ry q (hs _ _))
def Zaq (K:PySem.W.Frag):R2:=fun x y H Q=>∃ p xs i v,x = .ref p∧y = .int i∧SqL K H p xs∧atI xs i = some v∧Q v H
def U0 (K:PySem.W.Frag):R2:=fun x y H Q=>∃ p xs i v,x = .ref p∧y = .int i∧SqT K H p xs∧atI xs i = some v∧Q v H
def Zez:R2:=fun x y H Q=>∃ z i c,x = .str z∧y = .int i∧z.length ≤ sizeLine∧atI z.cps.toList i = some c∧Q (.str ⟨#[c]⟩) H
theorem Zz:IxR X (Zaq X.K):=by
 intro value slice pins s σ H x y v u Q I rx ry h hs
 obtain ⟨p,xs,i,z,rfl,rfl,hq,he,q⟩:=h
 cases rx
 obtain ⟨t,rfl⟩:=ry
 obtain ⟨its,r,pl,hz⟩:=I.list hq
 obtain ⟨j,h1,h2,h3,h4,h5⟩:=Z1s he
 obtain ⟨w,ew,rw'⟩:=r.get h2
 have hl:=r.length
 have hn:=To
 have fin:EP X pins σ Q w s:=⟨z,H,I,rw',q⟩
 by_cases h0:0 ≤ i
 ·have hj:i.toNat = j:=by
   rw [seqIndex_of h0 h5] at h1
   exact Option.some.inj h1
  exact item_listR pl.isList h0 (by omega) (by rw [hj]; simpa using ew) fin hs
 ·have hj:(i + (its.toArray.size:Int)).toNat = j:=by
   rw [seqIndex_neg (by omega) h4] at h1
   rw [List.size_toArray,← hl]
   exact Option.some.inj h1
  exact subscriptTail_builtinR (x:=w) pl.isList.typeIs slot_list_getitem.lookup
   (wpAny_getItem_list_neg (Q:=fun r s'=>r = w∧EP X pins σ Q r s') pl.isList (by omega) (by rw [List.size_toArray] <;> omega) (by omega) (by rw [hj]; simpa using ew) ⟨rfl,fin⟩) hs
theorem Z6:IxR X (U0 X.K):=by
 intro value slice pins s σ H x y v u Q I rx ry h hs
 obtain ⟨p,xs,i,z,rfl,rfl,hq,he,q⟩:=h
 cases rx
 obtain ⟨t,rfl⟩:=ry
 obtain ⟨its,r,pl,hz⟩:=I.tuple hq
 obtain ⟨j,h1,h2,h3,h4,h5⟩:=Z1s he
 obtain ⟨w,ew,rw'⟩:=r.get h2
 have hl:=r.length
 have hn:=To
 have fin:EP X pins σ Q w s:=⟨z,H,I,rw',q⟩
 exact subscriptTail_builtinR (x:=w) pl.typeIs slot_tuple_getitem.lookup
  (getItem_tuple (j:=j) (Q:=fun r s'=>r = w∧EP X pins σ Q r s') pl (by omega) (by omega) (by rw [List.size_toArray,← hl]; exact h1) (by simpa using ew) ⟨rfl,fin⟩) hs
theorem Z0j:IxR X Zez:=by
 intro value slice pins s σ H x y v u Q I rx ry h hs
 obtain ⟨z,i,c,rfl,rfl,hz,he,q⟩:=h
 obtain ⟨t,rfl⟩:=rx
 obtain ⟨t',rfl⟩:=ry
 obtain ⟨j,h1,h2,h3,h4,h5⟩:=Z1s he
 have hl:z.cps.toList.length = z.length:=by simp [Str.length]
 rw [hl] at h1 h4 h5
 have hn:=To
 exact tail_any (typeIs_str s z t) slot_str_getitem.lookup (getItem_str (c:=c) (by
  have e1:decide (i < -(2 ^ 63:Int)) = false:=decide_eq_false (by omega)
  have e2:decide (i ≥ 2 ^ 63) = false:=decide_eq_false (by omega)
  rw [e1,e2,Bool.or_false]) (by rw [h1]; simpa using h2) ⟨.str ⟨#[c]⟩,H,I.tok _,⟨_,rfl⟩,q⟩) hs
theorem Z3y (its:List Value) (n j:Nat) (u:Value):Obj.mapSeq (·.setIfInBounds j u) { cls:=.type "list",data:=.seq its.toArray n } = { cls:=.type "list",data:=.seq (its.set j u).toArray n }:=by
 simp [Obj.mapSeq]
theorem Inv.lst {pins:List (Addr × Obj)} {σ:St} {H:Hp} {s:Shared} {p:Addr} {xs:List V} (I:Inv X pins σ H s) (h:H p = some (.lst xs)) :
  ∃ (its:List Value) (n:Nat),Vals xs its∧s.heap.get? p = some { cls:=.type "list",data:=.seq its.toArray n }∧xs.length ≤ sizeLine:=by
 obtain ⟨z,its,n,r,e⟩:=I.hok p _ h
 exact ⟨its,n,r,e,z⟩
theorem Inv.lstUpd {pins:List (Addr × Obj)} {σ:St} {H:Hp} {s:Shared} {p:Addr} {xs ys:List V} {its its':List Value} {n n':Nat} {f:Obj→Obj} (I:Inv X pins σ H s) (h:H p = some (.lst xs))
  (ho:s.heap.get? p = some { cls:=.type "list",data:=.seq its.toArray n }) (hf:f { cls:=.type "list",data:=.seq its.toArray n } = { cls:=.type "list",data:=.seq its'.toArray n' }) (r:Vals ys its') (hz:ys.length ≤ sizeLine) (t:Nat) :
  Inv X pins σ (upd H p (.lst ys)) { s with heap:=s.heap.update p f,toks:=t }:=by
 have e:(s.heap.update p f).get? p = some { cls:=.type "list",data:=.seq its'.toArray n' }:=by
  rw [Heap.get?_update_self f ho (by rw [hf] <;> rfl),hf]
 refine I.write (x:=p) (e:=p) (by rw [h]; trivial) (.inl rfl) (fun b u hb q=>(Heap.get?_update_other _ _ (Ne.symm hb)).trans q) ⟨_,e⟩ ?_
 exact ⟨hz,its',n',r,e⟩
def Zdp:V→V→V→Hp→(Hp→Prop)→Prop:=fun o i v H Q=>∃ p xs k j,o = .ref p∧i = .int k∧H p = some (.lst xs)∧ixN xs.length k = some j∧Q (upd H p (.lst (xs.set j v)))
theorem Yu:Zep X Zdp:=by
 intro pins s σ H o i v ov iv u Q I ro ri rv h
 obtain ⟨p,xs,k,j,rfl,rfl,hp,hj,q⟩:=h
 cases ro
 obtain ⟨t,rfl⟩:=ri
 obtain ⟨its,n,r,ho,hz⟩:=I.lst hp
 obtain ⟨h1,h2,h3,h4⟩:=Z5v hj
 have hl:=r.length
 have hn:=To
 have I':Inv X pins σ (upd H p (.lst (xs.set j v))) { s with heap:=s.heap.update p (Obj.mapSeq (·.setIfInBounds j u)) } :=
  I.lstUpd hp ho (Z3y its n j u) (r.set rv j) (by rw [List.length_set]; exact hz) s.toks
 by_cases h0:0 ≤ k
 ·have hk:k.toNat = j:=by
   rw [seqIndex_of h0 h4] at h1
   exact Option.some.inj h1
  exact PySem.W.ki_setAt ho h0 (by omega) (by rw [List.size_toArray,← hl]; exact h4) (by rw [hk]; exact ⟨_,I',q⟩)
 ·have hk:(k + (its.toArray.size:Int)).toNat = j:=by
   rw [seqIndex_neg (by omega) h3] at h1
   rw [List.size_toArray,← hl]
   exact Option.some.inj h1
  exact PySem.W.ki_setBack ho (by omega) (by rw [List.size_toArray,← hl]; exact h3) (by omega) (by rw [hk]; exact ⟨_,I',q⟩)
theorem Jv (lo hi:Option Int) (n:Nat):(sliceBounds lo hi none n).1 = ((HT.sIx n 0 lo:Nat):Int)∧(sliceBounds lo hi none n).2.1 = ((HT.sIx n n hi:Nat):Int)∧(sliceBounds lo hi none n).2.2 = 1:=by
 refine ⟨?_,?_,rfl⟩
 ·cases lo with
  | none=>simp [sliceBounds,HT.sIx]
  | some i =>
   simp only [sliceBounds,HT.sIx,Option.getD_none,show (1:Int) > 0 by decide,if_true]
   by_cases h:i < 0
   ·simp only [h,if_true] <;> omega
   ·simp only [h,if_false] <;> omega
 ·cases hi with
  | none=>simp [sliceBounds,HT.sIx]
  | some i =>
   simp only [sliceBounds,HT.sIx,Option.getD_none,show (1:Int) > 0 by decide,if_true]
   by_cases h:i < 0
   ·simp only [h,if_true] <;> omega
   ·simp only [h,if_false] <;> omega
theorem J4 (its:List Value) (lo hi:Option Int):slicePick its.toArray lo hi none = ((its.drop (HT.sIx its.length 0 lo)).take (HT.sIx its.length its.length hi - HT.sIx its.length 0 lo)).toArray:=by
 obtain ⟨h1,h2,h3⟩:=Jv lo hi its.toArray.size
 unfold slicePick
 rw [h1,h2,h3]
 simp only [sliceRange_one,pick_run,List.size_toArray] <;> rfl
def Zex (K:PySem.W.Frag):V→Option Int→Option Int→Hp→VK→Prop:=fun x lo hi H Q=>∃ a xs,x = .ref a∧SqL K H a xs∧∀ p,H p = none→Q (.ref p) (upd H p (.lst (T4 xs lo hi)))
theorem Vp:SlR X (Zex X.K):=by
 intro pins s σ H x v vl vu lo hi sl Q I rx hs pl pu h
 obtain ⟨a,xs,rfl,hx,q⟩:=h
 cases rx
 obtain ⟨its,r,ht,hz⟩:=I.list hx
 have hlen:=r.length
 refine ⟨"list",_,slot_list_getitem.lookup,ht.isList.typeIs,?_⟩
 refine wpAny_getItem_list_slice ht.isList hs pl pu .none (by simp) ?_ (by rw [List.size_toArray] <;> omega)
 rw [J4,← hlen]
 refine ⟨.ref s.heap.objs.size,_,I.laid (t':=s.toks) (o:=.lst (T4 xs lo hi)) (fun b ob q=>Heap.get?_push_of_some _ q) (Nat.le_refl _) ?_,rfl,q _ (I.hok.fresh (Nat.le_refl _))⟩
 exact ⟨Nat.le_trans (Uy xs lo hi) hz,_,0,(r.drop (HT.sIx xs.length 0 lo)).take (HT.sIx xs.length xs.length hi - HT.sIx xs.length 0 lo),Heap.get?_push_size _ rfl⟩
def Z0o:V→Bool
 | .non=>true
 | .bl _=>true
 | .int _=>true
 | .str _=>true
 | _=>false
def eqV:V→V→Bool
 | .non,.non=>true
 | .bl a,.bl b=>a == b
 | .bl a,.int b=>(if a then 1 else 0) == b
 | .int a,.bl b=>a == (if b then 1 else 0)
 | .int a,.int b=>a == b
 | .str a,.str b=>a == b
 | _,_=>false
theorem Zcr {A:Around} {s:Shared} {y x:V} {u v:Value} (ry:RelV y u) (rx:RelV x v) (fy:Z0o y = true) (fx:Z0o x = true):SeqAt.EqAt A s u v (eqV y x):=by
 cases y with
 | non =>
  cases ry
  cases x with
  | non=>cases rx; exact SeqAt.EqAt.same _
  | bl b=>cases rx; exact SeqAt.EqAt.none_bool b
  | int b=>obtain ⟨t,rfl⟩:=rx; exact SeqAt.EqAt.none_int b t
  | str b=>obtain ⟨t,rfl⟩:=rx; exact SeqAt.EqAt.none_str b t
  | _=>exact absurd (show false = true from fx) Bool.false_ne_true
 | bl a =>
  cases ry
  cases x with
  | non=>cases rx; exact SeqAt.EqAt.bool_none a
  | bl b=>cases rx; exact SeqAt.EqAt.bool_bool a b
  | int b=>obtain ⟨t,rfl⟩:=rx; exact SeqAt.EqAt.bool_int a b t
  | str b=>obtain ⟨t,rfl⟩:=rx; exact SeqAt.EqAt.bool_str a b t
  | _=>exact absurd (show false = true from fx) Bool.false_ne_true
 | int a =>
  obtain ⟨t',rfl⟩:=ry
  cases x with
  | non=>cases rx; exact SeqAt.EqAt.int_none a t'
  | bl b=>cases rx; exact SeqAt.EqAt.int_bool a t' b
  | int b=>obtain ⟨t,rfl⟩:=rx; exact SeqAt.EqAt.int_int a t' b t
  | str b=>obtain ⟨t,rfl⟩:=rx; exact SeqAt.EqAt.int_str a t' b t
  | _=>exact absurd (show false = true from fx) Bool.false_ne_true
 | str a =>
  obtain ⟨t',rfl⟩:=ry
  cases x with
  | non=>cases rx; exact SeqAt.EqAt.str_none a t'
  | bl b=>cases rx; exact SeqAt.EqAt.str_bool a t' b
  | int b=>obtain ⟨t,rfl⟩:=rx; exact SeqAt.EqAt.str_int a t' b t
  | str b=>obtain ⟨t,rfl⟩:=rx; exact SeqAt.EqAt.str_str a t' b t
  | _=>exact absurd (show false = true from fx) Bool.false_ne_true
 | _=>exact absurd (show false = true from fy) Bool.false_ne_true
def eqU (x:V) (u:Value):Bool:=match u with
 | .none=>eqV .non x
 | .bool b=>eqV (.bl b) x
 | .int i _=>eqV (.int i) x
 | .str z _=>eqV (.str z) x
 | _=>false
theorem Z8k {x y:V} {u:Value} (r:RelV y u) (f:Z0o y = true):eqU x u = eqV y x:=by
 cases y with
 | non=>cases r; rfl
 | bl b=>cases r; rfl
 | int i=>obtain ⟨t,rfl⟩:=r; rfl
 | str z=>obtain ⟨t,rfl⟩:=r; rfl
 | _=>exact absurd (show false = true from f) Bool.false_ne_true
theorem Z1t {x:V}:∀ {xs:List V} {us:List Value},Vals xs us→xs.all Z0o = true→us.any (eqU x) = xs.any fun y=>eqV y x
 | _,_,.nil,_=>rfl
 | y :: xs,u :: us,.cons r t,f=>by
  rw [List.all_cons,Bool.and_eq_true] at f
  rw [List.any_cons,List.any_cons,Z8k r f.1,Z1t t f.2]
theorem Jc {A:Around} {s:Shared} {x:V} {v:Value} (rx:RelV x v) (fx:Z0o x = true):∀ {xs:List V} {us:List Value},Vals xs us→xs.all Z0o = true→∀ u ∈ us,SeqAt.EqAt A s u v (eqU x u)
 | _,_,.nil,_=>fun u hu=>by cases hu
 | y :: xs,u :: us,.cons r t,f=>fun u' hu=>by
  rw [List.all_cons,Bool.and_eq_true] at f
  rcases List.mem_cons.mp hu with rfl | hu
  ·rw [Z8k r f.1]; exact Zcr r rx f.1 fx
  ·exact Jc rx fx t f.2 u' hu
def inV (x:V) (xs:List V):Bool:=xs.any fun y=>eqV y x
def rIn (K:PySem.W.Frag) (neg:Bool):R2:=fun x y H Q=>∃ p xs,y = .ref p∧(SqL K H p xs ∨ SqT K H p xs)∧Z0o x = true∧xs.all Z0o = true∧Q (.bl (if neg then !inV x xs else inV x xs)) H
theorem Xh:OpR X (compareOp .In) (rIn X.K false):=by
 intro pins s σ H x y v u Q I rx ry h
 obtain ⟨p,xs,rfl,hq,fx,fs,q⟩:=h
 cases ry
 rcases hq with hq | hq
 ·obtain ⟨its,r,pl,hz⟩:=I.list hq
  refine SeqAt.in_listAt (eqU x) pl.isList (fun w hw=>Jc rx fx r fs w (by simpa using hw)) ⟨.bl _,H,I,rfl,?_⟩
  rw [show its.toArray.any (eqU x) = its.any (eqU x) by simp,Z1t r fs]
  exact q
 ·obtain ⟨its,r,pl,hz⟩:=I.tuple hq
  refine SeqAt.in_tupleAt (eqU x) pl (fun w hw=>Jc rx fx r fs w (by simpa using hw)) ⟨.bl _,H,I,rfl,?_⟩
  rw [show its.toArray.any (eqU x) = its.any (eqU x) by simp,Z1t r fs]
  exact q
theorem Zx:T6 X (.builtin "len") (fun xs H Q=>∃ p ys,xs = [.ref p]∧(SqL X.K H p ys ∨ SqT X.K H p ys)∧Q (.int ys.length) H):=by
 intro pins s σ H xs us Q I r h
 obtain ⟨p,ys,rfl,hq,q⟩:=h
 obtain ⟨u,rfl,rx⟩:=Tv r
 cases rx
 have hn:=To
 rcases hq with hq | hq
 ·obtain ⟨its,r',pl,hz⟩:=I.list hq
  have hlen:=r'.length
  exact Calls.call_len_list pl.isList (by simp only [List.size_toArray] <;> omega) ⟨.int ys.length,H,I.tok _,⟨s.toks + 1,by rw [List.size_toArray,hlen]⟩,q⟩
 ·obtain ⟨its,r',pl,hz⟩:=I.tuple hq
  have hlen:=r'.length
  exact len_tuple pl (by simp only [List.size_toArray] <;> omega) ⟨.int ys.length,H,I.tok _,⟨s.toks + 1,by rw [List.size_toArray,hlen]⟩,q⟩
theorem Y6:T6 X (.builtin "len") (fun xs H Q=>∃ z,xs = [.str z]∧z.length ≤ sizeLine∧Q (.int z.length) H):=by
 intro pins s σ H xs us Q I r h
 obtain ⟨z,rfl,hz,q⟩:=h
 obtain ⟨u,rfl,t,rfl⟩:=Tv r
 have hn:=To
 exact len_str (by omega) ⟨.int z.length,H,I.tok _,⟨_,rfl⟩,q⟩
theorem Z0q:T6 X (.type "list") (fun xs H Q=>∃ p ys,xs = [.ref p]∧(SqL X.K H p ys ∨ SqT X.K H p ys)∧∀ l,H l = none→Q (.ref l) (upd H l (.lst ys))):=by
 intro pins s σ H xs us Q I r h
 obtain ⟨p,ys,rfl,hq,q⟩:=h
 obtain ⟨u,rfl,rx⟩:=Tv r
 cases rx
 have fin:∀ (its:List Value),Vals ys its→ys.length ≤ sizeLine→∀ (h':Heap) (c':Nat),(∀ b o',s.heap.get? b = some o'→h'.get? b = some o') →
   h'.get? s.heap.objs.size = some { cls:=.type "list",dict:=none,data:=.seq its.toArray c',slots:=#[] }→EP X pins σ Q (.ref s.heap.objs.size) { s with heap:=h' }:=fun its r' hz h' c' kp e =>
  ⟨.ref s.heap.objs.size,_,I.laid (t':=s.toks) kp (Nat.le_refl _) (show ObjOk X.prog X.w _ h' _ (.lst ys) from ⟨hz,its,c',r',e⟩),rfl,q _ (I.hok.fresh (Nat.le_refl _))⟩
 rcases hq with hq | hq
 ·obtain ⟨its,r',pl,hz⟩:=I.list hq
  have hlen:=r'.length
  obtain ⟨o,ho,hc,n,hd⟩:=pl.isList
  exact call_list_seq p (.inl rfl) ho hc hd (fun h' c' kp e=>fin its r' hz h' c' kp e) (by simp only [List.size_toArray] <;> omega)
 ·obtain ⟨its,r',pl,hz⟩:=I.tuple hq
  have hlen:=r'.length
  obtain ⟨o,ho,hc,n,hd⟩:=pl
  exact call_list_seq p (.inr rfl) ho hc hd (fun h' c' kp e=>fin its r' hz h' c' kp e) (by simp only [List.size_toArray] <;> omega)
theorem Xb:T6 X (.type "tuple") (fun xs H Q=>∃ p ys,xs = [.ref p]∧((SqL X.K H p ys∧∀ l,H l = none→Q (.ref l) (upd H l (.tup ys))) ∨ (SqT X.K H p ys∧Q (.ref p) H))):=by
 intro pins s σ H xs us Q I r h
 obtain ⟨p,ys,rfl,h⟩:=h
 obtain ⟨u,rfl,rx⟩:=Tv r
 cases rx
 rcases h with ⟨hq,q⟩ | ⟨hq,q⟩
 ·obtain ⟨its,r',pl,hz⟩:=I.list hq
  have hlen:=r'.length
  refine call_tuple_list pl.isList (fun h' kp=>?_) (by simp only [List.size_toArray] <;> omega)
  have I1:Inv X pins σ H { s with heap:=h' }:=I.kept (t':=s.toks) kp
  have I2:Inv X pins σ (upd H h'.objs.size (.tup ys)) { s with heap:=h'.push { cls:=.type "tuple",data:=.seq its.toArray } } :=
   I1.laid (t':=s.toks) (fun b o e=>Heap.get?_push_of_some _ e) (Nat.le_refl _) (show ObjOk X.prog X.w _ _ _ (.tup ys) from ⟨hz,its,r',IsTup.new _ _⟩)
  exact ⟨.ref h'.objs.size,_,I2,rfl,q _ (I1.hok.fresh (Nat.le_refl _))⟩
 ·obtain ⟨its,r',pl,hz⟩:=I.tuple hq
  exact call_tuple_same pl ⟨.ref p,H,I,rfl,q⟩
def tyV (K:PySem.W.Frag) (T:String) (x:V) (H:Hp):Prop:=match x with
 | .str _=>T = "str"
 | .int _=>T = "int"
 | .ref p=>(T = "list"∧∃ xs,SqL K H p xs) ∨ (T = "tuple"∧∃ o,K.lookup p = some o∧o.cls = .type "tuple"∧o.dict = none) ∨
   (T = "dict"∧((∃ kvs,H p = some (.dK kvs)) ∨ ∃ kvs,H p = some (.dT kvs))) ∨ (T = "set"∧∃ S n,H p = some (.set S n))
 | _=>False
theorem Z83 {pins:List (Addr × Obj)} {σ:St} {H:Hp} {s:Shared} {T:String} {x:V} {v:Value} (I:Inv X pins σ H s) (r:RelV x v) (ty:tyV X.K T x H) :
  s.TypeIs v T∧∀ a,v = .ref a→∃ ob,s.heap.get? a = some ob∧ob.dict = none:=by
 cases x with
 | str z =>
  obtain ⟨t,rfl⟩:=r
  cases (show T = "str" from ty)
  exact ⟨typeIs_str s z t,fun _ e=>nomatch e⟩
 | int i =>
  obtain ⟨t,rfl⟩:=r
  cases (show T = "int" from ty)
  exact ⟨typeIs_int s i t,fun _ e=>nomatch e⟩
 | ref p =>
  cases r
  rcases ty with ⟨rfl,xs,hq⟩ | ⟨rfl,o,hk,hc,hd⟩ | ⟨rfl,hk⟩ | ⟨rfl,S,n,hk⟩
  ·obtain ⟨its,_,pl,_⟩:=I.list hq
   refine ⟨pl.isList.typeIs,fun a e=>?_⟩
   cases e
   obtain ⟨o,n,e,c,hd,_⟩:=pl
   exact ⟨o,e,hd⟩
  ·refine ⟨⟨o,I.kIn p o hk,hc⟩,fun a e=>?_⟩
   cases e
   exact ⟨o,I.kIn _ o hk,hd⟩
  ·have z:∃ o,s.heap.get? p = some o∧o.ExactDict:=by
    rcases hk with ⟨kvs,hk⟩ | ⟨kvs,hk⟩
    ·obtain ⟨_,_,_,_,o,_,_,e,ex,_⟩:=I.hok p _ hk
     exact ⟨o,e,ex⟩
    ·obtain ⟨_,_,_,_,o,_,_,e,ex,_⟩:=I.hok p _ hk
     exact ⟨o,e,ex⟩
   obtain ⟨o,e,ex⟩:=z
   refine ⟨⟨o,e,ex.1⟩,fun a e2=>?_⟩
   cases e2
   exact ⟨o,e,ex.2.1⟩
  ·obtain ⟨o,_,_,_,e,ex,_⟩:=I.hok p _ hk
   refine ⟨⟨o,e,ex.1⟩,fun a e2=>?_⟩
   cases e2
   exact ⟨o,e,ex.2.1⟩
 | _=>exact False.elim ty
def Zeu (K:PySem.W.Frag) (T:String) (r:V→List V→Hp→VK→Prop) (to:TE):TE:=fun σ H Q=>to σ H fun x H1=>tyV K T x H1∧r x [] H1 Q
def tBM (K:PySem.W.Frag) (T:String) (r:V→List V→Hp→VK→Prop) (to:TE) (t:TA):TE:=fun σ H Q=>to σ H fun x H1=>tyV K T x H1∧t σ H1 fun xs H2=>r x xs H2 Q
variable {o e:Expr} {es:List Expr} {to:TE} {t:TA} {name:Str} {apos cpos:Pos} {T id:String} {r:V→List V→Hp→VK→Prop}
theorem Z2f (pa:PlainAttrs T) (slot:Slot T name id) (hty:typeOf (.builtin id) = pure (.type "method_descriptor")) (hm:MtR X id r) (ho:PE X o to)
  (hbase:attributeBase o name X.env (eval o X.env) = eval o X.env:=by rfl) (hline:(apos.endLine == cpos.line) = true:=by rfl):PE X (.Call (.Attribute o name apos) [] [] cpos) (Zeu X.K T r to):=by
 intro pins s σ H Q I h
 refine wpAny_Call_method0_late hbase hline (thn (ho pins s σ H _ I h) fun v s1 ⟨x,H1,I1,r1,ty,q1⟩=>?_)
 obtain ⟨h1,h2⟩:=Z83 I1 r1 ty
 exact ⟨T,id,pa,slot,hty,h1,h2,Calls.callWith_builtin rfl (PySem.evalArgs_none (hm pins s1 σ H1 x [] v [] Q I1 r1 .nil q1))⟩
theorem X3 (pa:PlainAttrs T) (slot:Slot T name id) (hty:typeOf (.builtin id) = pure (.type "method_descriptor")) (hm:MtR X id r) (ho:PE X o to) (ha:PA X (e :: es) t)
  (hbase:attributeBase o name X.env (eval o X.env) = eval o X.env:=by rfl)
  (hfew:((backTo cpos (starEach (e :: es) X.env)).all (fun x=>!x.1) && (backToKw cpos (keywordEach [] X.env)).all (fun x=>x.1.isSome)
   && decide ((e :: es).length + ([]:List Keyword).length + (if ([]:List Keyword).isEmpty then 0 else 1) < 30)) = true:=by rfl)
  (hline:(apos.endLine == cpos.line) = true:=by rfl) (hs:starEach (e :: es) X.env = (false,eval e X.env) :: starEach es X.env:=by rfl) (hplain:(backTo cpos (starEach es X.env)).any (·.1) = false:=by rfl) :
  PE X (.Call (.Attribute o name apos) (e :: es) [] cpos) (tBM X.K T r to t):=by
 intro pins s σ H Q I h
 refine wpAny_Call_method_late hbase hfew hline rfl (thn (ho pins s σ H _ I h) fun v s1 ⟨x,H1,I1,r1,ty,q1⟩=>?_)
 obtain ⟨h1,h2⟩:=Z83 I1 r1 ty
 refine ⟨T,id,pa,slot,hty,h1,h2,?_⟩
 have hA:=ha cpos pins s1 σ H1 _ I1 q1
 rw [hs] at hA ⊢
 refine Calls.callWith_builtin (by show (false || (backTo cpos (starEach es X.env)).any (·.1)) = false; rw [hplain] <;> rfl) (Calls.evalArgs_plain ?_)
 exact thn hA fun us s2 ⟨vs,H2,I2,r2,q2⟩=>hm pins s2 σ H2 x vs v us Q I2 r1 r2 q2
end
def MtM (X:Cx) (id:String) (r:V→List V→Hp→VK→Prop):Prop :=
 ∀ (pins:List (Addr × Obj)) (s:Shared) (σ:St) (H:Hp) (x:V) (xs:List V) (v:Value) (us:List Value) (Q:VK),Inv X pins σ H s→RelV x v→Vals xs us→r x xs H Q →
  wpAny (model X.prog X.w) X.A (call (.builtin id) (v :: us)) (EP X pins σ Q) X.xe s
theorem Vals.one:∀ {x:V} {us:List Value},Vals [x] us→∃ u,us = [u]∧RelV x u
 | _,_,.cons r .nil=>⟨_,rfl,r⟩
theorem Vals.zero:∀ {us:List Value},Vals [] us→us = []
 | _,.nil=>rfl
theorem Vals.dropLast {xs:List V} {us:List Value} (h:Vals xs us):Vals xs.dropLast us.dropLast:=by
 induction h with
 | nil=>exact .nil
 | cons r t ih =>
  cases t with
  | nil=>exact .nil
  | cons q t'=>exact .cons r ih
theorem Vals.eraseIdx:∀ {xs:List V} {us:List Value} (i:Nat),Vals xs us→Vals (xs.eraseIdx i) (us.eraseIdx i)
 | _,_,_,.nil=>.nil
 | _,_,0,.cons _ t=>t
 | _,_,i + 1,.cons r t=>.cons r (Vals.eraseIdx i t)
theorem Vals.rep {xs:List V} {us:List Value} (h:Vals xs us):∀ k:Nat,Vals (List.replicate k xs).flatten (List.replicate k us).flatten
 | 0=>.nil
 | k + 1=>by
  rw [List.replicate_succ,List.replicate_succ,List.flatten_cons,List.flatten_cons]
  exact Vals.append h (Vals.rep h k)
theorem Z42 {α:Type} (l:List α):l.eraseIdx (l.length - 1) = l.dropLast:=by
 induction l with
 | nil=>rfl
 | cons a r ih =>
  cases r with
  | nil=>rfl
  | cons b r =>
   have e:(a :: b :: r).length - 1 = ((b :: r).length - 1) + 1:=by
    have h1:(a :: b :: r).length = r.length + 2:=rfl
    have h2:(b :: r).length = r.length + 1:=rfl
    omega
   rw [e,List.eraseIdx_cons_succ,ih]
   all_goals rfl
theorem Z0g {α:Type}:∀ (l:List α) (i:Nat),(l.eraseIdx i).length ≤ l.length
 | [],_=>Nat.le_refl _
 | _ :: _,0=>Nat.le_succ _
 | _ :: r,i + 1=>Nat.succ_le_succ (Z0g r i)
theorem Z0n (its:List Value):∀ (k:Nat) (acc:List Value),
  List.foldl (fun x1 x2=>x1 ++ x2) acc.toArray (List.replicate k its.toArray) = (acc ++ (List.replicate k its).flatten).toArray
 | 0,acc=>by simp
 | k + 1,acc=>by
  have e:acc.toArray ++ its.toArray = (acc ++ its).toArray:=by simp
  have e2:(acc ++ its) ++ (List.replicate k its).flatten = acc ++ (List.replicate (k + 1) its).flatten:=by
   rw [List.replicate_succ,List.flatten_cons,List.append_assoc]
  rw [← e2,← Z0n its k (acc ++ its),← e,List.replicate_succ,List.foldl_cons]
section
variable {X:Cx} {pins:List (Addr × Obj)} {σ:St} {H:Hp} {s:Shared} {l b:Addr} {xs ys zs:List V}
theorem Inv.lset {its its':List Value} {n:Nat} {f:Array Value→Array Value} {t':Nat} (I:Inv X pins σ H s) (hH:H l = some (.lst xs))
  (e:s.heap.get? l = some { cls:=.type "list",data:=.seq its.toArray n }) (hf:f its.toArray = its'.toArray) (hv:Vals ys its') (hz:ys.length ≤ sizeLine) :
  Inv X pins σ (upd H l (.lst ys)) { s with heap:=s.heap.update l (Obj.mapSeq f),toks:=t' }:=by
 have q:=PySem.IsL.update e f
 rw [hf] at q
 refine I.write (x:=l) (e:=l) (by rw [hH]; exact trivial) (.inl rfl) (fun b' u hb hu=>(Heap.get?_update_other s.heap (Obj.mapSeq f) (Ne.symm hb)).trans hu) ⟨_,q⟩ ?_
 exact ⟨hz,its',_,hv,q⟩
theorem Inv.lnew {its:List Value} {t':Nat} (I:Inv X pins σ H s) (hv:Vals ys its) (hz:ys.length ≤ sizeLine) :
  Inv X pins σ (upd H s.heap.objs.size (.lst ys)) { s with heap:=s.heap.push { cls:=.type "list",data:=.seq its.toArray },toks:=t' } :=
 I.laid (fun _ _ q=>Heap.get?_push_of_some _ q) (Nat.le_refl _) ⟨hz,its,0,hv,Heap.get?_push_size _ rfl⟩
theorem Inv.fresh (I:Inv X pins σ H s):H s.heap.objs.size = none:=I.hok.fresh (Nat.le_refl _)
theorem Inv.lstM (I:Inv X pins σ H s) (hH:H l = some (.lst xs)):xs.length ≤ sizeLine∧∃ (its:List Value) (n:Nat),Vals xs its∧xs.length = its.length∧s.heap.get? l = some { cls:=.type "list",data:=.seq its.toArray n }:=by
 obtain ⟨z,its,n,r,e⟩:=I.hok l _ hH
 exact ⟨z,its,n,r,r.length,e⟩
theorem Z7d {n:Nat} (h:n ≤ sizeLine):Builtin.List.listTooLong n = false:=by
 unfold Builtin.List.listTooLong
 exact decide_eq_false (by omega)
end
section
variable {X:Cx}
def Z97:V→List V→Hp→VK→Prop:=fun x vs H Q=>∃ l xs y,x = .ref l∧vs = [y]∧H l = some (.lst xs)∧xs.length < sizeLine∧Q .non (upd H l (.lst (xs ++ [y])))
theorem Zy:MtM X "list.append" Z97:=by
 intro pins s σ H x vs v us Q I rx rv h
 obtain ⟨l,xs,y,rfl,rfl,hH,hz,q⟩:=h
 cases rx
 obtain ⟨u,rfl,ru⟩:=rv.one
 obtain ⟨z,its,n,r,hl,e⟩:=I.lstM hH
 refine call_meets F.slot_list_append ⟨_,e,rfl⟩ F.entry_list_append (F.args_list_append_2 _ _) (PySem.list_append l its.toArray n u (by rw [List.size_toArray]; omega)) ⟨e,?_⟩
 refine ⟨.non,_,I.lset (its':=its ++ [u]) hH e (by simp) (r.append (.cons ru .nil)) ?_,rfl,q⟩
 rw [List.length_append,List.length_singleton]
 omega
def Z96:V→List V→Hp→VK→Prop:=fun x vs H Q=>∃ l b xs zs,x = .ref l∧vs = [.ref b]∧H l = some (.lst xs)∧H b = some (.lst zs)∧xs.length + zs.length ≤ sizeLine∧Q .non (upd H l (.lst (xs ++ zs)))
theorem mt_extend:MtM X "list.extend" Z96:=by
 intro pins s σ H x vs v us Q I rx rv h
 obtain ⟨l,b,xs,zs,rfl,rfl,hH,hB,hz,q⟩:=h
 cases rx
 obtain ⟨u,rfl,ru⟩:=rv.one
 cases ru
 obtain ⟨z,its,n,r,hl,e⟩:=I.lstM hH
 obtain ⟨z2,its2,n2,r2,hl2,e2⟩:=I.lstM hB
 have hsz:its.toArray.size + its2.toArray.size ≤ sizeLine:=by rw [List.size_toArray,List.size_toArray]; omega
 have hlong:¬ (!its.toArray.isEmpty && Builtin.List.listTooLong (its.toArray.size + its2.toArray.size)) = true:=by
  rw [Z7d hsz,Bool.and_false]
  exact Bool.false_ne_true
 refine call_meets F.slot_list_extend ⟨_,e,rfl⟩ F.entry_list_extend (F.args_list_extend_2 _ _)
  (AutoSeq1.list_extend_list_list_0 l its.toArray n b its2.toArray n2 hlong (by rw [List.size_toArray]; omega) (by omega)) ⟨e,e2,?_⟩
 refine ⟨.non,_,I.lset (its':=its ++ its2) hH e (by simp) (r.append r2) ?_,rfl,q⟩
 rw [List.length_append]
 omega
def Zey:V→List V→Hp→VK→Prop:=fun x vs H Q=>∃ l xs y,x = .ref l∧vs = []∧H l = some (.lst xs)∧xs[xs.length - 1]? = some y∧Q y (upd H l (.lst xs.dropLast))
theorem Z2p:MtM X "list.pop" Zey:=by
 intro pins s σ H x vs v us Q I rx rv h
 obtain ⟨l,xs,y,rfl,rfl,hH,hy,q⟩:=h
 cases rx
 have hus:=rv.zero
 subst hus
 obtain ⟨z,its,n,r,hl,e⟩:=I.lstM hH
 obtain ⟨u,hu,ru⟩:=r.get hy
 have hy':its.toArray[its.toArray.size - 1]? = some u:=by
  show its.toArray[its.length - 1]? = some u
  rw [← Array.getElem?_toList,← hl]
  exact hu
 refine call_meets F.slot_list_pop ⟨_,e,rfl⟩ F.entry_list_pop (F.args_list_pop_1 _) (MeetsSeq.list_pop_last l its.toArray n u hy' (by rw [List.size_toArray]; omega)) ⟨e,?_⟩
 refine ⟨y,_,I.lset (its':=its.dropLast) hH e ?_ r.dropLast ?_,ru,q⟩
 ·show its.toArray.eraseIdxIfInBounds (its.toArray.size - 1) = its.dropLast.toArray
  rw [List.size_toArray,List.eraseIdxIfInBounds_toArray,Z42]
 ·rw [List.length_dropLast]
  omega
def Z85:V→List V→Hp→VK→Prop:=fun x vs H Q=>∃ l xs i k y,x = .ref l∧vs = [.int i]∧H l = some (.lst xs)∧-(2 ^ 63) ≤ i∧i < 2 ^ 63∧seqIndex? i xs.length = some k∧xs[k]? = some y∧Q y (upd H l (.lst (xs.eraseIdx k)))
theorem Z7i:MtM X "list.pop" Z85:=by
 intro pins s σ H x vs v us Q I rx rv h
 obtain ⟨l,xs,i,k,y,rfl,rfl,hH,h1,h2,hk,hy,q⟩:=h
 cases rx
 obtain ⟨u,rfl,ru⟩:=rv.one
 obtain ⟨t,rfl⟩:=ru
 obtain ⟨z,its,n,r,hl,e⟩:=I.lstM hH
 obtain ⟨w,hw,rw'⟩:=r.get hy
 refine call_meets F.slot_list_pop ⟨_,e,rfl⟩ F.entry_list_pop (F.args_list_pop_2 _ _)
  (MeetsSeq.list_pop_at l its.toArray n i t k w (fitsIndex_both h1 h2) (by rw [List.size_toArray,← hl]; exact hk) (by rw [← Array.getElem?_toList]; exact hw) (by rw [List.size_toArray]; omega)) ⟨e,?_⟩
 refine ⟨y,_,I.lset (its':=its.eraseIdx k) hH e ?_ (r.eraseIdx k) ?_,rw',q⟩
 ·show its.toArray.eraseIdxIfInBounds k = (its.eraseIdx k).toArray
  rw [List.eraseIdxIfInBounds_toArray]
 ·have:=Z0g xs k
  omega
def Zf0:R2:=fun x y H Q=>∃ l b xs zs,x = .ref l∧y = .ref b∧H l = some (.lst xs)∧H b = some (.lst zs)∧xs.length + zs.length ≤ sizeLine∧∀ p,H p = none→Q (.ref p) (upd H p (.lst (xs ++ zs)))
theorem Tj:OpR X (binaryOp .Add) Zf0:=by
 intro pins s σ H x y v u Q I rx ry h
 obtain ⟨l,b,xs,zs,rfl,rfl,hH,hB,hz,q⟩:=h
 cases rx
 cases ry
 obtain ⟨z,its,n,r,hl,e⟩:=I.lstM hH
 obtain ⟨z2,its2,n2,r2,hl2,e2⟩:=I.lstM hB
 refine PySem.P.add_list e e2 ?_ (by rw [List.size_toArray,List.size_toArray]; omega)
 have ea:its.toArray ++ its2.toArray = (its ++ its2).toArray:=by simp
 rw [ea]
 exact ⟨.ref _,_,I.lnew (t':=s.toks) (r.append r2) (by rw [List.length_append]; omega),rfl,q _ I.fresh⟩
theorem Z5n {α:Type} (xs:List α) (k:Nat):(List.replicate k xs).flatten.length = k * xs.length:=by
 induction k with
 | zero=>simp
 | succ k ih=>rw [List.replicate_succ,List.flatten_cons,List.length_append,ih,Nat.succ_mul,Nat.add_comm]
end
section
variable {prog:Program} {w:World} {A:Around} {E:Value→Shared→Prop} {s:Shared}
end
section
variable {X:Cx}
end
end L2
namespace Att
open PySem PySem.W PySem.Calls PyProof.Rows
theorem Ut {P:Params} {h:Heap}:∀ (ns:List Int) (vs:List Value),WellAll P h vs (ns.map WData.int)→IntsAre vs ns:=by
 intro ns
 induction ns with
 | nil =>
  intro vs w
  rw [List.map_nil] at w
  cases w
  exact .nil
 | cons n ns ih =>
  intro vs w
  rw [List.map_cons] at w
  cases w with
  | cons a b =>
   cases a
   exact .cons _ _ (ih _ b)
theorem Z4n {l:OpenLaw} {n:Nat} (hn:l.most = some n) {P:Params} {h:Heap} {args:List WData} {vals:List Value}
  (hpre:l.row.toRowW.claim.pre args = true) (hwl:WellAll P h vals args) :
  ∃ a vs ns,vals = [Value.ref a]∧args = [WData.list (ns.map WData.int)]∧h.get? a = some { cls:=.type "list",data:=.seq vs.toArray }∧IntsAre vs ns∧ns.length ≤ n:=by
 have hsh:WShape.hasAll [] args [.list .int] = true:=(pre_splitW hpre).1
 have hc:l.pre.holds [] { args:=args } = true:=(pre_splitW hpre).2
 obtain ⟨d,r,rfl,h1,h2⟩:=hasAllW_cons hsh
 obtain rfl:=hasAllW_nil h2
 obtain ⟨xs,rfl,h3⟩:=hasW_list h1
 obtain ⟨ns,rfl⟩:=items_int h3
 have hlen:ns.length ≤ n:=by
  unfold OpenLaw.pre at hc
  have h4:(WTm.not (.lt (.lit (.int (n:Int))) (.len (.arg 0)))).holds [] { args:=[.list (ns.map .int)] } = true:=by
   have h4:=(holds_andW hc).1
   rw [hn] at h4
   exact h4
  have h5:=condW_of h4 (w_not (w_lt w_lit (w_len_list (w_arg rfl))))
  rw [List.length_map] at h5
  refine Nat.le_of_not_lt fun q=>?_
  have q':(n:Int) < ((ns.length:Nat):Int):=by omega
  first
   | (rw [decide_eq_true q'] at h5; exact absurd h5 (by decide))
   | (simp at h5; omega)
 cases hwl with
 | cons w1 w2 =>
  cases w2
  cases w1 with
  | list ho hall=>exact ⟨_,_,ns,rfl,rfl,ho,Ut ns _ hall,hlen⟩
theorem Z50 (l:OpenLaw) (args:List WData):l.row.toRowW.claim.post args (.bool true) args = true :=
 postW_of (r:=l.row.toRowW) (X:=(true == true))
  (show WShape.has [] (.bool true) .bool = true by first | rfl | decide | simp [WShape.has,WShape.arms,WShape.armsAll])
  (show (WTm.eq .res (.lit (.bool true))).value [] { args:=args,res:=some (.bool true),after:=args } = some (.bool (true == true)) from w_eq_bool (w_res rfl) w_lit) rfl
theorem attach_call {l:OpenLaw} {n:Nat} {q:Program} {loose:List Str} {XP:(Str→Option Value)→Heap→Prop} {YP:World→Heap→Prop} {d:DefRec}
  (hn:l.most = some n) (hdf:d.params.defaults = [])
  (call:∀ (w:World) (s₀ s₁:Shared) (mg mb:Str→Option Value) (fa:Addr) (o:Obj) (pm cd doc:Value) (a:Addr) (vs:List Value) (ns:List Int),
   Ground q loose [] XP w s₀ mg mb s₁.heap→YP w s₁.heap →
   s₁.heap.get? fa = some o→o.data = .func (docDef d.name d.params d.body d.scope pm cd doc)→s₁.heap.CodeRec cd d.name→mg d.name = some (.ref fa) →
   s₁.heap.get? a = some { cls:=.type "list",data:=.seq vs.toArray }→IntsAre vs ns→ns.length ≤ n→s₁.gens = #[] →
   codeAny (model l.prog w) callerA (.call (.ref fa) ⟨[.ref a],[]⟩) (fun r s'=>r = .ok (.ret (.bool true))∧OldK s₁.heap s'.heap∧s'.os = s₁.os∧AllBare s'.gens) s₁) :
  WalkO q loose XP YP l.row.toRowW d [] (fun f vs=>PySem.call f vs):=by
 intro w s₀ s₁ mg mb G Y fa o pm cd doc dV kV ho hd hcd hD hmg hg args vals as hpre hlay hrd hwl hlo
 obtain rfl:dV = .none:=Dflts.none hD hdf
 obtain rfl:kV = .none:=Dflts.noKw hD
 obtain ⟨a,vs,ns,rfl,rfl,hobj,hints,hlen⟩:=Z4n hn hpre hwl
 refine enter_call (codeAny_mono (call w s₀ s₁ mg mb fa o pm cd doc a vs ns G Y ho (fd_plain hd) hcd hmg hobj hints hlen hg) fun r s' hq=>?_)
 obtain ⟨rfl,h2,h3,h4⟩:=hq
 exact ⟨.inl ⟨.bool true,.bool true,[],rfl,fun _=>rfl,.bool true,Z50 l _,fun _=>⟨List.Pairwise.nil,fun _ hm=>(nomatch hm)⟩⟩,h2,h3,h4⟩
section
variable {prog:Program} {w:World} {A:Around} {E:Value→Shared→Prop} {s:Shared} {K:Frag}
def ledger (h:Heap) (L d:Addr):List (Addr × Obj):=(List.range h.objs.size).filterMap fun a=>if a = L ∨ a = d then none else (h.get? a).map fun o=>(a,o)
end
end Att
namespace L2
open PySem PySem.Spec PyProof.Rows
theorem Jn:∀ {vs:List Value} {ns:List Int},IntsAre vs ns→Vals (ns.map V.int) vs
 | _,_,.nil=>.nil
 | _,_,.cons n t h=>.cons ⟨t,rfl⟩ (Jn h)
def Zee (H:Hp):Prop:=∀ b,H b = none ∨ ∃ o xs,H b = some (.frz o (.lst xs))
theorem Z7n {P:Program} {w:World} {K:PySem.W.Frag} {mg mb:Str→Option Value} {CX:CXT} {k:Nat} {fa a:Addr} {fd:FuncData} {x:Str} {sp:Sp} {s₁:Shared} {vs:List Value} {ns:List Int}
  (KX:K.In s₁.heap) (hns:s₁.heap.Ns mainGlobals mg) (hb:s₁.heap.Ns builtinsNs mb) (hbb:∀ x:Str,x ≠ "__name__"→mb x = bootBuiltins x) (hlim:s₁.heap.NoLimit) (hg:s₁.gens = #[])
  (ha:s₁.heap.get? a = some { cls:=.type "list",data:=.seq vs.toArray }) (hi:IntsAre vs ns) (hl:ns.length ≤ sizeLine) (hr:Room k callerA)
  (F:∀ base:Heap,K.In base→base.Ns mainGlobals mg→FnOk P w K mg base CX k fa fd [x] sp) (hbind:∀ (s:Shared) (u:Value),BindsTo s fd ⟨[u],[]⟩ [(x,u)])
  (hsp:∀ H:Hp,Zee H→SqL K H a (ns.map V.int)→sp [.ref a] H (fun v _=>v = .bl true) fun _ _ _=>False)
  (hCX:∀ H e s',CX [] H s₁ (fun _ _ _=>False) e s'→False) :
  codeAny (model P w) callerA (.call (.ref fa) ⟨[.ref a],[]⟩) (fun r s'=>r = .ok (.ret (.bool true))∧OldK s₁.heap s'.heap∧s'.os = s₁.os∧AllBare s'.gens) s₁:=by
 have rv:=Jn hi
 have lenV:=hi.length
 have core:∀ H:Hp,Zee H→SqL K H a (ns.map V.int)→HOk P w H s₁.heap→(∀ b,H b ≠ none→b = a)→(H a ≠ none→K.lookup a = none) →
   codeAny (model P w) callerA (.call (.ref fa) ⟨[.ref a],[]⟩) (fun r s'=>r = .ok (.ret (.bool true))∧OldK s₁.heap s'.heap∧s'.os = s₁.os∧AllBare s'.gens) s₁:=by
  intro H hO hS hok hA hK
  have base_of:∀ {b:Addr} {o:Obj},s₁.heap.get? b = some o→H b = none→(Z7s s₁.heap H).get? b = some o:=fun e n=>Z7r e n
  have noA:∀ {b:Addr} {o:Obj} {es:Array DictEntry} {ep:Nat},s₁.heap.get? b = some o→o.data = .dict es ep→H b = none:=fun {b o es ep} e d=>by
   cases q:H b with
   | none=>rfl
   | some u =>
    have e':b = a:=hA b (by rw [q]; simp)
    subst e'
    rw [ha] at e; cases e
    have d':Data.seq vs.toArray _ = Data.dict es ep:=d
    cases d'
  have nsK:∀ {b:Addr} {m:Str→Option Value},s₁.heap.Ns b m→(Z7s s₁.heap H).Ns b m:=fun {b m} ⟨o,es,ep,e,d,r⟩=>⟨o,es,ep,base_of e (noA e d),d,r⟩
  have hKb:K.In (Z7s s₁.heap H):=fun b o e=>base_of (KX b o e) (by
   cases q:H b with
   | none=>rfl
   | some u =>
    have e':b = a:=hA b (by rw [q]; simp)
    subst e'
    rw [hK (by rw [q]; simp)] at e; cases e)
  have hM:Mod K mg (Z7s s₁.heap H):=⟨hKb,nsK hns,⟨mb,nsK hb,hbb⟩,let ⟨mc,h1,h2⟩:=hlim; ⟨mc,nsK h1,h2⟩⟩
  have e0:Env0 P w K mg (Z7s s₁.heap H) callerA [] s₁ H:=⟨rfl,hM,fun b o e=>Z9y e,Nat.le_of_eq (Z5z _ _),trivial,fun b hb=>absurd (show b ∈ ([]:List Addr) from hb) (by simp),hok,.of_eq hg⟩
  refine codeAny_mono ((F _ hKb (nsK hns)).run callerA [] s₁ H ⟨[.ref a],[]⟩ [.ref a] [.ref a] _ _ hr e0 (hbind s₁ (.ref a)) (.cons rfl .nil) (hsp H hO hS)) fun r s' h=>?_
  cases r with
  | error e=>exact (hCX H e s' h).elim
  | ok fl =>
   cases fl with
   | next=>exact False.elim h
   | brk=>exact False.elim h
   | cont=>exact False.elim h
   | ret u =>
    obtain ⟨v,H',os,bare,un,hok',r',q⟩:=h
    have q':v = .bl true:=q
    subst q'
    obtain rfl:u = Value.bool true:=r'
    refine ⟨rfl,OldK.of_keep fun b o e=>?_,os,bare⟩
    cases q:H b with
    | none=>exact un.keep b o e q (by intro z; exact absurd (show b ∈ ([]:List Addr) from z) (by simp)) (by simp)
    | some u =>
     rcases hO b with z | ⟨ob,xs,z⟩
     ·rw [q] at z; cases z
     ·have z2:=un.frzs b ob _ z
      obtain ⟨e1,_⟩:=hok b _ z
      obtain ⟨e2,_⟩:=hok' b _ z2
      rw [e] at e1; cases e1
      exact e2
 cases hk:K.lookup a with
 | some o =>
  have e:=KX a o hk
  rw [ha] at e
  cases e
  refine core (fun _=>none) (fun _=>.inl rfl) (.inr ⟨_,vs.toArray,_,hk,rfl,rfl,rfl,by rw [List.size_toArray,lenV]; exact hl,by simpa using rv⟩) (fun b u z=>by have z':(none:Option HO) = some u:=z; cases z') (fun b z=>absurd rfl z) fun z=>absurd rfl z
 | none =>
  refine core (fun b=>if b = a then some (.frz { cls:=.type "list",data:=.seq vs.toArray } (.lst (ns.map V.int))) else none) (fun b=>?_) (.inl (.inr ⟨{ cls:=.type "list",data:=.seq vs.toArray },if_pos rfl⟩)) (fun b u z=>?_) (fun b z=>?_) fun _=>hk
  ·by_cases hb:b = a
   ·exact .inr ⟨_,_,if_pos hb⟩
   ·exact .inl (if_neg hb)
  ·by_cases hb:b = a
   ·have z':=(if_pos hb).symm.trans z
    cases z'
    subst hb
    exact ⟨ha,by rw [List.length_map]; exact hl,vs,_,rv,ha⟩
   ·have z':=(if_neg hb).symm.trans z
    cases z'
  ·by_cases hb:b = a
   ·exact hb
   ·exact absurd (if_neg hb) z
abbrev KOf {K:PySem.W.Frag} {h:Heap} (_:K.In h):PySem.W.Frag:=K
theorem walk_of {l:PySem.W.OpenLaw} {n k:Nat} {q:Program} {loose:List Str} {XP:(Str→Option Value)→Heap→Prop} {YP:World→Heap→Prop} {d:DefRec} {K:Params→PySem.W.Frag} {CX:World→CXT} {sp:World→Sp} {x:Str}
  (hn:l.most = some n) (hn2:n ≤ sizeLine) (hdf:d.params.defaults = []) (hr:Room k callerA)
  (hY:∀ (w:World) (h:Heap),YP w h→(K w.params).In h)
  (F:∀ (w:World) (mg:Str→Option Value) (fa:Addr) (h:Heap),(K w.params).In h→h.Ns mainGlobals mg→mg d.name = some (.ref fa) →
   ∃ fd:FuncData,(∀ (s:Shared) (u:Value),BindsTo s fd ⟨[u],[]⟩ [(x,u)]) ∧
    ∀ base:Heap,(K w.params).In base→base.Ns mainGlobals mg→FnOk l.prog w (K w.params) mg base (CX w) k fa fd [x] (sp w))
  (hsp:∀ (w:World) (H:Hp) (a:Addr) (ns:List Int),ns.length ≤ n→Zee H→SqL (K w.params) H a (ns.map V.int)→sp w [.ref a] H (fun v _=>v = .bl true) fun _ _ _=>False)
  (hCX:∀ (w:World) (H:Hp) (s:Shared) (e:Value) (s':Shared),CX w [] H s (fun _ _ _=>False) e s'→False) :
  PySem.W.WalkO q loose XP YP l.row.toRowW d [] (fun f vs=>PySem.call f vs):=by
 refine Att.attach_call hn hdf fun w s₀ s₁ mg mb fa o pm cd doc a vs ns G Y ho hd hcd hmg hobj hints hlen hg=>?_
 have KX:=hY w _ Y
 obtain ⟨fd,hb,hF⟩:=F w mg fa _ KX G.T.g hmg
 exact Z7n KX G.T.g G.T.b G.T.builtins G.T.nolimit hg hobj hints (Nat.le_trans hlen hn2) hr hF hb (fun H hO hS=>hsp w H a ns hlen hO hS) fun H e s'=>hCX w H s₁ e s'
def Xn (s:Stmt) (j:Nat):Stmt:=match s with
 | .ClassDef _ _ _ body _ _ _ _ _ _ _=>body.getD j (.Pass ⟨0,0,0,0⟩)
 | _=>.Pass ⟨0,0,0,0⟩
def X9 (s:Stmt):Arguments:=match s with
 | .FunctionDef _ a _ _ _ _ _ _ _ _=>a
 | _=>{ posonlyargs:=[],args:=[],vararg:=none,kwonlyargs:=[],kw_defaults:=[],kwarg:=none,defaults:=[] }
def X5 (s:Stmt):List Stmt:=match s with
 | .FunctionDef _ _ b _ _ _ _ _ _ _=>b
 | _=>[]
def Zb (s:Stmt):Scope:=match s with
 | .FunctionDef _ _ _ _ _ _ sc _ _ _=>sc
 | _=>{ kind:=.function,names:=[],isGenerator:=false,isCoroutine:=false }
abbrev CX0:CXT:=fun _ _ _ _ _ _=>False
abbrev E0:XK:=fun _ _ _=>False
theorem Z55 {X:Cx}:T0 CX0 X E0:=fun _ _ _ _ _ _ _ h=>h.elim
structure Fun (K:PySem.W.Frag) (x qual:Str) (st:Stmt) (f:Addr) (fd:FuncData):Prop where
 ex:∃ (oc:Value) (od:Option Addr) (kV doc pm:Value) (an:Option Addr) (cdv ct:Value) (osl:Array (Option Value)),
  fd = PySem.W.fnOf x qual (X9 st) (X5 st) (Zb st) .none kV doc pm an cdv ct∧K.lookup f = some ⟨oc,od,.func fd,osl⟩∧PySem.W.codeIn K cdv qual = true
 kp:PySem.W.keepIn K (.ref f) = true
section
variable {P:Program} {w:World} {K:PySem.W.Frag} {mg:Str→Option Value} {base:Heap}
theorem Fun.ok {x qual:Str} {st:Stmt} {f:Addr} {fd:FuncData} {N ps:List Str} {k:Nat} {sp:Sp} (F:Fun K x qual st f fd) (S:FnScope N ps (Zb st)) (len:∀ vs H Q E,sp vs H Q E→vs.length = ps.length)
  (hbody:∀ (cdv:Value) (A:Around) (outer:List Env) (s:Shared) (H:Hp) (vs:List V) (Q:VK) (E:XK),Room k (A.deeper (envOfC qual (Zb st) s.heap.objs.size f cdv))→sp vs H Q E →
   ∃ t,PSs (Zas CX0 P w K mg base N qual (Zb st) f cdv A outer s H E).nox (X5 st) t∧t { nx:=fun _ H'=>Q .non H',rt:=Q } (start N vs) H):FnOk P w K mg base CX0 (k + 1) f fd ps sp:=by
 obtain ⟨oc,od,kV,doc,pm,an,cdv,ct,osl,rfl,lk,hcd⟩:=F.ex
 refine Ze9 lk hcd S len fun A outer s H vs Q E hr hsp=>?_
 obtain ⟨t,h,q⟩:=hbody cdv A outer s H vs Q E hr hsp
 exact ⟨t,h.nox,q⟩
theorem Fun.binds {x qual:Str} {st:Stmt} {f:Addr} {fd:FuncData} {ps:List Str} (F:Fun K x qual st f fd)
  (h:∀ (kV doc pm:Value) (an:Option Addr) (cdv ct:Value) (us:List Value),us.length = ps.length→bindArgs (PySem.W.fnOf x qual (X9 st) (X5 st) (Zb st) .none kV doc pm an cdv ct) ⟨us,[]⟩ = pure (ps.zip us)):Binds K fd ps []:=by
 obtain ⟨oc,od,kV,doc,pm,an,cdv,ct,osl,rfl,lk,hcd⟩:=F.ex
 exact .all (h kV doc pm an cdv ct)
theorem Uu {x qual:Str} {st:Stmt} {f:Addr} {oc:Value} {od an:Option Addr} {osl:Array (Option Value)} {kV doc pm cdv ct:Value} (l:K.lookup f = some ⟨oc,od,.func (PySem.W.fnOf x qual (X9 st) (X5 st) (Zb st) .none kV doc pm an cdv ct),osl⟩)
  (c:PySem.W.codeIn K cdv qual = true) (k:PySem.W.keepIn K (.ref f) = true):Fun K x qual st f (PySem.W.fnOf x qual (X9 st) (X5 st) (Zb st) .none kV doc pm an cdv ct):=⟨⟨oc,od,kV,doc,pm,an,cdv,ct,osl,rfl,l,c⟩,k⟩
end
theorem Yo {n:Nat} (h:n ≤ 1000):n < sizeLine:=Nat.lt_of_le_of_lt h (by decide)
section
variable {X:Cx}
theorem pv (i:Nat) {x:Str} {pos:Pos} (hN:X.N[i]? = some x:=by rfl) (hv:Vis X.env.scope x:=by first | exact Or.inl rfl | exact Or.inr (Or.inl rfl) | exact Or.inr (Or.inr rfl)) (hd:(x == ("__debug__":Str)) = false:=by decide)
  (hcd:(x == ("__classdict__":Str)) = false:=by decide):PE X (.Name x pos) (V9 i):=Zc3 hN hv hd hcd
end
theorem Z0l {A B:Prop} (h:B):if false = true then A else B:=by
 rw [if_neg Bool.false_ne_true]
 exact h
theorem Z0k {A B:Prop} (h:A):if true = true then A else B:=by
 rw [if_pos rfl]
 exact h
theorem X7 {c A B:Prop} [Decidable c] (h1:c→A) (h2:¬ c→B):if c then A else B:=by
 by_cases h:c
 ·rw [if_pos h]
  exact h1 h
 ·rw [if_neg h]
  exact h2 h
def W3 (cells:List (Str × Addr)) (cs:List (Str × Addr)) (p:Str × NameKind):List (Str × Addr) :=
 if (p.2 == .free) = true then (match cells.lookup p.1 with | some c=>(p.1,c) :: cs | none=>cs) else cs
def Z8o (names:List (Str × NameKind)) (cells:List (Str × Addr)):List (Str × Addr):=names.foldl (W3 cells) []
theorem Z41 {α β:Type} {l:List α} {f:α→β→Sem (ForInStep β)} (g:β→α→β):∀ (c:β),(∀ x ∈ l,∀ c,f x c = pure (.yield (g c x)))→forIn l c f = pure (l.foldl g c):=by
 induction l with
 | nil=>intro c _; rfl
 | cons x l ih =>
  intro c h
  rw [List.forIn_cons,h x List.mem_cons_self,pure_bind]
  exact ih _ fun y hy=>h y (List.mem_cons_of_mem _ hy)
theorem Vm {scope:Scope} {env:Env} (h:∀ p ∈ scope.names,p.2 = .free→∃ c,env.cells.lookup p.1 = some c):closureFor scope env = pure (Z8o scope.names env.cells):=by
 simp only [closureFor]
 rw [Z41 (W3 env.cells) [] (fun p hp c=>by
  obtain ⟨n,k⟩:=p
  by_cases hk:k = .free
  ·subst hk
   obtain ⟨a,e⟩:=h _ hp rfl
   have e':env.cells.lookup n = some a:=e
   simp [W3,cellOf,e']
  ·have hb:(k == NameKind.free) = false:=by simpa using hk
   simp [W3,hb])]
 rfl
theorem Z43 {cells:List (Str × Addr)} {cs:List (Str × Addr)} {p:Str × NameKind} (h:∀ y c,cs.lookup y = some c→cells.lookup y = some c):∀ y c,(W3 cells cs p).lookup y = some c→cells.lookup y = some c:=by
 intro y c e
 unfold W3 at e
 split at e
 ·split at e
  ·rename_i c' hc'
   rw [List.lookup_cons] at e
   split at e
   ·rename_i hy
    have:y = p.1:=by simpa using hy
    rw [this,hc']
    exact e
   ·exact h y c e
  ·exact h y c e
 ·exact h y c e
theorem Z31 (names:List (Str × NameKind)) (cells:List (Str × Addr)):∀ y c,(Z8o names cells).lookup y = some c→cells.lookup y = some c:=by
 have all:∀ (names:List (Str × NameKind)) (cs:List (Str × Addr)),(∀ y c,cs.lookup y = some c→cells.lookup y = some c)→∀ y c,(names.foldl (W3 cells) cs).lookup y = some c→cells.lookup y = some c:=by
  intro names
  induction names with
  | nil=>intro cs h; exact h
  | cons p r ih=>intro cs h; exact ih _ (Z43 h)
 exact all names [] (fun y c e=>by simp at e)
theorem Z1r {cells cs:List (Str × Addr)} {p:Str × NameKind} {y:Str} (h:(cs.lookup y).isSome = true):((W3 cells cs p).lookup y).isSome = true:=by
 unfold W3
 split
 ·split
  ·rw [List.lookup_cons]
   split
   ·rfl
   ·exact h
  ·exact h
 ·exact h
theorem Z80 {names:List (Str × NameKind)} {cells:List (Str × Addr)} {y:Str} {c:Addr} (hm:(y,NameKind.free) ∈ names) (hc:cells.lookup y = some c):∃ c,(Z8o names cells).lookup y = some c:=by
 have kp:∀ (names:List (Str × NameKind)) (cs:List (Str × Addr)),(cs.lookup y).isSome = true→((names.foldl (W3 cells) cs).lookup y).isSome = true:=by
  intro names
  induction names with
  | nil=>intro cs h; exact h
  | cons p r ih=>intro cs h; exact ih _ (Z1r h)
 have all:∀ (names:List (Str × NameKind)) (cs:List (Str × Addr)),(y,NameKind.free) ∈ names→((names.foldl (W3 cells) cs).lookup y).isSome = true:=by
  intro names
  induction names with
  | nil=>intro cs h; cases h
  | cons p r ih =>
   intro cs h
   rcases List.mem_cons.mp h with e | h
   ·subst e
    refine kp r _ ?_
    unfold W3
    simp [hc]
   ·exact ih _ h
 exact Option.isSome_iff_exists.mp (all names [] hm)
theorem X6 (env:Env):∀ (names:List (Str × NameKind)) (y:Str),
  (names.map fun (n,k)=>if (k == NameKind.free && env.scope.kind == .function && env.kindOf n == some .cell) then (n,NameKind.cell) else (n,k)).lookup y =
   (names.lookup y).map fun k=>if (k == NameKind.free && env.scope.kind == .function && env.kindOf y == some .cell) then NameKind.cell else k
 | [],_=>rfl
 | (n,k) :: r,y=>by
  have ih:=X6 env r y
  show List.lookup y ((if (k == NameKind.free && env.scope.kind == .function && env.kindOf n == some .cell) = true then (n,NameKind.cell) else (n,k)) :: _) = _
  cases hx:y == n with
  | true =>
   have e:y = n:=by simpa using hx
   subst e
   by_cases hc:(k == NameKind.free && env.scope.kind == .function && env.kindOf y == some .cell) = true
   ·rw [if_pos hc]; simp only [List.lookup_cons,hx,Option.map_some]; rw [if_pos hc]
   ·rw [if_neg hc]; simp only [List.lookup_cons,hx,Option.map_some]; rw [if_neg hc]
  | false =>
   by_cases hc:(k == NameKind.free && env.scope.kind == .function && env.kindOf n == some .cell) = true
   ·rw [if_pos hc]; simp only [List.lookup_cons,hx]; exact ih
   ·rw [if_neg hc]; simp only [List.lookup_cons,hx]; exact ih
def V7 (X:Cx) (N':List Str) (scope:Scope) (x:Str) (C:Addr) (s:Shared) (H:Hp) (ex:List Addr):Cx :=
 { X with N:=x :: N',s₀:=s,H₀:=H,env:=compEnvC scope (Z8o scope.names X.env.cells) C X.env,outer:=X.stack,ex:=ex,fn:=fun _=>false,pn:=[],xe:=fun _ _=>False }
structure CScope3 (x:Str) (N N':List Str) (osc scope:Scope):Prop where
 kind:scope.kind = .function
 nd:(x :: N').Nodup
 own:scope.names.lookup x = some .local
 nocell:∀ y ∈ scope.names,y.2 ≠ .cell
 names:∀ y ∈ scope.names,y.2 = .local→scope.names.lookup y.1 = some .local
 free:∀ y ∈ scope.names,y.2 = .free→osc.names.lookup y.1 = some .cell
 nol:∀ y ∈ N',scope.names.lookup y ≠ some .local
 len:N'.length = N.length
 hid:∀ p ∈ N'.zip N,p.1 = p.2 ∨ scope.names.lookup p.1 = none
section
variable {X:Cx} {N':List Str} {pins:List (Addr × Obj)} {σ:St} {H:Hp} {s:Shared}
theorem CScope3.has {x:Str} {scope:Scope} (S:CScope3 x X.N N' X.env.scope scope) (ok:X.Ok):∀ p ∈ scope.names,p.2 = .free→∃ c,X.env.cells.lookup p.1 = some c:=fun p hp hk =>
 ok.has p.1 (.inl (S.free p hp hk))
theorem Z33 {x y:Str} {scope:Scope} {C:Addr} {H₀:Hp} {ex:List Addr} (S:CScope3 x X.N N' X.env.scope scope) (ok:X.Ok) (hk:(V7 X N' scope x C s H₀ ex).env.kindOf y = some .cell ∨ (V7 X N' scope x C s H₀ ex).env.kindOf y = some .free) :
  X.env.kindOf y = some .cell∧∃ c,(Z8o scope.names X.env.cells).lookup y = some c:=by
 have e:(V7 X N' scope x C s H₀ ex).env.kindOf y = (scope.names.lookup y).map fun k=>if (k == NameKind.free && X.env.scope.kind == .function && X.env.kindOf y == some .cell) then NameKind.cell else k:=X6 X.env scope.names y
 rw [e] at hk
 cases q:scope.names.lookup y with
 | none=>rw [q] at hk; simp at hk
 | some k =>
  rw [q] at hk
  have hm:=PySem.mem_of_lookup q
  have hfree:k = .free:=by
   cases k with
   | free=>rfl
   | cell=>exact absurd rfl (S.nocell _ hm)
   | _=>simp at hk
  subst hfree
  have h1:=S.free _ hm rfl
  obtain ⟨c,hc⟩:=ok.has y (.inl h1)
  exact ⟨h1,Z80 hm hc⟩
theorem Z44 {x:Str} {scope:Scope} {C acc:Addr} {fp:List Addr} {h':Heap} {t':Nat} {m:Str→Option Value} (S:CScope3 x X.N N' X.env.scope scope) (I:Inv X pins σ H s) (hf:∀ b ∈ fp,Z48 X pins H b) (ho:∀ b ∈ fp,∃ o,s.heap.get? b = some o)
  (hC:s.heap.objs.size ≤ C) (hn:h'.Ns C m) (old:∀ b o,s.heap.get? b = some o→h'.get? b = some o):Inv (V7 X N' scope x C s H fp) [] (none :: σ) H { s with heap:=h',toks:=t' }:=by
 have sub:=Z31 scope.names X.env.cells
 refine ⟨⟨I.ok.mod,S.kind,I.ok.glob,I.ok.blt,hC,fun y z c h1 h2=>I.ok.inj y z c (sub _ _ h1) (sub _ _ h2),fun y hy=>(Z33 S I.ok hy).2,fun y c z _=>absurd (show false = true from z) Bool.false_ne_true,I.ok.hd,I.ok.frames,.inl rfl,fun b hb=>⟨?_,fun y c e=>?_⟩,I.bs,Nat.le_trans I.ok.bsz I.sz,fun b o e hb=>?_,fun b hb z=>?_,I.stack,I.stkFree⟩,
  rfl,I.bare,Un.kept old,⟨m,hn,fun i y v h1 h2 h3=>?_⟩,fun y c e=>?_,I.hok.fresh hC,fun y c e=>I.freeC y c (sub _ _ e),fun p hp=>absurd (show p ∈ ([]:List (Addr × Obj)) from hp) (by simp),I.hok.kept old,?_⟩
 ·obtain ⟨o,e⟩:=ho b hb
  exact Nat.ne_of_lt (Nat.lt_of_lt_of_le (Heap.lt_size e) hC)
 ·exact (hf b hb).2.2.2.2.1 y c (sub _ _ e)
 ·rcases (hf b hb).2.2.2.1 with z | z
  ·exact I.ok.noex b o e z
  ·exact absurd (Nat.lt_of_lt_of_le (Heap.lt_size e) (Nat.le_trans I.ok.bsz z)) (Nat.lt_irrefl _)
 ·rcases List.mem_cons.mp (I.stkSub b z) with e | e
  ·exact (hf b hb).2.1 e
  ·exact (hf b hb).2.2.1 e
 ·cases i with
  | zero=>simp at h2
  | succ i =>
   have h0':N'[i]? = some y:=h1
   have h2':σ[i]? = some (some v):=by simpa using h2
   have hk:(V7 X N' scope x C s H fp).env.kindOf y = some .cell ∨ (V7 X N' scope x C s H fp).env.kindOf y = some .free:=by
    rcases h3 with h3 | h3
    ·exfalso
     have e:(V7 X N' scope x C s H fp).env.kindOf y = (scope.names.lookup y).map fun k=>if (k == NameKind.free && X.env.scope.kind == .function && X.env.kindOf y == some .cell) then NameKind.cell else k:=X6 X.env scope.names y
     have h3':(V7 X N' scope x C s H fp).env.kindOf y = some .local:=h3
     rw [e] at h3'
     cases q:scope.names.lookup y with
     | none=>rw [q] at h3'; cases h3'
     | some k =>
      rw [q] at h3'
      rw [Option.map_some] at h3'
      split at h3'
      ·cases h3'
      ·cases h3'
       exact S.nol y (List.mem_of_getElem? h0') q
    ·exact h3
   obtain ⟨hk1,c,hc⟩:=Z33 S I.ok hk
   have h1':X.N[i]? = some y:=by
    have hlt:i < N'.length:=(List.getElem?_eq_some_iff.mp h0').1
    have hlt2:i < X.N.length:=by rw [← S.len]; exact hlt
    have hz:(y,X.N[i]) ∈ N'.zip X.N:=by
     refine List.mem_iff_getElem?.mpr ⟨i,?_⟩
     rw [List.getElem?_zip_eq_some]
     exact ⟨h0',List.getElem?_eq_getElem hlt2⟩
    rcases S.hid _ hz with e | e
    ·have e':y = X.N[i]:=e
     rw [List.getElem?_eq_getElem hlt2,← e']
    ·exfalso
     have e':scope.names.lookup y = none:=e
     have e2:(V7 X N' scope x C s H fp).env.kindOf y = (scope.names.lookup y).map fun k=>if (k == NameKind.free && X.env.scope.kind == .function && X.env.kindOf y == some .cell) then NameKind.cell else k:=X6 X.env scope.names y
     rw [e2,e'] at hk
     rcases hk with hk | hk <;> cases hk
   obtain ⟨m1,hn1,hl⟩:=I.loc
   obtain ⟨u,r,l⟩:=hl i y v h1' h2' (.inr (.inl hk1))
   refine ⟨u,r,.inr ⟨hk,c,hc,?_⟩⟩
   rcases l with ⟨l,_⟩ | ⟨_,c',hc',z⟩
   ·rw [hk1] at l; cases l
   ·have:=sub _ _ hc
    rw [hc'] at this
    cases this
    obtain ⟨o,e,d⟩:=z
    exact ⟨o,old _ _ e,d⟩
 ·obtain ⟨v,o,e1,d⟩:=I.cell y c (sub _ _ e)
  exact ⟨v,o,old _ _ e1,d⟩
 ·show (none :: σ).length = (x :: N').length
  simp [I.len,S.len]
def PTs (X:Cx) (ifs:List Expr) (t:TT):Prop :=
 ∀ (pins:List (Addr × Obj)) (s:Shared) (σ:St) (H:Hp) (Q:Bool→Hp→Prop),Inv X pins σ H s→t σ H Q →
  wpAny (model X.prog X.w) X.A (forIn ifs true fun c r=>if r = true then do let ok ← isTrue c X.env (eval c X.env); pure (ForInStep.yield ok) else pure (ForInStep.yield r)) (TP X pins σ Q) X.xe s
def Zd8:TT:=fun _ H Q=>Q true H
theorem V0:PTs X [] Zd8:=fun _ _ _ H _ I h=>wpAny_tests_nil ⟨H,I,h⟩
theorem Z16 {c:Expr} {t:TT} (h:PT X c t):PTs X [c] t:=fun pins s σ H Q I hq=>wpAny_tests_one (h pins s σ H Q I hq)
def LCW (J:It) (σ:St) (tt:TT) (te:TE) (Fin:List V→Hp→Prop) (H1:Hp):Prop:=∃ W:Nat→Nat→List V→Hp→Prop,(∃ m,W 0 m [] H1)∧∀ i m ys H,W i m ys H →
 (J.stop i H∧Fin ys H) ∨ (J.go i H∧ys.length < sizeLine∧∃ N:List V→Hp→Prop,(∀ ys' H',N ys' H'→∃ m',m' < m∧W (i + 1) m' ys' H')∧∀ x H',J.yld i H x H'→tt (some x :: σ) H' fun b H2 =>
  if b = true then te (some x :: σ) H2 fun y H3=>N (ys ++ [y]) H3 else N ys H2)
def tLC (wi:TI) (tt:TT) (te:TE):TE:=fun σ H Q=>wi σ H fun J H1=>LCW J σ tt te (fun ys H=>∀ l,H l = none→Q (.ref l) (upd H l (.lst ys))) H1
theorem Ts {elt iter:Expr} {x:Str} {px pos:Pos} {scope:Scope} {ifs:List Expr} {tt:TT} {te:TE} {s2:Shared} {it:Addr} {fp:List Addr} {tn:Nat→Heap→Prop} {J:It} {H2:Hp} {E:Value→Shared→Prop} {Fin:List V→Hp→Prop} {RR:Value→Addr→Result→Shared→Prop}
  (hc:X.calm = true) (S:CScope3 x X.N N' X.env.scope scope) (I2:Inv X pins σ H2 s2) (T:Turn X.prog X.w X.K (.Name x px) J fp it tn) (st2:tn 0 s2.heap) (f2:∀ b ∈ fp,Z48 X pins H2 b) (hw:LCW J σ tt te Fin H2)
  (ht:∀ C s H ex,PTs (V7 X N' scope x C s H ex) ifs tt) (he:∀ C s H ex,PE (V7 X N' scope x C s H ex) elt te)
  (hRR:∀ D C s4 ys H3 m5,Inv X pins σ (upd H3 D (.lst ys)) s4→s4.heap.Ns C m5→Z48 X pins (upd H3 D (.lst ys)) C→H3 D = none→Fin ys H3→RR (.ref D) C (.ok .next) s4) :
  wpAny (model X.prog X.w) X.A (newList []) (fun acc s₃=>wpAny (model X.prog X.w) X.A (newFunctionEnv scope X.env.globals (Z8o scope.names X.env.cells) [] X.env.qual none .none (some X.env)) (fun cenv s₄ =>
   codeAny (model X.prog X.w) X.A (.compStart (.ListComp elt [⟨.Name x px,iter,ifs,0⟩] scope pos) 0 (.ref it) acc { cenv with scope:=relabel scope X.env }) (RR acc cenv.locals) s₄) E s₃) E s2:=by
 obtain ⟨W,⟨m0,w0⟩,turn⟩:=hw
 have hob:=T.obj 0 s2.heap st2
 refine wpAny_newObj_type (wpAny_newFunctionEnv S.nocell (by intro y hy; simp at hy) (fun h₁ hns₁ hsb₁=>?_) S.kind)
 dsimp only at hns₁ hsb₁ ⊢
 generalize hG2:s2.heap.push { cls:=.type "list",dict:=none,data:=.seq ([]:List Value).toArray } = G2 at hns₁ hsb₁ ⊢
 have hC:G2.objs.size = s2.heap.objs.size + 1:=by rw [← hG2,Heap.size_push]
 have hDC:s2.heap.objs.size ≠ G2.objs.size:=by rw [hC]; exact Nat.ne_of_lt (Nat.lt_succ_self _)
 have hCle:s2.heap.objs.size ≤ G2.objs.size:=by rw [hC]; exact Nat.le_succ _
 have below:∀ b,b < s2.heap.objs.size→b ≠ G2.objs.size∧b ≠ s2.heap.objs.size:=fun b hb=>⟨by rw [hC]; exact Nat.ne_of_lt (Nat.lt_succ_of_lt hb),Nat.ne_of_lt hb⟩
 have old:∀ b o,s2.heap.get? b = some o→h₁.get? b = some o:=fun b o e=>hsb₁.extBut b o (below b (Heap.lt_size e)).1 (Heap.get?_push_of_some _ (hG2 ▸ Heap.get?_push_of_some _ e))
 have hacc:h₁.get? s2.heap.objs.size = some { cls:=.type "list",data:=.seq ([]:List Value).toArray 0 }:=hsb₁.extBut _ _ hDC (Heap.get?_push_of_some _ (hG2 ▸ Heap.get?_push_size _ rfl))
 generalize hD:s2.heap.objs.size = D at *
 generalize hCC:G2.objs.size = C at *
 have hDf:D ∉ fp:=fun hm=>by
  obtain ⟨o,e,_⟩:=hob D hm
  exact absurd (Heap.lt_size e) (by rw [hD]; exact Nat.lt_irrefl _)
 have I4:Inv (V7 X N' scope x C s2 H2 fp) [] (none :: σ) H2 { s2 with heap:=h₁,toks:=s2.toks + ([]:List (Str × Value)).length } :=
  Z44 (acc:=D) S I2 f2 (fun b hb=>let ⟨o,e,_⟩:=hob b hb; ⟨o,e⟩) (by omega) hns₁ old
 have hDn:∀ {σ':St} {H':Hp} {s':Shared},Inv (V7 X N' scope x C s2 H2 fp) [] σ' H' s'→(∀ b ∈ fp,H' b = none)→∀ b ∈ fp,Z48 (V7 X N' scope x C s2 H2 fp) [] H' b:=fun {σ' H' s'} I' hn b hb=>by
  refine ⟨hn b hb,(I'.ok.exf b hb).1,I'.ok.exfs b hb,.inl hb,fun y c e=>(I'.ok.exf b hb).2 y c e,fun p hp=>absurd (show p ∈ ([]:List (Addr × Obj)) from hp) (by simp)⟩
 have hDfp:∀ {σ':St} {H':Hp} {s':Shared},Inv (V7 X N' scope x C s2 H2 fp) [] σ' H' s'→H' D = none→Z48 (V7 X N' scope x C s2 H2 fp) [] H' D:=fun {σ' H' s'} I' hn=>by
  refine ⟨hn,hDC,fun z=>?_,.inr (by show s2.heap.objs.size ≤ D; omega),fun y c e=>?_,fun p hp=>absurd (show p ∈ ([]:List (Addr × Obj)) from hp) (by simp)⟩
  ·obtain ⟨_,o,e,_⟩:=I'.ok.funs.mem z
   exact absurd (show D < s2.heap.objs.size from Heap.lt_size e) (by rw [hD]; exact Nat.lt_irrefl _)
  ·obtain ⟨v,z⟩:=I2.cell y c (Z31 _ _ _ _ e)
   intro e2
   exact absurd z.lt (by rw [hD,e2]; exact Nat.lt_irrefl _)
 have hgt:∀ b o,s2.heap.get? b = some o→b ≠ C∧b ≠ D:=fun b o e=>by
  have z:=below b (by rw [← hD]; exact Heap.lt_size e)
  exact z
 let LI:Nat→Shared→Prop:=fun n s'=>∃ i ys its k σ0 H',Inv (V7 X N' scope x C s2 H2 fp) [] (σ0 :: σ) H' s'∧tn i s'.heap∧(∀ b ∈ fp,H' b = none)∧H' D = none∧Vals ys its∧ys.length ≤ sizeLine∧s'.heap.get? D = some { cls:=.type "list",data:=.seq its.toArray k }∧W i n ys H'
 have loop:∀ s₃:Shared,s₃ = { s2 with heap:=h₁,toks:=s2.toks + ([]:List (Str × Value)).length } →
   codeAny (model X.prog X.w) X.A (.compLoop (.ListComp elt [⟨.Name x px,iter,ifs,0⟩] scope pos) 0 (.ref it) (.ref D) (compEnvC scope (Z8o scope.names X.env.cells) C X.env))
    (RR (.ref D) C) s₃:=by
  rintro s₃ rfl
  refine codeAny_compLoop_tests LI ?_ m0 ⟨0,[],[],0,none,H2,I4,T.keep _ _ _ st2 (fun b _ o e=>old b o e),fun b hb=>(f2 b hb).1,I2.hok.fresh (by rw [hD]; exact Nat.le_refl _),.nil,Nat.zero_le _,hacc,w0⟩
  rintro n s3 ⟨i,ys,its,k,σ0,H3,I3,st3,fr3,frD,rv,hysz,ha3,w3⟩
  have IP:Inv (V7 X N' scope x C s2 H2 fp) [(D,{ cls:=.type "list",data:=.seq its.toArray k })] (σ0 :: σ) H3 s3:=I3.pins_of fun p hp=>by
   have e:p = (D,{ cls:=.type "list",data:=.seq its.toArray k }):=by simpa using hp
   subst e
   obtain ⟨f0,f1,f3,_⟩:=hDfp I3 frD
   exact ⟨ha3,f0,f1,f3,fun v z=>by cases z⟩
  have fpP:∀ {H':Hp},(∀ b ∈ fp,H' b = none)→∀ b ∈ fp,Z48 (V7 X N' scope x C s2 H2 fp) [(D,{ cls:=.type "list",data:=.seq its.toArray k })] H' b:=fun {H'} hn b hb=>by
   refine ⟨hn b hb,(I3.ok.exf b hb).1,I3.ok.exfs b hb,.inl hb,fun y c e=>(I3.ok.exf b hb).2 y c e,fun p hp=>?_⟩
   have e:p = (D,{ cls:=.type "list",data:=.seq its.toArray k }):=by
    have hp':p ∈ [(D,({ cls:=.type "list",data:=.seq its.toArray k }:Obj))]:=hp
    simpa using hp'
   subst e
   exact fun z=>hDf (by rw [show D = b from z]; exact hb)
  rcases turn i n ys H3 w3 with ⟨stop,qn⟩ | ⟨go,hlen,N,hN,step⟩
  ·refine wpAny_mono (T.done (V7 X N' scope x C s2 H2 fp) rfl rfl rfl hc i _ s3 (σ0 :: σ) H3 (fun _ _=>False) IP (fpP fr3) st3 stop) (fun r s4 ⟨hr,I5⟩=>?_) fun _ _ z=>z.elim
   subst hr
   obtain ⟨m5,hn5,_⟩:=I5.loc
   have hD4:=(I5.pin _ (List.mem_append_right _ (List.mem_singleton.mpr rfl))).1
   have hcn:H3 C = none:=I5.free
   have hok':HOk X.prog X.w (upd H3 D (.lst ys)) s4.heap:=fun b u e=>by
    by_cases hb:b = D
    ·subst hb
     rw [Z3] at e
     cases e
     exact ⟨hysz,its,k,rv,hD4⟩
    ·rw [Zl hb] at e
     exact (I5.hok b u e).stay (fun c v hc q=>q) (fun c q=>by rw [Zl (Z7 q frD)]; exact q) fun c xs q=>by rw [Zl (Z7 q frD)]; exact q
   have un':Un (frs X.stack) fp H2 (upd H3 D (.lst ys)) s2.heap s4.heap:=by
    have u:=I5.base
    refine ⟨u.keep,u.slot,fun b o q n hx=>?_,u.there,fun b xs q=>?_,fun b o xs q=>?_,fun b ps q=>?_⟩
    ·rw [Zl (hgt b o q).2]
     exact u.free b o q n hx
    ·have e:=u.tups b xs q
     rw [Zl (Z7 e frD)]
     exact e
    ·have e:=u.frzs b o xs q
     rw [Zl (Z7 e frD)]
     exact e
    ·obtain ⟨more,e⟩:=u.tbls b ps q
     exact ⟨more,by rw [Zl (Z7 e frD)]; exact e⟩
   have I6:Inv X pins σ (upd H3 D (.lst ys)) s4:=I2.call' (ch:=fp) I5.os un' hok' I5.bare (fun b hb=>⟨(f2 b hb).2.2.2.1,(f2 b hb).2.1,(f2 b hb).2.2.2.2.1,(f2 b hb).2.2.2.2.2⟩)
   exact hRR D C s4 ys H3 m5 I6 hn5 (I2.fpOk (by rw [hD]; exact hCle) (by rw [Zl (Ne.symm hDC)]; exact hcn)) frD qn
  ·refine wpAny_mono (T.item (V7 X N' scope x C s2 H2 fp) rfl rfl rfl hc i _ s3 (σ0 :: σ) H3 (fun _ _=>False) IP (fpP fr3) st3 go) (fun r s4 ⟨u,hr,h4⟩=>?_) fun _ _ z=>z.elim
   subst hr
   show wpAny (model X.prog X.w) X.A (letOwnedTupleGo (.Name x px) (.ref it) u >>= fun _=>assign (.Name x px) (compEnvC scope (Z8o scope.names X.env.cells) C X.env) u) _ _ s4
   refine wpAny_bind (wpAny_mono h4 (fun _ s5 ⟨xv,H5,I5,r5,y5,st5,fr5⟩=>?_) fun _ _ z=>z.elim)
   have I5':=I5.pinned (fpP fr5) (T.obj _ _ st5)
   have hloc:Loc (V7 X N' scope x C s2 H2 fp).env.scope x:=.inl (lookup_relabel_local S.own)
   refine wpAny_mono (Z51 (X:=V7 X N' scope x C s2 H2 fp) (i:=0) S.nd rfl hloc (.inr (lookup_relabel_local S.own)) _ s5 (σ0 :: σ) H5 xv u (fun σ' H'=>σ' = some xv :: σ∧H' = H5) I5' r5 ⟨rfl,rfl⟩) (fun _ s6 ⟨σ6,H6,I6,e1,e2⟩=>?_) fun _ _ z=>z.elim
   subst e1 e2
   refine wpAny_mono (ht C s2 H2 fp _ s6 (some xv :: σ) H6 _ I6 (step xv H6 y5)) (fun b s7 ⟨H7,I7,q7⟩=>?_) fun _ _ z=>z.elim
   have hpD:∀ {σ':St} {H':Hp} {s':Shared},Inv (V7 X N' scope x C s2 H2 fp) ([(D,{ cls:=.type "list",data:=.seq its.toArray k })] ++ Te fp s5.heap) σ' H' s'→s'.heap.get? D = some { cls:=.type "list",data:=.seq its.toArray k }∧H' D = none:=fun {σ' H' s'} I'=>by
    have z:=I'.pin (D,{ cls:=.type "list",data:=.seq its.toArray k }) (List.mem_append_right _ (List.mem_append_left _ (List.mem_singleton.mpr rfl)))
    exact ⟨z.1,z.2.1⟩
   have hpF:∀ {σ':St} {H':Hp} {s':Shared},Inv (V7 X N' scope x C s2 H2 fp) ([(D,{ cls:=.type "list",data:=.seq its.toArray k })] ++ Te fp s5.heap) σ' H' s'→(∀ b ∈ fp,∀ o,s5.heap.get? b = some o→s'.heap.get? b = some o)∧∀ b ∈ fp,H' b = none:=fun {σ' H' s'} I'=>by
    refine ⟨fun b hb o e=>(I'.pin (b,o) (List.mem_append_right _ (List.mem_append_right _ (Wq hb e)))).1,fun b hb=>?_⟩
    obtain ⟨o,e,d⟩:=T.obj _ _ st5 b hb
    exact (I'.pin (b,o) (List.mem_append_right _ (List.mem_append_right _ (Wq hb e)))).2.1
   cases b with
   | false =>
    rw [if_neg Bool.false_ne_true] at q7 ⊢
    obtain ⟨m',hm,w7⟩:=hN _ _ q7
    exact ⟨m',hm,i + 1,ys,its,k,some xv,H7,I7.pins_of (pins':=[]) (fun p hp=>absurd hp (by simp)),T.keep _ _ _ st5 (hpF I7).1,(hpF I7).2,(hpD I7).2,rv,hysz,(hpD I7).1,w7⟩
   | true =>
    rw [if_pos rfl] at q7 ⊢
    refine wpAny_mono (he C s2 H2 fp _ s7 (some xv :: σ) H7 _ I7 q7) (fun u8 s8 ⟨y,H8,I8,r8,q8⟩=>?_) fun _ _ z=>z.elim
    obtain ⟨m',hm,w8⟩:=hN _ _ q8
    obtain ⟨hd1,hd2⟩:=hpD I8
    have hl:=rv.length
    refine append_at hd1 (fun h' hs' e'=>?_) (by rw [List.size_toArray]; omega)
    have I9:Inv (V7 X N' scope x C s2 H2 fp) [] (some xv :: σ) H8 s8:=I8.pins_of (pins':=[]) (fun p hp=>absurd hp (by simp))
    obtain ⟨f0,f1,f3,f4,f5,f6⟩:=hDfp I9 hd2
    refine ⟨m',hm,i + 1,ys ++ [y],its ++ [u8],k + 1,some xv,H8,I9.turned (it:=D) (t':=s8.toks) (fun b o hb e=>(hs'.2 b hb).trans e) f0 f1 f4 f5 f6,
     T.keep _ _ _ st5 (fun b hb o e=>(hs'.2 b (fun z=>hDf (by rw [← z]; exact hb))).trans ((hpF I8).1 b hb o e)),(hpF I8).2,hd2,rv.append (.cons r8 .nil),by rw [List.length_append,List.length_singleton]; omega,?_,w8⟩
    rw [e',List.push_toArray]
 exact codeAny_compStart_list (loop _ rfl) (T.self _ 0 _ _ _ (T.keep _ _ _ st2 (fun b _ o e=>old b o e)) (loop _ rfl))
theorem Z52 {elt iter:Expr} {x:Str} {px pos:Pos} {scope:Scope} {ifs:List Expr} {wi:TI} {tt:TT} {te:TE} (hc:X.calm = true) (S:CScope3 x X.N N' X.env.scope scope) (hi:PI X (.Name x px) iter wi)
  (ht:∀ C s H ex,PTs (V7 X N' scope x C s H ex) ifs tt) (he:∀ C s H ex,PE (V7 X N' scope x C s H ex) elt te) (hs:∀ v,foldedSetIterable iter X.env v = pure v:=by intro _; rfl) :
  PE X (.ListComp elt [⟨.Name x px,iter,ifs,0⟩] scope pos) (tLC wi tt te):=by
 intro pins s σ H Q I h
 rw [eval_ListComp]
 refine wpAny_comprehension_free (use:=none) rfl hs (Vm (S.has I.ok)) S.kind S.names (thn (hi pins s σ H _ I h) fun v s1 h1=>thn h1 fun itv s2 h2=>?_)
 obtain ⟨it,fp,tn,J,H2,e,I2,T,st2,f2,hw⟩:=h2
 subst e
 refine Ts (RR:=fun acc C=>compPost (model X.prog X.w) X.A X.xe none (EP X pins σ Q) acc C) hc S I2 T st2 f2 hw ht he fun D C s4 ys H3 m5 I5 hn5 fC frD qn=>⟨m5,hn5,fun h' hs'=>?_⟩
 obtain ⟨f0,f1,f3,f4,f5,f6⟩:=fC
 exact ⟨.ref D,_,I5.turned (it:=C) (t':=s4.toks) (fun b o hb e=>(hs'.2 b hb).trans e) f0 f1 f4 f5 f6,rfl,qn D frD⟩
theorem Z4y {i:Nat} {y:Str} {elt iter:Expr} {x:Str} {px py pos spos:Pos} {scope:Scope} {ifs:List Expr} {wi:TI} {tt:TT} {te:TE} (hN:X.N.Nodup) (hi':X.N[i]? = some y) (hy:X.env.scope.names.lookup y = some .local) (hc:X.calm = true) (S:CScope3 x X.N N' X.env.scope scope) (hi:PI X (.Name x px) iter wi)
  (ht:∀ C s H ex,PTs (V7 X N' scope x C s H ex) ifs tt) (he:∀ C s H ex,PE (V7 X N' scope x C s H ex) elt te)
  (hsw:swapsWith (.ListComp elt [⟨.Name x px,iter,ifs,0⟩] scope pos) (some (.Name y py)) spos.line X.env = pure true) (hs:∀ v,foldedSetIterable iter X.env v = pure v:=by intro _; rfl) :
  PS X (.Assign [.Name y py] (.ListComp elt [⟨.Name x px,iter,ifs,0⟩] scope pos) spos) (Zak (tLC wi tt te) (Z1p i)):=by
 intro pins s σ H D0 I h
 rw [exec_Assign_Name_used _ _ _ _ hsw]
 refine wpAny_bind (wpAny_standAt (wpAny_bind ?_))
 show wpAny _ X.A (do let _ ← comprehension (.ListComp elt [⟨.Name x px,iter,ifs,0⟩] scope pos) scope X.env _ (newList []) false (eval iter X.env) (some (assign (.Name y py) X.env))) _ _ s
 refine wpAny_bind (wpAny_mono (wpAny_comprehension_free (use:=some (assign (.Name y py) X.env)) (Q:=fun _ s'=>SP X pins D0 .next s') rfl hs (Vm (S.has I.ok)) S.kind S.names
  (thn (hi pins s σ H _ I h) fun v s1 h1=>thn h1 fun itv s2 h2=>?_)) (fun _ s' hq=>wpAny_pure (wpAny_pure hq)) fun _ _ e=>e)
 obtain ⟨it,fp,tn,J,H2,e,I2,T,st2,f2,hw⟩:=h2
 subst e
 refine Ts (RR:=fun acc C=>compPost (model X.prog X.w) X.A X.xe (some (assign (.Name y py) X.env)) (fun _ s'=>SP X pins D0 .next s') acc C) hc S I2 T st2 f2 hw ht he fun D C s4 ys H3 m5 I5 hn5 fC frD qn=>?_
 show wpAny _ X.A (assign (.Name y py) X.env (.ref D)) _ _ _
 obtain ⟨f0,f1,f3,f4,f5,f6⟩:=fC
 refine wpAny_assign_Name (Jp I5 hN hi' (.inl hy) (v:=.ref D) rfl (fun s' I' ⟨a,sb,ha⟩=>?_) (.inr hy))
 have hCa:C ≠ a:=by
  rcases ha with e | e
  ·rw [e]; exact f1
  ·exact Ne.symm (f5 _ _ e)
 refine ⟨m5,hn5.sameBut sb hCa,fun h' hs'=>?_⟩
 exact ⟨_,_,I'.turned (it:=C) (t':=s'.toks) (fun b o hb e=>(hs'.2 b hb).trans e) f0 f1 f4 f5 f6,qn D frD⟩
abbrev blk (X:Cx) (scope:Scope) (x:Str) (C:Addr) (s:Shared) (H:Hp) (ex:List Addr):Cx:=V7 X X.N scope x C s H ex
structure CScope (x:Str) (N:List Str) (osc scope:Scope):Prop where
 kind:scope.kind = .function
 nd:(x :: N).Nodup
 own:scope.names.lookup x = some .local
 nocell:∀ y ∈ scope.names,y.2 ≠ .cell
 names:∀ y ∈ scope.names,y.2 = .local→scope.names.lookup y.1 = some .local
 free:∀ y ∈ scope.names,y.2 = .free→osc.names.lookup y.1 = some .cell
 nol:∀ y ∈ N,scope.names.lookup y ≠ some .local
theorem Z1v {α:Type}:∀ (l:List α),∀ p ∈ l.zip l,p.1 = p.2
 | [],p,h=>by simp at h
 | a :: l,p,h=>by
  rw [List.zip_cons_cons] at h
  rcases List.mem_cons.mp h with rfl | h
  ·rfl
  ·exact Z1v l p h
theorem CScope.to3 {x:Str} {N:List Str} {osc scope:Scope} (S:CScope x N osc scope):CScope3 x N N osc scope:=⟨S.kind,S.nd,S.own,S.nocell,S.names,S.free,S.nol,rfl,fun p hp=>.inl (Z1v N p hp)⟩
theorem Xm {elt iter:Expr} {x:Str} {px pos:Pos} {scope:Scope} {ifs:List Expr} {wi:TI} {tt:TT} {te:TE} (hc:X.calm = true) (S:CScope x X.N X.env.scope scope) (hi:PI X (.Name x px) iter wi)
  (ht:∀ C s H ex,PTs (blk X scope x C s H ex) ifs tt) (he:∀ C s H ex,PE (blk X scope x C s H ex) elt te) (hs:∀ v,foldedSetIterable iter X.env v = pure v:=by intro _; rfl) :
  PE X (.ListComp elt [⟨.Name x px,iter,ifs,0⟩] scope pos) (tLC wi tt te):=Z52 hc S.to3 hi ht he hs
theorem Z2b {i:Nat} {y:Str} {elt iter:Expr} {x:Str} {px py pos spos:Pos} {scope:Scope} {ifs:List Expr} {wi:TI} {tt:TT} {te:TE} (hN:X.N.Nodup) (hi':X.N[i]? = some y) (hy:X.env.scope.names.lookup y = some .local) (hc:X.calm = true) (S:CScope x X.N X.env.scope scope) (hi:PI X (.Name x px) iter wi)
  (ht:∀ C s H ex,PTs (blk X scope x C s H ex) ifs tt) (he:∀ C s H ex,PE (blk X scope x C s H ex) elt te)
  (hsw:swapsWith (.ListComp elt [⟨.Name x px,iter,ifs,0⟩] scope pos) (some (.Name y py)) spos.line X.env = pure true) (hs:∀ v,foldedSetIterable iter X.env v = pure v:=by intro _; rfl) :
  PS X (.Assign [.Name y py] (.ListComp elt [⟨.Name x px,iter,ifs,0⟩] scope pos) spos) (Zak (tLC wi tt te) (Z1p i)):=Z4y hN hi' hy hc S.to3 hi ht he hsw hs
theorem Z0i {J:It} {n:Nat} {σ:St} {tt:TT} {te:TE} {Fin:List V→Hp→Prop} {H1:Hp} (Pv:Nat→List V→Hp→Prop) (h0:Pv 0 [] H1) (hz:n < sizeLine) (hlen:∀ i ys H,Pv i ys H→ys.length ≤ i)
  (hgo:∀ i ys H,i < n→Pv i ys H→J.go i H) (hst:∀ ys H,Pv n ys H→J.stop n H)
  (hs:∀ i ys H x H',i < n→Pv i ys H→J.yld i H x H'→tt (some x :: σ) H' fun b H2=>if b = true then te (some x :: σ) H2 fun y H3=>Pv (i + 1) (ys ++ [y]) H3 else Pv (i + 1) ys H2)
  (hd:∀ ys H,Pv n ys H→Fin ys H):LCW J σ tt te Fin H1:=by
 refine ⟨fun i m ys H=>m = n - i∧i ≤ n∧Pv i ys H,⟨n,by simp,Nat.zero_le _,h0⟩,?_⟩
 rintro i m ys H ⟨rfl,hi,p⟩
 by_cases hlt:i < n
 ·have hl:=hlen i ys H p
  exact .inr ⟨hgo i ys H hlt p,by omega,fun ys' H'=>Pv (i + 1) ys' H',fun ys' H' p'=>⟨n - (i + 1),by omega,rfl,hlt,p'⟩,fun x H' y=>hs i ys H x H' hlt p y⟩
 ·have e:i = n:=by omega
  subst e
  exact .inl ⟨hst ys H p,hd ys H p⟩
theorem Z5q {K:PySem.W.Frag} {a:Addr} {xs:List V} {σ:St} {te:TE} {Fin:List V→Hp→Prop} {H1:Hp} (Pv:Nat→List V→Hp→Prop) (h0:Pv 0 [] H1) (hz:xs.length < sizeLine) (hlen:∀ i ys H,Pv i ys H→ys.length ≤ i)
  (hl:∀ i ys H,Pv i ys H→SqL K H a xs) (hs:∀ i ys H x,xs[i]? = some x→Pv i ys H→te (some x :: σ) H fun y H3=>Pv (i + 1) (ys ++ [y]) H3) (hd:∀ ys H,Pv xs.length ys H→Fin ys H) :
  LCW (Itl K a) σ Zd8 te Fin H1:=by
 refine Z0i (n:=xs.length) Pv h0 hz hlen (fun i ys H hi p=>⟨xs,xs[i],hl i ys H p,by simp [hi]⟩) (fun ys H p=>⟨xs,hl _ ys H p,Nat.le_refl _⟩) (fun i ys H x H' hi p y=>?_) hd
 obtain ⟨e,y⟩:=y
 subst e
 exact hs i ys _ x (y xs (hl i ys _ p)) p
theorem Z7m {K:PySem.W.Frag} {a:Addr} {xs:List V} {σ:St} {tt:TT} {te:TE} {Fin:List V→Hp→Prop} {H1:Hp} (Pv:Nat→List V→Hp→Prop) (h0:Pv 0 [] H1) (hz:xs.length < sizeLine) (hlen:∀ i ys H,Pv i ys H→ys.length ≤ i)
  (hl:∀ i ys H,Pv i ys H→SqL K H a xs) (hs:∀ i ys H x,xs[i]? = some x→Pv i ys H→tt (some x :: σ) H fun b H2=>if b = true then te (some x :: σ) H2 fun y H3=>Pv (i + 1) (ys ++ [y]) H3 else Pv (i + 1) ys H2) (hd:∀ ys H,Pv xs.length ys H→Fin ys H) :
  LCW (Itl K a) σ tt te Fin H1:=by
 refine Z0i (n:=xs.length) Pv h0 hz hlen (fun i ys H hi p=>⟨xs,xs[i],hl i ys H p,by simp [hi]⟩) (fun ys H p=>⟨xs,hl _ ys H p,Nat.le_refl _⟩) (fun i ys H x H' hi p y=>?_) hd
 obtain ⟨e,y⟩:=y
 subst e
 exact hs i ys _ x (y xs (hl i ys _ p)) p
theorem Jd {lo:Int} {n:Nat} {σ:St} {te:TE} {Fin:List V→Hp→Prop} {H1:Hp} (Pv:Nat→List V→Hp→Prop) (h0:Pv 0 [] H1) (hz:n < sizeLine) (hlen:∀ i ys H,Pv i ys H→ys.length ≤ i)
  (hs:∀ i ys H,i < n→Pv i ys H→te (some (.int (lo + i)) :: σ) H fun y H3=>Pv (i + 1) (ys ++ [y]) H3) (hd:∀ ys H,Pv n ys H→Fin ys H) :
  LCW (Itr lo n) σ Zd8 te Fin H1:=by
 refine Z0i (n:=n) Pv h0 hz hlen (fun i ys H hi p=>hi) (fun ys H p=>Nat.le_refl n) (fun i ys H x H' hi p y=>?_) hd
 obtain ⟨e,y⟩:=y
 subst e y
 exact hs i ys _ hi p
end
section
variable {X:Cx}
theorem Z4d:∀ {ns:List Int} {us:List Value},Vals (ns.map V.int) us→∃ ps:List (Int × Tok),us = ps.map (fun p=>Value.int p.1 p.2)∧ps.map (·.1) = ns
 | [],us,r=>by rw [List.map_nil] at r; cases r; exact ⟨[],rfl,rfl⟩
 | n :: ns,us,r=>by
  rw [List.map_cons] at r
  cases r with
  | cons r1 r2 =>
   obtain ⟨t,e⟩:=r1
   obtain ⟨ps,e1,e2⟩:=Z4d r2
   exact ⟨(n,t) :: ps,by rw [e,e1]; rfl,by rw [List.map_cons,e2]⟩
theorem U3 (hu:X.A.units < cLine):OpR X (compareOp .Eq) (fun x y H Q=>∃ (p r:Addr) (xs:List V),x = .ref p∧y = .ref r∧SqL X.K H p xs∧SqL X.K H r []∧Q (.bl xs.isEmpty) H):=by
 intro pins s σ H x y v u Q I rx ry h
 obtain ⟨p,r,xs,rfl,rfl,hp,hr,q⟩:=h
 cases rx
 cases ry
 obtain ⟨its,rv,pl,hz⟩:=I.list hp
 obtain ⟨its2,rv2,pl2,hz2⟩:=I.list hr
 cases rv2
 cases rv with
 | nil=>exact SeqAt.eq_listAt (e:=fun _=>true) pl.isList pl2.isList (by simp) hu (fun j h1 h2=>absurd h1 (by simp)) ⟨.bl true,H,I,rfl,q⟩
 | cons r1 r2=>exact SeqAt.eq_list_lengthsAt pl.isList pl2.isList (by simp) hu ⟨.bl false,H,I,rfl,q⟩
theorem Yc {T:String} {f:V→Hp→Bool→Prop} (hf:∀ x H b,f x H b→∃ t,TyOf X.K H x t∧PySem.W.kitOne X.K t (.type T) = some b) :
  T6 X (.builtin "isinstance") (fun xs H Q=>∃ x b,xs = [x,.ty T]∧f x H b∧Q (.bl b) H):=by
 intro pins s σ H xs us Q I r h
 obtain ⟨x,b,rfl,hx,q⟩:=h
 obtain ⟨u,w',rfl,r1,r2⟩:=Zat r
 cases (show w' = Value.type T from r2)
 obtain ⟨t,ty,e⟩:=hf x H b hx
 exact Z5w I r1 ty e fun tk=>⟨.bl b,H,I.tok _,rfl,q⟩
def isT (T:String):V→Hp→Bool→Prop:=fun x H b=>match x with
 | .non=>b = (T == "NoneType")
 | .bl _=>b = (T == "bool" || T == "int")
 | .int _=>b = (T == "int")
 | .str _=>b = (T == "str")
 | .ref a=>(∃ xs,H a = some (.tup xs)∧b = (T == "tuple")) ∨ (∃ xs,H a = some (.lst xs)∧b = (T == "list"))
 | _=>False
theorem Wj {K:PySem.W.Frag} {T:String} (hT:T = "bool" ∨ T = "int" ∨ T = "str" ∨ T = "tuple" ∨ T = "list"):∀ x H b,isT T x H b→∃ t,TyOf K H x t∧PySem.W.kitOne K t (.type T) = some b:=by
 intro x H b h
 cases x with
 | non=>refine ⟨_,.non,?_⟩; rcases hT with rfl | rfl | rfl | rfl | rfl <;> cases h <;> rfl
 | bl y=>refine ⟨_,.bl y,?_⟩; rcases hT with rfl | rfl | rfl | rfl | rfl <;> cases h <;> rfl
 | int i=>refine ⟨_,.int i,?_⟩; rcases hT with rfl | rfl | rfl | rfl | rfl <;> cases h <;> rfl
 | str z=>refine ⟨_,.str z,?_⟩; rcases hT with rfl | rfl | rfl | rfl | rfl <;> cases h <;> rfl
 | ref a =>
  rcases h with ⟨xs,e,h⟩ | ⟨xs,e,h⟩
  ·refine ⟨_,.tup e,?_⟩; rcases hT with rfl | rfl | rfl | rfl | rfl <;> cases h <;> rfl
  ·refine ⟨_,.lst e,?_⟩; rcases hT with rfl | rfl | rfl | rfl | rfl <;> cases h <;> rfl
 | _=>exact (show False from h).elim
end
end L2
namespace Seek
open PySem PySem.Spec PyProof.Rows L2
structure Own (P:Program) (w:World) (K:PySem.W.Frag) (mg:Str→Option Value) (base:Heap) (k:Nat) (x:Str) (ps:List Str) (sp:Sp):Prop where
 ex:∃ f fd,FnOk P w K mg base CX0 k f fd ps sp∧mg x = some (.ref f)∧PySem.W.keepIn K (.ref f) = true∧Binds K fd ps []
theorem Own.mono {P:Program} {w:World} {K:PySem.W.Frag} {mg:Str→Option Value} {base:Heap} {j k:Nat} {x:Str} {ps:List Str} {sp:Sp} (O:Own P w K mg base j x ps sp) (h:j ≤ k):Own P w K mg base k x ps sp:=by
 obtain ⟨f,fd,F,r⟩:=O.ex
 exact ⟨f,fd,F.mono h,r⟩
theorem Zk {X:Cx} {k:Nat} {x:Str} {ps:List Str} {sp:Sp} {p pos:Pos} {e:Expr} {es:List Expr} {t:TA} (O:Own X.prog X.w X.K X.mg X.base k x ps sp) (hr:Room k X.A) (hg:Gl X x) (ha:PA X (e :: es) t)
  (hdb:(x == ("__debug__":Str)) = false:=by decide) (he:starEach (e :: es) X.env = (false,eval e X.env) :: starEach es X.env:=by rfl) (hpl:(backTo pos (starEach es X.env)).any (·.1) = false:=by rfl) :
  PE X (.Call (.Name x p) (e :: es) [] pos) (Z0y sp [] E0 t):=by
 obtain ⟨f,fd,F,hm,hk,hb⟩:=O.ex
 exact Z9h F hr hg hm hk hb .nil Z55 ha hdb he hpl
structure Blt (mg:Str→Option Value):Prop where
 b_len:mg "len" = none
 b_range:mg "range" = none
 b_sum:mg "sum" = none
 b_all:mg "all" = none
 b_ord:mg "ord" = none
 b_max:mg "max" = none
 b_min:mg "min" = none
 b_int:mg "int" = none
 b_list:mg "list" = none
 b_tuple:mg "tuple" = none
 b_str:mg "str" = none
 b_bool:mg "bool" = none
 b_isinstance:mg "isinstance" = none
structure Gro (S:List Addr) (H H':Hp):Prop where
 keep:∀ b o,H b = some o→b ∉ S→H' b = some o
 tups:∀ b xs,H b = some (.tup xs)→H' b = some (.tup xs)
theorem Gro.refl {S:List Addr} {H:Hp}:Gro S H H:=⟨fun _ _ h _=>h,fun _ _ h=>h⟩
theorem Gro.trans {S:List Addr} {H H1 H2:Hp} (a:Gro S H H1) (b:Gro S H1 H2):Gro S H H2:=⟨fun c o h hc=>b.keep c o (a.keep c o h hc) hc,fun c xs h=>b.tups c xs (a.tups c xs h)⟩
theorem Gro.mono {S S':List Addr} {H H':Hp} (a:Gro S H H') (h:∀ b ∈ S,b ∈ S'):Gro S' H H':=⟨fun c o q hc=>a.keep c o q fun z=>hc (h c z),a.tups⟩
theorem Gro.new {S:List Addr} {H:Hp} {p:Addr} (h:H p = none) (o:HO):Gro S H (upd H p o):=⟨fun b u q _=>by rw [Zl (Z7 q h)]; exact q,fun b xs q=>by rw [Zl (Z7 q h)]; exact q⟩
theorem Gro.set {S:List Addr} {H:Hp} {p:Addr} {xs:List V} (hp:p ∈ S) (h:H p = some (.lst xs)) (o:HO):Gro S H (upd H p o) :=
 ⟨fun b u q hb=>by rw [Zl (fun z=>hb (by rw [z]; exact hp))]; exact q,fun b ys q=>by rw [Zl (Z1i q h (by intro z; cases z))]; exact q⟩
def BoxAt (H:Hp) (b:Addr):Prop:=∃ ns:List Int,H b = some (.lst (ns.map V.int))∧ns.length ≤ 63
def LetAt (H:Hp) (l:Addr):Prop:=∃ x y z:Str,H l = some (.lst [.str x,.str y,.str z])∧x.length = 1∧y.length = 1∧z.length = 1
def CntAt (H:Hp) (c:Addr):Prop:=∃ n p:Int,H c = some (.lst [.int n,.int p])∧0 ≤ n∧n ≤ 9
theorem BoxAt.ne_let {H:Hp} {b l:Addr} (h:BoxAt H b) (h':LetAt H l):b ≠ l:=by
 obtain ⟨ns,e,_⟩:=h
 obtain ⟨x,y,z,e',_⟩:=h'
 refine Z1i e e' fun q=>?_
 have q':ns.map V.int = [.str x,.str y,.str z]:=by injection q
 cases ns with
 | nil=>cases q'
 | cons n r=>rw [List.map_cons] at q'; injection q' with q1 _; cases q1
theorem CntAt.ne_let {H:Hp} {b l:Addr} (h:CntAt H b) (h':LetAt H l):b ≠ l:=by
 obtain ⟨n,p,e,_⟩:=h
 obtain ⟨x,y,z,e',_⟩:=h'
 refine Z1i e e' fun q=>?_
 injection q with q'
 injection q' with q1 _
 cases q1
theorem LetAt.gro {S:List Addr} {H H':Hp} {l:Addr} (h:LetAt H l) (g:Gro S H H') (hl:l ∉ S):LetAt H' l:=by
 obtain ⟨x,y,z,e,r⟩:=h
 exact ⟨x,y,z,g.keep _ _ e hl,r⟩
theorem BoxAt.gro {S:List Addr} {H H':Hp} {l:Addr} (h:BoxAt H l) (g:Gro S H H') (hl:l ∉ S):BoxAt H' l:=by
 obtain ⟨x,e,r⟩:=h
 exact ⟨x,g.keep _ _ e hl,r⟩
theorem LetAt.new {H:Hp} {l p:Addr} {o:HO} (h:LetAt H l) (hp:H p = none):LetAt (upd H p o) l:=h.gro (S:=[]) (Gro.new hp o) (by simp)
theorem BoxAt.new {H:Hp} {l p:Addr} {o:HO} (h:BoxAt H l) (hp:H p = none):BoxAt (upd H p o) l:=h.gro (S:=[]) (Gro.new hp o) (by simp)
theorem Zcg {x y z:Str} {i:Int} (h0:0 ≤ i) (h1:i < 3) (hx:x.length = 1) (hy:y.length = 1) (hz:z.length = 1):∃ s:Str,s.length = 1∧atI [V.str x,V.str y,V.str z] i = some (.str s):=by
 have:i = 0 ∨ i = 1 ∨ i = 2:=by omega
 rcases this with rfl | rfl | rfl
 ·exact ⟨x,hx,rfl⟩
 ·exact ⟨y,hy,rfl⟩
 ·exact ⟨z,hz,rfl⟩
theorem Xa {n:Nat} (h:n ≤ 1000):n ≤ sizeLine:=Nat.le_of_lt (Yo h)
inductive How where | much | little | keep
 deriving DecidableEq
def How.text:How→Str
 | .much => "much" | .little => "little" | .keep => "keep"
inductive Lk where | once | ahead | notahead | behind | notbehind
 deriving DecidableEq
def Lk.text:Lk→Str
 | .once => "once" | .ahead => "ahead" | .notahead => "notahead" | .behind => "behind" | .notbehind => "notbehind"
inductive Hd where
 | sign (s:Str) | any | inn (rs:List (Str × Str)) | out (rs:List (Str × Str)) | beg | fin | row | alt
 | times (lo:Int) (hi:Option Int) (how:How) | grp (k:Int) | again (k:Int) | hav (k:Int) | look (w:Lk)
inductive Pat where
 | node (h:Hd) (ks:List Pat)
def Hd.word:Hd→Str
 | .sign _ => "sign" | .any => "any" | .inn _ => "in" | .out _ => "out" | .beg => "begin" | .fin => "end" | .row => "row" | .alt => "or"
 | .times _ _ _ => "times" | .grp _ => "group" | .again _ => "again" | .hav _ => "have" | .look w=>w.text
def Z3k:Option Int→V
 | some i=>.int i
 | none=>.non
def RunsAt (H:Hp) (r:Addr) (rs:List (Str × Str)):Prop:=∃ vs:List V,H r = some (.tup vs)∧Paired (fun (v:V) (p:Str × Str)=>p.1.length = 1∧p.2.length = 1∧∃ a,v = .ref a∧H a = some (.tup [.str p.1,.str p.2])) vs rs∧rs.length ≤ 20
def Lay (H:Hp) (a:Addr):Hd→List V→Prop
 | .sign s,kv=>kv = []∧s.length = 1∧H a = some (.tup [.str "sign",.str s])
 | .any,kv=>kv = []∧H a = some (.tup [.str "any"])
 | .inn rs,kv=>kv = []∧∃ r,H a = some (.tup [.str "in",.ref r])∧RunsAt H r rs
 | .out rs,kv=>kv = []∧∃ r,H a = some (.tup [.str "out",.ref r])∧RunsAt H r rs
 | .beg,kv=>kv = []∧H a = some (.tup [.str "begin"])
 | .fin,kv=>kv = []∧H a = some (.tup [.str "end"])
 | .row,kv=>kv.length ≤ 10∧∃ r,H a = some (.tup [.str "row",.ref r])∧H r = some (.tup kv)
 | .alt,kv=>1 ≤ kv.length∧kv.length ≤ 10∧∃ r,H a = some (.tup [.str "or",.ref r])∧H r = some (.tup kv)
 | .times lo hi how,kv=>(0 ≤ lo∧lo ≤ 20∧∀ h,hi = some h→0 ≤ h∧h ≤ 20∧lo ≤ h)∧∃ k,kv = [k]∧H a = some (.tup [.str "times",.int lo,Z3k hi,.str how.text,k])
 | .grp n,kv=>(0 ≤ n∧n ≤ 20)∧∃ k,kv = [k]∧H a = some (.tup [.str "group",.int n,k])
 | .again n,kv=>(0 ≤ n∧n ≤ 20)∧kv = []∧H a = some (.tup [.str "again",.int n])
 | .hav n,kv=>(0 ≤ n∧n ≤ 20)∧∃ y z,kv = [y,z]∧H a = some (.tup [.str "have",.int n,y,z])
 | .look w,kv=>∃ k,kv = [k]∧H a = some (.tup [.str w.text,k])
def PatAt (H:Hp):Nat→V→Pat→Prop
 | 0,_,_=>False
 | d + 1,v,.node h ks=>∃ a kv,v = .ref a∧Lay H a h kv∧Paired (PatAt H d) kv ks
theorem RunsAt.mono {H H':Hp} (t:∀ b xs,H b = some (.tup xs)→H' b = some (.tup xs)) {r:Addr} {rs:List (Str × Str)} (h:RunsAt H r rs):RunsAt H' r rs:=by
 obtain ⟨vs,e,p,z⟩:=h
 exact ⟨vs,t _ _ e,Paired.mapP p fun v q ⟨h1,h2,a,e1,e2⟩=>⟨h1,h2,a,e1,t _ _ e2⟩,z⟩
theorem Lay.mono {H H':Hp} (t:∀ b xs,H b = some (.tup xs)→H' b = some (.tup xs)) {a:Addr} {kv:List V}:∀ {h:Hd},Lay H a h kv→Lay H' a h kv
 | .sign _,⟨x,y,z⟩=>⟨x,y,t _ _ z⟩
 | .any,⟨x,z⟩=>⟨x,t _ _ z⟩
 | .inn _,⟨x,r,z,q⟩=>⟨x,r,t _ _ z,q.mono t⟩
 | .out _,⟨x,r,z,q⟩=>⟨x,r,t _ _ z,q.mono t⟩
 | .beg,⟨x,z⟩=>⟨x,t _ _ z⟩
 | .fin,⟨x,z⟩=>⟨x,t _ _ z⟩
 | .row,⟨x,r,z,q⟩=>⟨x,r,t _ _ z,t _ _ q⟩
 | .alt,⟨x,y,r,z,q⟩=>⟨x,y,r,t _ _ z,t _ _ q⟩
 | .times _ _ _,⟨x,k,y,z⟩=>⟨x,k,y,t _ _ z⟩
 | .grp _,⟨x,k,y,z⟩=>⟨x,k,y,t _ _ z⟩
 | .again _,⟨x,y,z⟩=>⟨x,y,t _ _ z⟩
 | .hav _,⟨x,k,l,y,z⟩=>⟨x,k,l,y,t _ _ z⟩
 | .look _,⟨k,y,z⟩=>⟨k,y,t _ _ z⟩
theorem PatAt.mono {H H':Hp} (t:∀ b xs,H b = some (.tup xs)→H' b = some (.tup xs)):∀ {d:Nat} {v:V} {p:Pat},PatAt H d v p→PatAt H' d v p
 | 0,_,_,h=>h.elim
 | d + 1,v,.node h ks,⟨a,kv,e,l,p⟩=>⟨a,kv,e,l.mono t,Paired.mapP p fun _ _ q=>PatAt.mono t q⟩
theorem PatAt.deep {H:Hp}:∀ {d d':Nat} {v:V} {p:Pat},PatAt H d v p→d ≤ d'→PatAt H d' v p
 | 0,_,_,_,h,_=>h.elim
 | d + 1,0,_,_,_,hd=>absurd hd (by omega)
 | d + 1,d' + 1,v,.node h ks,⟨a,kv,e,l,p⟩,hd=>⟨a,kv,e,l,Paired.mapP p fun _ _ q=>PatAt.deep q (by omega)⟩
theorem Lay.head {H:Hp} {a:Addr} {kv:List V}:∀ {h:Hd},Lay H a h kv→∃ r,H a = some (.tup (.str h.word :: r))
 | .sign _,⟨x,y,z⟩=>⟨_,z⟩
 | .any,⟨x,z⟩=>⟨_,z⟩
 | .inn _,⟨x,r,z,q⟩=>⟨_,z⟩
 | .out _,⟨x,r,z,q⟩=>⟨_,z⟩
 | .beg,⟨x,z⟩=>⟨_,z⟩
 | .fin,⟨x,z⟩=>⟨_,z⟩
 | .row,⟨x,r,z,q⟩=>⟨_,z⟩
 | .alt,⟨x,y,r,z,q⟩=>⟨_,z⟩
 | .times _ _ _,⟨x,k,y,z⟩=>⟨_,z⟩
 | .grp _,⟨x,k,y,z⟩=>⟨_,z⟩
 | .again _,⟨x,y,z⟩=>⟨_,z⟩
 | .hav _,⟨x,k,l,y,z⟩=>⟨_,z⟩
 | .look _,⟨k,y,z⟩=>⟨_,z⟩
mutual
def Pat.groups:Pat→Int
 | .node h ks=>(match h with | .grp _=>1 | _=>0) + Z63 ks
def Z63:List Pat→Int
 | []=>0
 | k :: ks=>k.groups + Z63 ks
end
mutual
def Pat.size:Pat→Nat
 | .node _ ks=>1 + Y7 ks
def Y7:List Pat→Nat
 | []=>0
 | k :: ks=>k.size + Y7 ks
end
theorem Yr (h:Hd) (ks:List Pat):(Pat.node h ks).size = 1 + Y7 ks:=by rw [Pat.size]
theorem Wc (xs ys:List Pat):Y7 (xs ++ ys) = Y7 xs + Y7 ys:=by
 induction xs with
 | nil=>simp [Y7]
 | cons k ks ih=>rw [List.cons_append,Y7,Y7,ih]; omega
theorem Yx (p:Pat):Y7 [p] = p.size:=by simp [Y7]
theorem Z21 {n:Nat}:∀ {ks:List Pat},(∀ k ∈ ks,k.size ≤ n)→Y7 ks ≤ ks.length * n
 | [],_=>by simp [Y7]
 | k :: ks,h=>by
  have h1:=h k (by simp)
  have h2:=Z21 (ks:=ks) fun z hz=>h z (by simp [hz])
  rw [Y7,List.length_cons,Nat.add_mul]
  omega
theorem Wo {α β:Type} {F:α→β→Prop}:∀ {xs:List α} {ys:List β},Paired F xs ys→∀ y ∈ ys,∃ x ∈ xs,F x y
 | _,_,.nil,y,hy=>by simp at hy
 | _,_,.cons r t,y,hy=>by
  rcases List.mem_cons.mp hy with rfl | hy
  ·exact ⟨_,by simp,r⟩
  ·obtain ⟨x,hx,h⟩:=Wo t y hy
   exact ⟨x,by simp [hx],h⟩
theorem Lay.few {H:Hp} {a:Addr} {kv:List V}:∀ {h:Hd},Lay H a h kv→kv.length ≤ 10
 | .sign _,⟨x,y,z⟩=>by rw [x]; decide
 | .any,⟨x,z⟩=>by rw [x]; decide
 | .inn _,⟨x,r,z,q⟩=>by rw [x]; decide
 | .out _,⟨x,r,z,q⟩=>by rw [x]; decide
 | .beg,⟨x,z⟩=>by rw [x]; decide
 | .fin,⟨x,z⟩=>by rw [x]; decide
 | .row,⟨x,r,z,q⟩=>x
 | .alt,⟨x,y,r,z,q⟩=>y
 | .times _ _ _,⟨x,k,y,z⟩=>by rw [y]; simp
 | .grp _,⟨x,k,y,z⟩=>by rw [y]; simp
 | .again _,⟨x,y,z⟩=>by rw [y]; decide
 | .hav _,⟨x,k,l,y,z⟩=>by rw [y]; simp
 | .look _,⟨k,y,z⟩=>by rw [y]; simp
def Zaj:Nat→Nat
 | 0=>0
 | d + 1=>1 + 10 * Zaj d
theorem PatAt.size_le {H:Hp}:∀ {d:Nat} {v:V} {p:Pat},PatAt H d v p→p.size ≤ Zaj d
 | 0,_,_,h=>h.elim
 | d + 1,v,.node h ks,⟨a,kv,e,l,p⟩=>by
  have h1:=l.few
  have h2:=Paired.length p
  have h3:Y7 ks ≤ ks.length * Zaj d:=Z21 fun k hk=>by
   obtain ⟨x,_,q⟩:=Wo p k hk
   exact PatAt.size_le q
  have h4:ks.length * Zaj d ≤ 10 * Zaj d:=Nat.mul_le_mul_right _ (by omega)
  rw [Yr,Zaj]
  omega
def B (n:Nat):Nat:=3 ^ (n + 1)
theorem Tu (n:Nat):B (n + 1) = 3 * B n:=by unfold B; rw [Nat.pow_succ]; omega
theorem Z82 (n:Nat):3 ≤ B n:=by
 induction n with
 | zero=>decide
 | succ n ih=>rw [Tu]; omega
theorem Z35 {n:Nat}:∀ {m:Nat},n ≤ m→B n ≤ B m
 | 0,h=>by rw [show n = 0 by omega]; exact Nat.le_refl _
 | m + 1,h=>by
  by_cases e:n = m + 1
  ·rw [e]; exact Nat.le_refl _
  ·have:=Z35 (n:=n) (m:=m) (by omega)
   rw [Tu]; omega
def PatS (H:Hp) (d:Nat) (v:V) (p:Pat):Prop:=PatAt H d v p∧p.size ≤ B d
theorem PatS.mono {H H':Hp} (t:∀ b xs,H b = some (.tup xs)→H' b = some (.tup xs)) {d:Nat} {v:V} {p:Pat} (h:PatS H d v p):PatS H' d v p:=⟨h.1.mono t,h.2⟩
theorem PatS.deep {H:Hp} {d d':Nat} {v:V} {p:Pat} (h:PatS H d v p) (hd:d ≤ d'):PatS H d' v p:=⟨h.1.deep hd,Nat.le_trans h.2 (Z35 hd)⟩
theorem PatAt.leafS {H:Hp} {v:V} {p:Pat} (h:PatAt H 1 v p):PatS H 1 v p:=⟨h,Nat.le_trans h.size_le (by decide)⟩
theorem J8 {h:Hd} {p:Pat} {d d':Nat} (s:p.size ≤ B d) (hd:d < d'):(Pat.node h [p]).size ≤ B d':=by
 have h1:=Z35 (show d + 1 ≤ d' from hd)
 have h2:=Z82 d
 rw [Tu] at h1
 rw [Yr,Yx]
 omega
theorem Z6o {h:Hd} {p q:Pat} {d d':Nat} (s:p.size ≤ B d) (s':q.size ≤ B d) (hd:d < d'):(Pat.node h [p,q]).size ≤ B d':=by
 have h1:=Z35 (show d + 1 ≤ d' from hd)
 have h2:=Z82 d
 rw [Tu] at h1
 rw [Yr,Y7,Yx]
 omega
theorem Z2o {h:Hd} {d:Nat}:(Pat.node h []).size ≤ B d:=by
 have h2:=Z82 d
 rw [Yr,Y7]
 omega
theorem sz {n:Nat} (h:Nat.ble n 1000 = true:=by rfl):n ≤ sizeLine:=Xa (Nat.le_of_ble_eq_true h)
theorem at0 {x:V} {r:List V}:atI (x :: r) 0 = some x:=Xy (j:=0) rfl
theorem ix0 {x:V} {r:List V}:ixN (x :: r).length 0 = some 0:=by
 unfold ixN
 rw [if_pos (Int.le_refl 0),if_pos (by rw [List.length_cons]; omega)]
 rfl
theorem Gro.fresh {S:List Addr} {H H':Hp} {a:Addr} (g:Gro S H H') (ha:H a = none) (o:HO):Gro S H (upd H' a o) :=
 ⟨fun b u q hb=>by rw [Zl (Z7 q ha)]; exact g.keep b u q hb,fun b xs q=>by rw [Zl (Z7 q ha)]; exact g.tups b xs q⟩
theorem Gro.tup {S:List Addr} {H H':Hp} {p:Addr} {o:HO} (g:Gro S H H') (hp:H' p = none):Gro S H (upd H' p o):=g.trans (Gro.new hp o)
def RunP (H:Hp) (v:V) (p:Str × Str):Prop:=p.1.length = 1∧p.2.length = 1∧∃ a,v = .ref a∧H a = some (.tup [.str p.1,.str p.2])
theorem RunP.mono {H H':Hp} (t:∀ b xs,H b = some (.tup xs)→H' b = some (.tup xs)) {v:V} {p:Str × Str} (h:RunP H v p):RunP H' v p:=by
 obtain ⟨h1,h2,a,e1,e2⟩:=h
 exact ⟨h1,h2,a,e1,t _ _ e2⟩
theorem V1 {H H':Hp} (t:∀ b xs,H b = some (.tup xs)→H' b = some (.tup xs)) {vs:List V} {rs:List (Str × Str)} (h:Paired (RunP H) vs rs):Paired (RunP H') vs rs:=Paired.mapP h fun _ _ q=>q.mono t
section
variable {K:PySem.W.Frag}
theorem Zch {H:Hp} {l:Addr} {r:Int} {Q:V→Hp→Prop} (h:LetAt H l) (h0:0 ≤ r) (h1:r < 3) (q:∀ s:Str,s.length = 1→Q (.str s) H):Zaq K (.ref l) (.int r) H Q:=by
 obtain ⟨x,y,z,hl,hx,hy,hz⟩:=h
 obtain ⟨s,hs,e⟩:=Zcg h0 h1 hx hy hz
 exact ⟨l,_,_,_,rfl,rfl,SqL.of hl,e,q s hs⟩
end
theorem Xu {X:Cx} {sts:List Stmt} {t:TS} (t2:TS) (h:PSs X sts t) (imp:∀ D σ H,t2 D σ H→t D σ H):PSs X sts t2:=fun pins s σ H D I q=>h pins s σ H D I (imp D σ H q)
theorem Zct {R:Bool→Hp→Prop} {H:Hp} {c:Bool} (h1:R true H) (h2:R false H):R c H:=by
 cases c
 ·exact h2
 ·exact h1
theorem Zc7 {A B:TT} {σ:L2.St} {H:Hp} {Q:Bool→Hp→Prop} (hA:∀ R:Bool→Hp→Prop,R true H→R false H→A σ H R) (hB:∀ R:Bool→Hp→Prop,R true H→R false H→B σ H R) (hT:Q true H) (hF:Q false H):tOr A B σ H Q :=
 hA _ (by show if true = true then Q true H else B σ H Q; exact Z0k hT) (by show if false = true then Q true H else B σ H Q; exact Z0l (hB Q hT hF))
theorem PatAt.head {H:Hp}:∀ {d:Nat} {v:V} {p:Pat},PatAt H d v p→∃ a x r,v = .ref a∧H a = some (.tup (.str x :: r))
 | 0,_,_,h=>h.elim
 | d + 1,v,.node h ks,⟨a,kv,e,l,_⟩=>by
  obtain ⟨r,q⟩:=l.head
  exact ⟨a,_,r,e,q⟩
theorem Wg {H H':Hp} {d:Nat} (t:∀ b xs,H b = some (.tup xs)→H' b = some (.tup xs)) {vs:List V} {ps:List Pat} (h:Paired (PatAt H d) vs ps):Paired (PatAt H' d) vs ps:=Paired.mapP h fun _ _ q=>q.mono t
section
variable {P:Program} {w:World} {K:PySem.W.Frag} {mg:Str→Option Value} {base:Heap} {f:Addr} {fd:FuncData}
structure Def (K:PySem.W.Frag) (mg:Str→Option Value) (x:Str) (st:Stmt) (ps:List Str):Prop where
 ex:∃ f fd,Fun K x x st f fd∧mg x = some (.ref f)∧Binds K fd ps []
theorem Def.own {x:Str} {st:Stmt} {ps:List Str} {k:Nat} {sp:Sp} (D:Def K mg x st ps) (h:∀ f fd,Fun K x x st f fd→FnOk P w K mg base CX0 k f fd ps sp):Own P w K mg base k x ps sp:=by
 obtain ⟨f,fd,F,m,b⟩:=D.ex
 exact ⟨f,fd,h f fd F,m,F.kp,b⟩
theorem FnOk.never {ps:List Str} {k:Nat} {sp:Sp} (no:∀ vs H Q E,¬ sp vs H Q E):FnOk P w K mg base CX0 k f fd ps sp :=
 ⟨fun vs H Q E h=>absurd h (no vs H Q E),fun A outer s H args us vs Q E _ _ _ _ h=>absurd h (no vs H Q E)⟩
end
theorem Gro.drop {b c:Addr} {H H2:Hp} {o:HO} (g:Gro [b,c] (upd H c o) H2) (hc:H c = none):Gro [b] H H2 :=
 ⟨fun x u q hx=>g.keep x u (by rw [Zl (Z7 q hc)]; exact q) (by
   have hxc:x ≠ c:=Z7 q hc
   have hxb:x ≠ b:=by simpa using hx
   simp [hxb,hxc]),fun x xs q=>g.tups x xs (by rw [Zl (Z7 q hc)]; exact q)⟩
theorem Ul {α β:Type} {F:α→β→Prop}:∀ {xs:List α} {ys:List β} (n:Nat),Paired F xs ys→Paired F (xs.take n) (ys.take n)
 | _,_,0,_=>.nil
 | _,_,_ + 1,.nil=>.nil
 | _,_,n + 1,.cons r t=>.cons r (Ul n t)
theorem ixT {K:PySem.W.Frag} {σ:L2.St} {H:Hp} {Q:VK} {i:Nat} {p:Addr} {xs:List V} {j:Int} {v:V} (h:H p = some (.tup xs)) (e:atI xs j = some v) (q:Q v H) (hs:σ[i]? = some (some (V.ref p)):=by rfl):tOp (U0 K) (V9 i) (tC (.int j)) σ H Q:=⟨_,hs,p,xs,j,v,rfl,rfl,SqT.of h,e,q⟩
theorem ixL {K:PySem.W.Frag} {σ:L2.St} {H:Hp} {Q:VK} {i:Nat} {p:Addr} {xs:List V} {j:Int} {v:V} (h:H p = some (.lst xs)) (e:atI xs j = some v) (q:Q v H) (hs:σ[i]? = some (some (V.ref p)):=by rfl):tOp (Zaq K) (V9 i) (tC (.int j)) σ H Q:=⟨_,hs,p,xs,j,v,rfl,rfl,SqL.of h,e,q⟩
theorem exA {α:Type} {A R:α→Prop} {v:α} (e:A v) (h:R v):∃ x,A x∧R x:=⟨v,e,h⟩
theorem exB {α β:Type} {A:α→Prop} {B:β→Prop} {R:α→β→Prop} {a:α} {b:β} (e:A a) (e':B b) (h:R a b):∃ x y,A x∧B y∧R x y:=⟨a,b,e,e',h⟩
theorem Za9 {t:TS} {D':Ends} {σ:L2.St} {H:Hp} {Q:VK} (h:∀ D:Ends,D.rt = Q→t D σ H) (e:D'.rt = Q:=by rfl):t D' σ H:=h D' e
theorem pS {X:Cx} (i:Nat) {x:Str} {e:PySem.Expr} {te:TE} {pos pos':Pos} (hN:X.N.Nodup) (he:PE X e te) (hi:X.N[i]? = some x:=by rfl) (hx:Loc X.env.scope x:=by first | exact .inl rfl | exact .inr rfl) (hs:swapsWith e (some (.Name x pos')) pos.line X.env = pure false:=by rfl) (hf:X.fn x = true ∨ X.env.scope.names.lookup x = some .local:=by first | exact .inl rfl | exact .inr rfl | assumption):PS X (.Assign [.Name x pos'] e pos) (Zak te (Z1p i)):=Zbz hN hi hx he hs hf
theorem pN {X:Cx} (i:Nat) {x:Str} {pos:Pos} (hN:X.N.Nodup) (hi:X.N[i]? = some x:=by rfl) (hx:Loc X.env.scope x:=by first | exact .inl rfl | exact .inr rfl) (hf:X.fn x = true ∨ X.env.scope.names.lookup x = some .local:=by first | exact .inl rfl | exact .inr rfl | assumption):PG X (.Name x pos) (Z1p i):=Z51 hN hi hx hf
theorem fsc {N P:List Str} {sc:Scope} (a:sc.kind = .function:=by rfl) (b:sc.isCoroutine = false:=by rfl) (c:sc.isGenerator = false:=by rfl) (d:N.Nodup:=by decide +kernel) (e:N.take P.length = P:=by rfl) (f:∀ x ∈ P,sc.names.lookup x = some .local ∨ sc.names.lookup x = some .cell:=by decide +kernel) (g:∀ y ∈ sc.names,y.2 ≠ .free:=by decide +kernel):FnScope N P sc:=⟨a,b,c,d,e,f,g⟩
theorem ltX {Y:Cx} {b:List Stmt} {D:Ends} {σ:L2.St} {H:Hp} (h:let X:=Y; ∃ t,PSs X b t∧t D σ H):∃ t,PSs Y b t∧t D σ H:=h
inductive Wd where
 | sign | any | inn | out | beg | fin | row | alt | times | grp | again | hav | once | ahead | notahead | behind | notbehind
def Wd.text:Wd→Str
 | .sign => "sign" | .any => "any" | .inn => "in" | .out => "out" | .beg => "begin" | .fin => "end" | .row => "row" | .alt => "or" | .times => "times" | .grp => "group" | .again => "again" | .hav => "have"
 | .once => "once" | .ahead => "ahead" | .notahead => "notahead" | .behind => "behind" | .notbehind => "notbehind"
def Hd.wd:Hd→Wd
 | .sign _=>.sign | .any=>.any | .inn _=>.inn | .out _=>.out | .beg=>.beg | .fin=>.fin | .row=>.row | .alt=>.alt
 | .times _ _ _=>.times | .grp _=>.grp | .again _=>.again | .hav _=>.hav | .look .once=>.once | .look .ahead=>.ahead | .look .notahead=>.notahead | .look .behind=>.behind | .look .notbehind=>.notbehind
theorem Hd.word_wd (h:Hd):h.word = h.wd.text:=by
 cases h with
 | look lk=>cases lk <;> rfl
 | _=>rfl
def isw (x y:Str):Bool:=decide (V.str x = V.str y)
theorem Zd {c A B:Prop} [Decidable c] (h:¬ c) (b:B):if c then A else B:=by rw [if_neg h]; exact b
theorem Zg {c A B:Prop} [Decidable c] (h:c) (a:A):if c then A else B:=by rw [if_pos h]; exact a
theorem Y2 {α β:Type} {F:α→β→Prop}:∀ {xs:List α} {ys:List β} {i:Nat} {x:α},Paired F xs ys→xs[i]? = some x→∃ y,ys[i]? = some y∧F x y
 | _,_,_,_,.nil,e=>by simp at e
 | _,_,0,_,.cons r _,e=>by simp at e; subst e; exact ⟨_,rfl,r⟩
 | _,_,i + 1,x,.cons _ t,e=>by
  obtain ⟨y,h1,h2⟩:=Y2 (i:=i) (x:=x) t (by simpa using e)
  exact ⟨y,by simpa using h1,h2⟩
theorem Y9 {α:Type} {l:List α} {i:Nat} {x:α} (h:l[i]? = some x):l.take (i + 1) = l.take i ++ [x]:=by rw [List.take_add_one,h]; rfl
def mxL (ns:List Int):Int:=ns.getD (argBest (fun i j=>decide (ns.getD i 0 > ns.getD j 0)) (ns.length - 1)) 0
theorem Z2i {ps:List (Int × Tok)} {ns:List Int} (e:ps.map (·.1) = ns):numAt ps.toArray = fun i=>ns.getD i 0:=by
 funext i
 subst e
 simp [numAt,List.getD_eq_getElem?_getD,List.getElem?_map]
theorem Za5 {ps:List (Int × Tok)} {ns:List Int} (e:ps.map (·.1) = ns) {k:Nat} {v:Value} (h:(intItems ps.toArray)[k]? = some v):∃ t,v = .int (ns.getD k 0) t:=by
 obtain ⟨t,q⟩:=intItems_at h
 rw [Z2i e] at q
 exact ⟨t,q⟩
section
variable {X:Cx}
end
def Zc0:V→Bool
 | .non=>true | .bl _=>true | .int _=>true | .str _=>true | _=>false
def Vo (H:Hp):Nat→V→V→Prop
 | 0,_,_=>False
 | n + 1,x,y=>(x = y∧Zc0 x = true) ∨ (∃ (a b:Addr) (xs ys:List V),x = .ref a∧y = .ref b∧H a = some (.tup xs)∧H b = some (.tup ys)∧xs.length ≤ 1000000∧Paired (Vo H n) xs ys)
end Seek
namespace L2
open PySem PySem.Spec PyProof.Rows
section
variable {κ:Type} [DecidableEq κ]
def Z4a (kvs:List (κ × V)) (k:κ):Option V:=(kvs.find? fun kv=>decide (kv.1 = k)).map (·.2)
theorem Z6m {p:κ × V} {r:List (κ × V)} {k:κ} (e:p.1 = k):Z4a (p :: r) k = some p.2:=by simp [Z4a,List.find?_cons,e]
theorem Z6n {p:κ × V} {r:List (κ × V)} {k:κ} (e:¬ p.1 = k):Z4a (p :: r) k = Z4a r k:=by simp [Z4a,List.find?_cons,e]
theorem RelO.getD {o:Option V} {u:Option Value} {d:V} {d':Value} (r:RelO o u) (rd:RelV d d'):RelV (o.getD d) (u.getD d'):=by
 cases o with
 | none=>cases u with
  | none=>exact rd
  | some _=>exact (show False from r).elim
 | some _=>cases u with
  | none=>exact (show False from r).elim
  | some _=>exact r
theorem KV.val {kvs:List (κ × V)} {vs:List (κ × Value)} (r:KV kvs vs) (k:κ):RelO (Z4a kvs k) (valueAt vs k):=by
 unfold KV at r
 induction r with
 | nil=>exact True.intro
 | @cons p q ps qs h t ih =>
  obtain ⟨h1,h2⟩:=h
  by_cases e:p.1 = k
  ·have e':q.1 = k:=h1.symm.trans e
   have b:valueAt (q :: qs) k = some q.2:=by simp [valueAt,List.find?_cons,e']
   rw [Z6m e,b]; exact h2
  ·have e':¬ q.1 = k:=fun z=>e (h1.trans z)
   have b:valueAt (q :: qs) k = valueAt qs k:=by simp [valueAt,List.find?_cons,e']
   rw [Z6n e,b]; exact ih
theorem KV.length {kvs:List (κ × V)} {vs:List (κ × Value)} (r:KV kvs vs):kvs.length = vs.length:=Paired.length r
end
theorem Ze5 {P:Program} {w:World} {k:Key} {u:Value} (r:RelV (kV k) u):(Xv P w).is k u = true:=by
 cases k with
 | inl i=>obtain ⟨t,e⟩:=(show ∃ t,u = Value.int i t from r); subst e; exact Z1k P w i t
 | inr x=>obtain ⟨t,e⟩:=(show ∃ t,u = Value.str x t from r); subst e; exact Z1j P w x t
section
variable {P:Program} {w:World} {H:Hp} {h:Heap} {a:Addr}
end
section
variable {X:Cx} {pins:List (Addr × Obj)} {σ:St} {H:Hp} {s:Shared} {a:Addr} {y v:V} {u r:Value} {o:Option V} {A:Around} {E:Value→Shared→Prop}
end
section
variable {X:Cx} {pins:List (Addr × Obj)} {σ:St} {H:Hp} {s:Shared} {a:Addr} {kvs:List (Key × V)} {k:Key} {u:Value} {A:Around} {E:Value→Shared→Prop}
end
def Zeq (i:Expr):Prop:=∀ ov iv,subscripted i false ov iv = operate [ov,iv] (getItem ov iv)
theorem Z8u {prog:Program} {w:World} {A:Around} {E:Value→Shared→Prop} {s:Shared} {env:Env} {value slice:Expr} {pos:Pos} {T id:String} {Q:Value→Shared→Prop}
  (hl:typeLookup (.type T) "__getitem__" = pure (some (.builtin id))) (hs:Zeq slice)
  (h:wpAny (model prog w) A (eval value env) (fun o s₁=>wpAny (model prog w) A (eval slice env) (fun i s₂=>s₂.TypeIs o T∧wpAny (model prog w) A (getItem o i) Q E s₂) E s₁) E s) :
  wpAny (model prog w) A (eval (.Subscript value slice pos) env) Q E s:=by
 refine Subscript_ (wpAny_mono h (fun o s₁ h₁=>wpAny_mono h₁ (fun i s₂ h₂=>?_) fun _ _ x=>x) fun _ _ x=>x)
 obtain ⟨hT,h₂⟩:=h₂
 unfold subscriptTail
 refine wpAny_bind ?_
 rw [getitemInPython_of_ne hT.not_modules]
 refine wpAny_bind (wpAny_specialOf hT hl ?_)
 have fin:wpAny (model prog w) A (subscripted slice false o i) (fun r s₃=>wpAny (model prog w) A (letTemporaryGo value o r >>= fun _=>pure r) Q E s₃) E s₂:=by
  rw [hs o i]
  exact wpAny_operating (wpAny_mono h₂ (fun r s₃ h₃=>wpAny_bind (wpAny_letTemporaryGo (wpAny_pure h₃))) fun _ _ x=>x)
 first
  | exact wpAny_pure (wpAny_bind fin)
  | exact wpAny_bind (wpAny_pure (wpAny_bind fin))
  | exact wpAny_bind fin
section
variable {X:Cx} {o i e value:Expr} {pos pos' tpos:Pos} {td ty tv:TE}
end
section
variable {X:Cx} {pos:Pos}
end
def Zcz (w:World) (e:DictEntry) (kv:Key × V):Prop:=Z1n kv.1 e.key = true∧e.hash = Zen w kv.1∧RelV kv.2 e.val
def DcK (K:PySem.W.Frag) (w:World) (a:Addr) (kvs:List (Key × V)):Prop:=(a == sysModules) = false∧∃ (o:Obj) (es:Array DictEntry) (ep:Nat),K.lookup a = some o∧o.ExactDict∧o.data = .dict es ep∧Paired (Zcz w) es.toList kvs∧(kvs.map (·.1)).Nodup
theorem Tr {P:Program} {w:World}:∀ {es:List DictEntry} {kvs:List (Key × V)},Paired (Zcz w) es kvs→∃ vs:List (Key × Value),KV kvs vs∧PySem.Pairs (Xv P w) es vs∧vs.map (·.1) = kvs.map (·.1)∧∀ e ∈ es,∃ k,(Xv P w).is k e.key = true∧e.hash = (Xv P w).hash k
 | _,_,.nil=>⟨[],.nil,.nil,rfl,fun e he=>by simp at he⟩
 | e :: es,kv :: kvs,.cons ⟨h1,h2,h3⟩ t=>by
  obtain ⟨vs,r,p,m,k⟩:=Tr (P:=P) t
  refine ⟨(kv.1,e.val) :: vs,.cons ⟨rfl,h3⟩ r,.cons h1 rfl p,by simp [m],fun e' he'=>?_⟩
  rcases List.mem_cons.mp he' with rfl | he'
  ·exact ⟨kv.1,h1,h2⟩
  ·exact k e' he'
section
variable {X:Cx} {pins:List (Addr × Obj)} {σ:St} {H:Hp} {s:Shared} {a:Addr} {kvs:List (Key × V)}
theorem Inv.dcK (I:Inv X pins σ H s) (h:DcK X.K X.w a kvs):∃ vs:List (Key × Value),KV kvs vs∧s.heap.DictOf (Xv X.prog X.w) a vs:=by
 obtain ⟨_,o,es,ep,l,x,d,p,nd⟩:=h
 obtain ⟨vs,r,pr,m,k⟩:=Tr (P:=X.prog) p
 exact ⟨vs,r,o,es,ep,I.kIn a o l,x,d,fun e he=>k e (by simpa using he),pr,by rw [m]; exact nd⟩
end
def rCG (K:PySem.W.Frag) (w:World):R2:=fun x y H Q=>∃ a kvs k v,x = .ref a∧DcK K w a kvs∧y = kV k∧Z4a kvs k = some v∧Q v H
def Zdg (K:PySem.W.Frag) (w:World) (td ty:TE):TE:=tOp (rCG K w) td ty
section
variable {X:Cx} {o i:Expr} {pos:Pos} {td ty:TE}
theorem Z18 (ho:PE X o td) (hi:PE X i ty) (hs:Zeq i):PE X (.Subscript o i pos) (Zdg X.K X.w td ty):=by
 intro pins s σ H Q I h
 refine Z8u PySem.F.slot_dict_getitem.lookup hs (thn (ho pins s σ H _ I h) fun u s1 ⟨x,H1,I1,rx,q1⟩=>thn (hi pins s1 σ H1 _ I1 q1) fun iv s2 ⟨y,H2,I2,ry,a,kvs,k,v,ex,dc,ey,hv,q2⟩=>?_)
 subst ex ey
 obtain rfl:u = Value.ref a:=rx
 obtain ⟨vs,rel,dd⟩:=I2.dcK dc
 obtain ⟨w',hw,rw'⟩:=RelO.some_of (v:=v) (o:=valueAt vs k) (by rw [← hv]; exact rel.val k)
 exact ⟨dd.typeIs,wpAny_getItem_of (Ze5 ry) dd.mapOf hw ⟨v,H2,I2.tok _,rw',q2⟩⟩
end
theorem dcK_of {K:PySem.W.Frag} {w:World} {a:Addr} {es:Array DictEntry} {ep:Nat} {kvs:List (Key × V)} (l:K.lookup a = some ⟨.type "dict",none,.dict es ep,#[]⟩) (hd:(a == sysModules) = false) (p:Paired (Zcz w) es.toList kvs) (nd:(kvs.map (·.1)).Nodup):DcK K w a kvs :=
 ⟨hd,_,es,ep,l,⟨rfl,rfl,rfl⟩,rfl,p,nd⟩
theorem Vl {w:World} {h:Int} {x y:Str} {t u:Tok} (e:h = PyData.keyHash w.params x):Zcz w ⟨h,.str x t,.str y u⟩ (.inr x,.str y):=⟨Us x t,e,⟨u,rfl⟩⟩
section
variable {X:Cx} {pins:List (Addr × Obj)} {σ:St} {H:Hp} {s:Shared}
end
theorem T7:∀ {xs:List Str} {us:List Value},Vals (xs.map V.str) us→StrsAre us xs
 | [],_,r=>by cases r; exact .nil
 | x :: xs,_,r=>by
  rw [List.map_cons] at r
  cases r with
  | cons q t =>
   obtain ⟨k,rfl⟩:=q
   exact .cons x k (T7 t)
def Zdr (K:PySem.W.Frag):V→List V→Hp→VK→Prop:=fun x vs H Q=>∃ (sep:Str) (l:Addr) (xs:List Str),x = .str sep∧vs = [.ref l]∧SqL K H l (xs.map V.str)∧(xs.map (·.length)).sum + xs.length * sep.length ≤ 16777216∧Q (.str (Txt.join sep xs)) H
section
variable {X:Cx}
theorem Za2:MtR X "str.join" (Zdr X.K):=by
 intro pins s σ H x vs v us Q I rx rv h
 obtain ⟨sep,l,xs,rfl,rfl,hl,hz,q⟩:=h
 obtain ⟨t,rfl⟩:=rx
 obtain ⟨u,rfl,ru⟩:=Vals.one rv
 obtain rfl:u = Value.ref l:=ru
 obtain ⟨its,r,pl,_⟩:=I.list hl
 exact join_list pl.isList (by simpa using T7 r) hz fun t' k=>⟨.str (Txt.join sep xs),H,I.tok _,⟨_,rfl⟩,q⟩
end
open Builtin
theorem T3:fillsNumberSlot (.type "tuple") "mul" = pure false :=
 PySem.fillsNumberSlot_seq (id := "tuple.__mul__") (r:=some (.builtin "tuple.__rmul__")) F.slot_tuple_mul.lookup (by decide +kernel) F.slot_tuple_rmul.lookup (by decide +kernel)
theorem Z95:seqRepeat? (.type "tuple") = pure (some (.builtin "tuple.__mul__")):=by
 unfold seqRepeat?
 rw [PySem.seqSlot_of (T := "tuple") (name := "__mul__") (id := "tuple.__mul__") F.slot_tuple_mul.lookup (by decide +kernel),PySem.seqSlot_of (T := "tuple") (name := "__rmul__") (id := "tuple.__rmul__") F.slot_tuple_rmul.lookup (by decide +kernel)]
 rfl
theorem Z6v (a:Int) (t:Tok) (l:Addr) (od:Option Addr) (items:Array Value) (n:Nat) (sl:Array (Option Value)) :
  Meets (Builtin.«int.__rmul__» ⟨[.int a t,.ref l],[]⟩) (fun _ R s=>s.heap.get? l = some ⟨.type "tuple",od,.seq items n,sl⟩∧R (.ok (.ret Value.notImplemented)) s) :=
 .of_wp fun prog w A R s h=>by obtain ⟨hp,g,d,tk,os⟩:=s; obtain ⟨hl,h⟩:=h; wp_walk; exact ⟨_,rfl,h⟩
theorem Z7h (k:Int) (t:Tok) (l:Addr) (od:Option Addr) (items:Array Value) (n:Nat) (sl:Array (Option Value)) (h1:¬ (decide (k < -(2 ^ 63)) || decide (k ≥ 2 ^ 63)) = true) (h2:¬ (items.isEmpty || k == 1) = true) (h3:(decide (k ≤ 0) || items.isEmpty) = true) :
  Meets (Builtin.«tuple.__mul__» ⟨[.ref l,.int k t],[]⟩) (fun _ R s=>s.heap.get? l = some ⟨.type "tuple",od,.seq items n,sl⟩∧R (.ok (.ret (Value.ref s.heap.objs.size))) { s with heap:=s.heap.push { cls:=Value.type "tuple",data:=.seq #[] } }) :=
 .of_wp fun prog w A R s h=>by
  obtain ⟨hp,g,d,tk,os⟩:=s; obtain ⟨hl,h⟩:=h; have f1:=AutoSeq1.idx_int; wp_walk
  rw [if_neg h1]
  wp_walk
  exact ⟨_,rfl,h⟩
theorem Z7g (k:Int) (t:Tok) (l:Addr) (od:Option Addr) (items:Array Value) (n:Nat) (sl:Array (Option Value)) (h1:¬ (decide (k < -(2 ^ 63)) || decide (k ≥ 2 ^ 63)) = true) (h2:(items.isEmpty || k == 1) = true) :
  Meets (Builtin.«tuple.__mul__» ⟨[.ref l,.int k t],[]⟩) (fun _ R s=>s.heap.get? l = some ⟨.type "tuple",od,.seq items n,sl⟩∧R (.ok (.ret (Value.ref l))) s) :=
 .of_wp fun prog w A R s h=>by
  obtain ⟨hp,g,d,tk,os⟩:=s; obtain ⟨hl,h⟩:=h; have f1:=AutoSeq1.idx_int; wp_walk
  rw [if_neg h1]
  wp_walk
  exact ⟨_,rfl,h⟩
theorem Z7f (k:Int) (t:Tok) (l:Addr) (od:Option Addr) (items:Array Value) (n:Nat) (sl:Array (Option Value)) (h1:¬ (decide (k < -(2 ^ 63)) || decide (k ≥ 2 ^ 63)) = true) (h2:¬ (items.isEmpty || k == 1) = true) (h3:¬ (decide (k ≤ 0) || items.isEmpty) = true)
  (h4:¬ (items.size:Int) * k > (2 ^ 63 - 1) / 8) (h5:¬ Tuple.tupleTooMany (items.size * k) = true) (h6:(List.foldl (fun x1 x2=>x1 ++ x2) #[] (List.replicate k.toNat items)).size ≤ sizeLine) :
  Meets (Builtin.«tuple.__mul__» ⟨[.ref l,.int k t],[]⟩) (fun _ R s=>s.heap.get? l = some ⟨.type "tuple",od,.seq items n,sl⟩∧R (.ok (.ret (Value.ref s.heap.objs.size))) { s with heap:=s.heap.push { cls:=Value.type "tuple",data:=.seq (List.foldl (fun x1 x2=>x1 ++ x2) #[] (List.replicate k.toNat items)) } }) :=
 .of_wp fun prog w A R s h=>by
  obtain ⟨hp,g,d,tk,os⟩:=s; obtain ⟨hl,h⟩:=h; have f1:=AutoSeq1.idx_int; wp_walk
  rw [if_neg h1]
  wp_walk
  rw [if_neg h4]
  wp_walk
  exact ⟨_,rfl,h⟩
def Zdq:R2:=fun x y H Q=>∃ a k xs,x = .ref a∧y = .int k∧H a = some (.tup xs)∧0 ≤ k∧xs.length * k.toNat ≤ 1000∧k ≤ 1000 ∧
 (k = 1→Q (.ref a) H)∧((xs = []→k = 1)→k ≠ 1→∀ p,H p = none→Q (.ref p) (upd H p (.tup (List.replicate k.toNat xs).flatten)))∧(xs ≠ [])
section
variable {X:Cx}
theorem Z9k:OpR X (binaryOp .Mult) Zdq:=by
 intro pins s σ H x y v u Q I rx ry h
 obtain ⟨a,k,xs,rfl,rfl,hH,h0,hz,hk,q1,q2,hne⟩:=h
 cases rx
 obtain ⟨t,rfl⟩:=ry
 obtain ⟨its,r,⟨o,ho,hc,n,hd⟩,_⟩:=I.tuple (SqT.of hH)
 obtain ⟨oc,od,odt,osl⟩:=o
 cases hc
 cases hd
 have hl:=r.length
 have hlen:0 < its.length:=by
  rw [← hl]
  exact List.length_pos_iff.mpr hne
 have hem:its.toArray.isEmpty = false:=by
  cases its with
  | nil=>simp at hlen
  | cons _ _=>rfl
 have c1:¬ (decide (k < -(2 ^ 63)) || decide (k ≥ 2 ^ 63)) = true:=by simp; omega
 refine wpAny_binaryOp_repeat_ref (T := "tuple") (U := "int") (by decide) ⟨_,ho,rfl⟩ (fun s'=>typeIs_int s' k t) T3 F.fills_int_mul F.slot_int_rmul Z95 F.slot_int_index.lookup
  (call_meets F.slot_int_rmul (typeIs_int s k t) F.entry_int_rmul (F.args_int_rmul_2 _ _) (Z6v k t a od its.toArray n osl) ⟨ho,rfl,⟨_,ho,rfl⟩,?_⟩)
 by_cases e1:k = 1
 ·exact call_meets F.slot_tuple_mul ⟨_,ho,rfl⟩ F.entry_tuple_mul (F.args_tuple_mul_2 _ _) (Z7g k t a od its.toArray n osl c1 (by simp [e1])) ⟨ho,.ref a,H,I,rfl,q1 e1⟩
 have c2:¬ (its.toArray.isEmpty || k == 1) = true:=by rw [hem]; simpa using e1
 have q2':=q2 (fun z=>absurd z hne) e1
 by_cases e0:k = 0
 ·refine call_meets F.slot_tuple_mul ⟨_,ho,rfl⟩ F.entry_tuple_mul (F.args_tuple_mul_2 _ _) (Z7h k t a od its.toArray n osl c1 c2 (by simp [e0])) ⟨ho,?_⟩
  have hn:=I.hok.fresh (Nat.le_refl s.heap.objs.size)
  have:=q2' _ hn
  rw [e0] at this
  refine ⟨.ref s.heap.objs.size,_,I.laid (a:=s.heap.objs.size) (o:=.tup []) (t':=s.toks) (fun _ _ q=>Heap.get?_push_of_some _ q) (Nat.le_refl _) ⟨Nat.zero_le _,[],.nil,⟨_,Heap.get?_push_size _ rfl,rfl,0,rfl⟩⟩,rfl,?_⟩
  exact this
 ·have hrep:List.foldl (fun x1 x2=>x1 ++ x2) #[] (List.replicate k.toNat its.toArray) = (List.replicate k.toNat its).flatten.toArray:=by
   have:=Z0n its k.toNat []
   rw [List.nil_append] at this
   exact this
  have hzi:its.length * k.toNat ≤ 1000:=by rw [← hl]; exact hz
  have hzk:(its.length:Int) * k ≤ 1000:=by
   have:((its.length * k.toNat:Nat):Int) ≤ 1000:=by omega
   rw [Int.natCast_mul,Int.toNat_of_nonneg h0] at this
   exact this
  have hsl:(sizeLine:Int) = 16777216:=by rw [sizeLine_eq]; rfl
  refine call_meets F.slot_tuple_mul ⟨_,ho,rfl⟩ F.entry_tuple_mul (F.args_tuple_mul_2 _ _) (Z7f k t a od its.toArray n osl c1 c2 (by rw [hem]; simp; omega) (by rw [List.size_toArray]; omega) (by rw [List.size_toArray]; unfold Tuple.tupleTooMany; simp; omega) (by rw [hrep,List.size_toArray,Z5n,sizeLine_eq,Nat.mul_comm]; omega)) ⟨ho,?_⟩
  have hn:=I.hok.fresh (Nat.le_refl s.heap.objs.size)
  rw [hrep]
  refine ⟨.ref s.heap.objs.size,_,I.laid (a:=s.heap.objs.size) (o:=.tup (List.replicate k.toNat xs).flatten) (t':=s.toks) (fun _ _ q=>Heap.get?_push_of_some _ q) (Nat.le_refl _) ⟨by rw [Z5n,sizeLine_eq,Nat.mul_comm]; omega,_,r.rep k.toNat,⟨_,Heap.get?_push_size _ rfl,rfl,0,rfl⟩⟩,rfl,q2' _ hn⟩
theorem Z0b:OpR X (compareOp .LtE) (fun x y H Q=>∃ i j,x = .str i∧y = .str j∧Q (.bl (!decide (j.cps.toList < i.cps.toList))) H):=by
 intro pins s σ H x y v u Q I rx ry h
 obtain ⟨i,j,rfl,rfl,q⟩:=h
 obtain ⟨t,rfl⟩:=rx
 obtain ⟨t',rfl⟩:=ry
 exact PySem.P.le_str (Yb I q rfl)
def Zet (P:Program) (w:World) (K:PySem.W.Frag) (mg:Str→Option Value) (base:Heap) (k:Nat) (tf:TE) (t:TA):TE:=fun σ H Q=>tf σ H fun x H1=>∃ f fd ps sp,x = .ref f∧FnOk P w K mg base CX0 k f fd ps sp∧PySem.W.keepIn K (.ref f) = true∧Binds K fd ps []∧t σ H1 fun vs H2=>sp vs H2 Q E0
theorem Zc6 {k:Nat} {o i e:Expr} {es:List Expr} {p pos:Pos} {tf:TE} {t:TA} (hr:Room k X.A) (hf:PE X (.Subscript o i p) tf) (ha:PA X (e :: es) t) (he:starEach (e :: es) X.env = (false,eval e X.env) :: starEach es X.env:=by rfl) (hpl:(backTo pos (starEach es X.env)).any (·.1) = false:=by rfl) :
  PE X (.Call (.Subscript o i p) (e :: es) [] pos) (Zet X.prog X.w X.K X.mg X.base k tf t):=by
 intro pins s σ H Q I h
 show wpAny _ _ (eval (.Subscript o i p) X.env >>= fun f=>callWith pos f [] (backTo pos (starEach (e :: es) X.env)) (backToKw pos (keywordEach [] X.env))) _ _ _
 refine wpAny_bind (thn (hf pins s σ H _ I h) fun u s1 ⟨x,H1,I1,r1,f,fd,ps,sp,ex,F,hk,hb,q1⟩=>?_)
 subst ex
 obtain rfl:u = Value.ref f:=r1
 refine PySem.W.callWith_K (h₀:=X.base) I1.ok.mod.kin hk (thn (ha pos pins s1 σ H1 _ I1 q1) fun us s2 ⟨vs,H2,I2,r2,q2⟩=>⟨I2.kIn,?_⟩) he hpl
 exact Z25 F hr hb .nil Z55 I2 r2 (by rw [List.append_nil]; exact q2)
end
section
variable {prog:Program} {w:World} {A:Around} {R:Result→Shared→Prop} {it:Addr} {fp wr:List Addr} {m:Nat} {P:Nat→Value→Prop} {St:Nat→Heap→Prop}
theorem Za1 {kw:List (Str × Value)} (Wk:Walks prog w A.in1 it fp wr m P St) (bt:Nat→Nat→Bool) (cmp:CmpOf prog w A.in1 .Gt P bt) (B:Addr) (nB:B ∉ fp) :
  ∀ (k j:Nat) (z:Shared) (u:Value) (c:Nat),m - (j + 1) = k→j + 1 ≤ m→St (j + 1) z.heap→P (argBest bt j) u→z.heap.get? B = some ⟨.type "list",none,.seq #[u,u] c,#[]⟩ →
  (∀ v h' tk,P (argBest bt (m - 1)) v→(∀ b o,b ∉ wr→b ≠ B→z.heap.get? b = some o→h'.get? b = some o)→R (.ok (.ret v)) { z with heap:=h',toks:=tk }) →
  codeAny (model prog w) A (.builtin "max.loop" ⟨[.ref it,.none,.ref B],kw⟩) R z:=by
 have nW:B ∉ wr:=fun h=>nB (Wk.sub _ h)
 have nm:(toString "max" ++ toString ".loop":String) = "max.loop":=by decide
 intro k
 induction k with
 | zero =>
  intro j z u c ek lej sj pj gB fin
  have ej:j + 1 = m:=by omega
  refine codeAny_builtin PySem.F.entry_max_loop ?_
  rw [Around.under_plainId PySem.F.plain_max_loop _]
  show wpAny _ A.in1 (seqItems? (.ref B) >>= _) _ _ z
  refine wpAny_bind (wpAny_seqItems gB rfl ?_)
  show wpAny _ A.in1 (tryCatch (pyNext (.ref it)) _ >>= _) _ _ z
  refine wpAny_bind (wpAny_tryCatch (Wk.done z _ _ (ej ▸ sj) fun g tk kp=>?_))
  have gB':=kp B _ nW gB
  show wpAny _ A.in1 (updateSeq B (fun _=>#[]) >>= _) _ _ _
  refine wpAny_bind ?_
  refine wpAny_updateSeq gB' rfl (wpAny_bind (wpAny_letGo (wpAny_pure ?_)))
  exact fin u _ tk (by rw [← ej]; exact pj) fun b o b1 b2 e=>(Heap.get?_update_other _ _ (Ne.symm b2)).trans (kp b o b1 e)
 | succ k ih =>
  intro j z u c ek lej sj pj gB fin
  have lt:j + 1 < m:=by omega
  refine codeAny_builtin PySem.F.entry_max_loop ?_
  rw [Around.under_plainId PySem.F.plain_max_loop _]
  show wpAny _ A.in1 (seqItems? (.ref B) >>= _) _ _ z
  refine wpAny_bind (wpAny_seqItems gB rfl ?_)
  show wpAny _ A.in1 (tryCatch (pyNext (.ref it)) _ >>= _) _ _ z
  refine wpAny_bind (wpAny_tryCatch (Wk.item (j + 1) z _ _ lt sj fun v g tk pv sv kp=>?_))
  have gB':=kp B _ nW gB
  show wpAny _ A.in1 (tryCatch (holding [v,v] (richCompare .Gt v u >>= _)) _ >>= _) _ _ _
  refine wpAny_bind (wpAny_tryCatch (wpAny_holding (wpAny_bind (cmp (j + 1) (argBest bt j) v u _ _ _ pv pj ?_))))
  refine wpAny_bind (wpAny_holding (wpAny_truthy_bool ?_))
  refine wpAny_bind (wpAny_letGo (wpAny_pure ?_))
  cases eb:bt (j + 1) (argBest bt j) with
  | true =>
   simp only [if_true]
   refine wpAny_bind ?_
   refine wpAny_updateSeq gB' rfl (wpAny_bind (wpAny_letGo ?_))
   rw [nm]
   refine wpAny_pure ⟨plainId_quiet PySem.F.plain_max_loop _,ih (j + 1) _ v _ (by omega) lt (Wk.frame _ _ _ sv fun b bf o e=>?_) (by simp only [argBest,eb,if_true]; exact pv) (Heap.get?_update_self _ gB' rfl) fun v' g' tk' p' k'=>?_⟩
   ·exact (Heap.get?_update_other _ _ (fun q:B = b=>nB (by rw [q]; exact bf))).trans e
   ·exact fin v' g' tk' p' fun b o b1 b2 e=>k' b o b1 b2 ((Heap.get?_update_other _ _ (Ne.symm b2)).trans (kp b o b1 e))
  | false =>
   simp only [Bool.false_eq_true,if_false]
   refine wpAny_bind (wpAny_letGo ?_)
   rw [nm]
   refine wpAny_pure ⟨plainId_quiet PySem.F.plain_max_loop _,ih (j + 1) _ u c (by omega) lt sv (by simp only [argBest,eb,Bool.false_eq_true,if_false]; exact pj) gB' fun v' g' tk' p' k'=>?_⟩
   exact fin v' g' tk' p' fun b o b1 b2 e=>k' b o b1 b2 (kp b o b1 e)
theorem Z7e {kw:List (Str × Value)} {d:Value} (hkw:kw = [(("default":Str),d)]) (Wk:Walks prog w A.in1 it fp wr m P St) (bt:Nat→Nat→Bool) (cmp:CmpOf prog w A.in1 .Gt P bt) (B:Addr) (nB:B ∉ fp) {z:Shared} {c:Nat} (s0:St 0 z.heap) (gB:z.heap.get? B = some ⟨.type "list",none,.seq #[] c,#[]⟩)
  (fin:∀ v h' tk,((m = 0∧v = d) ∨ (0 < m∧P (argBest bt (m - 1)) v))→(∀ b o,b ∉ wr→b ≠ B→z.heap.get? b = some o→h'.get? b = some o)→R (.ok (.ret v)) { z with heap:=h',toks:=tk }) :
  codeAny (model prog w) A (.builtin "max.loop" ⟨[.ref it,.none,.ref B],kw⟩) R z:=by
 subst hkw
 have nW:B ∉ wr:=fun h=>nB (Wk.sub _ h)
 have nm:(toString "max" ++ toString ".loop":String) = "max.loop":=by decide
 refine codeAny_builtin PySem.F.entry_max_loop ?_
 rw [Around.under_plainId PySem.F.plain_max_loop _]
 show wpAny _ A.in1 (seqItems? (.ref B) >>= _) _ _ z
 refine wpAny_bind (wpAny_seqItems gB rfl ?_)
 show wpAny _ A.in1 (tryCatch (pyNext (.ref it)) _ >>= _) _ _ z
 by_cases e0:m = 0
 ·refine wpAny_bind (wpAny_tryCatch (Wk.done z _ _ (e0 ▸ s0) fun g tk kp=>?_))
  show wpAny _ A.in1 (rule _ >>= _) _ _ _
  refine wpAny_bind (wpAny_rule (wpAny_pure ?_))
  exact fin d g tk (.inl ⟨e0,rfl⟩) fun b o b1 _ e=>kp b o b1 e
 ·refine wpAny_bind (wpAny_tryCatch (Wk.item 0 z _ _ (by omega) s0 fun v g tk pv sv kp=>?_))
  have gB':=kp B _ nW gB
  show wpAny _ A.in1 (updateSeq B (fun _=>#[v,v]) >>= _) _ _ _
  refine wpAny_bind ?_
  refine wpAny_updateSeq gB' rfl ?_
  rw [nm]
  refine wpAny_pure ⟨plainId_quiet PySem.F.plain_max_loop _,Za1 Wk bt cmp B nB _ 0 _ v _ rfl (by omega) (Wk.frame _ _ _ sv fun b bf o e=>?_) pv (Heap.get?_update_self _ gB' rfl) fun v' g' tk' p' k'=>?_⟩
  ·exact (Heap.get?_update_other _ _ (fun q:B = b=>nB (by rw [q]; exact bf))).trans e
  ·exact fin v' g' tk' (.inr ⟨by omega,p'⟩) fun b o b1 b2 e=>k' b o b1 b2 ((Heap.get?_update_other _ _ (Ne.symm b2)).trans (kp b o b1 e))
theorem Zae (a d:Value):argsOk "max" ⟨[a],[(("default":Str),d)]⟩:=by unfold argsOk; kernel_rfl
theorem Z0p {E:Value→Shared→Prop} {s:Shared} {id:String} {b:Builtin} {as:List Value} {kw:List (Str × Value)} {Q:Value→Shared→Prop} (hk:builtinKind id = none) (hp:plainId id = true) (hb:entryFor table id = some b) (ha:argsOk id ⟨as,kw⟩)
  (hc:wpAny (model prog w) A.in1 (b ⟨as,kw⟩) (fun fin s'=>match fin with
   | .done f=>(match (Except.ok f:Result) with | .ok (.ret v)=>Q v s' | .ok _=>False | .error e=>E e s')
   | .again c=>c.quiet = true∧codeAny (model prog w) A c (fun r s'=>match r with | .ok (.ret v)=>Q v s' | .ok _=>False | .error e=>E e s') s') E s):wpAny (model prog w) A (call (.builtin id) as kw) Q E s:=by
 refine wpAny_call (codeAny_call_builtin hp hb ?_)
 simp only [checkBuiltinCall,hk]
 cases sg:Manifest.signature? id with
 | none=>exact wpAny_pure hc
 | some sig =>
  simp only [argsOk,sg] at ha
  have h2:Bind.checkArgs id sig ⟨as,kw⟩ = pure ():=ha
  show wpAny _ A.in1 (Bind.checkArgs id sig ⟨as,kw⟩) _ _ s
  rw [h2]
  exact wpAny_pure hc
theorem Z1l {E:Value→Shared→Prop} {s:Shared} {l:Addr} {xs:Array (Int × Tok)} {d:Value} {Q:Value→Shared→Prop} (hh:A.handled = none) (hl:s.heap.IsList l (intItems xs))
  (h:∀ v h' tk,((xs.size = 0∧v = d) ∨ (0 < xs.size∧(intItems xs)[argBest (fun i j=>decide (numAt xs i > numAt xs j)) (xs.size - 1)]? = some v))→(∀ b o,s.heap.get? b = some o→h'.get? b = some o)→Q v { s with heap:=h',toks:=tk }) :
  wpAny (model prog w) A (call (.builtin "max") [.ref l] [(("default":Str),d)]) Q E s:=by
 have nm:(toString "max" ++ toString ".loop":String) = "max.loop":=by decide
 refine Z0p PySem.F.kind_max PySem.F.plain_max PySem.F.entry_max (Zae _ _) ?_
 show wpAny _ A.in1 (Builtin.Builtins.bindParams "max" ["key", "default"] 0 ⟨[],[(("default":Str),d)]⟩ >>= _) _ _ s
 refine wpAny_bind (wpAny_of_eq (show Builtin.Builtins.bindParams "max" ["key", "default"] 0 ⟨[],[(("default":Str),d)]⟩ = pure [none,some d] from rfl) ?_)
 refine wpAny_bind (wpAny_pure ?_)
 refine wpAny_bind (iter_intList hl fun s₂ e st hfp hlI=>?_)
 subst e
 refine wpAny_bind (wpAny_newObj_type ?_)
 rw [nm]
 have Wk:=Walks.list (prog:=prog) (w:=w) (A:=A.in1) hh _ l hlI (intItems xs)
 refine wpAny_pure ⟨plainId_quiet PySem.F.plain_max_loop _,Z7e (d:=d) (kw:=[(("default":Str),d)]) rfl Wk (fun i j=>decide (numAt xs i > numAt xs j)) (CmpOf.ints_gt (numAt xs) (fun _ _=>intItems_at)) _ (fun hm=>Nat.lt_irrefl _ (hfp _ hm)) (Wk.frame _ _ _ st fun b _ o e=>Heap.get?_push_of_some _ e) (Heap.get?_push_size _ rfl) ?_⟩
 intro v h' tk hv hk
 refine h v h' tk (by simpa [intItems] using hv) fun b o e=>?_
 have lt:=Heap.lt_size e
 refine hk b o (by simpa using Nat.ne_of_lt lt) ?_ (Heap.get?_push_of_some _ (Heap.get?_push_of_some _ e))
 show b ≠ (s.heap.push _).objs.size
 rw [Heap.size_push]
 exact Nat.ne_of_lt (Nat.lt_succ_of_lt lt)
end
end L2
namespace Seek
open PySem PySem.Spec PyProof.Rows L2
section
variable {X:Cx}
def Zde (K:PySem.W.Frag) (t tk:TA):TE:=fun σ H Q=>t σ H fun vs H1=>tk σ H1 fun zs H2=>∃ (l:Addr) (ns:List Int) (z:V),vs = [.ref l]∧zs = [z]∧SqL K H2 l (ns.map V.int)∧Q (if ns = [] then z else .int (mxL ns)) H2
theorem Z9f {e d:Expr} {t tk:TA} {p pos kp:Pos} (hc:X.calm = true) (hg:Gl X "max") (hm:X.mg "max" = none) (ha:PA X [e] t) (hk:PK X [⟨some "default",d,kp⟩] tk) (he:backTo pos (starEach [e] X.env) = (false,eval e X.env) :: backTo pos (starEach [] X.env):=by rfl) (hpl:(backTo pos (starEach [e] X.env)).any (·.1) = false:=by rfl) :
  PE X (.Call (.Name "max" p) [e] [⟨some "default",d,kp⟩] pos) (Zde X.K t tk):=by
 intro pins s σ H Q I h
 refine wpAny_Call_Name_kw (Z0h I hg hm PyProof.Rows.Boot.«max» ?_)
 refine PyProof.Rows.callWith_kw (thn (ha pos pins s σ H _ I h) fun us s1 ⟨vs,H1,I1,r,q⟩=>thn (hk pos pins s1 σ H1 _ I1 q) fun ws s2 ⟨zs,H2,I2,rz,l,ns,z,ev,ez,hl,q2⟩=>?_) he hpl
 subst ev ez
 obtain ⟨u,rfl,ru⟩:=Tv r
 obtain ⟨y,rfl,ry⟩:=Tv rz
 obtain rfl:u = Value.ref l:=ru
 obtain ⟨its,rv,pl,hz⟩:=I2.list hl
 obtain ⟨ps,e1,e2⟩:=Z4d rv
 have hlist:s2.heap.IsList l (intItems ps.toArray):=by
  have e:intItems ps.toArray = its.toArray:=by rw [e1]; simp [intItems]
  rw [e]; exact pl.isList
 have hlen:ps.length = ns.length:=by rw [← e2,List.length_map]
 refine Z1l (d:=y) (I2.ok.hd hc) hlist fun v h' tk hv hk=>?_
 rcases hv with ⟨h0,rfl⟩ | ⟨h0,hv⟩
 ·have hn:ns = []:=List.length_eq_zero_iff.mp (by rw [← hlen]; simpa using h0)
  rw [if_pos hn] at q2
  exact ⟨z,H2,I2.kept hk,ry,q2⟩
 ·have hn:ns ≠ []:=fun e=>by rw [e] at hlen; simp [hlen] at h0
  rw [if_neg hn] at q2
  obtain ⟨t,e⟩:=Za5 e2 hv
  rw [Z2i e2,show ps.toArray.size = ns.length by simp [hlen]] at e
  exact ⟨.int (mxL ns),H2,I2.kept hk,⟨t,e⟩,q2⟩
end
structure MS where
 rows:V
 text:Str
 row:Int
 place:Int
 groups:V
 held:V
 choices:Addr
 made:Int
 found:Bool
 ended:Bool
def MS.fs (s:MS):List (Str × V):=[("rows",s.rows),("text",.str s.text),("row",.int s.row),("at",.int s.place),("groups",s.groups),("held",s.held),("choices",.ref s.choices),("made",.int s.made),("found",.bl s.found),("ended",.bl s.ended)]
theorem Zw {x y:Str} {v:V} {l:List (Str × V)} (h:(x == y) = false):((y,v) :: l).lookup x = l.lookup x:=by rw [List.lookup_cons,h]
theorem Ww {x:Str} {v:V} {l:List (Str × V)}:((x,v) :: l).lookup x = some v:=by simp
theorem Zn {x y:Str} {v u:V} {l:List (Str × V)} (h:¬ y = x):Yw x v ((y,u) :: l) = (y,u) :: Yw x v l:=by
 show (if y = x then (y,v) :: l else (y,u) :: Yw x v l) = _
 rw [if_neg h]
theorem Uh {x:Str} {v u:V} {l:List (Str × V)}:Yw x v ((x,u) :: l) = (x,v) :: l:=by
 show (if x = x then (x,v) :: l else (x,u) :: Yw x v l) = _
 rw [if_pos rfl]
theorem Vh {x:Str} {v:V}:Yw x v [] = [(x,v)]:=rfl
theorem Zaa (s:MS):s.fs.lookup ("rows":Str) = some s.rows:=Ww
theorem Jg (s:MS):s.fs.lookup ("text":Str) = some (.str s.text):=by unfold MS.fs; rw [Zw (by decide +kernel),Ww]
theorem Z2u (s:MS):s.fs.lookup ("row":Str) = some (.int s.row):=by unfold MS.fs; rw [Zw (by decide +kernel),Zw (by decide +kernel),Ww]
theorem W6 (s:MS):s.fs.lookup ("at":Str) = some (.int s.place):=by unfold MS.fs; rw [Zw (by decide +kernel),Zw (by decide +kernel),Zw (by decide +kernel),Ww]
theorem X8 (s:MS):s.fs.lookup ("groups":Str) = some s.groups:=by unfold MS.fs; rw [Zw (by decide +kernel),Zw (by decide +kernel),Zw (by decide +kernel),Zw (by decide +kernel),Ww]
theorem V5 (s:MS):s.fs.lookup ("held":Str) = some s.held:=by unfold MS.fs; rw [Zw (by decide +kernel),Zw (by decide +kernel),Zw (by decide +kernel),Zw (by decide +kernel),Zw (by decide +kernel),Ww]
theorem Ym (s:MS):s.fs.lookup ("choices":Str) = some (.ref s.choices):=by unfold MS.fs; rw [Zw (by decide +kernel),Zw (by decide +kernel),Zw (by decide +kernel),Zw (by decide +kernel),Zw (by decide +kernel),Zw (by decide +kernel),Ww]
theorem Jh (s:MS):s.fs.lookup ("made":Str) = some (.int s.made):=by unfold MS.fs; rw [Zw (by decide +kernel),Zw (by decide +kernel),Zw (by decide +kernel),Zw (by decide +kernel),Zw (by decide +kernel),Zw (by decide +kernel),Zw (by decide +kernel),Ww]
theorem Z2v (s:MS):s.fs.lookup ("found":Str) = some (.bl s.found):=by unfold MS.fs; rw [Zw (by decide +kernel),Zw (by decide +kernel),Zw (by decide +kernel),Zw (by decide +kernel),Zw (by decide +kernel),Zw (by decide +kernel),Zw (by decide +kernel),Zw (by decide +kernel),Ww]
theorem Z2w (s:MS):s.fs.lookup ("ended":Str) = some (.bl s.ended):=by unfold MS.fs; rw [Zw (by decide +kernel),Zw (by decide +kernel),Zw (by decide +kernel),Zw (by decide +kernel),Zw (by decide +kernel),Zw (by decide +kernel),Zw (by decide +kernel),Zw (by decide +kernel),Zw (by decide +kernel),Ww]
theorem Tf (s:MS) (i:Int):Yw "row" (.int i) s.fs = ({ s with row:=i }:MS).fs:=by unfold MS.fs; rw [Zn (by decide +kernel),Zn (by decide +kernel),Uh]
theorem Z6z (s:MS) (i:Int):Yw "at" (.int i) s.fs = ({ s with place:=i }:MS).fs:=by unfold MS.fs; rw [Zn (by decide +kernel),Zn (by decide +kernel),Zn (by decide +kernel),Uh]
theorem Z06 (s:MS) (v:V):Yw "groups" v s.fs = ({ s with groups:=v }:MS).fs:=by unfold MS.fs; rw [Zn (by decide +kernel),Zn (by decide +kernel),Zn (by decide +kernel),Zn (by decide +kernel),Uh]
theorem Ui (s:MS) (v:V):Yw "held" v s.fs = ({ s with held:=v }:MS).fs:=by unfold MS.fs; rw [Zn (by decide +kernel),Zn (by decide +kernel),Zn (by decide +kernel),Zn (by decide +kernel),Zn (by decide +kernel),Uh]
theorem Z9c (s:MS) (i:Int):Yw "made" (.int i) s.fs = ({ s with made:=i }:MS).fs:=by unfold MS.fs; rw [Zn (by decide +kernel),Zn (by decide +kernel),Zn (by decide +kernel),Zn (by decide +kernel),Zn (by decide +kernel),Zn (by decide +kernel),Zn (by decide +kernel),Uh]
theorem Z2d (s:MS) (b:Bool):Yw "found" (.bl b) s.fs = ({ s with found:=b }:MS).fs:=by unfold MS.fs; rw [Zn (by decide +kernel),Zn (by decide +kernel),Zn (by decide +kernel),Zn (by decide +kernel),Zn (by decide +kernel),Zn (by decide +kernel),Zn (by decide +kernel),Zn (by decide +kernel),Uh]
theorem Z6y (s:MS) (b:Bool):Yw "ended" (.bl b) s.fs = ({ s with ended:=b }:MS).fs:=by unfold MS.fs; rw [Zn (by decide +kernel),Zn (by decide +kernel),Zn (by decide +kernel),Zn (by decide +kernel),Zn (by decide +kernel),Zn (by decide +kernel),Zn (by decide +kernel),Zn (by decide +kernel),Zn (by decide +kernel),Uh]
theorem Yt (s:MS):s.fs.length < 1000:=by show 10 < 1000; decide
def NoM (m:Str):Prop:=∀ s:MS,s.fs.lookup m = none
theorem noM {m:Str} (h:(m == "rows") = false∧(m == "text") = false∧(m == "row") = false∧(m == "at") = false∧(m == "groups") = false∧(m == "held") = false∧(m == "choices") = false∧(m == "made") = false∧(m == "found") = false∧(m == "ended") = false):NoM m:=fun s=>by
 obtain ⟨h1,h2,h3,h4,h5,h6,h7,h8,h9,h10⟩:=h
 unfold MS.fs
 rw [Zw h1,Zw h2,Zw h3,Zw h4,Zw h5,Zw h6,Zw h7,Zw h8,Zw h9,Zw h10]
 rfl
theorem Yk:NoM "go_back":=noM (by decide +kernel)
theorem Vj:NoM "enter":=noM (by decide +kernel)
theorem Za0:NoM "move":=noM (by decide +kernel)
theorem Z8f:NoM "way":=noM (by decide +kernel)
theorem Z2m:NoM "moves":=noM (by decide +kernel)
theorem Z1g:NoM "hold":=noM (by decide +kernel)
theorem Wi:NoM "let_go":=noM (by decide +kernel)
theorem Z1h:NoM "drop_choices":=noM (by decide +kernel)
theorem Z2n:NoM "entry":=noM (by decide +kernel)
abbrev Chc:=Int × Int × V × V
def ChAt (H:Hp) (v:V) (q:Chc):Prop:=∃ t,v = .ref t∧H t = some (.tup [.int q.1,.int q.2.1,q.2.2.1,q.2.2.2])
theorem ChAt.mono {H H':Hp} (t:∀ b xs,H b = some (.tup xs)→H' b = some (.tup xs)) {v:V} {q:Chc} (h:ChAt H v q):ChAt H' v q:=by
 obtain ⟨a,e,h⟩:=h
 exact ⟨a,e,t _ _ h⟩
structure MM where
 s:MS
 cs:List Chc
def MM.enter (M:MM) (q:Chc):MM:={ M with s:={ M.s with row:=q.1,place:=q.2.1,groups:=q.2.2.1,held:=q.2.2.2 } }
def MM.back (M:MM):MM:=match M.cs.getLast? with
 | none=>{ M with s:={ M.s with ended:=true } }
 | some q=>MM.enter { M with cs:=M.cs.dropLast } q
structure MAt (C:Addr) (H:Hp) (m:Addr) (M:MM):Prop where
 ob:∃ dx,H m = some (.ins C dx M.s.fs)
 ch:∃ vs,H M.s.choices = some (.lst vs)∧Paired (ChAt H) vs M.cs
theorem MAt.ne {C:Addr} {H:Hp} {m:Addr} {M:MM} (h:MAt C H m M):m ≠ M.s.choices:=by
 obtain ⟨⟨dx,e⟩,vs,e',_⟩:=h
 exact Z1i e e' (by intro z; cases z)
theorem MAt.gro {S:List Addr} {C:Addr} {H H':Hp} {m:Addr} {M:MM} (h:MAt C H m M) (g:Gro S H H') (h1:m ∉ S) (h2:M.s.choices ∉ S):MAt C H' m M:=by
 obtain ⟨⟨dx,e⟩,vs,e',p⟩:=h
 exact ⟨⟨dx,g.keep _ _ e h1⟩,vs,g.keep _ _ e' h2,Paired.mapP p fun _ _ q=>q.mono g.tups⟩
theorem MAt.new {C:Addr} {H:Hp} {m p:Addr} {M:MM} {o:HO} (h:MAt C H m M) (hp:H p = none):MAt C (upd H p o) m M:=h.gro (S:=[]) (Gro.new hp o) (by simp) (by simp)
theorem Gro.ins {S:List Addr} {H:Hp} {p C dx:Addr} {fs:List (Str × V)} (hp:p ∈ S) (h:H p = some (.ins C dx fs)) (o:HO):Gro S H (upd H p o) :=
 ⟨fun b u q hb=>by rw [Zl (fun z=>hb (by rw [z]; exact hp))]; exact q,fun b ys q=>by rw [Zl (Z1i q h (by intro z; cases z))]; exact q⟩
theorem MAt.put {C:Addr} {H:Hp} {m dx:Addr} {M:MM} {s':MS} (h:MAt C H m M) (hx:H m = some (.ins C dx M.s.fs)) (hc:s'.choices = M.s.choices):MAt C (upd H m (.ins C dx s'.fs)) m ⟨s',M.cs⟩:=by
 have hne:=h.ne
 obtain ⟨_,vs,e',p⟩:=h
 have g:Gro [m] H (upd H m (.ins C dx s'.fs)):=Gro.ins (by simp) hx _
 refine ⟨⟨dx,Z3⟩,vs,?_,Paired.mapP p fun _ _ q=>q.mono g.tups⟩
 show (upd H m (.ins C dx s'.fs)) s'.choices = _
 rw [hc,Zl (Ne.symm hne)]
 exact e'
structure Txt (K:PySem.W.Frag) (mg:Str→Option Value) (C:Addr):Prop where
 cl:Cls K C
 a1:NoAttr K C "rows"
 a2:NoAttr K C "text"
 a3:NoAttr K C "row"
 a4:NoAttr K C "at"
 a5:NoAttr K C "groups"
 a6:NoAttr K C "held"
 a7:NoAttr K C "choices"
 a8:NoAttr K C "made"
 a9:NoAttr K C "found"
 a10:NoAttr K C "ended"
structure OwnM (P:Program) (w:World) (K:PySem.W.Frag) (mg:Str→Option Value) (base:Heap) (k:Nat) (C:Addr) (m:Str) (ps:List Str) (sp:Sp):Prop where
 ex:∃ f fd,FnOk P w K mg base CX0 k f fd ps sp∧Meth K C m f∧Binds K fd ps []
theorem OwnM.mono {P:Program} {w:World} {K:PySem.W.Frag} {mg:Str→Option Value} {base:Heap} {j k:Nat} {C:Addr} {x:Str} {ps:List Str} {sp:Sp} (O:OwnM P w K mg base j C x ps sp) (h:j ≤ k):OwnM P w K mg base k C x ps sp:=by
 obtain ⟨f,fd,F,r⟩:=O.ex
 exact ⟨f,fd,F.mono h,r⟩
theorem Yz {X:Cx} {k:Nat} {C:Addr} {m:Str} {ps:List Str} {sp:Sp} {o e:Expr} {es:List Expr} {ta:TE} {t:TA} {apos pos:Pos} {pl:Sem Bool} (O:OwnM X.prog X.w X.K X.mg X.base k C m ps sp) (c:Cls X.K C) (hr:Room k X.A) (he:PE X o ta) (ha:PA X (e :: es) t)
  (hst:starEach (e :: es) X.env = (false,eval e X.env) :: starEach es X.env:=by rfl) (hpl:(backTo pos (starEach es X.env)).any (·.1) = false:=by rfl)
  (ht:eval (.Call (.Attribute o m apos) (e :: es) [] pos) X.env = (do
   let ov ← eval o X.env
   standAt apos.atName
   let (f,first) ← holding [ov] (getMethod ov m pl)
   callWith pos f first (backTo pos (starEach (e :: es) X.env)) (backToKw pos (keywordEach [] X.env))):=by rfl):PE X (.Call (.Attribute o m apos) (e :: es) [] pos) (Z6q C m sp [] E0 ta t):=by
 obtain ⟨f,fd,F,hm,hb⟩:=O.ex
 exact Z9e he c hm F hr hb .nil Z55 ha hst hpl ht
theorem Yd {X:Cx} {k:Nat} {C:Addr} {m:Str} {ps:List Str} {sp:Sp} {o:Expr} {ta:TE} {apos pos:Pos} {pl:Sem Bool} (O:OwnM X.prog X.w X.K X.mg X.base k C m ps sp) (c:Cls X.K C) (hr:Room k X.A) (he:PE X o ta)
  (ht:eval (.Call (.Attribute o m apos) [] [] pos) X.env = (do
   let ov ← eval o X.env
   standAt apos.atName
   let (f,first) ← holding [ov] (getMethod ov m pl)
   callWith pos f first (backTo pos (starEach [] X.env)) (backToKw pos (keywordEach [] X.env))):=by rfl):PE X (.Call (.Attribute o m apos) [] [] pos) (Z6q C m sp [] E0 ta T1):=by
 obtain ⟨f,fd,F,hm,hb⟩:=O.ex
 exact Z70 he c hm F hr hb .nil Z55 ht
structure OwnC (P:Program) (w:World) (K:PySem.W.Frag) (mg:Str→Option Value) (base:Heap) (k:Nat) (C:Addr) (x:Str) (ps:List Str) (sp:Sp):Prop where
 ex:∃ f fd,FnOk P w K mg base CX0 k f fd ps sp∧Mk K C f∧mg x = some (.ref C)∧Binds K fd ps []
end Seek
namespace L2
open PySem PySem.Spec PyProof.Rows
section
variable {X:Cx}
theorem J7 (hu:X.A.units < cLine):OpR X (compareOp .NotEq) (fun x y H Q=>∃ (p r:Addr) (xs:List V),x = .ref p∧y = .ref r∧SqL X.K H p xs∧SqL X.K H r []∧Q (.bl (!xs.isEmpty)) H):=by
 intro pins s σ H x y v u Q I rx ry h
 obtain ⟨p,r,xs,rfl,rfl,hp,hr,q⟩:=h
 cases rx
 cases ry
 obtain ⟨its,rv,pl,hz⟩:=I.list hp
 obtain ⟨its2,rv2,pl2,hz2⟩:=I.list hr
 cases rv2
 cases rv with
 | nil=>exact PySem.EqBoolInt.of_rcne (SeqAt.RcNeAt.lists (e:=fun _=>true) pl.isList pl2.isList (by simp) hu (fun j h1 h2=>absurd h1 (by simp))) ⟨.bl false,H,I,rfl,q⟩
 | cons r1 r2=>exact PySem.EqBoolInt.of_rcne (SeqAt.RcNeAt.lists_lengths pl.isList pl2.isList (by simp) hu) ⟨.bl true,H,I,rfl,q⟩
end
end L2
namespace Seek
open PySem PySem.Spec PyProof.Rows L2
theorem OwnC.mono {P:Program} {w:World} {K:PySem.W.Frag} {mg:Str→Option Value} {base:Heap} {j k:Nat} {C:Addr} {x:Str} {ps:List Str} {sp:Sp} (O:OwnC P w K mg base j C x ps sp) (h:j ≤ k):OwnC P w K mg base k C x ps sp:=by
 obtain ⟨f,fd,F,r⟩:=O.ex
 exact ⟨f,fd,F.mono h,r⟩
theorem Z9d {X:Cx} {k:Nat} {C:Addr} {x:Str} {ps:List Str} {sp:Sp} {p pos:Pos} {e:Expr} {es:List Expr} {t:TA} (O:OwnC X.prog X.w X.K X.mg X.base k C x ps sp) (hr:Room (k + 1) X.A) (hg:Gl X x) (ha:PA X (e :: es) t)
  (hdb:(x == ("__debug__":Str)) = false:=by decide) (he:starEach (e :: es) X.env = (false,eval e X.env) :: starEach es X.env:=by rfl) (hpl:(backTo pos (starEach es X.env)).any (·.1) = false:=by rfl) :
  PE X (.Call (.Name x p) (e :: es) [] pos) (Zaw C sp [] E0 t):=by
 obtain ⟨f,fd,F,M,hm,hb⟩:=O.ex
 exact Z9g M F hr hg hm hb .nil Z55 ha hdb he hpl
end Seek
namespace L2
open PySem PySem.Spec PyProof.Rows
def sub (x:Str) (a b:Nat):Str:=⟨((x.cps.toList.drop a).take (b - a)).toArray⟩
theorem Zea {k:Int} {L:Nat} (h:0 ≤ k):min k (L:Int) = min ((min k.toNat L:Nat):Int) (L:Int):=by
 obtain ⟨a,rfl⟩:=Int.eq_ofNat_of_zero_le h
 rw [Int.toNat_natCast]
 by_cases e:a ≤ L
 ·rw [Nat.min_eq_left e]
 ·rw [Nat.min_eq_right (Nat.le_of_not_le e),Int.min_eq_right (Int.ofNat_le.mpr (Nat.le_of_not_le e)),Int.min_self]
theorem Z0f {a b L:Nat} (h:¬ min a L ≤ min b L):b < a∧b < L:=by omega
theorem Xo {x:Str} {i j:Int} (h0:0 ≤ i) (h1:0 ≤ j):Txt.slice x (some i) (some j) = sub x i.toNat j.toNat:=by
 have hl:x.cps.toList.length = x.length:=by simp [Str.length]
 have clip:Builtin.Str.strSliceIndices (some i) (some j) 1 x.length = Builtin.Str.strSliceIndices (some ((min i.toNat x.length:Nat):Int)) (some ((min j.toNat x.length:Nat):Int)) 1 x.length:=by
  unfold Builtin.Str.strSliceIndices
  have e1:¬ i < 0:=by omega
  have e2:¬ j < 0:=by omega
  have e3:¬ ((min i.toNat x.length:Nat):Int) < 0:=Int.not_lt.mpr (Int.natCast_nonneg _)
  have e4:¬ ((min j.toNat x.length:Nat):Int) < 0:=Int.not_lt.mpr (Int.natCast_nonneg _)
  simp only [e1,e2,e3,e4,if_false,show (1:Int) > 0 by decide,if_true]
  congr 1 <;> rw [Zea (by assumption)]
 have ed:(x.cps.toList.drop (min i.toNat x.length)).take (min j.toNat x.length - min i.toNat x.length) = (x.cps.toList.drop i.toNat).take (j.toNat - i.toNat):=by
  by_cases hi:i.toNat ≤ x.length
  ·rw [Nat.min_eq_left hi]
   by_cases hj:j.toNat ≤ x.length
   ·rw [Nat.min_eq_left hj]
   ·rw [Nat.min_eq_right (by omega),List.take_of_length_le (by rw [List.length_drop]; omega),List.take_of_length_le (by rw [List.length_drop]; omega)]
  ·have e5:min i.toNat x.length = x.length:=by omega
   rw [e5,List.drop_of_length_le (show x.cps.toList.length ≤ x.length by omega),List.drop_of_length_le (show x.cps.toList.length ≤ i.toNat by omega)]
   simp
 by_cases hab:min i.toNat x.length ≤ min j.toNat x.length
 ·have e:Txt.slice x (some i) (some j) = StrLaws.sliceText x (some ((min i.toNat x.length:Nat):Int)) (some ((min j.toNat x.length:Nat):Int)):=by
   unfold Txt.slice StrLaws.sliceText
   rw [clip]
  rw [e,StrLaws.sliceText_nat x hab (Nat.min_le_right _ _),ed]
  rfl
 ·have em:Builtin.Str.strSliceIndices (some i) (some j) 1 x.length = []:=by
   rw [clip]
   unfold Builtin.Str.strSliceIndices sliceRange
   have e3:¬ ((min i.toNat x.length:Nat):Int) < 0:=Int.not_lt.mpr (Int.natCast_nonneg _)
   have e4:¬ ((min j.toNat x.length:Nat):Int) < 0:=Int.not_lt.mpr (Int.natCast_nonneg _)
   simp only [e3,e4,if_false,show (1:Int) > 0 by decide,if_true]
   rw [if_neg (by omega)]
   rfl
  have hlt:j.toNat - i.toNat = 0:=Nat.sub_eq_zero_of_le (Nat.le_of_lt (Z0f hab).1)
  have hp:0 < x.length:=Nat.lt_of_le_of_lt (Nat.zero_le _) (Z0f hab).2
  unfold Txt.slice sub
  rw [em,hlt,if_neg (by simp; omega)]
  simp
def Zew:V→Option Int→Option Int→Hp→VK→Prop:=fun x lo hi H Q=>∃ z:Str,x = .str z∧z.length ≤ sizeLine∧Q (.str (Txt.slice z lo hi)) H
section
variable {X:Cx}
theorem Ta:SlR X Zew:=by
 intro pins s σ H x v vl vu lo hi sl Q I rx hs pl pu h
 obtain ⟨z,rfl,hz,q⟩:=h
 obtain ⟨t,rfl⟩:=rx
 have part:∀ {v:Value} {o:Option Int},IsPart v o→∃ p:Option (Int × Tok),v = partValue p∧p.map (·.1) = o:=by
  intro v o h
  cases h with
  | none=>exact ⟨none,rfl,rfl⟩
  | int i t=>exact ⟨some (i,t),rfl,rfl⟩
 obtain ⟨l,rfl,rfl⟩:=part pl
 obtain ⟨u,rfl,rfl⟩:=part pu
 exact ⟨"str",_,F.slot_str_getitem.lookup,typeIs_str _ _ _,wpAny_getItem_str_slice (l:=l) (u:=u) (st:=none) hs rfl (post_val_or_str ⟨Nat.le_trans (Txt.slice_le z _ _) hz,fun t' k=>⟨.str _,H,I.tok _,⟨_,rfl⟩,q⟩⟩)⟩
end
end L2
namespace HT
open PySem PySem.Spec PyProof.Rows
section
variable {prog:Program} {w:World} {A:Around} {E:Value→Shared→Prop} {s:Shared}
theorem cat_tup0 {t b:Addr} {vs ws:List Value} {Q:Value→Shared→Prop} (ht:IsTup s.heap t vs.toArray) (hb:IsTup s.heap b ws.toArray) (hv:vs = []) (h1:Q (.ref b) s):wpAny (model prog w) A (binaryOp .Add (.ref t) (.ref b)) Q E s:=by
 obtain ⟨⟨cls,dd,data,sl⟩,ho,hc,n,hd⟩:=id ht
 obtain ⟨⟨cls2,dd2,data2,sl2⟩,ho2,hc2,n2,hd2⟩:=id hb
 simp only at hc hd hc2 hd2
 subst hc hd hc2 hd2
 exact concat_meets ⟨_,ho,rfl⟩ ⟨_,ho2,rfl⟩ noFill_tuple_add seq_tuple_add PySem.F.slot_tuple_add PySem.F.entry_tuple_add (PySem.F.args_tuple_add_2 _ _)
  (tuple_addW0 t b vs.toArray ws.toArray n n2 dd dd2 sl sl2 (by simp [hv])) ⟨ho,ho2,h1⟩
end
end HT
namespace L2
open PySem PySem.Spec PyProof.Rows
section
variable {X:Cx}
def T2 (K:PySem.W.Frag):R2:=fun x y H Q=>∃ a b xs ys,x = .ref a∧y = .ref b∧SqT K H a xs∧SqT K H b ys∧xs.length + ys.length ≤ sizeLine ∧
 (xs = []→Q (.ref b) H)∧(xs ≠ []→ys = []→Q (.ref a) H)∧(xs ≠ []→ys ≠ []→∀ p,H p = none→Q (.ref p) (upd H p (.tup (xs ++ ys))))
theorem X4:OpR X (binaryOp .Add) (T2 X.K):=by
 intro pins s σ H x y v u Q I rx ry h
 obtain ⟨a,b,xs,ys,e1,e2,ha,hb,hz,q0,q1,q2⟩:=h
 by_cases hx:xs = []
 ·subst e1 e2
  cases rx
  cases ry
  obtain ⟨its,r1,p1,_⟩:=I.tuple ha
  obtain ⟨its2,r2,p2,_⟩:=I.tuple hb
  exact HT.cat_tup0 p1 p2 (r1.nil_iff.mpr hx) ⟨.ref b,H,I,rfl,q0 hx⟩
 ·exact Z9m pins s σ H x y v u Q I rx ry ⟨a,b,xs,ys,e1,e2,ha,hb,hx,hz,q1 hx,q2 hx⟩
end
end L2
namespace Seek
open PySem PySem.Spec PyProof.Rows L2
theorem Z8m {xs:List V} {k:Nat} (h:k ≤ xs.length):T4 xs none (some (k:Int)) = xs.take k:=by
 unfold T4
 rw [HT.sIx_none,HT.sIx_nat,List.drop_zero,Nat.min_eq_left h,Nat.sub_zero]
theorem Z2z {xs:List V} {k:Nat} (h:k ≤ xs.length):T4 xs (some (k:Int)) none = xs.drop k:=by
 unfold T4
 rw [HT.sIx_none,HT.sIx_nat,Nat.min_eq_left h]
 exact List.take_of_length_le (by rw [List.length_drop]; exact Nat.le_refl _)
theorem Z1q (xs:List V):T4 xs none (some 1) = xs.take 1:=by
 unfold T4
 have:HT.sIx xs.length xs.length (some 1) = min 1 xs.length:=HT.sIx_nat _ _ 1
 rw [HT.sIx_none,this,List.drop_zero,Nat.sub_zero]
 by_cases h:1 ≤ xs.length
 ·rw [Nat.min_eq_left h]
 ·match xs,h with
  | [],_=>rfl
  | x :: xs,h=>exact absurd (show 1 ≤ xs.length + 1 by omega) h
inductive Rw where
 | pat (h:Hd) | tup (xs:List V)
abbrev Cd:=Nat→List Rw
def Z01:List Cd→Cd
 | [],_=>[]
 | c :: cs,b=>c b ++ Z01 cs (b + (c b).length)
def Xr (g:List V):List Cd→Cd
 | [],_=>[]
 | [c],b=>c b
 | c :: d :: cs,b=>.tup [.str "try",.int ((b:Int) + (c (b + 1)).length + 2)] :: (c (b + 1) ++ .tup g :: Xr g (d :: cs) (b + (c (b + 1)).length + 2))
def goes:List Cd→Nat→Nat→List Nat
 | [],_,_=>[]
 | [_],_,_=>[]
 | c :: d :: cs,b,s=>(s + 1 + (c (b + 1)).length) :: goes (d :: cs) (b + (c (b + 1)).length + 2) (s + (c (b + 1)).length + 2)
def Jo (lo:Int) (hi:Option Int) (how:Str) (c:Cd):Cd:=fun b =>
 .tup [.str "turns"] :: .tup [.str "turn",.int lo,Z3k hi,.str how,.int ((b:Int) + 3 + (c (b + 2)).length)] :: (c (b + 2) ++ [.tup [.str "next",.int lo,.int ((b:Int) + 1)]])
def U4 (lo:Int) (hi:Option Int) (how:How) (c:Cd):Cd:=match how with
 | .keep=>fun b=>.tup [.str "once"] :: (Jo lo hi "much" c (b + 1) ++ [.tup [.str "kept"]])
 | h=>Jo lo hi h.text c
def Za6 (k:Int) (y n:Cd):Cd:=fun b =>
 .tup [.str "have",.int k,.int ((b:Int) + (y (b + 1)).length + 2)] :: (y (b + 1) ++ .tup [.str "go",.int ((b:Int) + (y (b + 1)).length + 2 + (n (b + (y (b + 1)).length + 2)).length)] :: n (b + (y (b + 1)).length + 2))
def Lk.last:Lk→Str
 | .once => "kept" | .ahead => "peeked" | .behind => "peeked" | .notahead => "barred" | .notbehind => "barred"
def Lk.leans:Lk→Bool
 | .behind=>true | .notbehind=>true | _=>false
def Lk.inner (l:Lk) (c:Cd):Cd:=fun b=>match l.leans with
 | true=>.tup [.str "lean"] :: (c (b + 2) ++ [.tup [.str "here"]])
 | false=>c (b + 1)
def U1 (l:Lk) (c:Cd):Cd:=fun b=>(match l.last == "barred" with
 | true=>Rw.tup [.str "bar",.int ((b:Int) + 2 + (l.inner c b).length)]
 | false=>.tup [.str "once"]) :: (l.inner c b ++ [.tup [.str l.last]])
def hd0 (cs:List Cd):Cd:=cs.headD fun _=>[]
def goV (z:Int):List V:=[.str "go",.int z]
def orC (cs:List Cd):Cd:=fun b=>Xr (goV ((b:Int) + (Xr [] cs b).length)) cs b
def Hd.code (h:Hd) (cs:List Cd):Cd:=match h with
 | .row=>Z01 cs
 | .alt=>orC cs
 | .times lo hi how=>U4 lo hi how (hd0 cs)
 | .grp k=>fun b=>.tup [.str "open"] :: (hd0 cs (b + 1) ++ [.tup [.str "close",.int k]])
 | .hav k=>Za6 k (hd0 cs) (hd0 cs.tail)
 | .look l=>U1 l (hd0 cs)
 | h=>fun _=>[.pat h]
mutual
def Pat.code:Pat→Cd
 | .node h ks=>h.code (Z7y ks)
def Z7y:List Pat→List Cd
 | []=>[]
 | k :: ks=>k.code :: Z7y ks
end
theorem Z6b (ks:List Pat):Z7y ks = ks.map Pat.code:=by
 induction ks with
 | nil=>rfl
 | cons k ks ih=>rw [Z7y,ih]; rfl
theorem Uz (h:Hd) (ks:List Pat):(Pat.node h ks).code = h.code (ks.map Pat.code):=by rw [Pat.code,Z6b]
def Zcx (c:Cd) (n:Nat):Prop:=∀ b,(c b).length + 2 ≤ 7 * n
theorem Jl (g:List V):∀ (cs:List Cd) (b:Nat),(Xr g cs b).length = (Xr [] cs b).length
 | [],_=>rfl
 | [_],_=>rfl
 | c :: d :: cs,b=>by
  have:=Jl g (d :: cs) (b + (c (b + 1)).length + 2)
  simp only [Xr,List.length_cons,List.length_append] at this ⊢
  omega
theorem Z9j (cs:List Cd) (b:Nat):(orC cs b).length = (Xr [] cs b).length:=Jl _ cs b
theorem V8 (lo:Int) (hi:Option Int) (how:Str) (c:Cd) (b:Nat):(Jo lo hi how c b).length = (c (b + 2)).length + 3:=by simp [Jo]
theorem Z7q (l:Lk) (c:Cd) (b:Nat):∃ j,(l.inner c b).length ≤ (c j).length + 2:=by
 unfold Lk.inner
 cases l.leans
 ·exact ⟨_,Nat.le_add_right _ 2⟩
 ·exact ⟨b + 2,by simp⟩
theorem Ue:∀ {ks:List Pat},(∀ k ∈ ks,Zcx k.code k.size)→∀ b,(Z01 (ks.map Pat.code) b).length ≤ 7 * Y7 ks
 | [],_,b=>by simp [Z01,Y7]
 | k :: ks,h,b=>by
  have h1:=h k (by simp) b
  have h2:=Ue (ks:=ks) (fun z hz=>h z (by simp [hz])) (b + (k.code b).length)
  rw [List.map_cons,Z01,List.length_append,Y7]
  omega
theorem Z0w:∀ {ks:List Pat},(∀ k ∈ ks,Zcx k.code k.size)→∀ b,(Xr [] (ks.map Pat.code) b).length ≤ 7 * Y7 ks
 | [],_,b=>by simp [Xr,Y7]
 | [k],h,b=>by
  have h1:=h k (by simp) b
  simp only [List.map_cons,List.map_nil,Xr,Y7]
  omega
 | k :: l :: ks,h,b=>by
  have h1:=h k (by simp) (b + 1)
  have h2:=Z0w (ks:=l :: ks) (fun z hz=>h z (by simp at hz; simp [hz])) (b + (k.code (b + 1)).length + 2)
  simp only [List.map_cons,Xr,List.length_cons,List.length_append] at h2 ⊢
  rw [Y7]
  omega
theorem Z2r {ks:List Pat} (h:∀ k ∈ ks,Zcx k.code k.size):∀ b,(hd0 (ks.map Pat.code) b).length + 2 ≤ 7 * Y7 ks + 2:=fun b=>by
 cases ks with
 | nil=>simp [hd0]
 | cons k ks =>
  have h1:=h k (by simp) b
  simp only [hd0,List.map_cons,List.headD_cons,Y7]
  omega
mutual
theorem Pat.code_fits:∀ p:Pat,Zcx p.code p.size
 | .node h ks=>by
  have ih:=Tt ks
  intro b
  rw [Uz,Yr]
  have hh:=Z2r ih
  cases h with
  | row=>have:=Ue ih b; show (Z01 _ b).length + 2 ≤ _; omega
  | alt=>have:=Z0w ih b; show (orC _ b).length + 2 ≤ _; rw [Z9j]; omega
  | times lo hi how =>
   show (U4 lo hi how (hd0 (ks.map Pat.code)) b).length + 2 ≤ _
   cases how with
   | keep =>
    have:=hh (b + 1 + 2)
    simp only [U4,List.length_cons,List.length_append,V8,List.length_nil]
    omega
   | much=>have:=hh (b + 2); simp only [U4,V8]; omega
   | little=>have:=hh (b + 2); simp only [U4,V8]; omega
  | grp k =>
   have:=hh (b + 1)
   simp only [Hd.code,List.length_cons,List.length_append,List.length_nil]
   omega
  | hav k =>
   show (Za6 k _ _ b).length + 2 ≤ _
   cases ks with
   | nil=>simp [Za6,hd0,Y7]
   | cons y r =>
    have h1:=ih y (by simp) (b + 1)
    have h2:=Z2r (ks:=r) (fun z hz=>ih z (by simp [hz]))
    have h3:=h2 (b + (y.code (b + 1)).length + 2)
    simp only [Za6,List.map_cons,List.length_cons,List.length_append,Y7,List.tail_cons,hd0,List.headD_cons] at h3 ⊢
    omega
  | look l =>
   show (U1 l _ b).length + 2 ≤ _
   obtain ⟨j,hj⟩:=Z7q l (hd0 (ks.map Pat.code)) b
   have:=hh j
   simp only [U1,List.length_cons,List.length_append,List.length_nil]
   omega
  | _=>simp [Hd.code]; omega
theorem Tt:∀ (ks:List Pat),∀ k ∈ ks,Zcx k.code k.size
 | [],k,hk=>by simp at hk
 | k :: ks,z,hz=>by
  rcases List.mem_cons.mp hz with e | hz
  ·rw [e]; exact Pat.code_fits k
  ·exact Tt ks z hz
end
def Vb (G:Rw) (ps:List Nat) (l:List Rw):List Rw:=ps.foldl (fun l p=>l.set p G) l
theorem Z8y (a b:List Rw) (x G:Rw) (p:Nat) (h:p = a.length):(a ++ x :: b).set p G = a ++ G :: b:=by
 subst h
 simp
theorem U9 (g G:List V):∀ (cs:List Cd) (b:Nat) (pre:List Rw),Vb (.tup G) (goes cs b pre.length) (pre ++ Xr g cs b) = pre ++ Xr G cs b
 | [],b,pre=>rfl
 | [c],b,pre=>rfl
 | c :: d :: cs,b,pre=>by
  have ih:=U9 g G (d :: cs) (b + (c (b + 1)).length + 2) (pre ++ .tup [.str "try",.int ((b:Int) + (c (b + 1)).length + 2)] :: (c (b + 1) ++ [.tup G]))
  have e:(pre ++ Rw.tup [.str "try",.int ((b:Int) + (c (b + 1)).length + 2)]   :: (c (b + 1) ++ [Rw.tup G])).length = pre.length + (c (b + 1)).length + 2:=by simp; omega
  rw [e] at ih
  simp only [goes,Xr]
  show Vb (.tup G) (goes (d :: cs) _ _) ((pre ++ _ :: (c (b + 1) ++ .tup g :: Xr g (d :: cs) _)).set _ _) = _
  rw [show pre ++ Rw.tup [.str "try",.int ((b:Int) + (c (b + 1)).length + 2)] :: (c (b + 1) ++ .tup g :: Xr g (d :: cs) (b + (c (b + 1)).length + 2)) = (pre ++ .tup [.str "try",.int ((b:Int) + (c (b + 1)).length + 2)] :: c (b + 1)) ++ .tup g :: Xr g (d :: cs) (b + (c (b + 1)).length + 2) by simp]
  rw [Z8y _ _ _ _ _ (by simp; omega)]
  simpa using ih
theorem Z66:∀ (cs:List Cd) (b s:Nat),∀ p ∈ goes cs b s,s ≤ p∧p < s + (Xr [] cs b).length
 | [],_,_,p,h=>by simp [goes] at h
 | [_],_,_,p,h=>by simp [goes] at h
 | c :: d :: cs,b,s,p,h=>by
  simp only [goes] at h
  simp only [Xr,List.length_cons,List.length_append]
  rcases List.mem_cons.mp h with e | h
  ·omega
  ·have:=Z66 (d :: cs) _ _ p h
   omega
theorem Td (G:Rw):∀ (ps:List Nat) (l:List Rw),(Vb G ps l).length = l.length
 | [],_=>rfl
 | p :: ps,l=>by
  show (Vb G ps (l.set p G)).length = _
  rw [Td,List.length_set]
def RowAt (H:Hp) (v:V):Rw→Prop
 | .pat h=>PatAt H 1 v (.node h [])
 | .tup xs=>∃ a,v = .ref a∧H a = some (.tup xs)
theorem RowAt.mono {H H':Hp} (t:∀ b xs,H b = some (.tup xs)→H' b = some (.tup xs)) {v:V}:∀ {r:Rw},RowAt H v r→RowAt H' v r
 | .pat _,h=>PatAt.mono t h
 | .tup _,⟨a,e,q⟩=>⟨a,e,t _ _ q⟩
theorem Y4 {H H':Hp} (t:∀ b xs,H b = some (.tup xs)→H' b = some (.tup xs)) {vs:List V} {rs:List Rw} (h:Paired (RowAt H) vs rs):Paired (RowAt H') vs rs:=Paired.mapP h fun _ _ q=>q.mono t
theorem Th {α β:Type} {F:α→β→Prop} {x:α} {y:β} (q:F x y):∀ {xs:List α} {ys:List β} (i:Nat),Paired F xs ys→Paired F (xs.set i x) (ys.set i y)
 | _,_,_,.nil=>.nil
 | _,_,0,.cons _ t=>.cons q t
 | _,_,i + 1,.cons r t=>.cons r (Th q i t)
theorem Zr {α β:Type} {F:α→β→Prop}:∀ {xs xs':List α} {ys ys':List β},Paired F xs ys→Paired F xs' ys'→Paired F (xs ++ xs') (ys ++ ys')
 | _,_,_,_,.nil,s=>s
 | _,_,_,_,.cons r t,s=>.cons r (Zr t s)
def Vf (g:List V):List Cd→Cd
 | [],_=>[]
 | c :: cs,b=>.tup [.str "try",.int ((b:Int) + (c (b + 1)).length + 2)] :: (c (b + 1) ++ .tup g :: Vf g cs (b + (c (b + 1)).length + 2))
def Z17:List Cd→Nat→Nat→List Nat
 | [],_,_=>[]
 | c :: cs,b,s=>(s + 1 + (c (b + 1)).length) :: Z17 cs (b + (c (b + 1)).length + 2) (s + (c (b + 1)).length + 2)
theorem Z0v (g:List V):∀ (cs:List Cd) (d:Cd) (b:Nat),Xr g (cs ++ [d]) b = Vf g cs b ++ d (b + (Vf g cs b).length)
 | [],d,b=>rfl
 | [c],d,b=>by
  simp only [List.cons_append,List.nil_append,Xr,Vf,List.append_assoc,List.length_cons,List.length_append,List.length_nil]
  rw [show b + (c (b + 1)).length + 2 = b + ((c (b + 1)).length + (0 + 1) + 1) by omega]
 | c :: e :: cs,d,b=>by
  have ih:=Z0v g (e :: cs) d (b + (c (b + 1)).length + 2)
  rw [List.cons_append] at ih
  have e1:Vf g (c :: e :: cs) b = .tup [.str "try",.int ((b:Int) + (c (b + 1)).length + 2)] :: (c (b + 1) ++ .tup g :: Vf g (e :: cs) (b + (c (b + 1)).length + 2)):=rfl
  rw [List.cons_append,List.cons_append,Xr,ih,e1]
  generalize Vf g (e :: cs) (b + (c (b + 1)).length + 2) = Z
  simp only [List.cons_append,List.append_assoc,List.length_cons,List.length_append]
  rw [show b + (c (b + 1)).length + 2 + Z.length = b + ((c (b + 1)).length + (Z.length + 1) + 1) by omega]
theorem Z0m:∀ (cs:List Cd) (d:Cd) (b s:Nat),goes (cs ++ [d]) b s = Z17 cs b s
 | [],d,b,s=>rfl
 | [c],d,b,s=>rfl
 | c :: e :: cs,d,b,s=>by
  have ih:=Z0m (e :: cs) d (b + (c (b + 1)).length + 2) (s + (c (b + 1)).length + 2)
  rw [List.cons_append] at ih
  rw [List.cons_append,List.cons_append,goes,ih]
  rfl
theorem Z05 (g:List V):∀ (cs:List Cd) (c:Cd) (b m:Nat),m = b + (Vf g cs b).length→Vf g (cs ++ [c]) b = Vf g cs b ++ (.tup [.str "try",.int ((m:Int) + (c (m + 1)).length + 2)] :: (c (m + 1) ++ [.tup g]))
 | [],c,b,m,h=>by rw [show m = b from h]; rfl
 | d :: cs,c,b,m,h=>by
  have ih:=Z05 g cs c (b + (d (b + 1)).length + 2) m (by rw [h]; simp only [Vf,List.length_cons,List.length_append]; omega)
  rw [List.cons_append,Vf,ih,Vf]
  simp
theorem Z04:∀ (cs:List Cd) (c:Cd) (b s m:Nat),m = b + (Vf [] cs b).length→Z17 (cs ++ [c]) b s = Z17 cs b s ++ [s + (Vf [] cs b).length + 1 + (c (m + 1)).length]
 | [],c,b,s,m,h=>by rw [show m = b from h]; simp [Z17,Vf]
 | d :: cs,c,b,s,m,h=>by
  have ih:=Z04 cs c (b + (d (b + 1)).length + 2) (s + (d (b + 1)).length + 2) m (by rw [h]; simp only [Vf,List.length_cons,List.length_append]; omega)
  rw [List.cons_append,Z17,ih,Z17]
  simp only [List.cons_append,Vf,List.length_cons,List.length_append]
  rw [show s + (d (b + 1)).length + 2 + (Vf [] cs (b + (d (b + 1)).length + 2)).length + 1 + (c (m + 1)).length = s + ((d (b + 1)).length + ((Vf [] cs (b + (d (b + 1)).length + 2)).length + 1) + 1) + 1 + (c (m + 1)).length by omega]
theorem Ug:∀ (ks:List Pat) (b:Nat),(Vf [] (ks.map Pat.code) b).length ≤ 7 * Y7 ks
 | [],b=>by simp [Vf,Y7]
 | k :: ks,b=>by
  have h1:=Pat.code_fits k (b + 1)
  have h2:=Ug ks (b + (k.code (b + 1)).length + 2)
  simp only [List.map_cons,Vf,List.length_cons,List.length_append] at h2 ⊢
  rw [Y7]
  omega
theorem Z7u (cs:List Cd) (b:Nat):∀ p ∈ goes cs b 0,p < (Xr [] cs b).length:=fun p h=>by have:=Z66 cs b 0 p h; omega
abbrev itself:List V:=[.str "sign",.str "any",.str "in",.str "out",.str "begin",.str "end",.str "again"]
abbrev leaning:List V:=[.str "behind",.str "notbehind"]
abbrev lastRows:List (Key × V):=[(.inr "once",.str "kept"),(.inr "ahead",.str "peeked"),(.inr "behind",.str "peeked"),(.inr "notahead",.str "barred"),(.inr "notbehind",.str "barred")]
def Wd.leaf:Wd→Bool
 | .sign=>true | .any=>true | .inn=>true | .out=>true | .beg=>true | .fin=>true | .again=>true | _=>false
theorem Z6l (h:Hd):inV (.str h.word) itself = h.wd.leaf:=by rw [h.word_wd]; cases h.wd <;> decide +kernel
theorem Z5o (l:Lk):inV (.str l.text) leaning = l.leans:=by cases l <;> decide +kernel
theorem Z5r (l:Lk):Z4a lastRows (Sum.inr l.text) = some (.str l.last):=by cases l <;> decide +kernel
theorem Z5p {h:Hd} (e:h.wd.leaf = true) (cs:List Cd) (b:Nat):h.code cs b = [.pat h]:=by
 cases h with
 | look l=>cases l <;> exact absurd e (by decide)
 | row=>exact absurd e (by decide)
 | alt=>exact absurd e (by decide)
 | times _ _ _=>exact absurd e (by simp [Hd.wd,Wd.leaf])
 | grp _=>exact absurd e (by simp [Hd.wd,Wd.leaf])
 | hav _=>exact absurd e (by simp [Hd.wd,Wd.leaf])
 | _=>rfl
theorem PatAt.leafy {H:Hp} {n:Nat} {v:V} {h:Hd} {ks:List Pat} (p:PatAt H (n + 1) v (.node h ks)) (e:h.wd.leaf = true):PatAt H 1 v (.node h []):=by
 obtain ⟨a,kv,rfl,l,k⟩:=p
 have z:kv = []:=by
  cases h with
  | look lk=>cases lk <;> exact absurd e (by decide)
  | row=>exact absurd e (by decide)
  | alt=>exact absurd e (by decide)
  | times _ _ _=>exact absurd e (by simp [Hd.wd,Wd.leaf])
  | grp _=>exact absurd e (by simp [Hd.wd,Wd.leaf])
  | hav _=>exact absurd e (by simp [Hd.wd,Wd.leaf])
  | again n=>exact l.2.1
  | _=>exact l.1
 subst z
 exact ⟨a,[],rfl,l,.nil⟩
theorem big {n:Nat} (h:n ≤ 1000000):n < sizeLine:=Nat.lt_of_le_of_lt h (by rw [sizeLine_eq]; decide)
theorem V4 {n j:Nat} (h:j < n):ixN n (j:Int) = some j:=by
 unfold ixN
 rw [if_pos (by omega),if_pos (by omega)]
 simp
theorem Xi {H:Hp} {r t:Addr} {xs:List V} {o:HO} (hr:H r = some (.lst xs)) (ht:H t = none):(upd H t o) r = some (.lst xs):=by rw [Zl (Z7 hr ht)]; exact hr
theorem W8 {H:Hp} {r t:Addr} {xs zs:List V} {o:HO} (hr:H r = some (.lst xs)) (ht:H t = none):Gro [r] H (upd (upd H t o) r (.lst zs)):=(Gro.new ht _).trans (Gro.set (by simp) (Xi hr ht) _)
theorem W7 {H:Hp} {r t:Addr} {xs ys zs:List V} (hr:H r = some (.lst xs)) (ht:H t = none):(upd (upd H t (.tup ys)) r (.lst zs)) t = some (.tup ys):=by rw [Zl (Ne.symm (Z7 hr ht))]; exact Z3
theorem Jw {a b:List V} {x y:V} {p:Nat} (h:p = a.length):(a ++ x :: b).set p y = a ++ y :: b:=by subst h; simp
theorem Z7w {kv:List V} (h:1 ≤ kv.length):T4 kv none (some (-1)) = kv.take (kv.length - 1)∧¬ (HT.sIx kv.length 0 none = 0∧HT.sIx kv.length kv.length (some (-1)) = kv.length):=by
 have e0:HT.sIx kv.length 0 none = 0:=rfl
 have e1:HT.sIx kv.length kv.length (some (-1)) = kv.length - 1:=by
  unfold HT.sIx
  simp
  omega
 refine ⟨?_,fun z=>?_⟩
 ·unfold T4
  rw [e0,e1]
  simp
 ·rw [e1] at z
  omega
theorem Zad {kv:List V} {d:V} (h:kv.getLast? = some d):atI kv (-1) = some d:=by
 have hl:kv ≠ []:=fun z=>by rw [z] at h; simp at h
 have hp:=List.length_pos_iff.mpr hl
 unfold atI ixN
 rw [if_neg (by decide),if_pos (by omega)]
 rw [List.getLast?_eq_getElem?] at h
 show kv[((-1:Int) + kv.length).toNat]? = some d
 rw [show ((-1:Int) + kv.length).toNat = kv.length - 1 by omega]
 exact h
def chr (t:Str) (i:Nat):Str:=⟨#[t.cps.toList.getD i 0]⟩
def Yi (rs:List (Str × Str)) (c:Str):Bool:=rs.any fun r=>!decide (c.cps.toList < r.1.cps.toList) && !decide (r.2.cps.toList < c.cps.toList)
def Hd.one:Hd→Bool
 | .sign _=>true | .any=>true | .inn _=>true | .out _=>true | _=>false
def Hd.eats (h:Hd) (c:Str):Bool:=match h with
 | .sign s=>decide (V.str s = V.str c) | .any=>true | .inn rs=>Yi rs c | .out rs=>!Yi rs c | _=>false
def Y8 (h:Hd) (t:Str) (i:Int):Bool:=if i < t.length then h.eats (chr t i.toNat) else false
theorem Z6d {t:Str} {i:Int} (h0:0 ≤ i) (h1:i < t.length):atI t.cps.toList i = some (t.cps.toList.getD i.toNat 0):=by
 have hl:i.toNat < t.cps.toList.length:=by
  have:t.cps.toList.length = t.length:=by simp [Str.length]
  omega
 have:=Xy (xs:=t.cps.toList) (j:=i.toNat) (v:=t.cps.toList.getD i.toNat 0) (by rw [List.getD_eq_getElem?_getD,List.getElem?_eq_getElem hl]; rfl)
 rw [Int.toNat_of_nonneg h0] at this
 exact this
abbrev En:=Option (Nat × Nat)
abbrev Gs:=List En
abbrev Hl:=List (Nat × Nat)
abbrev Ch:=Nat × Nat × Gs × Hl
abbrev Way:=Nat × Gs
inductive Op where
 | pat (h:Hd) | try_ (z:Nat) | go (z:Nat) | have_ (k:Int) (z:Nat) | turns | open_ | close (k:Int) | turn (lo:Int) (hi:Option Int) (how:How) (z:Nat) | next (lo:Int) (z:Nat)
 | once | kept | peeked | bar (z:Nat) | barred | lean | here | found
def Op.rw:Op→Rw
 | .pat h=>.pat h
 | .try_ z=>.tup [.str "try",.int z]
 | .go z=>.tup [.str "go",.int z]
 | .have_ k z=>.tup [.str "have",.int k,.int z]
 | .turns=>.tup [.str "turns"]
 | .open_=>.tup [.str "open"]
 | .close k=>.tup [.str "close",.int k]
 | .turn lo hi how z=>.tup [.str "turn",.int lo,Z3k hi,.str how.text,.int z]
 | .next lo z=>.tup [.str "next",.int lo,.int z]
 | .once=>.tup [.str "once"]
 | .kept=>.tup [.str "kept"]
 | .peeked=>.tup [.str "peeked"]
 | .bar z=>.tup [.str "bar",.int z]
 | .barred=>.tup [.str "barred"]
 | .lean=>.tup [.str "lean"]
 | .here=>.tup [.str "here"]
 | .found=>.tup [.str "found"]
structure Cg where
 r:Nat
 i:Nat
 g:Gs
 h:Hl
 cs:List Ch
inductive Cf where
 | run (c:Cg) | ended
def bk (cs:List Ch):Cf:=match cs.getLast? with
 | none=>.ended
 | some q=>.run ⟨q.1,q.2.1,q.2.2.1,q.2.2.2,cs.dropLast⟩
theorem Xx (cs:List Ch) (q:Ch):bk (cs ++ [q]) = .run ⟨q.1,q.2.1,q.2.2.1,q.2.2.2,cs⟩:=by
 unfold bk
 rw [List.getLast?_append,List.dropLast_concat]
 rfl
def ent (g:Gs) (k:Int):En:=(g.getD (k - 1).toNat none)
def put (g:Gs) (k:Int) (a b:Nat):Gs:=g.take (k - 1).toNat ++ [some (a,b)] ++ g.drop k.toNat
def Xq (hi:Option Int) (n:Nat):Bool:=match hi with
 | none=>true
 | some h=>decide ((n:Int) < h)
def Op.act (t:Str):Op→Cg→Cf
 | .pat .beg,c=>if c.i = 0 then .run c else bk c.cs
 | .pat .fin,c=>if c.i = t.length then .run c else bk c.cs
 | .pat (.again k),c=>match ent c.g k with
  | none=>bk c.cs
  | some p=>if sub t c.i (c.i + (p.2 - p.1)) = sub t p.1 p.2 then .run { c with i:=c.i + (p.2 - p.1) } else bk c.cs
 | .pat h,c=>if Y8 h t c.i = true then .run { c with i:=c.i + 1 } else bk c.cs
 | .try_ z,c=>.run { c with cs:=c.cs ++ [(z,c.i,c.g,c.h)] }
 | .go z,c=>.run { c with r:=z }
 | .have_ k z,c=>match ent c.g k with
  | none=>.run { c with r:=z }
  | some _=>.run c
 | .turns,c=>.run { c with h:=(0,c.i) :: c.h }
 | .open_,c=>.run { c with h:=(0,c.i) :: c.h }
 | .close k,c=>match c.h with
  | []=>.ended
  | p :: h=>.run { c with h:=h,g:=put c.g k p.2 c.i }
 | .turn lo hi how z,c=>match c.h with
  | []=>.ended
  | p :: h=>if Xq hi p.1 = true then
    (if lo ≤ p.1 then (match how with
     | .little=>.run ⟨z,c.i,c.g,h,c.cs ++ [(c.r,c.i,c.g,(p.1,c.i) :: h)]⟩
     | _=>.run ⟨c.r,c.i,c.g,(p.1,c.i) :: h,c.cs ++ [(z,c.i,c.g,h)]⟩)
    else .run ⟨c.r,c.i,c.g,(p.1,c.i) :: h,c.cs⟩)
   else if lo ≤ p.1 then .run ⟨z,c.i,c.g,h,c.cs⟩ else bk c.cs
 | .next lo z,c=>match c.h with
  | []=>.ended
  | p :: h=>if lo ≤ p.1∧c.i = p.2 then bk c.cs else .run ⟨z,c.i,c.g,(p.1 + 1,p.2) :: h,c.cs⟩
 | .once,c=>.run { c with h:=(c.cs.length,c.i) :: c.h }
 | .kept,c=>match c.h with
  | []=>.ended
  | p :: h=>.run { c with h:=h,cs:=c.cs.take p.1 }
 | .peeked,c=>match c.h with
  | []=>.ended
  | p :: h=>.run { c with i:=p.2,h:=h,cs:=c.cs.take p.1 }
 | .bar z,c=>.run { c with h:=(c.cs.length,c.i) :: c.h,cs:=c.cs ++ [(z,c.i,c.g,c.h)] }
 | .barred,c=>match c.h with
  | []=>.ended
  | p :: _=>bk (c.cs.take p.1)
 | .lean,c=>if 0 < c.i then .run { c with cs:=c.cs ++ [(c.r - 1,c.i - 1,c.g,c.h)] } else .run c
 | .here,c=>match c.h with
  | []=>.ended
  | p :: _=>if c.i = p.2 then .run c else bk c.cs
 | .found,c=>.run c
def Op.need (n:Nat) (c:Cg):Op→Prop
 | .close k=>(1 ≤ k∧k ≤ n)∧c.h ≠ []
 | .turn _ _ _ _=>c.h ≠ []
 | .next _ _=>c.h ≠ []
 | .kept=>c.h ≠ []
 | .peeked=>c.h ≠ []
 | .barred=>c.h ≠ []
 | .here=>c.h ≠ []
 | .pat (.again k)=>1 ≤ k∧k ≤ n
 | .have_ k _=>1 ≤ k∧k ≤ n
 | .found=>False
 | _=>True
structure GOk (t:Str) (n:Nat) (g:Gs):Prop where
 len:g.length = n
 ok:∀ x y,some (x,y) ∈ g→x ≤ y∧y ≤ t.length
structure Lv (es:List Op) (t:Str) (n:Nat) (c:Cg):Prop where
 r:c.r < es.length
 i:c.i ≤ t.length
 g:GOk t n c.g
 op:(es.getD c.r .found).need n c
def step (es:List Op) (t:Str):Cf→Cf
 | .ended=>.ended
 | .run c=>(es.getD c.r .found).act t { c with r:=c.r + 1 }
def run (es:List Op) (t:Str):Nat→Cf→Cf
 | 0,M=>M
 | k + 1,M=>step es t (run es t k M)
theorem Ud (es:List Op) (t:Str) (a:Nat):∀ (b:Nat) (M:Cf),run es t (a + b) M = run es t b (run es t a M)
 | 0,M=>rfl
 | b + 1,M=>by
  show step es t (run es t (a + b) M) = step es t (run es t b (run es t a M))
  rw [Ud es t a b M]
structure Rc (es:List Op) (t:Str) (n:Nat) (M:Cf) (k:Nat) (M':Cf):Prop where
 live:∀ j,j < k→∃ c,run es t j M = .run c∧Lv es t n c
 eq:run es t k M = M'
section
variable {es:List Op} {t:Str} {n:Nat}
theorem Rc.refl {M:Cf}:Rc es t n M 0 M:=⟨fun j h=>absurd h (by omega),rfl⟩
theorem Rc.trans {M M1 M2:Cf} {a b:Nat} (h1:Rc es t n M a M1) (h2:Rc es t n M1 b M2):Rc es t n M (a + b) M2:=by
 refine ⟨fun j hj=>?_,by rw [Ud,h1.eq,h2.eq]⟩
 by_cases h:j < a
 ·exact h1.live j h
 ·have:=h2.live (j - a) (by omega)
  rw [← h1.eq,← Ud,show a + (j - a) = j by omega] at this
  exact this
theorem Rc.one {c:Cg} {M:Cf} {o:Op} (ho:es[c.r]? = some o) (hi:c.i ≤ t.length) (hg:GOk t n c.g) (hn:o.need n c) (e:o.act t { c with r:=c.r + 1 } = M):Rc es t n (.run c) 1 M:=by
 have hd:es.getD c.r .found = o:=by rw [List.getD_eq_getElem?_getD,ho]; rfl
 refine ⟨fun j hj=>?_,?_⟩
 ·rw [show j = 0 by omega]
  exact ⟨c,rfl,(List.getElem?_eq_some_iff.mp ho).1,hi,hg,by rw [hd]; exact hn⟩
 ·show (es.getD c.r .found).act t _ = M
  rw [hd]
  exact e
inductive Yl (es:List Op) (t:Str) (n:Nat) (e:Nat) (h:Hl) (cs:List Ch):Cf→List Way→Nat→Prop where
 | nil {M:Cf} {j k:Nat} (r:Rc es t n M j (bk cs)) (hk:j ≤ k):Yl es t n e h cs M [] k
 | cons {M:Cf} {j k k':Nat} {w:Way} {ws:List Way} {xs:List Ch} (r:Rc es t n M j (.run ⟨e,w.1,w.2,h,cs ++ xs⟩)) (y:Yl es t n e h cs (bk (cs ++ xs)) ws k') (hk:j + k' ≤ k):Yl es t n e h cs M (w :: ws) k
variable {e:Nat} {h:Hl} {cs:List Ch}
theorem Yl.mono {M:Cf} {ws:List Way} {k k':Nat} (y:Yl es t n e h cs M ws k) (hk:k ≤ k'):Yl es t n e h cs M ws k':=by
 cases y with
 | nil r h1=>exact .nil r (by omega)
 | cons r y h1=>exact .cons r y (by omega)
theorem Yl.pre {M M':Cf} {ws:List Way} {j k:Nat} (r:Rc es t n M j M') (y:Yl es t n e h cs M' ws k):Yl es t n e h cs M ws (j + k):=by
 cases y with
 | nil r' h1=>exact .nil (r.trans r') (by omega)
 | cons r' y h1=>exact .cons (r.trans r') y (by omega)
theorem Yl.one {w:Way} {xs:List Ch} (hx:xs = []):Yl es t n e h cs (.run ⟨e,w.1,w.2,h,cs ++ xs⟩) [w] 0:=by
 subst hx
 refine .cons (xs:=[]) (j:=0) (k':=0) Rc.refl (.nil (j:=0) ?_ (Nat.le_refl _)) (Nat.le_refl _)
 rw [List.append_nil]
 exact Rc.refl
theorem Yl.app {M:Cf} {xs:List Ch} {ws1 ws2:List Way} {k1 k2:Nat} (y1:Yl es t n e h (cs ++ xs) M ws1 k1) (y2:Yl es t n e h cs (bk (cs ++ xs)) ws2 k2):Yl es t n e h cs M (ws1 ++ ws2) (k1 + k2):=by
 induction y1 with
 | nil r hk=>exact (y2.pre r).mono (by omega)
 | cons r y hk ih =>
  rename_i M j k k' w ws xs'
  rw [List.append_assoc] at r ih
  have r':Rc es t n M j (.run ⟨e,w.1,w.2,h,cs ++ (xs ++ xs')⟩):=r
  have ih':Yl es t n e h cs (bk (cs ++ (xs ++ xs'))) (ws ++ ws2) (k' + k2):=ih
  exact .cons r' ih' (by omega)
theorem Yl.map1 {M:Cf} {ws:List Way} {k e2:Nat} {h2:Hl} {f:Way→Way} (y:Yl es t n e h cs M ws k) (hf:∀ w ∈ ws,∀ xs,Rc es t n (.run ⟨e,w.1,w.2,h,cs ++ xs⟩) 1 (.run ⟨e2,(f w).1,(f w).2,h2,cs ++ xs⟩)) :
  Yl es t n e2 h2 cs M (ws.map f) (k + ws.length):=by
 induction y with
 | nil r hk=>exact .nil r (by simp; omega)
 | cons r y hk ih =>
  rename_i M j k k' w ws xs
  rw [List.map_cons,List.length_cons]
  have ih':=ih fun v hv=>hf v (by simp [hv])
  exact .cons (r.trans (hf w (by simp) xs)) ih' (by omega)
end
def Hd.nm (n:Int):Hd→Prop
 | .grp k=>1 ≤ k∧k ≤ n | .again k=>1 ≤ k∧k ≤ n | .hav k=>1 ≤ k∧k ≤ n | _=>True
mutual
def Pat.nm (n:Int):Pat→Prop
 | .node h ks=>h.nm n∧nmL n ks
def nmL (n:Int):List Pat→Prop
 | []=>True
 | k :: ks=>k.nm n∧nmL n ks
end
theorem Z5k {n:Int}:∀ {ks:List Pat},nmL n ks ↔ ∀ k ∈ ks,k.nm n
 | []=>by simp [nmL]
 | k :: ks=>by rw [nmL,Z5k (ks:=ks)]; simp
theorem nm_node {n:Int} {h:Hd} {ks:List Pat}:(Pat.node h ks).nm n ↔ h.nm n∧∀ k ∈ ks,k.nm n:=by rw [Pat.nm,Z5k]
abbrev Co:=Nat→List Op
def Z46:List Co→Co
 | [],_=>[]
 | c :: cs,b=>c b ++ Z46 cs (b + (c b).length)
def T5 (e:Nat):List Co→Co
 | [],_=>[]
 | [c],b=>c b
 | c :: d :: cs,b=>.try_ (b + (c (b + 1)).length + 2) :: (c (b + 1) ++ .go e :: T5 e (d :: cs) (b + (c (b + 1)).length + 2))
def W4 (lo:Int) (hi:Option Int) (how:How) (c:Co):Co:=fun b=>.turns :: .turn lo hi how (b + 3 + (c (b + 2)).length) :: (c (b + 2) ++ [.next lo (b + 1)])
def Zau (lo:Int) (hi:Option Int) (how:How) (c:Co):Co:=match how with
 | .keep=>fun b=>.once :: (W4 lo hi .much c (b + 1) ++ [.kept])
 | h=>W4 lo hi h c
def Z47 (k:Int) (y n:Co):Co:=fun b=>.have_ k (b + (y (b + 1)).length + 2) :: (y (b + 1) ++ .go (b + (y (b + 1)).length + 2 + (n (b + (y (b + 1)).length + 2)).length) :: n (b + (y (b + 1)).length + 2))
def Z6h (l:Lk) (c:Co):Co:=fun b=>match l.leans with
 | true=>.lean :: (c (b + 2) ++ [.here])
 | false=>c (b + 1)
def Lk.lastO:Lk→Op
 | .once=>.kept | .ahead=>.peeked | .behind=>.peeked | .notahead=>.barred | .notbehind=>.barred
def Lk.bars:Lk→Bool
 | .notahead=>true | .notbehind=>true | _=>false
def Wu (l:Lk) (c:Co):Co:=fun b=>(if l.bars = true then .bar (b + 2 + (Z6h l c b).length) else .once) :: (Z6h l c b ++ [l.lastO])
def hdO (cs:List Co):Co:=cs.headD fun _=>[]
def orO (cs:List Co):Co:=fun b=>T5 (b + (T5 0 cs b).length) cs b
def Hd.ops (h:Hd) (cs:List Co):Co:=match h with
 | .row=>Z46 cs
 | .alt=>orO cs
 | .times lo hi how=>Zau lo hi how (hdO cs)
 | .grp k=>fun b=>.open_ :: (hdO cs (b + 1) ++ [.close k])
 | .hav k=>Z47 k (hdO cs) (hdO cs.tail)
 | .look l=>Wu l (hdO cs)
 | h=>fun _=>[.pat h]
mutual
def Pat.ops:Pat→Co
 | .node h ks=>h.ops (Zd3 ks)
def Zd3:List Pat→List Co
 | []=>[]
 | k :: ks=>k.ops :: Zd3 ks
end
theorem Z74 (ks:List Pat):Zd3 ks = ks.map Pat.ops:=by
 induction ks with
 | nil=>rfl
 | cons k ks ih=>rw [Zd3,ih]; rfl
theorem Wp (h:Hd) (ks:List Pat):(Pat.node h ks).ops = h.ops (ks.map Pat.ops):=by rw [Pat.ops,Z74]
def Same2 (c:Co) (c':Cd):Prop:=∀ b,(c b).map Op.rw = c' b
theorem Same2.len {c:Co} {c':Cd} (h:Same2 c c') (b:Nat):(c' b).length = (c b).length:=by rw [← h b,List.length_map]
theorem Z34 (e e':Nat):∀ (cs:List Co) (b:Nat),(T5 e cs b).length = (T5 e' cs b).length
 | [],_=>rfl
 | [_],_=>rfl
 | c :: d :: cs,b=>by
  have:=Z34 e e' (d :: cs) (b + (c (b + 1)).length + 2)
  simp only [T5,List.length_cons,List.length_append] at this ⊢
  omega
section
variable {ks:List Pat} (ih:∀ k ∈ ks,Same2 k.ops k.code)
include ih
theorem Z6t:Same2 (Z46 (ks.map Pat.ops)) (Z01 (ks.map Pat.code)):=by
 induction ks with
 | nil=>intro b; rfl
 | cons k ks hk =>
  intro b
  have h1:=ih k (by simp)
  have h2:=hk (fun x hx=>ih x (by simp [hx])) (b + (k.ops b).length)
  simp only [List.map_cons,Z46,Z01,List.map_append]
  rw [h1.len b,h2,h1 b]
theorem Z24 (e:Nat):∀ b,(T5 e (ks.map Pat.ops) b).map Op.rw = Xr (goV (e:Int)) (ks.map Pat.code) b:=by
 induction ks with
 | nil=>intro b; rfl
 | cons k ks hk =>
  intro b
  have h1:=ih k (by simp)
  cases ks with
  | nil=>exact h1 b
  | cons l ks =>
   have h2:=hk (fun x hx=>ih x (by simp at hx; simp [hx])) (b + (k.ops (b + 1)).length + 2)
   simp only [List.map_cons] at h2
   simp only [List.map_cons,T5,Xr,List.map_append]
   rw [h1.len (b + 1),h2,h1 (b + 1)]
   simp only [Op.rw,goV]
   congr 1
theorem Z91:Same2 (orO (ks.map Pat.ops)) (orC (ks.map Pat.code)):=by
 intro b
 have hl:(Xr [] (ks.map Pat.code) b).length = (T5 0 (ks.map Pat.ops) b).length:=by
  have:=congrArg List.length (Z24 ih 0 b)
  rw [List.length_map,Jl] at this
  exact this.symm
 unfold orO orC
 rw [Z24 ih,hl]
 congr 2
theorem Z4u:Same2 (hdO (ks.map Pat.ops)) (hd0 (ks.map Pat.code)):=by
 cases ks with
 | nil=>intro b; rfl
 | cons k ks=>exact ih k (by simp)
end
theorem Ub {lo:Int} {hi:Option Int} {how:How} {c:Co} {c':Cd} (h:Same2 c c'):Same2 (W4 lo hi how c) (Jo lo hi how.text c'):=by
 intro b
 simp only [W4,Jo,List.map_cons,List.map_append,List.map_nil,Op.rw]
 rw [h.len (b + 2),h (b + 2)]
 congr 2
theorem Z4t {l:Lk} {c:Co} {c':Cd} (h:Same2 c c'):Same2 (Wu l c) (U1 l c'):=by
 intro b
 have hin:(Z6h l c b).map Op.rw = l.inner c' b:=by
  unfold Z6h Lk.inner
  cases l.leans
  ·exact h _
  ·simp only [List.map_cons,List.map_append,List.map_nil,Op.rw]; rw [h]
 have hil:(l.inner c' b).length = (Z6h l c b).length:=by rw [← hin,List.length_map]
 unfold Wu U1
 rw [List.map_cons,List.map_append,hin,hil]
 cases l <;> simp [Lk.bars,Lk.last,Lk.lastO,Op.rw] <;> first | rfl | omega | skip
mutual
theorem Pat.ops_rw:∀ p:Pat,Same2 p.ops p.code
 | .node h ks=>by
  have ih:=Z59 ks
  rw [Wp,Uz]
  have hh:=Z4u ih
  cases h with
  | row=>exact Z6t ih
  | alt=>exact Z91 ih
  | times lo hi how =>
   cases how with
   | keep =>
    intro b
    have:=Ub (lo:=lo) (hi:=hi) (how:=.much) hh (b + 1)
    show (Op.once :: (W4 lo hi .much _ (b + 1) ++ [.kept])).map Op.rw = _
    rw [List.map_cons,List.map_append,this]
    rfl
   | much=>exact Ub hh
   | little=>exact Ub hh
  | grp k =>
   intro b
   show (Op.open_ :: (hdO _ (b + 1) ++ [.close k])).map Op.rw = _
   rw [List.map_cons,List.map_append,hh (b + 1)]
   rfl
  | hav k =>
   intro b
   have ht:Same2 (hdO (ks.map Pat.ops).tail) (hd0 (ks.map Pat.code).tail):=by
    cases ks with
    | nil=>intro b; rfl
    | cons y r=>exact Z4u fun z hz=>ih z (by simp [hz])
   show (Z47 k _ _ b).map Op.rw = Za6 k _ _ b
   simp only [Z47,Za6,List.map_cons,List.map_append,Op.rw]
   rw [hh.len (b + 1),ht.len,hh (b + 1),ht]
   congr 1
  | look l=>exact Z4t hh
  | _=>intro b; rfl
theorem Z59:∀ ks:List Pat,∀ k ∈ ks,Same2 k.ops k.code
 | [],_,hk=>by simp at hk
 | k :: ks,x,hx=>by
  rcases List.mem_cons.mp hx with h | h
  ·rw [h]
   exact Pat.ops_rw k
  ·exact Z59 ks x h
end
def Sits (es:List Op) (b:Nat) (l:List Op):Prop:=∃ r,es.drop b = l ++ r
theorem Sits.cons {es:List Op} {b:Nat} {x:Op} {l:List Op} (h:Sits es b (x :: l)):es[b]? = some x∧Sits es (b + 1) l:=by
 obtain ⟨r,e⟩:=h
 refine ⟨?_,r,?_⟩
 ·have:(es.drop b)[0]? = some x:=by rw [e]; rfl
  rw [List.getElem?_drop] at this
  exact this
 ·rw [← List.drop_drop,e]
  rfl
theorem Sits.app {es:List Op} {b:Nat} {l l':List Op} (h:Sits es b (l ++ l')):Sits es b l∧Sits es (b + l.length) l':=by
 obtain ⟨r,e⟩:=h
 refine ⟨⟨l' ++ r,by rw [e,List.append_assoc]⟩,r,?_⟩
 rw [← List.drop_drop,e,List.append_assoc,List.drop_left']
 rfl
abbrev Wk:=Pat→Nat→Gs→List Way→Nat→Prop
inductive Ew (W:Wk) (p:Pat):List Way→List Way→Nat→Prop where
 | nil:Ew W p [] [] 0
 | cons {w:Way} {vs us ws:List Way} {N N':Nat} (h:W p w.1 w.2 ws N) (r:Ew W p vs us N'):Ew W p (w :: vs) (ws ++ us) (N + N')
inductive Rx (W:Wk):List Pat→List Way→List Way→Nat→Prop where
 | nil {ws:List Way}:Rx W [] ws ws 0
 | cons {p:Pat} {ks:List Pat} {ws vs us:List Way} {N N':Nat} (h:Ew W p ws vs N) (r:Rx W ks vs us N'):Rx W (p :: ks) ws us (N + N')
inductive Ax (W:Wk) (i:Nat) (g:Gs):List Pat→List Way→Nat→Prop where
 | nil:Ax W i g [] [] 0
 | cons {p:Pat} {ks:List Pat} {ws us:List Way} {N N':Nat} (h:W p i g ws N) (r:Ax W i g ks us N'):Ax W i g (p :: ks) (ws ++ us) (N + N')
inductive Lx (T:Nat→Nat→Gs→List Way→Nat→Prop) (lo:Int) (m i:Nat):List Way→List Way→Nat→Prop where
 | nil:Lx T lo m i [] [] 0
 | go {w:Way} {vs us ws:List Way} {N N':Nat} (c:(m:Int) < lo ∨ i < w.1) (h:T (m + 1) w.1 w.2 ws N) (r:Lx T lo m i vs us N'):Lx T lo m i (w :: vs) (ws ++ us) (N + N')
 | skip {w:Way} {vs us:List Way} {N:Nat} (c:¬ ((m:Int) < lo ∨ i < w.1)) (r:Lx T lo m i vs us N):Lx T lo m i (w :: vs) us N
def Tx (W:Wk) (lo:Int) (hi:Option Int) (how:How) (p:Pat):Nat→Nat→Nat→Gs→List Way→Nat→Prop
 | 0=>fun _ _ _ _ _=>False
 | e + 1=>fun m i g ws N=>∃ on N1,((Xq hi m = true∧∃ vs Na Nb,W p i g vs Na∧Lx (Tx W lo hi how p e) lo m i vs on Nb∧N1 = Na + Nb) ∨ (Xq hi m = false∧on = []∧N1 = 0))∧N = N1 + 1 ∧
  ws = if (m:Int) < lo then on else if how = .little then (i,g) :: on else on ++ [(i,g)]
inductive Bx (W:Wk) (p:Pat) (i:Nat) (g:Gs):Nat→List Way→Nat→Prop where
 | here {k:Nat} {vs:List Way} {N:Nat} (h:W p k g vs N) (c:vs.filter (fun w=>w.1 == i) ≠ []):Bx W p i g k (vs.filter fun w=>w.1 == i) N
 | down {k:Nat} {vs ws:List Way} {N N':Nat} (h:W p (k + 1) g vs N) (c:vs.filter (fun w=>w.1 == i) = []) (r:Bx W p i g k ws N'):Bx W p i g (k + 1) ws (N + N')
 | last {vs:List Way} {N:Nat} (h:W p 0 g vs N) (c:vs.filter (fun w=>w.1 == i) = []):Bx W p i g 0 [] N
def agW (t:Str) (i:Nat) (g:Gs) (k:Int):List Way:=match ent g k with
 | none=>[]
 | some p=>if sub t i (i + (p.2 - p.1)) = sub t p.1 p.2 then [(i + (p.2 - p.1),g)] else []
def Z5l (l:Lk) (i:Nat) (g:Gs) (us:List Way):List Way:=match l with
 | .once=>us.take 1
 | .ahead=>(us.take 1).map fun w=>(i,w.2)
 | .behind=>(us.take 1).map fun w=>(i,w.2)
 | _=>if us.isEmpty = true then [(i,g)] else []
def Wy (t:Str):Nat→Wk
 | 0=>fun _ _ _ _ _=>False
 | d + 1=>fun p i g ws N=>match p with
  | .node .beg _=>ws = (if i = 0 then [(i,g)] else [])∧N = 1
  | .node .fin _=>ws = (if i = t.length then [(i,g)] else [])∧N = 1
  | .node (.again k) _=>ws = agW t i g k∧N = 1
  | .node .row ks=>∃ N',Rx (Wy t d) ks [(i,g)] ws N'∧N = N' + 1
  | .node .alt ks=>ks ≠ []∧∃ N',Ax (Wy t d) i g ks ws N'∧N = N' + 1
  | .node (.times lo hi how) ks=>∃ p e us N',ks = [p]∧Tx (Wy t d) lo hi how p e 0 i g us N'∧N = N' + 1∧ws = if how = .keep then us.take 1 else us
  | .node (.grp k) ks=>∃ p us N',ks = [p]∧Wy t d p i g us N'∧N = N' + 1∧ws = us.map fun w=>(w.1,put w.2 k i w.1)
  | .node (.hav k) ks=>∃ p q N',ks = [p,q]∧Wy t d (if (ent g k).isSome = true then p else q) i g ws N'∧N = N' + 1
  | .node (.look l) ks=>∃ p us N',ks = [p]∧(if l.leans = true then Bx (Wy t d) p i g i us N' else Wy t d p i g us N')∧N = N' + 1∧ws = Z5l l i g us
  | .node h _=>ws = (if Y8 h t i = true then [(i + 1,g)] else [])∧N = 1
structure Gd (t:Str) (n i:Nat) (w:Way):Prop where
 lo:i ≤ w.1
 hi:w.1 ≤ t.length
 g:GOk t n w.2
structure Gw (t:Str) (n i:Nat) (ws:List Way) (N:Nat):Prop where
 all:∀ w ∈ ws,Gd t n i w
 len:ws.length ≤ N
 pos:1 ≤ N
def GW (t:Str) (n:Nat) (W:Wk):Prop:=∀ p i g ws N,p.nm n→i ≤ t.length→GOk t n g→W p i g ws N→Gw t n i ws N
theorem Gd.trans {t:Str} {n i j:Nat} {w:Way} (h:Gd t n j w) (hi:i ≤ j):Gd t n i w:=⟨Nat.le_trans hi h.lo,h.hi,h.g⟩
theorem Z8a {t:Str} {n a b:Nat} {g:Gs} {k:Int} (h:GOk t n g) (h1:1 ≤ k) (h2:k ≤ n) (ab:a ≤ b) (hb:b ≤ t.length):GOk t n (put g k a b):=by
 have hl:=h.len
 refine ⟨?_,fun x y hm=>?_⟩
 ·unfold put
  simp only [List.length_append,List.length_take,List.length_drop,List.length_singleton]
  omega
 ·unfold put at hm
  rcases List.mem_append.mp hm with hm | hm
  ·rcases List.mem_append.mp hm with hm | hm
   ·exact h.ok x y (List.mem_of_mem_take hm)
   ·have:=List.mem_singleton.mp hm
    injection this with this
    injection this with e1 e2
    subst e1 e2
    exact ⟨ab,hb⟩
  ·exact h.ok x y (List.mem_of_mem_drop hm)
theorem Z2x {t:Str} {n:Nat} {g:Gs} {k:Int} {p:Nat × Nat} (h:GOk t n g) (e:ent g k = some p):p.1 ≤ p.2∧p.2 ≤ t.length:=by
 unfold ent at e
 rw [List.getD_eq_getElem?_getD] at e
 cases hh:g[(k - 1).toNat]? with
 | none=>rw [hh] at e; cases e
 | some x =>
  rw [hh] at e
  have:x = some p:=e
  subst this
  exact h.ok p.1 p.2 (List.mem_of_getElem? hh)
section
variable {t:Str} {n:Nat} {W:Wk} (gw:GW t n W)
include gw
theorem Ew.good {p:Pat} {i:Nat} {vs ws:List Way} {N:Nat} (hp:p.nm n) (h:Ew W p vs ws N) (hv:∀ w ∈ vs,Gd t n i w):(∀ w ∈ ws,Gd t n i w)∧ws.length ≤ N∧vs.length ≤ N:=by
 induction h with
 | nil=>exact ⟨fun w hw=>by simp at hw,by simp,by simp⟩
 | cons h r ih =>
  rename_i w vs us ws N N'
  have a:=hv w (by simp)
  have b:=gw p w.1 w.2 ws N hp a.hi a.g h
  obtain ⟨c1,c2,c3⟩:=ih fun x hx=>hv x (by simp [hx])
  refine ⟨fun x hx=>?_,by rw [List.length_append]; have:=b.len; omega,by rw [List.length_cons]; have:=b.pos; omega⟩
  rcases List.mem_append.mp hx with hx | hx
  ·exact (b.all x hx).trans a.lo
  ·exact c1 x hx
theorem Rx.good {i:Nat} {ks:List Pat} {vs ws:List Way} {N:Nat} (h:Rx W ks vs ws N) (hk:∀ k ∈ ks,k.nm n) (hv:∀ w ∈ vs,Gd t n i w):(∀ w ∈ ws,Gd t n i w)∧ws.length ≤ max vs.length N:=by
 induction h with
 | nil=>exact ⟨hv,by omega⟩
 | cons h r ih =>
  obtain ⟨a1,a2,a3⟩:=h.good gw (hk _ (by simp)) hv
  obtain ⟨b1,b2⟩:=ih (fun k hk'=>hk k (by simp [hk'])) a1
  exact ⟨b1,by omega⟩
theorem Ax.good {i:Nat} {g:Gs} {ks:List Pat} {ws:List Way} {N:Nat} (h:Ax W i g ks ws N) (hk:∀ k ∈ ks,k.nm n) (hi:i ≤ t.length) (hg:GOk t n g):(∀ w ∈ ws,Gd t n i w)∧ws.length ≤ N∧ks.length ≤ N:=by
 induction h with
 | nil=>exact ⟨fun w hw=>by simp at hw,by simp,by simp⟩
 | cons h r ih =>
  have a:=gw _ i g _ _ (hk _ (by simp)) hi hg h
  obtain ⟨b1,b2,b3⟩:=ih fun k hk'=>hk k (by simp [hk'])
  refine ⟨fun x hx=>?_,by rw [List.length_append]; have:=a.len; omega,by rw [List.length_cons]; have:=a.pos; omega⟩
  rcases List.mem_append.mp hx with hx | hx
  ·exact a.all x hx
  ·exact b1 x hx
omit gw in
theorem Lx.good {T:Nat→Nat→Gs→List Way→Nat→Prop} {lo:Int} {m i:Nat} {vs ws:List Way} {N:Nat} (gt:∀ m i g ws N,i ≤ t.length→GOk t n g→T m i g ws N→Gw t n i ws N) (h:Lx T lo m i vs ws N) (hv:∀ w ∈ vs,Gd t n i w):(∀ w ∈ ws,Gd t n i w)∧ws.length ≤ N:=by
 induction h with
 | nil=>exact ⟨fun w hw=>by simp at hw,by simp⟩
 | go c h r ih =>
  rename_i w vs us ws N N'
  have a:=hv w (by simp)
  have b:=gt _ _ _ _ _ a.hi a.g h
  obtain ⟨c1,c2⟩:=ih fun x hx=>hv x (by simp [hx])
  refine ⟨fun x hx=>?_,by rw [List.length_append]; have:=b.len; omega⟩
  rcases List.mem_append.mp hx with hx | hx
  ·exact (b.all x hx).trans a.lo
  ·exact c1 x hx
 | skip c r ih=>exact ih fun x hx=>hv x (by simp [hx])
theorem Tx.good {lo:Int} {hi:Option Int} {how:How} {p:Pat} (hp:p.nm n):∀ (e:Nat) (m i:Nat) (g:Gs) (ws:List Way) (N:Nat),i ≤ t.length→GOk t n g→Tx W lo hi how p e m i g ws N→Gw t n i ws N
 | 0,_,_,_,_,_,_,_,h=>h.elim
 | e + 1,m,i,g,ws,N,hi',hg,h=>by
  obtain ⟨on,N1,hon,rfl,rfl⟩:=h
  have o:(∀ w ∈ on,Gd t n i w)∧on.length ≤ N1:=by
   rcases hon with ⟨_,vs,Na,Nb,h1,h2,rfl⟩ | ⟨_,rfl,rfl⟩
   ·have a:=gw p i g vs Na hp hi' hg h1
    obtain ⟨b1,b2⟩:=Lx.good (fun m i g ws N=>Tx.good hp e m i g ws N) h2 a.all
    exact ⟨b1,by omega⟩
   ·exact ⟨fun w hw=>by simp at hw,by simp⟩
  have me:Gd t n i (i,g):=⟨Nat.le_refl _,hi',hg⟩
  split
  ·exact ⟨o.1,by omega,by omega⟩
  ·split
   ·refine ⟨fun w hw=>?_,by rw [List.length_cons]; omega,by omega⟩
    rcases List.mem_cons.mp hw with rfl | hw
    ·exact me
    ·exact o.1 w hw
   ·refine ⟨fun w hw=>?_,by rw [List.length_append,List.length_singleton]; omega,by omega⟩
    rcases List.mem_append.mp hw with hw | hw
    ·exact o.1 w hw
    ·rw [List.mem_singleton.mp hw]; exact me
theorem Bx.good {p:Pat} {i k:Nat} {g:Gs} {ws:List Way} {N:Nat} (hp:p.nm n) (hg:GOk t n g) (h:Bx W p i g k ws N) (hk:k ≤ t.length):(∀ w ∈ ws,w.1 = i∧w.1 ≤ t.length∧GOk t n w.2)∧ws.length ≤ N∧1 ≤ N:=by
 induction h with
 | here h c =>
  have a:=gw p _ g _ _ hp hk hg h
  refine ⟨fun w hw=>?_,Nat.le_trans (List.length_filter_le _ _) a.len,a.pos⟩
  obtain ⟨h1,h2⟩:=List.mem_filter.mp hw
  have b:=a.all w h1
  exact ⟨by simpa using h2,b.hi,b.g⟩
 | down h c r ih =>
  obtain ⟨b1,b2,b3⟩:=ih (by omega)
  exact ⟨b1,by omega,by omega⟩
 | last h c =>
  have a:=gw p _ g _ _ hp hk hg h
  exact ⟨fun w hw=>by simp at hw,by simp,a.pos⟩
end
theorem Z6p {h:Hd} {t:Str} {i:Nat} (e:Y8 h t i = true):i < t.length:=by
 unfold Y8 at e
 split at e
 ·omega
 ·cases e
theorem Wy.good {t:Str} {n:Nat}:∀ d,GW t n (Wy t d)
 | 0=>fun _ _ _ _ _ _ _ _ h=>h.elim
 | d + 1=>by
  intro p i g ws N hp hi hg h
  have ih:=Wy.good (t:=t) (n:=n) d
  obtain ⟨hd,ks⟩:=p
  have hp':=nm_node.mp hp
  have one:∀ c:Prop,[Decidable c]→∀ w:Way,(c→Gd t n i w)→Gw t n i (if c then [w] else []) 1:=fun c _ w hw=>by
   split
   ·rename_i hc
    exact ⟨fun x hx=>by rw [List.mem_singleton.mp hx]; exact hw hc,by simp,by omega⟩
   ·exact ⟨fun x hx=>by simp at hx,by simp,by omega⟩
  have me:Gd t n i (i,g):=⟨Nat.le_refl _,hi,hg⟩
  have sg:∀ h:Hd,ws = (if Y8 h t i = true then [(i + 1,g)] else [])→N = 1→Gw t n i ws N:=fun h e1 e2=>by
   rw [e1,e2]
   exact one _ (i + 1,g) fun e=>⟨by show i ≤ i + 1; omega,by have:=Z6p e; show i + 1 ≤ _; omega,hg⟩
  cases hd with
  | beg=>obtain ⟨rfl,rfl⟩:=h; exact one _ _ fun _=>me
  | fin=>obtain ⟨rfl,rfl⟩:=h; exact one _ _ fun _=>me
  | sign s=>exact sg _ h.1 h.2
  | any=>exact sg _ h.1 h.2
  | inn s=>exact sg _ h.1 h.2
  | out s=>exact sg _ h.1 h.2
  | again k =>
   obtain ⟨rfl,rfl⟩:=h
   unfold agW
   cases he:ent g k with
   | none=>exact ⟨fun x hx=>by simp at hx,by simp,by omega⟩
   | some q =>
    obtain ⟨q1,q2⟩:=Z2x hg he
    refine one _ _ fun e=>⟨by show i ≤ i + _; omega,?_,hg⟩
    have h1:(sub t q.1 q.2).length = q.2 - q.1:=by
     show ((t.cps.toList.drop q.1).take (q.2 - q.1)).toArray.size = _
     have:t.cps.toList.length = t.length:=by simp [Str.length]
     rw [List.size_toArray,List.length_take,List.length_drop]
     omega
    have h2:(sub t i (i + (q.2 - q.1))).length ≤ t.length - i:=by
     show ((t.cps.toList.drop i).take _).toArray.size ≤ _
     have:t.cps.toList.length = t.length:=by simp [Str.length]
     rw [List.size_toArray,List.length_take,List.length_drop]
     omega
    rw [e,h1] at h2
    show i + (q.2 - q.1) ≤ t.length
    omega
  | row =>
   obtain ⟨N',h,rfl⟩:=h
   obtain ⟨a,b⟩:=h.good ih hp'.2 (i:=i) fun w hw=>by rw [List.mem_singleton.mp hw]; exact me
   exact ⟨a,by simp at b; omega,by omega⟩
  | alt =>
   obtain ⟨_,N',h,rfl⟩:=h
   obtain ⟨a,b,_⟩:=h.good ih hp'.2 hi hg
   exact ⟨a,by omega,by omega⟩
  | times lo hi' how =>
   obtain ⟨q,e,us,N',rfl,h,rfl,rfl⟩:=h
   have a:=Tx.good ih (hp'.2 q (by simp)) e 0 i g us N' hi hg h
   split
   ·exact ⟨fun w hw=>a.all w (List.mem_of_mem_take hw),by rw [List.length_take]; have:=a.len; omega,by omega⟩
   ·exact ⟨a.all,by have:=a.len; omega,by omega⟩
  | grp k =>
   obtain ⟨q,us,N',rfl,h,rfl,rfl⟩:=h
   have a:=ih q i g us N' (hp'.2 q (by simp)) hi hg h
   refine ⟨fun w hw=>?_,by rw [List.length_map]; have:=a.len; omega,by omega⟩
   obtain ⟨v,hv,rfl⟩:=List.mem_map.mp hw
   have b:=a.all v hv
   exact ⟨b.lo,b.hi,Z8a b.g hp'.1.1 hp'.1.2 b.lo b.hi⟩
  | hav k =>
   obtain ⟨q,q',N',rfl,h,rfl⟩:=h
   have hq:(if (ent g k).isSome = true then q else q').nm n:=by
    split
    ·exact hp'.2 q (by simp)
    ·exact hp'.2 q' (by simp)
   have a:=ih _ i g ws N' hq hi hg h
   exact ⟨a.all,by have:=a.len; omega,by omega⟩
  | look l =>
   obtain ⟨q,us,N',rfl,h,rfl,rfl⟩:=h
   have hq:=hp'.2 q (by simp)
   have a:(∀ w ∈ us,w.1 ≤ t.length∧GOk t n w.2∧i ≤ w.1)∧us.length ≤ N':=by
    split at h
    ·obtain ⟨b1,b2,_⟩:=Bx.good ih hq hg h hi
     exact ⟨fun w hw=>⟨(b1 w hw).2.1,(b1 w hw).2.2,by have:=(b1 w hw).1; omega⟩,b2⟩
    ·have b:=ih q i g us N' hq hi hg h
     exact ⟨fun w hw=>⟨(b.all w hw).hi,(b.all w hw).g,(b.all w hw).lo⟩,b.len⟩
   have tk:∀ f:Way→Way,(∀ w ∈ us,Gd t n i (f w))→Gw t n i ((us.take 1).map f) (N' + 1):=fun f hf=>⟨fun w hw=>by
    obtain ⟨v,hv,rfl⟩:=List.mem_map.mp hw
    exact hf v (List.mem_of_mem_take hv),by rw [List.length_map,List.length_take]; omega,by omega⟩
   have pk:Gw t n i ((us.take 1).map fun w=>(i,w.2)) (N' + 1):=tk _ fun w hw=>⟨Nat.le_refl _,hi,(a.1 w hw).2.1⟩
   have br:Gw t n i (if us.isEmpty = true then [(i,g)] else []) (N' + 1):=by
    have:=one (us.isEmpty = true) (i,g) fun _=>me
    exact ⟨this.all,by have:=this.len; omega,by omega⟩
   cases l with
   | once =>
    have:=tk id fun w hw=>⟨(a.1 w hw).2.2,(a.1 w hw).1,(a.1 w hw).2.1⟩
    rw [List.map_id] at this
    exact this
   | ahead=>exact pk
   | behind=>exact pk
   | notahead=>exact br
   | notbehind=>exact br
section
variable {es:List Op} {t:Str} {n:Nat}
theorem Yl.to {e e':Nat} {h:Hl} {cs:List Ch} {M:Cf} {ws:List Way} {k:Nat} (y:Yl es t n e h cs M ws k) (he:e = e'):Yl es t n e' h cs M ws k:=by
 subst he
 exact y
theorem Yl.cut {e e2:Nat} {h h2:Hl} {cs:List Ch} {M:Cf} {ws:List Way} {k:Nat} {f:Way→Way} (y:Yl es t n e h cs M ws k) (hf:∀ w ∈ ws,∀ xs,Rc es t n (.run ⟨e,w.1,w.2,h,cs ++ xs⟩) 1 (.run ⟨e2,(f w).1,(f w).2,h2,cs⟩)) :
  Yl es t n e2 h2 cs M ((ws.take 1).map f) (k + 1):=by
 cases y with
 | nil r hk=>exact .nil r (by omega)
 | cons r y hk =>
  rename_i j k' w ws xs
  have y1:Yl es t n e2 h2 cs (.run ⟨e2,(f w).1,(f w).2,h2,cs⟩) [f w] 0:=by
   have:=Yl.one (es:=es) (t:=t) (n:=n) (e:=e2) (h:=h2) (cs:=cs) (w:=f w) (xs:=[]) rfl
   rw [List.append_nil] at this
   exact this
  exact (y1.pre (r.trans (hf w (by simp) xs))).mono (by omega)
theorem Yl.barred {e e2:Nat} {h h2:Hl} {cs:List Ch} {M:Cf} {ws:List Way} {k:Nat} {w0:Way} (y:Yl es t n e h (cs ++ [(e2,w0.1,w0.2,h2)]) M ws k) (hf:∀ w ∈ ws,∀ xs,Rc es t n (.run ⟨e,w.1,w.2,h,(cs ++ [(e2,w0.1,w0.2,h2)]) ++ xs⟩) 1 (bk cs)) :
  Yl es t n e2 h2 cs M (if ws.isEmpty = true then [w0] else []) (k + 1):=by
 cases y with
 | nil r hk =>
  rw [Xx] at r
  have y1:=Yl.one (es:=es) (t:=t) (n:=n) (e:=e2) (h:=h2) (cs:=cs) (w:=w0) (xs:=[]) rfl
  rw [List.append_nil] at y1
  exact (y1.pre r).mono (by omega)
 | cons r y hk =>
  rename_i j k' w ws xs
  exact .nil (r.trans (hf w (by simp) xs)) (by omega)
def YW (es:List Op) (t:Str) (n:Nat) (W:Wk) (A:Nat):Prop:=∀ p i g ws N,p.nm n→i ≤ t.length→GOk t n g→W p i g ws N→∀ b h cs,Sits es b (p.ops b)→Yl es t n (b + (p.ops b).length) h cs (.run ⟨b,i,g,h,cs⟩) ws (A * N)
section
variable {W:Wk} {A:Nat} (yw:YW es t n W A) (gw:GW t n W)
include yw gw
theorem Ew.yl {p:Pat} {b k:Nat} {h:Hl} {cs:List Ch} {M:Cf} {vs:List Way} (hp:p.nm n) (hs:Sits es b (p.ops b)) (y:Yl es t n b h cs M vs k) (hv:∀ w ∈ vs,Gd t n 0 w):∀ {ws:List Way} {N:Nat},Ew W p vs ws N→Yl es t n (b + (p.ops b).length) h cs M ws (k + A * N):=by
 induction y with
 | nil r hk =>
  intro ws N ew
  cases ew
  exact .nil r (by omega)
 | cons r y hk ih =>
  rename_i M j k k' w vs xs
  intro ws N ew
  cases ew with
  | cons hw ew' =>
   rename_i us ws N N'
   have a:=hv w (by simp)
   have y1:=yw p w.1 w.2 ws N hp a.hi a.g hw b h (cs ++ xs) hs
   have y2:=ih (fun v hv'=>hv v (by simp [hv'])) ew'
   refine ((Yl.app y1 y2).pre r).mono ?_
   rw [Nat.mul_add]
   omega
theorem Rx.yl {h:Hl} {cs:List Ch} {M:Cf} {ks:List Pat} {vs ws:List Way} {N:Nat} (rx:Rx W ks vs ws N):∀ {b k:Nat},(∀ x ∈ ks,x.nm n)→Sits es b (Z46 (ks.map Pat.ops) b)→Yl es t n b h cs M vs k→(∀ w ∈ vs,Gd t n 0 w)→Yl es t n (b + (Z46 (ks.map Pat.ops) b).length) h cs M ws (k + A * N):=by
 induction rx with
 | nil =>
  intro b k _ _ y _
  exact y.mono (by omega)
 | cons ew rx ih =>
  rename_i p ks ws vs us N N'
  intro b k hk hs y hv
  have hp:=hk p (by simp)
  rw [List.map_cons,Z46] at hs ⊢
  obtain ⟨s1,s2⟩:=hs.app
  have y1:=ew.yl yw gw hp s1 y hv
  have g1:=(ew.good gw hp hv).1
  have y2:=ih (fun x hx=>hk x (by simp [hx])) s2 y1 g1
  refine (y2.to (by rw [List.length_append]; omega)).mono ?_
  rw [Nat.mul_add]
  omega
theorem Ax.yl {h:Hl} {i e:Nat} {g:Gs} {ks:List Pat} {ws:List Way} {N:Nat} (ax:Ax W i g ks ws N) (hi:i ≤ t.length) (hg:GOk t n g):∀ {b:Nat} {cs:List Ch},ks ≠ []→(∀ x ∈ ks,x.nm n)→Sits es b (T5 e (ks.map Pat.ops) b)→e = b + (T5 e (ks.map Pat.ops) b).length→Yl es t n e h cs (.run ⟨b,i,g,h,cs⟩) ws ((A + 2) * N):=by
 induction ax with
 | nil=>intro b cs h0; exact absurd rfl h0
 | cons hw ax ih =>
  rename_i p ks ws us N N'
  intro b cs _ hk hs he
  have hp:=hk p (by simp)
  have gd:=gw p i g ws N hp hi hg hw
  cases ks with
  | nil =>
   cases ax
   have hs':Sits es b (p.ops b):=hs
   have y:=yw p i g ws N hp hi hg hw b h cs hs'
   rw [List.append_nil]
   refine (y.to he.symm).mono ?_
   exact Nat.mul_le_mul (by omega) (by omega)
  | cons l ks =>
   simp only [List.map_cons,T5] at hs he
   obtain ⟨c0,s1⟩:=hs.cons
   obtain ⟨s2,s3⟩:=s1.app
   obtain ⟨c1,s4⟩:=s3.cons
   have r0:Rc es t n (.run ⟨b,i,g,h,cs⟩) 1 (.run ⟨b + 1,i,g,h,cs ++ [(b + (p.ops (b + 1)).length + 2,i,g,h)]⟩):=Rc.one c0 hi hg trivial rfl
   have y1:=yw p i g ws N hp hi hg hw (b + 1) h (cs ++ [(b + (p.ops (b + 1)).length + 2,i,g,h)]) s2
   have y2:=y1.map1 (e2:=e) (h2:=h) (f:=id) fun w hw' xs=>Rc.one c1 (gd.all w hw').hi (gd.all w hw').g trivial rfl
   rw [List.map_id] at y2
   have y3:=ih (b:=b + (p.ops (b + 1)).length + 2) (cs:=cs) (by simp) (fun x hx=>hk x (by simp at hx; simp [hx])) (by rw [show b + (p.ops (b + 1)).length + 2 = b + 1 + (p.ops (b + 1)).length + 1 by omega] at s4 ⊢; exact s4) (by rw [List.length_cons,List.length_append,List.length_cons] at he; simp only [List.map_cons] at he ⊢; omega)
   have y3':Yl es t n e h cs (bk (cs ++ [(b + (p.ops (b + 1)).length + 2,i,g,h)])) us ((A + 2) * N'):=by
    rw [Xx]
    exact y3
   refine ((Yl.app y2 y3').pre r0).mono ?_
   have:=gd.len
   have:=gd.pos
   have m1:=Nat.add_mul A 2 N
   have m2:=Nat.mul_add (A + 2) N N'
   omega
omit yw gw in
theorem Lx.yl {T:Nat→Nat→Gs→List Way→Nat→Prop} {lo:Int} {m i b e1 z k B:Nat} {h:Hl} {cs:List Ch} {M:Cf} {vs:List Way} (c1:es[e1]? = some (.next lo b)) (hv:∀ w ∈ vs,Gd t n i w)
  (ty:∀ i' g ws N,i' ≤ t.length→GOk t n g→T (m + 1) i' g ws N→∀ cs,Yl es t n z h cs (.run ⟨b,i',g,(m + 1,i) :: h,cs⟩) ws (B * N)) (y:Yl es t n e1 ((m,i) :: h) cs M vs k):∀ {ws:List Way} {N:Nat},Lx T lo m i vs ws N→Yl es t n z h cs M ws (k + vs.length + B * N):=by
 induction y with
 | nil r hk =>
  intro ws N lx
  cases lx
  exact .nil r (by omega)
 | cons r y hk ih =>
  rename_i M j k k' w vs xs
  intro ws N lx
  have a:=hv w (by simp)
  have nd:(Op.next lo b).need n ⟨e1,w.1,w.2,(m,i) :: h,cs ++ xs⟩:=by intro z; cases z
  cases lx with
  | go c hw lx' =>
   rename_i us ws N N'
   have r1:Rc es t n (.run ⟨e1,w.1,w.2,(m,i) :: h,cs ++ xs⟩) 1 (.run ⟨b,w.1,w.2,(m + 1,i) :: h,cs ++ xs⟩):=Rc.one c1 a.hi a.g nd (by
    show (if lo ≤ (m:Int)∧w.1 = i then _ else _) = _
    rw [if_neg (by omega)])
   have y1:=(ty w.1 w.2 ws N a.hi a.g hw (cs ++ xs)).pre r1
   have y2:=ih (fun v hv'=>hv v (by simp [hv'])) lx'
   refine ((Yl.app y1 y2).pre r).mono ?_
   rw [Nat.mul_add,List.length_cons]
   omega
  | skip c lx' =>
   have r1:Rc es t n (.run ⟨e1,w.1,w.2,(m,i) :: h,cs ++ xs⟩) 1 (bk (cs ++ xs)):=Rc.one c1 a.hi a.g nd (by
    show (if lo ≤ (m:Int)∧w.1 = i then _ else _) = _
    have:=a.lo
    rw [if_pos (by omega)])
   have y2:=ih (fun v hv'=>hv v (by simp [hv'])) lx'
   refine ((y2.pre r1).pre r).mono ?_
   rw [List.length_cons]
   omega
theorem Tx.yl {lo:Int} {hi:Option Int} {how how':How} {p:Pat} {b z:Nat} {h:Hl} (hw:how' = .little ↔ how = .little) (hp:p.nm n) (c0:es[b]? = some (.turn lo hi how' z)) (hs:Sits es (b + 1) (p.ops (b + 1))) (c1:es[b + 1 + (p.ops (b + 1)).length]? = some (.next lo b)) (hz:z = b + 1 + (p.ops (b + 1)).length + 1) :
  ∀ (e m i:Nat) (g:Gs) (ws:List Way) (N:Nat),i ≤ t.length→GOk t n g→Tx W lo hi how p e m i g ws N→∀ (a:Nat) (cs:List Ch),Yl es t n z h cs (.run ⟨b,i,g,(m,a) :: h,cs⟩) ws ((A + 2) * N)
 | 0,_,_,_,_,_,_,_,h=>h.elim
 | e + 1,m,i,g,ws,N,hi',hg,tx=>by
  intro a cs
  obtain ⟨on,N1,hon,rfl,rfl⟩:=tx
  have nd:(Op.turn lo hi how' z).need n ⟨b,i,g,(m,a) :: h,cs⟩:=by intro z; cases z
  have one:∀ cs,Yl es t n z h cs (.run ⟨z,i,g,h,cs⟩) [(i,g)] 0:=fun cs=>by
   have:=Yl.one (es:=es) (t:=t) (n:=n) (e:=z) (h:=h) (cs:=cs) (w:=(i,g)) (xs:=[]) rfl
   rw [List.append_nil] at this
   exact this
  rcases hon with ⟨hgo,vs,Na,Nb,h1,h2,rfl⟩ | ⟨hgo,rfl,rfl⟩
  ·have gd:=gw p i g vs Na hp hi' hg h1
   have inner:∀ cs,Yl es t n z h cs (.run ⟨b + 1,i,g,(m,i) :: h,cs⟩) on (A * Na + vs.length + (A + 2) * Nb):=fun cs =>
    Lx.yl (T:=Tx W lo hi how p e) (b:=b) c1 gd.all (fun i' g' ws' N' x1 x2 x3 cs'=>Tx.yl hw hp c0 hs c1 hz e (m + 1) i' g' ws' N' x1 x2 x3 i cs') (yw p i g vs Na hp hi' hg h1 (b + 1) ((m,i) :: h) cs hs) h2
   have Z8n:1 + (A * Na + vs.length + (A + 2) * Nb) + 0 ≤ (A + 2) * (Na + Nb + 1):=by
    have:=gd.len
    have m1:=Nat.add_mul A 2 Na
    have m2:=Nat.mul_add (A + 2) (Na + Nb) 1
    have m3:=Nat.mul_add (A + 2) Na Nb
    omega
   by_cases hlo:(m:Int) < lo
   ·rw [if_pos hlo]
    have r0:Rc es t n (.run ⟨b,i,g,(m,a) :: h,cs⟩) 1 (.run ⟨b + 1,i,g,(m,i) :: h,cs⟩):=Rc.one c0 hi' hg nd (by
     show (if Xq hi m = true then (if lo ≤ (m:Int) then _ else _) else _) = _
     rw [if_pos hgo,if_neg (by omega)])
    exact ((inner cs).pre r0).mono (by omega)
   ·rw [if_neg hlo]
    by_cases hl:how = .little
    ·rw [if_pos hl]
     have r0:Rc es t n (.run ⟨b,i,g,(m,a) :: h,cs⟩) 1 (.run ⟨z,i,g,h,cs ++ [(b + 1,i,g,(m,i) :: h)]⟩):=Rc.one c0 hi' hg nd (by
      show (if Xq hi m = true then (if lo ≤ (m:Int) then (match how' with | .little=>_ | _=>_) else _) else _) = _
      rw [if_pos hgo,if_pos (by omega),hw.mpr hl])
     have y2:Yl es t n z h cs (bk (cs ++ [(b + 1,i,g,(m,i) :: h)])) on (A * Na + vs.length + (A + 2) * Nb):=by
      rw [Xx]
      exact inner cs
     exact ((Yl.app (one _) y2).pre r0).mono (by omega)
    ·rw [if_neg hl]
     have hl':how' ≠ .little:=fun z=>hl (hw.mp z)
     have r0:Rc es t n (.run ⟨b,i,g,(m,a) :: h,cs⟩) 1 (.run ⟨b + 1,i,g,(m,i) :: h,cs ++ [(z,i,g,h)]⟩):=Rc.one c0 hi' hg nd (by
      show (if Xq hi m = true then (if lo ≤ (m:Int) then (match how' with | .little=>_ | _=>_) else _) else _) = _
      rw [if_pos hgo,if_pos (by omega)]
      cases how' with
      | little=>exact absurd rfl hl'
      | much=>rfl
      | keep=>rfl)
     have y2:Yl es t n z h cs (bk (cs ++ [(z,i,g,h)])) [(i,g)] 0:=by
      rw [Xx]
      exact one cs
     exact ((Yl.app (inner _) y2).pre r0).mono (by omega)
  ·have hgo':¬ Xq hi m = true:=by rw [hgo]; decide
   by_cases hlo:(m:Int) < lo
   ·rw [if_pos hlo]
    refine .nil (j:=1) (Rc.one c0 hi' hg nd (by
     show (if Xq hi m = true then _ else (if lo ≤ (m:Int) then _ else _)) = _
     rw [if_neg hgo',if_neg (by omega)])) ?_
    rw [Nat.zero_add,Nat.mul_one]
    omega
   ·rw [if_neg hlo]
    have r0:Rc es t n (.run ⟨b,i,g,(m,a) :: h,cs⟩) 1 (.run ⟨z,i,g,h,cs⟩):=Rc.one c0 hi' hg nd (by
     show (if Xq hi m = true then _ else (if lo ≤ (m:Int) then _ else _)) = _
     rw [if_neg hgo',if_pos (by omega)])
    have y:=((one cs).pre r0).mono (k':=(A + 2) * (0 + 1)) (by rw [Nat.zero_add,Nat.mul_one]; omega)
    split
    ·exact y
    ·exact y
end
end
section
variable {es:List Op} {t:Str} {n:Nat}
theorem Yl.filt {e1 i q k:Nat} {h:Hl} {cs:List Ch} {M:Cf} {vs:List Way} (c1:es[e1]? = some .here) (y:Yl es t n e1 ((q,i) :: h) cs M vs k):(∀ w ∈ vs,w.1 ≤ t.length∧GOk t n w.2) →
  (∃ w us xs j,vs.filter (fun w=>w.1 == i) = w :: us∧Rc es t n M j (.run ⟨e1 + 1,w.1,w.2,(q,i) :: h,cs ++ xs⟩)∧j ≤ k + vs.length) ∨ (vs.filter (fun w=>w.1 == i) = []∧∃ j,Rc es t n M j (bk cs)∧j ≤ k + vs.length):=by
 induction y with
 | nil r hk=>exact fun _=>.inr ⟨rfl,_,r,by omega⟩
 | cons r y hk ih =>
  rename_i M j k k' w vs xs
  intro hv
  have a:=hv w (by simp)
  have nd:Op.here.need n ⟨e1,w.1,w.2,(q,i) :: h,cs ++ xs⟩:=by intro z; cases z
  by_cases e:w.1 = i
  ·have r1:Rc es t n (.run ⟨e1,w.1,w.2,(q,i) :: h,cs ++ xs⟩) 1 (.run ⟨e1 + 1,w.1,w.2,(q,i) :: h,cs ++ xs⟩):=Rc.one c1 a.1 a.2 nd (by
    show (if w.1 = i then _ else _) = _
    rw [if_pos e])
   exact .inl ⟨w,vs.filter (fun w=>w.1 == i),xs,j + 1,by rw [List.filter_cons_of_pos (by simpa using e)],r.trans r1,by rw [List.length_cons]; omega⟩
  ·have r1:Rc es t n (.run ⟨e1,w.1,w.2,(q,i) :: h,cs ++ xs⟩) 1 (bk (cs ++ xs)):=Rc.one c1 a.1 a.2 nd (by
    show (if w.1 = i then _ else _) = _
    rw [if_neg e])
   rw [List.filter_cons_of_neg (by simpa using e),List.length_cons]
   rcases ih fun v hv'=>hv v (by simp [hv']) with ⟨w',us,xs',j',h1,h2,h3⟩ | ⟨h1,j',h2,h3⟩
   ·exact .inl ⟨w',us,xs',_,h1,(r.trans r1).trans h2,by omega⟩
   ·exact .inr ⟨h1,_,(r.trans r1).trans h2,by omega⟩
theorem Bx.run {W:Wk} {A:Nat} (yw:YW es t n W A) (gw:GW t n W) {p:Pat} {i k q b:Nat} {g:Gs} {us:List Way} {N:Nat} {h:Hl} {cs:List Ch} (hp:p.nm n) (hg:GOk t n g) (c0:es[b]? = some .lean) (hs:Sits es (b + 1) (p.ops (b + 1))) (c1:es[b + 1 + (p.ops (b + 1)).length]? = some .here)
  (bx:Bx W p i g k us N):k ≤ t.length→(∃ w us' xs j,us = w :: us'∧Rc es t n (.run ⟨b,k,g,(q,i) :: h,cs⟩) j (.run ⟨b + 1 + (p.ops (b + 1)).length + 1,w.1,w.2,(q,i) :: h,cs ++ xs⟩)∧j ≤ (A + 2) * N) ∨
   (us = []∧∃ j,Rc es t n (.run ⟨b,k,g,(q,i) :: h,cs⟩) j (bk cs)∧j ≤ (A + 2) * N):=by
 have lean0:Rc es t n (.run ⟨b,0,g,(q,i) :: h,cs⟩) 1 (.run ⟨b + 1,0,g,(q,i) :: h,cs⟩):=Rc.one c0 (Nat.zero_le _) hg trivial rfl
 have leanS:∀ k,k + 1 ≤ t.length→Rc es t n (.run ⟨b,k + 1,g,(q,i) :: h,cs⟩) 1 (.run ⟨b + 1,k + 1,g,(q,i) :: h,cs ++ [(b,k,g,(q,i) :: h)]⟩):=fun k hk=>Rc.one c0 hk hg trivial rfl
 have Z8n:∀ (vs:List Way) (N:Nat),vs.length ≤ N→1 ≤ N→1 + (A * N + vs.length) ≤ (A + 2) * N:=fun vs N h1 h2=>by
  have:=Nat.add_mul A 2 N
  omega
 have ways:∀ (k:Nat) (vs:List Way) (N:Nat),k ≤ t.length→W p k g vs N→∃ ys:List Ch,(∀ k',k = k' + 1→ys = [(b,k',g,(q,i) :: h)])∧(k = 0→ys = []) ∧
   ((∃ w us' xs j,vs.filter (fun w=>w.1 == i) = w :: us'∧Rc es t n (.run ⟨b,k,g,(q,i) :: h,cs⟩) j (.run ⟨b + 1 + (p.ops (b + 1)).length + 1,w.1,w.2,(q,i) :: h,cs ++ (ys ++ xs)⟩)∧j ≤ (A + 2) * N) ∨
    (vs.filter (fun w=>w.1 == i) = []∧∃ j,Rc es t n (.run ⟨b,k,g,(q,i) :: h,cs⟩) j (bk (cs ++ ys))∧j ≤ (A + 2) * N)):=by
  intro k vs N hk hw
  have gd:=gw p k g vs N hp hk hg hw
  have hv:∀ w ∈ vs,w.1 ≤ t.length∧GOk t n w.2:=fun w hw'=>⟨(gd.all w hw').hi,(gd.all w hw').g⟩
  have c:=Z8n vs N gd.len gd.pos
  cases k with
  | zero =>
   refine ⟨[],(fun k' e=>by cases e),(fun _=>rfl),?_⟩
   rcases Yl.filt c1 (yw p 0 g vs N hp hk hg hw (b + 1) ((q,i) :: h) cs hs) hv with ⟨w,us',xs,j,h1,h2,h3⟩ | ⟨h1,j,h2,h3⟩
   ·exact .inl ⟨w,us',xs,_,h1,lean0.trans h2,by omega⟩
   ·refine .inr ⟨h1,_,lean0.trans ?_,(show 1 + j ≤ _ by omega)⟩
    rw [List.append_nil]
    exact h2
  | succ k =>
   refine ⟨[(b,k,g,(q,i) :: h)],(fun k' e=>by cases e; rfl),(fun e=>by cases e),?_⟩
   rcases Yl.filt c1 (yw p (k + 1) g vs N hp hk hg hw (b + 1) ((q,i) :: h) (cs ++ [(b,k,g,(q,i) :: h)]) hs) hv with ⟨w,us',xs,j,h1,h2,h3⟩ | ⟨h1,j,h2,h3⟩
   ·rw [List.append_assoc] at h2
    exact .inl ⟨w,us',xs,_,h1,(leanS k hk).trans h2,by omega⟩
   ·exact .inr ⟨h1,_,(leanS k hk).trans h2,by omega⟩
 induction bx with
 | here hw c =>
  intro hk
  obtain ⟨ys,_,_,h1 | h1⟩:=ways _ _ _ hk hw
  ·obtain ⟨w,us',xs,j,h1,h2,h3⟩:=h1
   exact .inl ⟨w,us',ys ++ xs,j,h1,h2,h3⟩
  ·exact absurd h1.1 c
 | down hw c r ih =>
  rename_i k vs ws N N'
  intro hk
  obtain ⟨ys,hy,_,h1 | h1⟩:=ways _ _ _ hk hw
  ·obtain ⟨w,us',xs,j,h1,h2,h3⟩:=h1
   rw [c] at h1
   cases h1
  ·obtain ⟨_,j,h2,h3⟩:=h1
   rw [hy k rfl,Xx] at h2
   have m2:=Nat.mul_add (A + 2) N N'
   rcases ih (by omega) with ⟨w,us',xs,j',e,h4,h5⟩ | ⟨e,j',h4,h5⟩
   ·exact .inl ⟨w,us',xs,_,e,h2.trans h4,by omega⟩
   ·exact .inr ⟨e,_,h2.trans h4,by omega⟩
 | last hw c =>
  intro hk
  obtain ⟨ys,_,hy,h1 | h1⟩:=ways _ _ _ hk hw
  ·obtain ⟨w,us',xs,j,h1,h2,h3⟩:=h1
   rw [c] at h1
   cases h1
  ·obtain ⟨_,j,h2,h3⟩:=h1
   rw [hy rfl,List.append_nil] at h2
   exact .inr ⟨rfl,j,h2,h3⟩
theorem sgl {i:Nat} {g:Gs} {b:Nat} {h:Hl} {cs:List Ch} {o:Op} {c:Prop} [Decidable c] {w:Way} {k:Nat} (c0:es[b]? = some o) (hi:i ≤ t.length) (hg:GOk t n g) (nd:o.need n ⟨b,i,g,h,cs⟩) (ha:o.act t ⟨b + 1,i,g,h,cs⟩ = if c then .run ⟨b + 1,w.1,w.2,h,cs⟩ else bk cs) (hk:1 ≤ k) :
  Yl es t n (b + 1) h cs (.run ⟨b,i,g,h,cs⟩) (if c then [w] else []) k:=by
 by_cases hc:c
 ·rw [if_pos hc] at ha ⊢
  have y1:=Yl.one (es:=es) (t:=t) (n:=n) (e:=b + 1) (h:=h) (cs:=cs) (w:=w) (xs:=[]) rfl
  rw [List.append_nil] at y1
  exact (y1.pre (Rc.one c0 hi hg nd ha)).mono (by omega)
 ·rw [if_neg hc] at ha ⊢
  exact .nil (Rc.one c0 hi hg nd ha) hk
theorem Wy.yl:∀ d,YW es t n (Wy t d) (3 * d)
 | 0=>fun _ _ _ _ _ _ _ _ h=>h.elim
 | d + 1=>by
  intro p i g ws N hp hi hg hw b h cs hs
  have yw:YW es t n (Wy t d) (3 * d):=Wy.yl d
  have gw:=Wy.good (t:=t) (n:=n) d
  obtain ⟨hd,ks⟩:=p
  have hp':=nm_node.mp hp
  rw [Wp] at hs ⊢
  have A0:∀ N',(3 * (d + 1)) * (N' + 1) = 3 * d * N' + 3 * N' + 3 * d + 3:=fun N'=>by
   rw [show 3 * (d + 1) = 3 * d + 3 by omega,Nat.mul_add,Nat.add_mul,Nat.mul_one]
   omega
  have hhd:∀ q r,hdO ((q :: r).map Pat.ops) = q.ops:=fun q r=>rfl
  cases hd with
  | beg =>
   obtain ⟨rfl,rfl⟩:=hw
   exact sgl hs.cons.1 hi hg trivial rfl (by omega)
  | fin =>
   obtain ⟨rfl,rfl⟩:=hw
   exact sgl hs.cons.1 hi hg trivial rfl (by omega)
  | sign s =>
   obtain ⟨rfl,rfl⟩:=hw
   exact sgl (w:=(i + 1,g)) hs.cons.1 hi hg trivial rfl (by omega)
  | any =>
   obtain ⟨rfl,rfl⟩:=hw
   exact sgl (w:=(i + 1,g)) hs.cons.1 hi hg trivial rfl (by omega)
  | inn s =>
   obtain ⟨rfl,rfl⟩:=hw
   exact sgl (w:=(i + 1,g)) hs.cons.1 hi hg trivial rfl (by omega)
  | out s =>
   obtain ⟨rfl,rfl⟩:=hw
   exact sgl (w:=(i + 1,g)) hs.cons.1 hi hg trivial rfl (by omega)
  | again k =>
   obtain ⟨rfl,rfl⟩:=hw
   have c0:es[b]? = some (.pat (.again k)):=hs.cons.1
   have nd:(Op.pat (.again k)).need n ⟨b,i,g,h,cs⟩:=hp'.1
   unfold agW
   cases he:ent g k with
   | none =>
    refine .nil (j:=1) (Rc.one c0 hi hg nd ?_) (by omega)
    show (match ent g k with | none=>bk cs | some p=>_) = _
    rw [he]
   | some q =>
    refine sgl (w:=(i + (q.2 - q.1),g)) c0 hi hg nd ?_ (by omega)
    show (match ent g k with | none=>bk cs | some p=>_) = _
    rw [he]
  | row =>
   obtain ⟨N',rx,rfl⟩:=hw
   have y0:=Yl.one (es:=es) (t:=t) (n:=n) (e:=b) (h:=h) (cs:=cs) (w:=(i,g)) (xs:=[]) rfl
   rw [List.append_nil] at y0
   have me:∀ w ∈ [((i,g):Way)],Gd t n 0 w:=fun w hw=>by rw [List.mem_singleton.mp hw]; exact ⟨Nat.zero_le _,hi,hg⟩
   refine (rx.yl yw gw hp'.2 hs y0 me).mono ?_
   have:=A0 N'
   omega
  | alt =>
   obtain ⟨hne,N',ax,rfl⟩:=hw
   have hl:b + (T5 0 (ks.map Pat.ops) b).length = b + (T5 (b + (T5 0 (ks.map Pat.ops) b).length) (ks.map Pat.ops) b).length:=congrArg (b + ·) (Z34 0 _ (ks.map Pat.ops) b)
   have y:=ax.yl yw gw (h:=h) (e:=b + (T5 0 (ks.map Pat.ops) b).length) hi hg (b:=b) (cs:=cs) hne hp'.2 hs hl
   refine (y.to hl).mono ?_
   have:=A0 N'
   have:=Nat.add_mul (3 * d) 2 N'
   omega
  | times lo hi' how =>
   obtain ⟨q,e,us,N',rfl,tx,rfl,rfl⟩:=hw
   have hq:=hp'.2 q (by simp)
   have gd:=Tx.good gw hq e 0 i g us N' hi hg tx
   have m0:=A0 N'
   have m1:=Nat.add_mul (3 * d) 2 N'
   have turns:∀ (b0:Nat) (how':How) (h:Hl) (cs:List Ch),(how' = .little ↔ how = .little)→Sits es b0 (W4 lo hi' how' q.ops b0)→Yl es t n (b0 + (W4 lo hi' how' q.ops b0).length) h cs (.run ⟨b0,i,g,h,cs⟩) us (1 + (3 * d + 2) * N'):=by
    intro b0 how' h cs hw hs
    obtain ⟨c0,s1⟩:=hs.cons
    obtain ⟨c1,s2⟩:=s1.cons
    obtain ⟨s3,s4⟩:=s2.app
    have c2:=s4.cons.1
    have r0:Rc es t n (.run ⟨b0,i,g,h,cs⟩) 1 (.run ⟨b0 + 1,i,g,(0,i) :: h,cs⟩):=Rc.one c0 hi hg trivial rfl
    have y:=Tx.yl yw gw (how:=how) (b:=b0 + 1) (h:=h) hw hq c1 s3 c2 (by show b0 + 3 + (q.ops (b0 + 2)).length = b0 + 1 + 1 + (q.ops (b0 + 2)).length + 1; omega) e 0 i g us N' hi hg tx i cs
    refine (y.pre r0).to ?_
    show _ = b0 + (Op.turns :: Op.turn lo hi' how' _ :: (q.ops (b0 + 2) ++ [Op.next lo (b0 + 1)])).length
    simp only [List.length_cons,List.length_append,List.length_nil]
    omega
   cases how with
   | keep =>
    rw [if_pos rfl]
    have hs':Sits es b (.once :: (W4 lo hi' .much q.ops (b + 1) ++ [.kept])):=hs
    obtain ⟨c0,s1⟩:=hs'.cons
    obtain ⟨s2,s3⟩:=s1.app
    have c1:=s3.cons.1
    have r0:Rc es t n (.run ⟨b,i,g,h,cs⟩) 1 (.run ⟨b + 1,i,g,(cs.length,i) :: h,cs⟩):=Rc.one c0 hi hg trivial rfl
    have y:=(turns (b + 1) .much ((cs.length,i) :: h) cs (by simp) s2).cut (e2:=b + 1 + (W4 lo hi' .much q.ops (b + 1)).length + 1) (h2:=h) (f:=id) fun w hw xs=>Rc.one c1 (gd.all w hw).hi (gd.all w hw).g (by intro z; cases z) (by
     show Cf.run _ = Cf.run _
     congr 1
     congr 1
     exact List.take_left)
    rw [List.map_id] at y
    refine ((y.pre r0).to ?_).mono (by omega)
    show _ = b + (Op.once :: (W4 lo hi' .much q.ops (b + 1) ++ [Op.kept])).length
    simp only [List.length_cons,List.length_append,List.length_nil]
    omega
   | much =>
    rw [if_neg (by decide)]
    exact (turns b .much h cs Iff.rfl hs).mono (by omega)
   | little =>
    rw [if_neg (by decide)]
    exact (turns b .little h cs Iff.rfl hs).mono (by omega)
  | grp k =>
   obtain ⟨q,us,N',rfl,hq',rfl,rfl⟩:=hw
   have hq:=hp'.2 q (by simp)
   have gd:=gw q i g us N' hq hi hg hq'
   have hs':Sits es b (.open_ :: (q.ops (b + 1) ++ [.close k])):=hs
   obtain ⟨c0,s1⟩:=hs'.cons
   obtain ⟨s2,s3⟩:=s1.app
   have c1:=s3.cons.1
   have r0:Rc es t n (.run ⟨b,i,g,h,cs⟩) 1 (.run ⟨b + 1,i,g,(0,i) :: h,cs⟩):=Rc.one c0 hi hg trivial rfl
   have y:=(yw q i g us N' hq hi hg hq' (b + 1) ((0,i) :: h) cs s2).map1 (e2:=b + 1 + (q.ops (b + 1)).length + 1) (h2:=h) (f:=fun w=>(w.1,put w.2 k i w.1)) fun w hw xs=>Rc.one c1 (gd.all w hw).hi (gd.all w hw).g ⟨hp'.1,by intro z; cases z⟩ rfl
   refine ((y.pre r0).to ?_).mono ?_
   ·show _ = b + (Op.open_ :: (q.ops (b + 1) ++ [Op.close k])).length
    simp only [List.length_cons,List.length_append,List.length_nil]
    omega
   ·have:=A0 N'
    have:=gd.len
    omega
  | hav k =>
   obtain ⟨q,q',N',rfl,hq',rfl⟩:=hw
   have hs':Sits es b (Z47 k q.ops q'.ops b):=hs
   obtain ⟨c0,s1⟩:=hs'.cons
   obtain ⟨s2,s3⟩:=s1.app
   obtain ⟨c1,s4⟩:=s3.cons
   have he:b + (Z47 k q.ops q'.ops b).length = b + (q.ops (b + 1)).length + 2 + (q'.ops (b + (q.ops (b + 1)).length + 2)).length:=by
    simp only [Z47,List.length_cons,List.length_append]
    omega
   have nd:(Op.have_ k (b + (q.ops (b + 1)).length + 2)).need n ⟨b,i,g,h,cs⟩:=hp'.1
   have m0:=A0 N'
   cases hent:ent g k with
   | none =>
    rw [hent] at hq'
    have r0:Rc es t n (.run ⟨b,i,g,h,cs⟩) 1 (.run ⟨b + (q.ops (b + 1)).length + 2,i,g,h,cs⟩):=Rc.one c0 hi hg nd (by
     show (match ent g k with | none=>Cf.run _ | some _=>_) = _
     rw [hent])
    have s4':Sits es (b + (q.ops (b + 1)).length + 2) (q'.ops (b + (q.ops (b + 1)).length + 2)):=by
     rw [show b + (q.ops (b + 1)).length + 2 = b + 1 + (q.ops (b + 1)).length + 1 by omega] at s4 ⊢
     exact s4
    have y:=yw q' i g ws N' (hp'.2 q' (by simp)) hi hg hq' _ h cs s4'
    exact ((y.pre r0).to he.symm).mono (by omega)
   | some x =>
    rw [hent] at hq'
    have gd:=gw q i g ws N' (hp'.2 q (by simp)) hi hg hq'
    have r0:Rc es t n (.run ⟨b,i,g,h,cs⟩) 1 (.run ⟨b + 1,i,g,h,cs⟩):=Rc.one c0 hi hg nd (by
     show (match ent g k with | none=>Cf.run _ | some _=>_) = _
     rw [hent])
    have y:=(yw q i g ws N' (hp'.2 q (by simp)) hi hg hq' (b + 1) h cs s2).map1 (e2:=b + (q.ops (b + 1)).length + 2 + (q'.ops (b + (q.ops (b + 1)).length + 2)).length) (h2:=h) (f:=id) fun w hw xs=>Rc.one c1 (gd.all w hw).hi (gd.all w hw).g trivial rfl
    rw [List.map_id] at y
    have:=gd.len
    exact ((y.pre r0).to he.symm).mono (by omega)
  | look l =>
   obtain ⟨q,us,N',rfl,hq',rfl,rfl⟩:=hw
   have hq:=hp'.2 q (by simp)
   have hs':Sits es b (Wu l q.ops b):=hs
   have m0:=A0 N'
   have m1:=Nat.add_mul (3 * d) 2 N'
   have one:∀ (e:Nat) (w:Way),Yl es t n e h cs (.run ⟨e,w.1,w.2,h,cs⟩) [w] 0:=fun e w=>by
    have:=Yl.one (es:=es) (t:=t) (n:=n) (e:=e) (h:=h) (cs:=cs) (w:=w) (xs:=[]) rfl
    rw [List.append_nil] at this
    exact this
   have nd1:∀ {e:Nat} {w:Way} {xs:List Ch},(⟨e,w.1,w.2,(cs.length,i) :: h,xs⟩:Cg).h ≠ []:=fun {e w xs} z=>by cases z
   have tk:∀ xs:List Ch,(cs ++ xs).take cs.length = cs:=fun xs=>List.take_left
   cases l with
   | once =>
    have hq2:Wy t d q i g us N':=by rw [if_neg (by decide)] at hq'; exact hq'
    have gd:=gw q i g us N' hq hi hg hq2
    have hs2:Sits es b (.once :: (q.ops (b + 1) ++ [.kept])):=hs'
    obtain ⟨c0,s1⟩:=hs2.cons
    obtain ⟨s2,s3⟩:=s1.app
    have c1:=s3.cons.1
    have r0:Rc es t n (.run ⟨b,i,g,h,cs⟩) 1 (.run ⟨b + 1,i,g,(cs.length,i) :: h,cs⟩):=Rc.one c0 hi hg trivial rfl
    have y:=(yw q i g us N' hq hi hg hq2 (b + 1) ((cs.length,i) :: h) cs s2).cut (e2:=b + 1 + (q.ops (b + 1)).length + 1) (h2:=h) (f:=id) fun w hw xs=>Rc.one c1 (gd.all w hw).hi (gd.all w hw).g nd1 (by
     show Cf.run ⟨_,_,_,_,(cs ++ xs).take cs.length⟩ = _
     rw [tk]
     rfl)
    rw [List.map_id] at y
    refine ((y.pre r0).to ?_).mono (by omega)
    show _ = b + (Op.once :: (q.ops (b + 1) ++ [Op.kept])).length
    simp only [List.length_cons,List.length_append,List.length_nil]
    omega
   | ahead =>
    have hq2:Wy t d q i g us N':=by rw [if_neg (by decide)] at hq'; exact hq'
    have gd:=gw q i g us N' hq hi hg hq2
    have hs2:Sits es b (.once :: (q.ops (b + 1) ++ [.peeked])):=hs'
    obtain ⟨c0,s1⟩:=hs2.cons
    obtain ⟨s2,s3⟩:=s1.app
    have c1:=s3.cons.1
    have r0:Rc es t n (.run ⟨b,i,g,h,cs⟩) 1 (.run ⟨b + 1,i,g,(cs.length,i) :: h,cs⟩):=Rc.one c0 hi hg trivial rfl
    have y:=(yw q i g us N' hq hi hg hq2 (b + 1) ((cs.length,i) :: h) cs s2).cut (e2:=b + 1 + (q.ops (b + 1)).length + 1) (h2:=h) (f:=fun w=>(i,w.2)) fun w hw xs=>Rc.one c1 (gd.all w hw).hi (gd.all w hw).g nd1 (by
     show Cf.run ⟨_,_,_,_,(cs ++ xs).take cs.length⟩ = _
     rw [tk])
    refine ((y.pre r0).to ?_).mono (by omega)
    show _ = b + (Op.once :: (q.ops (b + 1) ++ [Op.peeked])).length
    simp only [List.length_cons,List.length_append,List.length_nil]
    omega
   | notahead =>
    have hq2:Wy t d q i g us N':=by rw [if_neg (by decide)] at hq'; exact hq'
    have gd:=gw q i g us N' hq hi hg hq2
    have hs2:Sits es b (.bar (b + 2 + (q.ops (b + 1)).length) :: (q.ops (b + 1) ++ [.barred])):=hs'
    obtain ⟨c0,s1⟩:=hs2.cons
    obtain ⟨s2,s3⟩:=s1.app
    have c1:=s3.cons.1
    have r0:Rc es t n (.run ⟨b,i,g,h,cs⟩) 1 (.run ⟨b + 1,i,g,(cs.length,i) :: h,cs ++ [(b + 2 + (q.ops (b + 1)).length,i,g,h)]⟩):=Rc.one c0 hi hg trivial rfl
    have y:=(yw q i g us N' hq hi hg hq2 (b + 1) ((cs.length,i) :: h) (cs ++ [(b + 2 + (q.ops (b + 1)).length,i,g,h)]) s2).barred (w0:=(i,g)) fun w hw xs=>Rc.one c1 (gd.all w hw).hi (gd.all w hw).g nd1 (by
     show bk (((cs ++ _) ++ xs).take cs.length) = _
     rw [List.append_assoc,tk])
    refine ((y.pre r0).to ?_).mono (by omega)
    show _ = b + (Op.bar _ :: (q.ops (b + 1) ++ [Op.barred])).length
    simp only [List.length_cons,List.length_append,List.length_nil]
    omega
   | behind =>
    have hq2:Bx (Wy t d) q i g i us N':=by rw [if_pos (by decide)] at hq'; exact hq'
    obtain ⟨gd,_,_⟩:=Bx.good gw hq hg hq2 hi
    have hs2:Sits es b (.once :: ((.lean :: (q.ops (b + 2) ++ [.here])) ++ [.peeked])):=hs'
    obtain ⟨c0,s1⟩:=hs2.cons
    obtain ⟨s2,s3⟩:=s1.app
    have c3:=s3.cons.1
    obtain ⟨c1,s4⟩:=s2.cons
    obtain ⟨s5,s6⟩:=s4.app
    have c2:=s6.cons.1
    have r0:Rc es t n (.run ⟨b,i,g,h,cs⟩) 1 (.run ⟨b + 1,i,g,(cs.length,i) :: h,cs⟩):=Rc.one c0 hi hg trivial rfl
    have he:b + 1 + (Op.lean :: (q.ops (b + 2) ++ [Op.here])).length = b + 1 + 1 + (q.ops (b + 2)).length + 1:=by
     simp only [List.length_cons,List.length_append,List.length_nil]
     omega
    rw [he] at c3
    have hend:b + 1 + 1 + (q.ops (b + 2)).length + 1 + 1 = b + (Wu .behind q.ops b).length:=by
     show _ = b + (Op.once :: ((Op.lean :: (q.ops (b + 2) ++ [Op.here])) ++ [Op.peeked])).length
     simp only [List.length_cons,List.length_append,List.length_nil]
     omega
    rcases Bx.run yw gw (q:=cs.length) (h:=h) (cs:=cs) hq hg c1 s5 c2 hq2 hi with ⟨w,us',xs,j,rfl,r1,hj⟩ | ⟨rfl,j,r1,hj⟩
    ·have a:=gd w (by simp)
     have r2:Rc es t n (.run ⟨b + 1 + 1 + (q.ops (b + 2)).length + 1,w.1,w.2,(cs.length,i) :: h,cs ++ xs⟩) 1 (.run ⟨b + 1 + 1 + (q.ops (b + 2)).length + 1 + 1,i,w.2,h,cs⟩):=Rc.one c3 a.2.1 a.2.2 nd1 (by
      show Cf.run ⟨_,_,_,_,(cs ++ xs).take cs.length⟩ = _
      rw [tk])
     exact (((one _ (i,w.2)).pre ((r0.trans r1).trans r2)).to hend).mono (by omega)
    ·exact .nil (r0.trans r1) (by omega)
   | notbehind =>
    have hq2:Bx (Wy t d) q i g i us N':=by rw [if_pos (by decide)] at hq'; exact hq'
    obtain ⟨gd,_,_⟩:=Bx.good gw hq hg hq2 hi
    have hz:b + 2 + (Op.lean :: (q.ops (b + 2) ++ [Op.here])).length = b + (Wu .notbehind q.ops b).length:=by
     show _ = b + (Op.bar _ :: ((Op.lean :: (q.ops (b + 2) ++ [Op.here])) ++ [Op.barred])).length
     simp only [List.length_cons,List.length_append,List.length_nil]
     omega
    have hs2:Sits es b (.bar (b + 2 + (Op.lean :: (q.ops (b + 2) ++ [Op.here])).length) :: ((.lean :: (q.ops (b + 2) ++ [.here])) ++ [.barred])):=hs'
    rw [hz] at hs2
    obtain ⟨c0,s1⟩:=hs2.cons
    obtain ⟨s2,s3⟩:=s1.app
    have c3:=s3.cons.1
    obtain ⟨c1,s4⟩:=s2.cons
    obtain ⟨s5,s6⟩:=s4.app
    have c2:=s6.cons.1
    have r0:Rc es t n (.run ⟨b,i,g,h,cs⟩) 1 (.run ⟨b + 1,i,g,(cs.length,i) :: h,cs ++ [(b + (Wu .notbehind q.ops b).length,i,g,h)]⟩):=Rc.one c0 hi hg trivial rfl
    have he:b + 1 + (Op.lean :: (q.ops (b + 2) ++ [Op.here])).length = b + 1 + 1 + (q.ops (b + 2)).length + 1:=by
     simp only [List.length_cons,List.length_append,List.length_nil]
     omega
    rw [he] at c3
    show Yl es t n (b + (Wu .notbehind q.ops b).length) h cs _ _ _
    rcases Bx.run yw gw (q:=cs.length) (h:=h) (cs:=cs ++ [(b + (Wu .notbehind q.ops b).length,i,g,h)]) hq hg c1 s5 c2 hq2 hi with ⟨w,us',xs,j,rfl,r1,hj⟩ | ⟨rfl,j,r1,hj⟩
    ·have a:=gd w (by simp)
     have r2:Rc es t n (.run ⟨b + 1 + 1 + (q.ops (b + 2)).length + 1,w.1,w.2,(cs.length,i) :: h,(cs ++ [(b + (Wu .notbehind q.ops b).length,i,g,h)]) ++ xs⟩) 1 (bk cs):=Rc.one c3 a.2.1 a.2.2 nd1 (by
      show bk (((cs ++ _) ++ xs).take cs.length) = _
      rw [List.append_assoc,tk])
     exact .nil ((r0.trans r1).trans r2) (by omega)
    ·rw [Xx] at r1
     exact ((one _ (i,g)).pre (r0.trans r1)).mono (by omega)
end
abbrev Tm (H H':Hp):Prop:=∀ b xs,H b = some (.tup xs)→H' b = some (.tup xs)
def EnA (H:Hp) (e:V):En→Prop
 | none=>e = .non
 | some p=>∃ a,e = .ref a∧H a = some (.tup [.int p.1,.int p.2])
def GsAt (H:Hp) (v:V) (g:Gs):Prop:=∃ (a:Addr) (es:List V),v = .ref a∧H a = some (.tup es)∧Paired (EnA H) es g
def HlAt (H:Hp):V→Hl→Prop
 | v,[]=>v = .non
 | v,p :: h=>∃ (a:Addr) (v':V),v = .ref a∧H a = some (.tup [.int p.1,.int p.2,v'])∧HlAt H v' h
def ChA (H:Hp) (q:Chc) (c:Ch):Prop:=q.1 = c.1∧q.2.1 = c.2.1∧GsAt H q.2.2.1 c.2.2.1∧HlAt H q.2.2.2 c.2.2.2
theorem EnA.mono {H H':Hp} (t:Tm H H') {e:V}:∀ {x:En},EnA H e x→EnA H' e x
 | none,h=>h
 | some p,⟨a,e1,e2⟩=>⟨a,e1,t _ _ e2⟩
theorem GsAt.mono {H H':Hp} (t:Tm H H') {v:V} {g:Gs} (h:GsAt H v g):GsAt H' v g:=by
 obtain ⟨a,es,e1,e2,e3⟩:=h
 exact ⟨a,es,e1,t _ _ e2,Paired.mapP e3 fun _ _ q=>q.mono t⟩
theorem HlAt.mono {H H':Hp} (t:Tm H H'):∀ {h:Hl} {v:V},HlAt H v h→HlAt H' v h
 | [],_,e=>e
 | p :: h,_,⟨a,v',e1,e2,e3⟩=>⟨a,v',e1,t _ _ e2,HlAt.mono t e3⟩
theorem ChA.mono {H H':Hp} (t:Tm H H') {q:Chc} {c:Ch} (h:ChA H q c):ChA H' q c:=⟨h.1,h.2.1,h.2.2.1.mono t,h.2.2.2.mono t⟩
structure Ab (H:Hp) (ra:Addr) (t:Str) (ch:Addr) (M:MM) (c:Cg):Prop where
 rows:M.s.rows = .ref ra
 text:M.s.text = t
 chs:M.s.choices = ch
 en:M.s.ended = false
 row:M.s.row = c.r
 pl:M.s.place = c.i
 gs:GsAt H M.s.groups c.g
 hl:HlAt H M.s.held c.h
 cs:Paired (ChA H) M.cs c.cs
structure AbE (ra:Addr) (t:Str) (ch:Addr) (M:MM):Prop where
 rows:M.s.rows = .ref ra
 text:M.s.text = t
 chs:M.s.choices = ch
 en:M.s.ended = true
 cs:M.cs = []
def AbF (H:Hp) (ra:Addr) (t:Str) (ch:Addr) (M:MM):Cf→Prop
 | .run c=>Ab H ra t ch M c
 | .ended=>AbE ra t ch M
theorem Ab.mono {H H':Hp} (tm:Tm H H') {ra:Addr} {t:Str} {ch:Addr} {M:MM} {c:Cg} (h:Ab H ra t ch M c):Ab H' ra t ch M c :=
 ⟨h.rows,h.text,h.chs,h.en,h.row,h.pl,h.gs.mono tm,h.hl.mono tm,Paired.mapP h.cs fun _ _ q=>q.mono tm⟩
theorem AbF.mono {H H':Hp} (tm:Tm H H') {ra:Addr} {t:Str} {ch:Addr} {M:MM}:∀ {c:Cf},AbF H ra t ch M c→AbF H' ra t ch M c
 | .run _,h=>Ab.mono tm h
 | .ended,h=>h
theorem Vt {α β:Type} {F:α→β→Prop}:∀ {xs:List α} {ys:List β} {y:β},Paired F xs (ys ++ [y])→∃ xs' x,xs = xs' ++ [x]∧Paired F xs' ys∧F x y
 | _,[],y,.cons h .nil=>⟨[],_,rfl,.nil,h⟩
 | _,z :: ys,y,.cons h t=>by
  obtain ⟨xs',x,e,p,q⟩:=Vt t
  exact ⟨_ :: xs',x,by rw [e]; rfl,.cons h p,q⟩
theorem Ab.back {H:Hp} {ra:Addr} {t:Str} {ch:Addr} {M:MM} {c:Cg} (h:Ab H ra t ch M c):AbF H ra t ch M.back (bk c.cs):=by
 rcases List.eq_nil_or_concat c.cs with e | ⟨xs,q,e⟩
 ·have hc:=h.cs
  rw [e] at hc ⊢
  have:M.cs = []:=by cases hm:M.cs with
   | nil=>rfl
   | cons a b=>rw [hm] at hc; cases hc
  unfold MM.back
  rw [this]
  exact ⟨h.rows,h.text,h.chs,rfl,rfl⟩
 ·rw [List.concat_eq_append] at e
  have hc:=h.cs
  rw [e] at hc ⊢
  obtain ⟨xs',x,e',p,hx⟩:=Vt hc
  unfold MM.back
  rw [e',List.getLast?_append,Xx]
  obtain ⟨q1,q2,q3,q4⟩:=hx
  refine ⟨h.rows,h.text,h.chs,h.en,q1,q2,q3,q4,?_⟩
  show Paired (ChA H) (xs' ++ [x]).dropLast xs
  rw [List.dropLast_concat]
  exact p
def Op.fd:Op→Bool→Bool
 | .found,_=>true
 | _,b=>b
def Op.word:Op→Str
 | .pat h=>h.word | .try_ _ => "try" | .go _ => "go" | .have_ _ _ => "have" | .turns => "turns" | .open_ => "open" | .close _ => "close" | .turn _ _ _ _ => "turn" | .next _ _ => "next" | .once => "once" | .kept => "kept" | .peeked => "peeked"
 | .bar _ => "bar" | .barred => "barred" | .lean => "lean" | .here => "here" | .found => "found"
def Hd.act:Hd→Bool
 | .sign _=>true | .any=>true | .inn _=>true | .out _=>true | .beg=>true | .fin=>true | .again _=>true | _=>false
def Op.ok:Op→Prop
 | .pat h=>h.act = true
 | _=>True
inductive spDoI (C:Addr) (o:Op) (vs:List V) (H:Hp) (Q:VK):Prop
 | mk (m a ra ch:Addr) (t:Str) (n:Nat) (M:MM) (c:Cg) (_:vs = [.ref m,.ref a]) (_:MAt C H m M) (_:Ab H ra t ch M c) (_:RowAt H (.ref a) o.rw) (_:t.length ≤ 1000) (_:c.i ≤ t.length) (_:GOk t n c.g) (_:n ≤ 900) (_:(o.need n c ∨ o = .found)) (_:(c.cs.length ≤ 1000000∧1 ≤ c.r)) (_:∀ (H':Hp) (M':MM),MAt C H' m M'→AbF H' ra t ch M' (o.act t c)→M'.s.made = M.s.made→M'.s.found = o.fd M.s.found→Gro [m,ch] H H'→Q .non H')
def Jm (C:Addr) (o:Op):Sp:=fun vs H Q _=>spDoI C o vs H Q
theorem Yn (M:MM):M.back.s.made = M.s.made∧M.back.s.found = M.s.found:=by
 unfold MM.back
 split <;> exact ⟨rfl,rfl⟩
theorem Ye {α β:Type} {F:α→β→Prop}:∀ {xs:List α} {ys:List β} (k:Nat),Paired F xs ys→Paired F (xs.take k) (ys.take k)
 | _,_,0,_=>by simp; exact .nil
 | _,_,_ + 1,.nil=>by simp; exact .nil
 | _,_,k + 1,.cons h t=>by simp only [List.take_succ_cons]; exact .cons h (Ye k t)
theorem Uw {α β:Type} {F:α→β→Prop}:∀ {xs:List α} {ys:List β} (k:Nat),Paired F xs ys→Paired F (xs.drop k) (ys.drop k)
 | _,_,0,h=>h
 | _,_,_ + 1,.nil=>by simp; exact .nil
 | _,_,k + 1,.cons h t=>by simp only [List.drop_succ_cons]; exact Uw k t
theorem GsAt.len {H:Hp} {v:V} {g:Gs} (h:GsAt H v g):∃ (a:Addr) (es:List V),v = .ref a∧H a = some (.tup es)∧es.length = g.length∧Paired (EnA H) es g:=by
 obtain ⟨a,es,e1,e2,e3⟩:=h
 exact ⟨a,es,e1,e2,Paired.length e3,e3⟩
theorem GsAt.ent {H:Hp} {v:V} {g:Gs} {k:Int} (h:GsAt H v g) (h1:1 ≤ k) (h2:k ≤ g.length):∃ (a:Addr) (es:List V) (e:V),v = .ref a∧H a = some (.tup es)∧es.length = g.length∧atI es (k - 1) = some e∧EnA H e (ent g k):=by
 obtain ⟨a,es,e1,e2,e3,e4⟩:=h.len
 have hl:(k - 1).toNat < es.length:=by omega
 have ha:=Xy (List.getElem?_eq_getElem hl)
 rw [show (((k - 1).toNat:Nat):Int) = k - 1 by omega] at ha
 obtain ⟨y,hy,hE⟩:=Y2 e4 (List.getElem?_eq_getElem hl)
 refine ⟨a,es,_,e1,e2,e3,ha,?_⟩
 unfold Seek.ent
 rw [List.getD_eq_getElem?_getD,hy]
 exact hE
theorem GsAt.put {H:Hp} {es:List V} {g:Gs} {k:Int} {a b:Nat} {p r:Addr} (h:Paired (EnA H) es g) (hp:H p = some (.tup [.int a,.int b])) (hr:H r = some (.tup (es.take (k - 1).toNat ++ [.ref p] ++ es.drop k.toNat))):GsAt H (.ref r) (put g k a b) :=
 ⟨r,_,rfl,hr,Zr (Zr (Ye _ h) (.cons ⟨p,rfl,hp⟩ .nil)) (Uw _ h)⟩
theorem Jk {K:PySem.W.Frag} {a b:Addr} {xs ys:List V} {H:Hp} {Q:VK} (ha:H a = some (.tup xs)) (hb:H b = some (.tup ys)) (hz:xs.length + ys.length ≤ 1000) (h:∀ (r:Addr) (H':Hp),H' r = some (.tup (xs ++ ys))→Gro [] H H'→Q (.ref r) H'):T2 K (.ref a) (.ref b) H Q :=
 ⟨a,b,xs,ys,rfl,rfl,SqT.of ha,SqT.of hb,Xa hz,fun e=>h b H (by rw [e]; exact hb) Gro.refl,fun _ e=>h a H (by rw [e,List.append_nil]; exact ha) Gro.refl,fun _ _ p hp=>h p _ Z3 (Gro.new hp _)⟩
mutual
def Pat.has (k:Int):Pat→Prop
 | .node h ks=>h = .grp k ∨ Zcq k ks
def Zcq (k:Int):List Pat→Prop
 | []=>False
 | p :: ps=>p.has k ∨ Zcq k ps
end
theorem Z2t {k:Int}:∀ {ks:List Pat},Zcq k ks ↔ ∃ p ∈ ks,p.has k
 | []=>by simp [Zcq]
 | p :: ps=>by rw [Zcq,Z2t (ks:=ps)]; simp
theorem has_node {k:Int} {h:Hd} {ks:List Pat}:(Pat.node h ks).has k ↔ h = .grp k ∨ ∃ p ∈ ks,p.has k:=by rw [Pat.has,Z2t]
theorem Z15 {Pr:Op→Prop}:∀ {cs:List Co},(∀ c ∈ cs,∀ b,∀ o ∈ c b,Pr o)→∀ b,∀ o ∈ Z46 cs b,Pr o
 | [],_,b,o,ho=>by simp [Z46] at ho
 | c :: cs,h,b,o,ho=>by
  rw [Z46] at ho
  rcases List.mem_append.mp ho with ho | ho
  ·exact h c (by simp) b o ho
  ·exact Z15 (fun d hd=>h d (by simp [hd])) _ o ho
theorem Z1u {Pr:Op→Prop} (h1:∀ z,Pr (.try_ z)) (h2:∀ z,Pr (.go z)) {e:Nat}:∀ {cs:List Co},(∀ c ∈ cs,∀ b,∀ o ∈ c b,Pr o)→∀ b,∀ o ∈ T5 e cs b,Pr o
 | [],_,b,o,ho=>by simp [T5] at ho
 | [c],h,b,o,ho=>h c (by simp) b o ho
 | c :: d :: cs,h,b,o,ho=>by
  rw [T5] at ho
  rcases List.mem_cons.mp ho with rfl | ho
  ·exact h1 _
  ·rcases List.mem_append.mp ho with ho | ho
   ·exact h c (by simp) _ o ho
   ·rcases List.mem_cons.mp ho with rfl | ho
    ·exact h2 _
    ·exact Z1u h1 h2 (fun x hx=>h x (by simp at hx; simp [hx])) _ o ho
theorem Z2q {Pr:Op→Prop} {cs:List Co} (h:∀ c ∈ cs,∀ b,∀ o ∈ c b,Pr o) (b:Nat):∀ o ∈ hdO cs b,Pr o:=by
 cases cs with
 | nil=>intro o ho; simp [hdO] at ho
 | cons c cs=>exact h c (by simp) b
structure Free (Pr:Op→Prop):Prop where
 f1:∀ z,Pr (.try_ z)
 f2:∀ z,Pr (.go z)
 f3:∀ k z,Pr (.have_ k z)
 f4:Pr .turns
 f5:Pr .open_
 f6:∀ lo hi how z,Pr (.turn lo hi how z)
 f7:∀ lo z,Pr (.next lo z)
 f8:Pr .once
 f9:Pr .kept
 f10:Pr .peeked
 f11:∀ z,Pr (.bar z)
 f12:Pr .barred
 f13:Pr .lean
 f14:Pr .here
theorem Ty {Pr:Op→Prop} (F:Free Pr) {lo:Int} {hi:Option Int} {how:How} {c:Co} (h:∀ b,∀ o ∈ c b,Pr o) (b:Nat):∀ o ∈ W4 lo hi how c b,Pr o:=by
 intro o ho
 unfold W4 at ho
 rcases List.mem_cons.mp ho with rfl | ho
 ·exact F.f4
 ·rcases List.mem_cons.mp ho with rfl | ho
  ·exact F.f6 _ _ _ _
  ·rcases List.mem_append.mp ho with ho | ho
   ·exact h _ o ho
   ·rw [List.mem_singleton.mp ho]; exact F.f7 _ _
theorem Z2k {Pr:Op→Prop} (F:Free Pr) {h:Hd} {cs:List Co} (hl:h.act = true→Pr (.pat h)) (hc:∀ k,h = .grp k→Pr (.close k)) (ih:∀ c ∈ cs,∀ b,∀ o ∈ c b,Pr o) (b:Nat):∀ o ∈ h.ops cs b,Pr o:=by
 intro o ho
 have hh:=Z2q ih
 cases h with
 | row=>exact Z15 ih b o ho
 | alt=>exact Z1u F.f1 F.f2 ih b o ho
 | times lo hi how =>
  cases how with
  | keep =>
   have ho':o ∈ Op.once :: (W4 lo hi .much (hdO cs) (b + 1) ++ [.kept]):=ho
   rcases List.mem_cons.mp ho' with rfl | ho
   ·exact F.f8
   ·rcases List.mem_append.mp ho with ho | ho
    ·exact Ty F hh _ o ho
    ·rw [List.mem_singleton.mp ho]; exact F.f9
  | much=>exact Ty F hh b o ho
  | little=>exact Ty F hh b o ho
 | grp k =>
  have ho':o ∈ Op.open_ :: (hdO cs (b + 1) ++ [.close k]):=ho
  rcases List.mem_cons.mp ho' with rfl | ho
  ·exact F.f5
  ·rcases List.mem_append.mp ho with ho | ho
   ·exact hh _ o ho
   ·rw [List.mem_singleton.mp ho]; exact hc k rfl
 | hav k =>
  have ht:∀ b,∀ o ∈ hdO cs.tail b,Pr o:=fun b=>Z2q (fun c hc'=>ih c (List.mem_of_mem_tail hc')) b
  have ho':o ∈ Z47 k (hdO cs) (hdO cs.tail) b:=ho
  unfold Z47 at ho'
  rcases List.mem_cons.mp ho' with rfl | ho
  ·exact F.f3 _ _
  ·rcases List.mem_append.mp ho with ho | ho
   ·exact hh _ o ho
   ·rcases List.mem_cons.mp ho with rfl | ho
    ·exact F.f2 _
    ·exact ht _ o ho
 | look l =>
  have hin:∀ o ∈ Z6h l (hdO cs) b,Pr o:=by
   intro o ho
   unfold Z6h at ho
   split at ho
   ·rcases List.mem_cons.mp ho with rfl | ho
    ·exact F.f13
    ·rcases List.mem_append.mp ho with ho | ho
     ·exact hh _ o ho
     ·rw [List.mem_singleton.mp ho]; exact F.f14
   ·exact hh _ o ho
  have ho':o ∈ Wu l (hdO cs) b:=ho
  unfold Wu at ho'
  rcases List.mem_cons.mp ho' with e | ho
  ·rw [e]
   split
   ·exact F.f11 _
   ·exact F.f8
  ·rcases List.mem_append.mp ho with ho | ho
   ·exact hin o ho
   ·rw [List.mem_singleton.mp ho]
    cases l with
    | once=>exact F.f9
    | ahead=>exact F.f10
    | behind=>exact F.f10
    | notahead=>exact F.f12
    | notbehind=>exact F.f12
 | _ =>
  rw [List.mem_singleton.mp ho]
  exact hl rfl
mutual
theorem Z8c:∀ (p:Pat) (b:Nat),∀ o ∈ p.ops b,o.ok
 | .node h ks,b=>by
  rw [Wp]
  refine Z2k ⟨fun _=>trivial,fun _=>trivial,fun _ _=>trivial,trivial,trivial,fun _ _ _ _=>trivial,fun _ _=>trivial,trivial,trivial,trivial,fun _=>trivial,trivial,trivial,trivial⟩ (fun e=>e) (fun _ _=>trivial) (fun c hc=>?_) b
  obtain ⟨p,hp,rfl⟩:=List.mem_map.mp hc
  exact Z5a ks p hp
theorem Z5a:∀ (ks:List Pat),∀ p ∈ ks,∀ b,∀ o ∈ p.ops b,o.ok
 | [],_,hp=>by simp at hp
 | k :: ks,p,hp=>by
  rcases List.mem_cons.mp hp with h | h
  ·rw [h]
   exact Z8c k
  ·exact Z5a ks p h
end
mutual
theorem Z0a:∀ (p:Pat) (b:Nat),∀ o ∈ p.ops b,∀ k,o = .close k→p.has k
 | .node h ks,b=>by
  rw [Wp]
  refine Z2k (Pr:=fun o=>∀ k,o = .close k→(Pat.node h ks).has k) ⟨fun _ k e=>(by cases e),fun _ k e=>(by cases e),fun _ _ k e=>(by cases e),fun k e=>(by cases e),fun k e=>(by cases e),fun _ _ _ _ k e=>(by cases e),fun _ _ k e=>(by cases e),fun k e=>(by cases e),fun k e=>(by cases e),fun k e=>(by cases e),fun _ k e=>(by cases e),fun k e=>(by cases e),fun k e=>(by cases e),fun k e=>(by cases e)⟩ (fun _ k e=>(by cases e)) (fun k e k' e'=>by cases e'; exact has_node.mpr (.inl e)) (fun c hc=>?_) b
  obtain ⟨p,hp,rfl⟩:=List.mem_map.mp hc
  exact fun b o ho k e=>has_node.mpr (.inr ⟨p,hp,Ti ks p hp b o ho k e⟩)
theorem Ti:∀ (ks:List Pat),∀ p ∈ ks,∀ b,∀ o ∈ p.ops b,∀ k,o = .close k→p.has k
 | [],_,hp=>by simp at hp
 | k :: ks,p,hp=>by
  rcases List.mem_cons.mp hp with h | h
  ·rw [h]
   exact Z0a k
  ·exact Ti ks p h
end
theorem Z4w {c:Co} {o:Op} (hm:∀ b,o ∈ c b):∀ {cs:List Co},c ∈ cs→∀ b,o ∈ Z46 cs b
 | [],h,_=>by simp at h
 | d :: cs,h,b=>by
  rw [Z46]
  rcases List.mem_cons.mp h with rfl | h
  ·exact List.mem_append.mpr (.inl (hm b))
  ·exact List.mem_append.mpr (.inr (Z4w hm h _))
theorem Z6g {c:Co} {o:Op} {e:Nat} (hm:∀ b,o ∈ c b):∀ {cs:List Co},c ∈ cs→∀ b,o ∈ T5 e cs b
 | [],h,_=>by simp at h
 | [d],h,b=>by rw [List.mem_singleton.mp h] at hm; exact hm b
 | d :: d' :: cs,h,b=>by
  rw [T5]
  refine List.mem_cons_of_mem _ ?_
  rcases List.mem_cons.mp h with rfl | h
  ·exact List.mem_append.mpr (.inl (hm _))
  ·exact List.mem_append.mpr (.inr (List.mem_cons_of_mem _ (Z6g hm h _)))
theorem Tw {lo:Int} {hi:Option Int} {how:How} {c:Co} {o:Op} (hm:∀ b,o ∈ c b) (b:Nat):o ∈ W4 lo hi how c b:=by
 unfold W4
 exact List.mem_cons_of_mem _ (List.mem_cons_of_mem _ (List.mem_append.mpr (.inl (hm _))))
def Hd.fits:Hd→List Pat→Prop
 | .times _ _ _,ks=>ks.length = 1
 | .grp _,ks=>ks.length = 1
 | .hav _,ks=>ks.length = 2
 | .look _,ks=>ks.length = 1
 | .row,_=>True
 | .alt,_=>True
 | _,ks=>ks = []
mutual
def Pat.wf:Pat→Prop
 | .node h ks=>h.fits ks∧wfL ks
def wfL:List Pat→Prop
 | []=>True
 | k :: ks=>k.wf∧wfL ks
end
theorem Z49:∀ {ks:List Pat},wfL ks ↔ ∀ k ∈ ks,k.wf
 | []=>by simp [wfL]
 | k :: ks=>by rw [wfL,Z49 (ks:=ks)]; simp
theorem wf_node {h:Hd} {ks:List Pat}:(Pat.node h ks).wf ↔ h.fits ks∧∀ k ∈ ks,k.wf:=by rw [Pat.wf,Z49]
theorem PatAt.wf {H:Hp}:∀ {d:Nat} {v:V} {p:Pat},PatAt H d v p→p.wf
 | 0,_,_,h=>h.elim
 | d + 1,v,.node h ks,⟨a,kv,e,l,p⟩=>by
  refine wf_node.mpr ⟨?_,fun k hk=>?_⟩
  ·have hl:=Paired.length p
   cases h with
   | times lo hi how=>obtain ⟨_,k,rfl,_⟩:=l; exact hl.symm
   | grp n=>obtain ⟨_,k,rfl,_⟩:=l; exact hl.symm
   | hav n=>obtain ⟨_,y,z,rfl,_⟩:=l; exact hl.symm
   | look lk=>obtain ⟨k,rfl,_⟩:=l; exact hl.symm
   | row=>trivial
   | alt=>trivial
   | again n=>obtain ⟨_,rfl,_⟩:=l; exact List.length_eq_zero_iff.mp hl.symm
   | sign s=>obtain ⟨rfl,_⟩:=l; exact List.length_eq_zero_iff.mp hl.symm
   | any=>obtain ⟨rfl,_⟩:=l; exact List.length_eq_zero_iff.mp hl.symm
   | inn s=>obtain ⟨rfl,_⟩:=l; exact List.length_eq_zero_iff.mp hl.symm
   | out s=>obtain ⟨rfl,_⟩:=l; exact List.length_eq_zero_iff.mp hl.symm
   | beg=>obtain ⟨rfl,_⟩:=l; exact List.length_eq_zero_iff.mp hl.symm
   | fin=>obtain ⟨rfl,_⟩:=l; exact List.length_eq_zero_iff.mp hl.symm
  ·obtain ⟨x,_,hx⟩:=Wo p k hk
   exact PatAt.wf hx
theorem Z60 {ks:List Pat} {p:Pat} {o:Op} (h1:ks.length = 1) (hp:p ∈ ks) (hm:∀ b,o ∈ p.ops b) (b:Nat):o ∈ hdO (ks.map Pat.ops) b:=by
 match ks,h1 with
 | [q],_ =>
  rw [List.mem_singleton.mp hp] at hm
  exact hm b
mutual
theorem Z1o {k:Int}:∀ (p:Pat),p.wf→p.has k→∀ b,Op.close k ∈ p.ops b
 | .node h ks,hw,hh,b=>by
  have hw':=wf_node.mp hw
  rw [Wp]
  rcases has_node.mp hh with rfl | ⟨p,hp,hk⟩
  ·exact List.mem_cons_of_mem _ (List.mem_append.mpr (.inr (by simp)))
  ·have hm:=Z2s ks p hp (hw'.2 p hp) hk
   have hc:p.ops ∈ ks.map Pat.ops:=List.mem_map.mpr ⟨p,hp,rfl⟩
   cases h with
   | row=>exact Z4w hm hc b
   | alt=>exact Z6g hm hc b
   | times lo hi how =>
    have h1:=Z60 hw'.1 hp hm
    cases how with
    | keep=>exact List.mem_cons_of_mem _ (List.mem_append.mpr (.inl (Tw h1 _)))
    | much=>exact Tw h1 b
    | little=>exact Tw h1 b
   | grp n=>exact List.mem_cons_of_mem _ (List.mem_append.mpr (.inl (Z60 hw'.1 hp hm _)))
   | hav n =>
    match ks,hw'.1,hp with
    | [q,q'],_,hp =>
     show Op.close k ∈ Z47 n q.ops q'.ops b
     unfold Z47
     refine List.mem_cons_of_mem _ ?_
     rcases List.mem_cons.mp hp with e | hp
     ·rw [e] at hm
      exact List.mem_append.mpr (.inl (hm _))
     ·rw [List.mem_singleton.mp hp] at hm
      exact List.mem_append.mpr (.inr (List.mem_cons_of_mem _ (hm _)))
   | look l =>
    have h1:=Z60 hw'.1 hp hm
    show Op.close k ∈ Wu l (hdO (ks.map Pat.ops)) b
    unfold Wu
    refine List.mem_cons_of_mem _ (List.mem_append.mpr (.inl ?_))
    unfold Z6h
    split
    ·exact List.mem_cons_of_mem _ (List.mem_append.mpr (.inl (h1 _)))
    ·exact h1 _
   | _ =>
    have:ks = []:=hw'.1
    rw [this] at hp
    simp at hp
theorem Z2s {k:Int}:∀ (ks:List Pat),∀ p ∈ ks,p.wf→p.has k→∀ b,Op.close k ∈ p.ops b
 | [],_,hp=>by simp at hp
 | q :: ks,p,hp=>by
  rcases List.mem_cons.mp hp with h | h
  ·rw [h]
   exact Z1o q
  ·exact Z2s ks p h
end
mutual
theorem Z8j {n k:Int}:∀ (p:Pat),p.nm n→p.has k→1 ≤ k∧k ≤ n
 | .node h ks,hn,hh=>by
  have hn':=nm_node.mp hn
  rcases has_node.mp hh with rfl | ⟨p,hp,hk⟩
  ·exact hn'.1
  ·exact Z61 ks p hp (hn'.2 p hp) hk
theorem Z61 {n k:Int}:∀ (ks:List Pat),∀ p ∈ ks,p.nm n→p.has k→1 ≤ k∧k ≤ n
 | [],_,hp=>by simp at hp
 | q :: ks,p,hp=>by
  rcases List.mem_cons.mp hp with h | h
  ·rw [h]
   exact Z8j q
  ·exact Z61 ks p h
end
theorem Zb9 (h:let E:=D; let A1:=a1; let A2:=a2; let A3:=a3; let A4:=a4; let A5:=a5; let A6:=a6; let A7:=a7; let A8:=Zq c7 A7 Zi; let A9:=a8; let A10:=Za (Vv i1 g1 A8) A9; let A11:=Za (Zq c6 A6 Zi) A10; let A12:=Za (Zq c5 A5 Zi) A11; let A13:=Za (Zq c4 A4 Zi) A12; let A14:=Za (Zq c3 A3 Zi) A13; let A15:=Za (Zq c2 A2 Zi) A14; (Za (Zq c1 A1 Zi) A15) E σ H):(Za (Zq c1 a1 Zi) (Za (Zq c2 a2 Zi) (Za (Zq c3 a3 Zi) (Za (Zq c4 a4 Zi) (Za (Zq c5 a5 Zi) (Za (Zq c6 a6 Zi) (Za (Vv i1 g1 (Zq c7 a7 Zi)) a8))))))) D σ H:=h
theorem Zb0 (h:let E:=D; let A1:=a1; let A2:=a2; (Za (Zq c1 A1 Zi) A2) E σ H):(Za (Zq c1 a1 Zi) a2) D σ H:=h
theorem Zbm (h:let E:=D; let A1:=a4; let A2:=a5; let A3:=a7; let A4:=Za a6 A3; let A5:=a9; let A6:=Za a8 A5; let A7:=Za (Zq c3 A4 Zi) A6; let A8:=Za (Zq c2 A2 Zi) A7; let A9:=Za (Zq c1 A1 Zi) A8; let A10:=Za a3 A9; let A11:=Za a2 A10; (Za a1 A11) E σ H):(Za a1 (Za a2 (Za a3 (Za (Zq c1 a4 Zi) (Za (Zq c2 a5 Zi) (Za (Zq c3 (Za a6 a7) Zi) (Za a8 a9))))))) D σ H:=h
theorem Zbh (h:let E:=D; let A1:=a2; let A2:=a5; let A3:=Za a4 A2; let A4:=a6; let A5:=a7; let A6:=Za (Zq c3 A4 Zi) A5; let A7:=Za (Zq c2 A3 Zi) A6; let A8:=Za a3 A7; let A9:=Za (Zq c1 A1 Zi) A8; (Za a1 A9) E σ H):(Za a1 (Za (Zq c1 a2 Zi) (Za a3 (Za (Zq c2 (Za a4 a5) Zi) (Za (Zq c3 a6 Zi) a7))))) D σ H:=h
theorem Zb5 (h:let E:=D; let A1:=a3; let A2:=a5; let A3:=Za a4 A2; let A4:=a6; let A5:=a7; let A6:=Za (Zq c4 A4 Zi) A5; let A7:=a9; let A8:=a10; let A9:=Za (Zq c6 A7 Zi) A8; let A10:=a11; let A11:=a12; let A12:=a14; let A13:=a15; let A14:=Za (Zq c9 A12 Zi) A13; let A15:=Za a13 A14; let A16:=Za (Zq c8 A11 Zi) A15; let A17:=Za (Wv c7 A10) A16; let A18:=Za (Zq c5 A9 Zi) A17; let A19:=Za a8 A18; let A20:=Za (Zq c3 A6 Zi) A19; let A21:=Za (Zq c2 A3 Zi) A20; let A22:=Za (Zq c1 A1 Zi) A21; let A23:=Za a2 A22; (Za a1 A23) E σ H):(Za a1 (Za a2 (Za (Zq c1 a3 Zi) (Za (Zq c2 (Za a4 a5) Zi) (Za (Zq c3 (Za (Zq c4 a6 Zi) a7) Zi) (Za a8 (Za (Zq c5 (Za (Zq c6 a9 Zi) a10) Zi) (Za (Wv c7 a11) (Za (Zq c8 a12 Zi) (Za a13 (Za (Zq c9 a14 Zi) a15))))))))))) D σ H:=h
theorem Zb7 (h:let E:=D; let A1:=a3; let A2:=a5; let A3:=a6; let A4:=Za (Zq c3 A2 Zi) A3; let A5:=Za a4 A4; let A6:=Za (Zq c2 A1 Zi) A5; let A7:=Za a2 A6; let A8:=a7; let A9:=a8; let A10:=a9; let A11:=a10; let A12:=a11; let A13:=a12; let A14:=a13; let A15:=Za (Zq c8 A13 Zi) A14; let A16:=Za (Zq c7 A12 Zi) A15; let A17:=Za (Zq c6 A10 A11) A16; let A18:=Za (Zq c5 A9 Zi) A17; let A19:=Za (Zq c4 A8 Zi) A18; let A20:=Za (Zq c1 A7 Zi) A19; (Za a1 A20) E σ H):(Za a1 (Za (Zq c1 (Za a2 (Za (Zq c2 a3 Zi) (Za a4 (Za (Zq c3 a5 Zi) a6)))) Zi) (Za (Zq c4 a7 Zi) (Za (Zq c5 a8 Zi) (Za (Zq c6 a9 a10) (Za (Zq c7 a11 Zi) (Za (Zq c8 a12 Zi) a13))))))) D σ H:=h
theorem Z87 (h:let E:=D; let A1:=a2; let A2:=a4; let A3:=a5; let A4:=Za (Zq c3 A2 Zi) A3; let A5:=a6; let A6:=a7; let A7:=Za (Zq c5 A5 Zi) A6; let A8:=a9; let A9:=a10; let A10:=Za (Vv i1 g1 A8) A9; let A11:=Za a8 A10; let A12:=a12; let A13:=a13; let A14:=Za (Vv i2 g2 A12) A13; let A15:=Za a11 A14; let A16:=a15; let A17:=a16; let A18:=Za (Zq c9 A16 Zi) A17; let A19:=Za a14 A18; let A20:=a18; let A21:=Za a17 A20; let A22:=a19; let A23:=Za (Zq c10 A21 Zi) A22; let A24:=Za (Zq c8 A19 Zi) A23; let A25:=Za (Zq c7 A15 Zi) A24; let A26:=Za (Zq c6 A11 Zi) A25; let A27:=Za (Zq c4 A7 Zi) A26; let A28:=Za (Zq c2 A4 Zi) A27; let A29:=Za a3 A28; let A30:=Za (Zq c1 A1 Zi) A29; (Za a1 A30) E σ H):(Za a1 (Za (Zq c1 a2 Zi) (Za a3 (Za (Zq c2 (Za (Zq c3 a4 Zi) a5) Zi) (Za (Zq c4 (Za (Zq c5 a6 Zi) a7) Zi) (Za (Zq c6 (Za a8 (Za (Vv i1 g1 a9) a10)) Zi) (Za (Zq c7 (Za a11 (Za (Vv i2 g2 a12) a13)) Zi) (Za (Zq c8 (Za a14 (Za (Zq c9 a15 Zi) a16)) Zi) (Za (Zq c10 (Za a17 a18) Zi) a19))))))))) D σ H:=h
theorem Zbp (h:let E:=D; let A1:=a3; let A2:=a4; let A3:=Za (Zq c2 A1 Zi) A2; let A4:=Za a2 A3; let A5:=a6; let A6:=Za a5 A5; let A7:=a7; let A8:=a8; let A9:=a9; let A10:=Za (Zq c6 A8 Zi) A9; let A11:=a10; let A12:=a11; let A13:=a12; let A14:=Za (Zq c8 A12 Zi) A13; let A15:=Za (Zq c7 A11 Zi) A14; let A16:=Za (Zq c5 A10 Zi) A15; let A17:=Za (Zq c4 A7 Zi) A16; let A18:=Za (Zq c3 A6 Zi) A17; let A19:=Za (Zq c1 A4 Zi) A18; (Za a1 A19) E σ H):(Za a1 (Za (Zq c1 (Za a2 (Za (Zq c2 a3 Zi) a4)) Zi) (Za (Zq c3 (Za a5 a6) Zi) (Za (Zq c4 a7 Zi) (Za (Zq c5 (Za (Zq c6 a8 Zi) a9) Zi) (Za (Zq c7 a10 Zi) (Za (Zq c8 a11 Zi) a12))))))) D σ H:=h
theorem Zbb (h:let E:=D; let A1:=a8; let A2:=a16; let A3:=a17; let A4:=a18; let A5:=Za (Zq c5 A3 Zi) A4; let A6:=Za (Zq c4 A2 Zi) A5; let A7:=a19; let A8:=Zq c3 A6 A7; let A9:=Za a15 A8; let A10:=Za a14 A9; let A11:=a20; let A12:=Za (Wv c2 A10) A11; let A13:=Za a13 A12; let A14:=Za a12 A13; let A15:=Za a11 A14; let A16:=Za a10 A15; let A17:=Za a9 A16; let A18:=Za (Zq c1 A1 Zi) A17; let A19:=Za a7 A18; let A20:=Za a6 A19; let A21:=Za a5 A20; let A22:=Za a4 A21; let A23:=Za a3 A22; let A24:=Za a2 A23; (Za a1 A24) E σ H):(Za a1 (Za a2 (Za a3 (Za a4 (Za a5 (Za a6 (Za a7 (Za (Zq c1 a8 Zi) (Za a9 (Za a10 (Za a11 (Za a12 (Za a13 (Za (Wv c2 (Za a14 (Za a15 (Zq c3 (Za (Zq c4 a16 Zi) (Za (Zq c5 a17 Zi) a18)) a19)))) a20)))))))))))))) D σ H:=h
theorem Z29 (h:let E:=D; let A1:=a2; (Za a1 A1) E σ H):(Za a1 a2) D σ H:=h
theorem Zby (h:let E:=D; let A1:=a2; let A2:=Vv i1 g1 A1; (Za a1 A2) E σ H):(Za a1 (Vv i1 g1 a2)) D σ H:=h
theorem Zbl (h:let E:=D; let A1:=a5; let A2:=Za a4 A1; let A3:=Za a3 A2; let A4:=Za a2 A3; let A5:=a6; let A6:=Za (Vv i1 g1 A4) A5; (Za a1 A6) E σ H):(Za a1 (Za (Vv i1 g1 (Za a2 (Za a3 (Za a4 a5)))) a6)) D σ H:=h
theorem Zb3 (h:let E:=D; let A1:=a2; let A2:=a3; let A3:=Vv i1 g1 A2; let A4:=a4; let A5:=a5; let A6:=a8; let A7:=Za a7 A6; let A8:=Za a6 A7; let A9:=a9; let A10:=a10; let A11:=Zq c6 A9 A10; let A12:=Zq c5 A8 A11; let A13:=Zq c4 A5 A12; let A14:=Zq c3 A4 A13; let A15:=Zq c2 A3 A14; let A16:=Zq c1 A1 A15; (Za a1 A16) E σ H):(Za a1 (Zq c1 a2 (Zq c2 (Vv i1 g1 a3) (Zq c3 a4 (Zq c4 a5 (Zq c5 (Za a6 (Za a7 a8)) (Zq c6 a9 a10))))))) D σ H:=h
theorem Z4x (h:let E:=D; let A1:=a4; let A2:=Za a3 A1; let A3:=Za a2 A2; (Za a1 A3) E σ H):(Za a1 (Za a2 (Za a3 a4))) D σ H:=h
theorem Zb2 (h:let E:=D; let A1:=a4; let A2:=Za a3 A1; let A3:=Za a2 A2; let A4:=Za a1 A3; let A5:=a9; let A6:=Za a8 A5; let A7:=Za a7 A6; let A8:=Za a6 A7; let A9:=Za a5 A8; (Za (Zq c1 A4 Zi) A9) E σ H):(Za (Zq c1 (Za a1 (Za a2 (Za a3 a4))) Zi) (Za a5 (Za a6 (Za a7 (Za a8 a9))))) D σ H:=h
theorem Zb6 (h:let E:=D; let A1:=a6; let A2:=Za a5 A1; let A3:=Za a4 A2; let A4:=Za a3 A3; let A5:=Za a2 A4; (Za a1 A5) E σ H):(Za a1 (Za a2 (Za a3 (Za a4 (Za a5 a6))))) D σ H:=h
theorem Z86 (h:let E:=D; let A1:=a2; let A2:=a3; let A3:=Za (Zq c1 A1 Zi) A2; (Za a1 A3) E σ H):(Za a1 (Za (Zq c1 a2 Zi) a3)) D σ H:=h
theorem Z28 (h:let E:=D; let A1:=a3; let A2:=Za a2 A1; (Za a1 A2) E σ H):(Za a1 (Za a2 a3)) D σ H:=h
theorem Zbv (h:let E:=D; let A1:=a1; (Wv c1 A1) E σ H):(Wv c1 a1) D σ H:=h
theorem Zbf (h:let E:=D; let A1:=a3; let A2:=Za a2 A1; let A3:=a5; let A4:=a6; let A5:=Zq c2 A3 A4; let A6:=Za a4 A5; let A7:=Za (Zq c1 A2 Zi) A6; (Za a1 A7) E σ H):(Za a1 (Za (Zq c1 (Za a2 a3) Zi) (Za a4 (Zq c2 a5 a6)))) D σ H:=h
theorem Z03 (h:let E:=D; let A1:=a1; (Zq c1 A1 Zi) E σ H):(Zq c1 a1 Zi) D σ H:=h
theorem Zbg (h:let E:=D; let A1:=a2; let A2:=a4; let A3:=Za a3 A2; let A4:=Zq c1 A1 A3; (Za a1 A4) E σ H):(Za a1 (Zq c1 a2 (Za a3 a4))) D σ H:=h
theorem Zbu (h:let E:=D; let A1:=a9; let A2:=Za a8 A1; let A3:=Za a7 A2; let A4:=a10; let A5:=a11; let A6:=a12; let A7:=Zq c3 A5 A6; let A8:=Zq c2 A4 A7; let A9:=Zq c1 A3 A8; let A10:=Za a6 A9; let A11:=Za a5 A10; let A12:=Za a4 A11; let A13:=Za a3 A12; let A14:=Za a2 A13; (Za a1 A14) E σ H):(Za a1 (Za a2 (Za a3 (Za a4 (Za a5 (Za a6 (Zq c1 (Za a7 (Za a8 a9)) (Zq c2 a10 (Zq c3 a11 a12))))))))) D σ H:=h
theorem Zbi (h:let E:=D; let A1:=a1; let A2:=a4; let A3:=a5; let A4:=Za (Zq c2 A2 Zi) A3; let A5:=Za a3 A4; let A6:=Za a2 A5; (Za (Zq c1 A1 Zi) A6) E σ H):(Za (Zq c1 a1 Zi) (Za a2 (Za a3 (Za (Zq c2 a4 Zi) a5)))) D σ H:=h
theorem Zbn (h:let E:=D; let A1:=a4; let A2:=a5; let A3:=Zq c1 A1 A2; let A4:=Za a3 A3; let A5:=Za a2 A4; let A6:=a6; let A7:=Za (Vv i1 g1 A5) A6; (Za a1 A7) E σ H):(Za a1 (Za (Vv i1 g1 (Za a2 (Za a3 (Zq c1 a4 a5)))) a6)) D σ H:=h
theorem Zbe (h:let E:=D; let A1:=a2; let A2:=a3; let A3:=a4; let A4:=a5; let A5:=a6; let A6:=Za (Zq c4 A4 Zi) A5; let A7:=Za (Zq c3 A3 Zi) A6; let A8:=Za (Zq c2 A2 Zi) A7; let A9:=Za (Zq c1 A1 Zi) A8; (Za a1 A9) E σ H):(Za a1 (Za (Zq c1 a2 Zi) (Za (Zq c2 a3 Zi) (Za (Zq c3 a4 Zi) (Za (Zq c4 a5 Zi) a6))))) D σ H:=h
theorem Zbs (h:let E:=D; let A1:=a3; let A2:=a4; let A3:=Za (Zq c1 A1 Zi) A2; let A4:=Za a2 A3; let A5:=a5; let A6:=Za (Vv i1 g1 A4) A5; (Za a1 A6) E σ H):(Za a1 (Za (Vv i1 g1 (Za a2 (Za (Zq c1 a3 Zi) a4))) a5)) D σ H:=h
theorem Zbq (h:let E:=D; let A1:=a4; let A2:=a5; let A3:=Za (Zq c1 A1 Zi) A2; let A4:=Za a3 A3; let A5:=Za a2 A4; (Za a1 A5) E σ H):(Za a1 (Za a2 (Za a3 (Za (Zq c1 a4 Zi) a5)))) D σ H:=h
theorem Zb4 (h:let E:=D; let A1:=a1; let A2:=a2; let A3:=a3; let A4:=a6; let A5:=Za a5 A4; let A6:=Za a4 A5; let A7:=Za (Zq c4 A3 Zi) A6; let A8:=a9; let A9:=Za a8 A8; let A10:=Za a7 A9; let A11:=a11; let A12:=Za a10 A11; let A13:=Za (Zq c5 A10 Zi) A12; let A14:=Za (Zq c3 A7 Zi) A13; let A15:=Za (Zq c2 A2 Zi) A14; (Za (Zq c1 A1 Zi) A15) E σ H):(Za (Zq c1 a1 Zi) (Za (Zq c2 a2 Zi) (Za (Zq c3 (Za (Zq c4 a3 Zi) (Za a4 (Za a5 a6))) Zi) (Za (Zq c5 (Za a7 (Za a8 a9)) Zi) (Za a10 a11))))) D σ H:=h
theorem Zbw (h:let E:=D; let A1:=a2; let A2:=a3; let A3:=a4; let A4:=Za (Zq c2 A2 Zi) A3; let A5:=Za (Zq c1 A1 Zi) A4; (Za a1 A5) E σ H):(Za a1 (Za (Zq c1 a2 Zi) (Za (Zq c2 a3 Zi) a4))) D σ H:=h
theorem Zbd (h:let E:=D; let A1:=a6; let A2:=Za a5 A1; let A3:=Za a4 A2; let A4:=Za a3 A3; let A5:=a7; let A6:=Za (Zq c1 A4 Zi) A5; let A7:=Za a2 A6; (Za a1 A7) E σ H):(Za a1 (Za a2 (Za (Zq c1 (Za a3 (Za a4 (Za a5 a6))) Zi) a7))) D σ H:=h
theorem Z88 (h:let E:=D; let A1:=a1; let A2:=a2; (Zq c1 A1 A2) E σ H):(Zq c1 a1 a2) D σ H:=h
theorem Zba (h:let E:=D; let A1:=a1; let A2:=Zq c1 A1 Zi; let A3:=a2; (Za (Vv i1 g1 A2) A3) E σ H):(Za (Vv i1 g1 (Zq c1 a1 Zi)) a2) D σ H:=h
theorem Zbc (h:let E:=D; let A1:=a1; let A2:=a3; let A3:=a4; let A4:=a5; let A5:=Za (Zq c3 A3 Zi) A4; let A6:=Za (Zq c2 A2 Zi) A5; let A7:=Za a2 A6; (Za (Zq c1 A1 Zi) A7) E σ H):(Za (Zq c1 a1 Zi) (Za a2 (Za (Zq c2 a3 Zi) (Za (Zq c3 a4 Zi) a5)))) D σ H:=h
theorem Zbo (h:let E:=D; let A1:=a3; let A2:=Zq c2 A1 Zi; let A3:=Za a2 A2; let A4:=a4; let A5:=Za (Wv c1 A3) A4; (Za a1 A5) E σ H):(Za a1 (Za (Wv c1 (Za a2 (Zq c2 a3 Zi))) a4)) D σ H:=h
theorem Zb1 (h:let E:=D; let A1:=a2; let A2:=Za a1 A1; let A3:=a3; (Za (Zq c1 A2 Zi) A3) E σ H):(Za (Zq c1 (Za a1 a2) Zi) a3) D σ H:=h
theorem Zbt (h:let E:=D; let A1:=a10; let A2:=Za a9 A1; let A3:=Za a8 A2; let A4:=Za a7 A3; let A5:=Za a6 A4; let A6:=Za a5 A5; let A7:=Za a4 A6; let A8:=Za a3 A7; let A9:=Za a2 A8; (Za a1 A9) E σ H):(Za a1 (Za a2 (Za a3 (Za a4 (Za a5 (Za a6 (Za a7 (Za a8 (Za a9 a10))))))))) D σ H:=h
theorem Zbr (h:let E:=D; let A1:=a1; let A2:=a3; let A3:=Za a2 A2; (Za (Zq c1 A1 Zi) A3) E σ H):(Za (Zq c1 a1 Zi) (Za a2 a3)) D σ H:=h
theorem Zb8 (h:let E:=D; let A1:=a2; let A2:=a3; let A3:=Za (Vv i1 g1 A1) A2; (Za a1 A3) E σ H):(Za a1 (Za (Vv i1 g1 a2) a3)) D σ H:=h
theorem Zbk (h:let E:=D; let A1:=a2; let A2:=Zq c1 A1 Zi; let A3:=a3; let A4:=Za (Vv i1 g1 A2) A3; (Za a1 A4) E σ H):(Za a1 (Za (Vv i1 g1 (Zq c1 a2 Zi)) a3)) D σ H:=h
theorem Z89 (h:let E:=D; let A1:=a1; let A2:=a2; let A3:=a3; let A4:=Za (Zq c2 A2 Zi) A3; (Za (Zq c1 A1 Zi) A4) E σ H):(Za (Zq c1 a1 Zi) (Za (Zq c2 a2 Zi) a3)) D σ H:=h
theorem Zbj (h:let E:=D; let A1:=a2; let A2:=a4; let A3:=Zq c3 A2 Zi; let A4:=Vv i1 g1 A3; let A5:=a5; let A6:=Za (Zq c2 A4 Zi) A5; let A7:=Za a3 A6; let A8:=Za (Zq c1 A1 Zi) A7; (Za a1 A8) E σ H):(Za a1 (Za (Zq c1 a2 Zi) (Za a3 (Za (Zq c2 (Vv i1 g1 (Zq c3 a4 Zi)) Zi) a5)))) D σ H:=h
theorem Zbx (h:let E:=D; let A1:=a3; let A2:=a5; let A3:=a6; let A4:=Za (Zq c3 A2 Zi) A3; let A5:=Za a4 A4; let A6:=Za (Zq c2 A1 Zi) A5; let A7:=Za a2 A6; let A8:=a7; let A9:=a8; let A10:=a9; let A11:=a10; let A12:=a11; let A13:=Za (Zq c6 A10 A11) A12; let A14:=Za (Zq c5 A9 Zi) A13; let A15:=Za (Zq c4 A8 Zi) A14; let A16:=Za (Zq c1 A7 Zi) A15; (Za a1 A16) E σ H):(Za a1 (Za (Zq c1 (Za a2 (Za (Zq c2 a3 Zi) (Za a4 (Za (Zq c3 a5 Zi) a6)))) Zi) (Za (Zq c4 a7 Zi) (Za (Zq c5 a8 Zi) (Za (Zq c6 a9 a10) a11))))) D σ H:=h
def top (i:Nat):Stmt:=PySem.Challenge.pw_seek_k27_moves_of_all_rows.main.body.getD i (.Pass ⟨0,0,0,0⟩)
section
variable {P:Program} {w:World} {K:PySem.W.Frag} {mg:Str→Option Value} {base:Heap} {f:Addr} {fd:FuncData}
inductive spTakeI (vs:List V) (H:Hp) (Q:VK):Prop
 | mk (b:Addr) (m:Int) (_:vs = [.ref b,.int m]) (_:BoxAt H b) (_:0 < m) (_:m < 1073741824) (_:∀ (r:Int) (H':Hp),0 ≤ r→r < m→BoxAt H' b→Gro [b] H H'→Q (.int r) H')
def Xd:Sp:=fun vs H Q _=>spTakeI vs H Q
abbrev s_l_take:Stmt:=top 37
theorem sc_l_take:FnScope ["_law_box", "_law_many", "_law_number"] ["_law_box", "_law_many"] (Zb s_l_take):=fsc
theorem Z9q (F:Fun K "_law_take" "_law_take" s_l_take f fd):FnOk P w K mg base CX0 1 f fd ["_law_box", "_law_many"] Xd:=by
 refine F.ok sc_l_take (fun vs H Q E h=>?_) (fun cdv A outer s H vs Q E hr h=>?_)
 ·obtain ⟨b,m,rfl,_⟩:=h
  rfl
 obtain ⟨b,m,rfl,⟨ns,hb,hl⟩,h0,h1,q⟩:=h
 refine ltX ?_
 intro Xz
 refine ⟨_,(Z1 (Zo (Z9 (U3 hr.units0) (pv 0) (Zv Z4) (Zc _)) (Z5 (Zh Z2)) Zf)
  (Z1 (pS 2 sc_l_take.nd (Z8 Zz (pv 0) Z2 (fun _ _=>rfl)))
  (Z1 (W0 (Zu Z5c (pv 2) (pv 1)) (W1 (pv 0) Z2 Yu))
  (Z1 (Zo (PW.pt (Ws (Z9 Zs (Z8 Zz (pv 0) Z2 (fun _ _=>rfl)) Z2 (Zc _)) (Xe (Z9 Zs (Z8 Zz (pv 0) Z2 (fun _ _=>rfl)) (Uj W9 Z2) (Zc _))))) (Z5 (Zm (X3 PySem.F.plainAttrs_list PySem.F.slot_list_pop PySem.F.type_list_pop Z7i (pv 0) (Z0 Z2 Z4)))) Zf)
  (Z5 (Zh (Zu Z8d (pv 2) (pv 1)))))))),?_⟩
 refine Zbi ?_
 intro Ez Az1 Az2 Az3 Az4 Az5 Az6
 refine (exA rfl ⟨sz,fun p hp=>?_⟩)
 have np:b ≠ p:=Z7 hb hp
 have g1:Gro [b] H (upd H p (.lst [])):=Gro.new hp _
 have hb1:(upd H p (.lst [])) b = some (.lst (ns.map V.int)):=by rw [Zl np]; exact hb
 refine ⟨b,p,ns.map V.int,rfl,rfl,SqL.of hb1,SqL.of Z3,exA rfl (?_)⟩
 cases ns with
 | nil=>exact Z0k (q 0 _ (Int.le_refl 0) h0 ⟨[],hb1,hl⟩ g1)
 | cons n r =>
  refine Z0l ?_
  refine (ixL hb1 at0 (?_))
  refine (exA rfl (exA rfl (exB rfl rfl ⟨⟨h0,h1⟩,?_⟩)))
  refine (exA rfl ⟨b,_,_,0,rfl,rfl,hb1,ix0,?_⟩)
  have hm0:0 ≤ n % m:=Int.emod_nonneg _ (by omega)
  have hm1:n % m < m:=Int.emod_lt_of_pos _ h0
  generalize hH2:upd (upd H p (.lst [])) b (.lst ((List.map V.int (n :: r)).set 0 (V.int (n / m)))) = H2
  have hb2:H2 b = some (.lst (V.int (n / m) :: r.map V.int)):=by rw [← hH2,Z3]; rfl
  have g2:Gro [b] H H2:=g1.trans (by rw [← hH2]; exact Gro.set (by simp) hb1 _)
  have box2:BoxAt H2 b:=⟨n / m :: r,hb2,by simpa using hl⟩
  have hpop:∀ Q':V→Hp→Prop,Q' (.int (n / m)) (upd H2 b (.lst (r.map V.int)))→Z85 (.ref b) [.int 0] H2 Q':=fun Q' hq =>
   ⟨b,_,0,0,exA rfl ⟨rfl,hb2,by decide,by decide,seqIndex_of (by omega) (by rw [List.length_cons]; omega),rfl,hq⟩⟩
  have box3:BoxAt (upd H2 b (.lst (r.map V.int))) b:=⟨r,Z3,by simp at hl; omega⟩
  have g3:Gro [b] H (upd H2 b (.lst (r.map V.int))):=g2.trans (Gro.set (by simp) hb2 _)
  have ty2:tyV K "list" (.ref b) H2:=.inl ⟨rfl,_,SqL.of hb2⟩
  refine (ixL hb2 at0 ⟨rfl,_,rfl,?_⟩)
  refine X7 (fun c=>?_) (fun c=>?_)
  ·refine Z0k (exA rfl ⟨ty2,?_⟩)
   refine hpop _ ?_
   refine (exA rfl (exA rfl (exB rfl rfl ⟨h0,?_⟩)))
   exact q _ _ hm0 hm1 box3 g3
  ·refine (ixL hb2 at0 ⟨_,rfl,rfl,_,rfl,?_⟩)
   refine X7 (fun c=>?_) (fun c=>?_)
   ·refine (exA rfl ⟨ty2,?_⟩)
    refine hpop _ ?_
    refine (exA rfl (exA rfl (exB rfl rfl ⟨h0,?_⟩)))
    exact q _ _ hm0 hm1 box3 g3
   ·refine (exA rfl (exA rfl (exB rfl rfl ⟨h0,?_⟩)))
    exact q _ _ hm0 hm1 box2 g2
inductive spSignI (vs:List V) (H:Hp) (Q:VK):Prop
 | mk (c:Int) (_:vs = [.int c]) (_:∀ s:Str,s.length = 1→Q (.str s) H)
def Z4j:Sp:=fun vs H Q _=>spSignI vs H Q
abbrev s_l_sign:Stmt:=top 38
theorem sc_l_sign:FnScope ["_law_cell", "_law_some"] ["_law_cell"] (Zb s_l_sign):=fsc
theorem Z9r (F:Fun K "_law_sign" "_law_sign" s_l_sign f fd):FnOk P w K mg base CX0 1 f fd ["_law_cell"] Z4j:=by
 refine F.ok sc_l_sign (fun vs H Q E h=>?_) (fun cdv A outer s H vs Q E hr h=>?_)
 ·obtain ⟨c,rfl,_⟩:=h
  rfl
 obtain ⟨c,rfl,q⟩:=h
 refine ltX ?_
 intro Xz
 refine ⟨_,(Z1 (pS 1 sc_l_sign.nd Ze)
  (Z1 (pS 1 sc_l_sign.nd (Zu Z3m (pv 1) Ze))
  (Z5 (Zh (Z8 Z0j (pv 1) (Zu Z8d (pv 0) Z2) (fun _ _=>rfl)))))),?_⟩
 refine Z28 ?_
 intro Ez Az1 Az2
 refine (exA rfl (exB rfl rfl ⟨sz,?_⟩))
 refine (exA rfl (exA rfl (exB rfl rfl ⟨(by decide:(0:Int) < 94),?_⟩)))
 generalize hz:(Str.ofString _ ++ Str.ofString _:Str) = z
 have hlen:z.cps.toList.length = 94:=by rw [← hz]; decide +kernel
 have h0:0 ≤ c % 94:=Int.emod_nonneg _ (by omega)
 have h1:c % 94 < 94:=Int.emod_lt_of_pos _ (by omega)
 have hlt:(c % 94).toNat < z.cps.toList.length:=by omega
 have e:atI z.cps.toList (c % 94) = some (z.cps.toList[(c % 94).toNat]):=by
  have:=Xy (xs:=z.cps.toList) (j:=(c % 94).toNat) (List.getElem?_eq_getElem hlt)
  rw [Int.toNat_of_nonneg h0] at this
  exact this
 refine ⟨z,_,_,rfl,rfl,?_,e,q _ rfl⟩
 have:z.length = 94:=by rw [← hlen]; simp [Str.length]
 rw [this]; exact sz
inductive spLettersI (vs:List V) (H:Hp) (Q:VK):Prop
 | mk (b:Addr) (_:vs = [.ref b]) (_:BoxAt H b) (_:∀ (l:Addr) (H':Hp),BoxAt H' b→LetAt H' l→Gro [b] H H'→Q (.ref l) H')
def Va:Sp:=fun vs H Q _=>spLettersI vs H Q
abbrev s_l_letters:Stmt:=top 39
theorem Jx:FnScope ["_law_box"] ["_law_box"] (Zb s_l_letters):=fsc
theorem Z3p (T:Blt mg) (O_l_take:Own P w K mg base 1 "_law_take" ["_law_box", "_law_many"] Xd) (O_l_sign:Own P w K mg base 1 "_law_sign" ["_law_cell"] Z4j) (F:Fun K "_law_letters" "_law_letters" s_l_letters f fd) :
  FnOk P w K mg base CX0 2 f fd ["_law_box"] Va:=by
 refine F.ok Jx (fun vs H Q E h=>?_) (fun cdv A outer s H vs Q E hr h=>?_)
 ·obtain ⟨b,rfl,_⟩:=h
  rfl
 obtain ⟨b,rfl,hb,q⟩:=h
 refine ltX ?_
 intro Xz
 refine ⟨_,(Z5 (Zh (Xm rfl (show CScope _ ["_law_box"] (Zb s_l_letters) _ from ⟨rfl,by decide +kernel,rfl,by decide +kernel,by decide +kernel,by decide +kernel,by decide +kernel⟩) (Xf rfl T.b_range (Z0 Z2 Z4)) (fun _ _ _ _=>V0) (fun _ _ _ _=>(Zk (O_l_sign.mono (by omega)) hr rfl (Z0 (Zk (O_l_take.mono (by omega)) hr rfl (Z0 (pv 1) (Z0 Z2 Z4))) Z4)))))),?_⟩
 refine ⟨3,rfl,by decide,by decide,?_⟩
 refine Jd (n:=3) (fun i ys H'=>(∃ xs:List Str,ys = xs.map V.str∧xs.length = i∧∀ x ∈ xs,x.length = 1)∧BoxAt H' b∧Gro [b] H H') ⟨⟨[],rfl,rfl,by simp⟩,hb,Gro.refl⟩ (Yo (by decide)) (fun i ys H' ⟨⟨xs,e1,e2,_⟩,_⟩=>by rw [e1,List.length_map,e2]; exact Nat.le_refl _) ?_ ?_
 ·rintro i ys H1 hi ⟨⟨xs,rfl,e2,e3⟩,hb1,g1⟩
  refine (exA rfl ⟨b,94,rfl,hb1,by decide,by decide,fun r H2 h0 h1 hb2 g2=>?_⟩)
  refine ⟨r,rfl,fun s hs=>⟨⟨xs ++ [s],by simp,by simp [e2],fun x hx=>?_⟩,hb2,g1.trans g2⟩⟩
  rcases List.mem_append.mp hx with z | z
  ·exact e3 x z
  ·rw [List.mem_singleton.mp z]; exact hs
 ·rintro ys H1 ⟨⟨xs,rfl,e2,e3⟩,hb1,g1⟩ l hl
  match xs,e2,e3 with
  | [x,y,z],_,e3 =>
   exact q l _ (hb1.new hl) ⟨x,y,z,Z3,e3 x (by simp),e3 y (by simp),e3 z (by simp)⟩ (g1.trans (Gro.new hl _))
end
section
variable {P:Program} {w:World} {K:PySem.W.Frag} {mg:Str→Option Value} {base:Heap} {f C:Addr} {fd:FuncData}
def Zef (C:Addr) (Q:VK) (H:Hp) (m c:Addr) (M:MM):Prop:=∀ H':Hp,MAt C H' m M→Gro [m,c] H H'→Q .non H'
inductive spEnterI (C:Addr) (vs:List V) (H:Hp) (Q:VK):Prop
 | mk (m t:Addr) (M:MM) (q:Chc) (_:vs = [.ref m,.ref t]) (_:MAt C H m M) (_:H t = some (.tup [.int q.1,.int q.2.1,q.2.2.1,q.2.2.2])) (_:Zef C Q H m M.s.choices (M.enter q))
def Wb (C:Addr):Sp:=fun vs H Q _=>spEnterI C vs H Q
abbrev s_Machine_enter:Stmt:=Xn (top 35) 4
theorem Vz:FnScope ["self", "state"] ["self", "state"] (Zb s_Machine_enter):=fsc
theorem Jb (MT:Txt K mg C) (F:Fun K "enter" "Machine.enter" s_Machine_enter f fd):FnOk P w K mg base CX0 1 f fd ["self", "state"] (Wb C):=by
 refine F.ok Vz (fun vs H Q E h=>?_) (fun cdv A outer s H vs Q E hr h=>?_)
 ·obtain ⟨m,t,M,q,rfl,_⟩:=h
  rfl
 obtain ⟨m,t,M,⟨r,a,g,hd⟩,rfl,hM,ht,q⟩:=h
 refine ltX ?_
 intro Xz
 refine ⟨_,(Z1 (Yg (pv 0) (Z8 Z6 (pv 1) Z2 (fun _ _=>rfl)) rfl)
  (Z1 (Yg (pv 0) (Z8 Z6 (pv 1) Z2 (fun _ _=>rfl)) rfl)
  (Z1 (Yg (pv 0) (Z8 Z6 (pv 1) Z2 (fun _ _=>rfl)) rfl)
  (Z5 (Yg (pv 0) (Z8 Z6 (pv 1) Z2 (fun _ _=>rfl)) rfl))))),?_⟩
 refine Z4x ?_
 intro Ez Az1 Az2 Az3
 obtain ⟨⟨dx,h1⟩,_⟩:=id hM
 refine (ixT ht at0 ⟨_,rfl,m,C,dx,_,rfl,h1,MT.cl,MT.a3,Yt _,?_⟩)
 rw [Tf]
 have M1:MAt C _ m ⟨{ M.s with row:=r },M.cs⟩:=hM.put (s':={ M.s with row:=r }) h1 rfl
 have g1:Gro [m] H (upd H m (.ins C dx ({ M.s with row:=r }:MS).fs)):=Gro.ins (by simp) h1 _
 have e1:(upd H m (.ins C dx ({ M.s with row:=r }:MS).fs)) m = some (.ins C dx ({ M.s with row:=r }:MS).fs):=Z3
 generalize upd H m (.ins C dx ({ M.s with row:=r }:MS).fs) = H1 at *
 refine (ixT (g1.tups _ _ ht) rfl ⟨_,rfl,m,C,dx,_,rfl,e1,MT.cl,MT.a4,Yt _,?_⟩)
 rw [Z6z]
 have M2:MAt C _ m ⟨{ M.s with row:=r,place:=a },M.cs⟩:=M1.put (s':={ M.s with row:=r,place:=a }) e1 rfl
 have g2:Gro [m] H1 (upd H1 m (.ins C dx ({ M.s with row:=r,place:=a }:MS).fs)):=Gro.ins (by simp) e1 _
 have e2:(upd H1 m (.ins C dx ({ M.s with row:=r,place:=a }:MS).fs)) m = some (.ins C dx ({ M.s with row:=r,place:=a }:MS).fs):=Z3
 generalize upd H1 m (.ins C dx ({ M.s with row:=r,place:=a }:MS).fs) = H2 at *
 have g12:=g1.trans g2
 refine (ixT (g12.tups _ _ ht) rfl ⟨_,rfl,m,C,dx,_,rfl,e2,MT.cl,MT.a5,Yt _,?_⟩)
 rw [Z06]
 have M3:MAt C _ m ⟨{ M.s with row:=r,place:=a,groups:=g },M.cs⟩:=M2.put (s':={ M.s with row:=r,place:=a,groups:=g }) e2 rfl
 have g3:Gro [m] H2 (upd H2 m (.ins C dx ({ M.s with row:=r,place:=a,groups:=g }:MS).fs)):=Gro.ins (by simp) e2 _
 have e3:(upd H2 m (.ins C dx ({ M.s with row:=r,place:=a,groups:=g }:MS).fs)) m = some (.ins C dx ({ M.s with row:=r,place:=a,groups:=g }:MS).fs):=Z3
 generalize upd H2 m (.ins C dx ({ M.s with row:=r,place:=a,groups:=g }:MS).fs) = H3 at *
 have g13:=g12.trans g3
 refine (ixT (g13.tups _ _ ht) rfl ⟨_,rfl,m,C,dx,_,rfl,e3,MT.cl,MT.a6,Yt _,?_⟩)
 rw [Ui]
 have M4:MAt C _ m ⟨{ M.s with row:=r,place:=a,groups:=g,held:=hd },M.cs⟩:=M3.put (s':={ M.s with row:=r,place:=a,groups:=g,held:=hd }) e3 rfl
 have g4:Gro [m] H3 (upd H3 m (.ins C dx ({ M.s with row:=r,place:=a,groups:=g,held:=hd }:MS).fs)):=Gro.ins (by simp) e3 _
 exact q _ M4 ((g13.trans g4).mono (by simp))
inductive spBackI (C:Addr) (vs:List V) (H:Hp) (Q:VK):Prop
 | mk (m:Addr) (M:MM) (_:vs = [.ref m]) (_:MAt C H m M) (_:M.cs.length ≤ 1000000) (_:Zef C Q H m M.s.choices M.back)
def Xj (C:Addr):Sp:=fun vs H Q _=>spBackI C vs H Q
theorem Z19 {α β:Type} {F:α→β→Prop} {xs:List α} {ys:List β} (h:Paired F xs ys) {y:β} (e:ys.getLast? = some y):∃ x,xs[xs.length - 1]? = some x∧F x y:=by
 have hl:=Paired.length h
 have hne:ys ≠ []:=fun z=>by rw [z] at e; simp at e
 have hp:=List.length_pos_iff.mpr hne
 obtain ⟨x,hx⟩:∃ x,xs[xs.length - 1]? = some x:=⟨xs[xs.length - 1]'(by omega),List.getElem?_eq_getElem (by omega)⟩
 obtain ⟨y',hy',q⟩:=Y2 h hx
 rw [List.getLast?_eq_getElem?] at e
 rw [hl,e] at hy'
 cases hy'
 exact ⟨x,hx,q⟩
theorem Um {α β:Type} {F:α→β→Prop} {xs:List α} {ys:List β} (h:Paired F xs ys):Paired F xs.dropLast ys.dropLast:=by
 rw [List.dropLast_eq_take,List.dropLast_eq_take,Paired.length h]
 exact Ul _ h
abbrev s_Machine_go_back:Stmt:=Xn (top 35) 5
theorem Vc:FnScope ["self"] ["self"] (Zb s_Machine_go_back):=fsc
theorem Vr (T:Blt mg) (MT:Txt K mg C) (O_Machine_enter:OwnM P w K mg base 1 C "enter" ["self", "state"] (Wb C)) (F:Fun K "go_back" "Machine.go_back" s_Machine_go_back f fd):FnOk P w K mg base CX0 2 f fd ["self"] (Xj C):=by
 refine F.ok Vc (fun vs H Q E h=>?_) (fun cdv A outer s H vs Q E hr h=>?_)
 ·obtain ⟨m,M,rfl,_⟩:=h
  rfl
 obtain ⟨m,M,rfl,hM,hz,q⟩:=h
 refine ltX ?_
 intro Xz
 refine ⟨_,(Z5 (Zo (Z9 Zs (Zp Zx rfl T.b_len PyProof.Rows.Boot.«len» (Z0 (Zt (pv 0) rfl) Z4)) Z2 (Zc _)) (Z5 (Yg (pv 0) Wt rfl)) (Z5 (Zm (Yz (O_Machine_enter.mono (by omega)) MT.cl hr (pv 0) (Z0 (Z2f PySem.F.plainAttrs_list PySem.F.slot_list_pop PySem.F.type_list_pop Z2p (Zt (pv 0) rfl)) Z4)))))),?_⟩
 refine Z88 ?_
 intro Ez Az1 Az2
 have hne:=hM.ne
 obtain ⟨⟨dx,h1⟩,vs,hv,hp⟩:=id hM
 have hl:=Paired.length hp
 refine (exA rfl ⟨m,C,dx,_,_,rfl,h1,MT.cl,MT.a7,Ym _,M.s.choices,vs,rfl,.inl (SqL.of hv),rfl,exA rfl (X7 (fun z=>?_) (fun z=>?_))⟩)
 ·have h0:M.cs = []:=by
   have:V.int ((vs.length:Nat):Int) = V.int 0:=of_decide_eq_true z
   injection this with this
   exact List.length_eq_zero_iff.mp (by omega)
  refine (exA rfl ⟨m,C,dx,exA rfl ⟨h1,MT.cl,MT.a10,Yt _,?_⟩⟩)
  rw [Z6y]
  have hb:M.back = ⟨{ M.s with ended:=true },M.cs⟩:=by unfold MM.back; rw [h0]; rfl
  refine q _ ?_ (Gro.ins (by simp) h1 _)
  rw [hb]
  exact hM.put (s':={ M.s with ended:=true }) h1 rfl
 ·have h0:M.cs ≠ []:=fun e=>z (by
   rw [e] at hl
   rw [hl]
   exact decide_eq_true rfl)
  obtain ⟨y,hy⟩:∃ y,M.cs.getLast? = some y:=⟨M.cs.getLast h0,List.getLast?_eq_some_getLast h0⟩
  obtain ⟨x,hx,t,rfl,ht⟩:=Z19 hp hy
  have hb:M.back = MM.enter ⟨M.s,M.cs.dropLast⟩ y:=by unfold MM.back; rw [hy]
  refine (exA rfl ⟨m,dx,exA rfl ⟨h1,Vj _,exA rfl ⟨m,C,dx,_,_,rfl,h1,MT.cl,MT.a7,Ym _,.inl ⟨rfl,_,SqL.of hv⟩,M.s.choices,vs,exA rfl ⟨rfl,hv,hx,?_⟩⟩⟩⟩)
  have g1:Gro [M.s.choices] H (upd H M.s.choices (.lst vs.dropLast)):=Gro.set (by simp) hv _
  have M1:MAt C (upd H M.s.choices (.lst vs.dropLast)) m ⟨M.s,M.cs.dropLast⟩:=⟨⟨dx,by rw [Zl hne]; exact h1⟩,vs.dropLast,Z3,Paired.mapP (Um hp) fun _ _ q=>q.mono g1.tups⟩
  refine ⟨m,t,_,y,rfl,M1,g1.tups _ _ ht,fun H2 M2 g2=>q H2 (by rw [hb]; exact M2) ((g1.mono (by simp)).trans g2)⟩
end
section
variable {P:Program} {w:World} {K:PySem.W.Frag} {mg:Str→Option Value} {base:Heap} {f C:Addr} {fd:FuncData}
inductive spLiesI (vs:List V) (H:Hp) (Q:VK):Prop
 | mk (r:Addr) (rs:List (Str × Str)) (c:Str) (_:vs = [.ref r,.str c]) (_:RunsAt H r rs) (_:Q (.bl (Yi rs c)) H)
def Z4l:Sp:=fun vs H Q _=>spLiesI vs H Q
abbrev s_lies_in:Stmt:=top 12
theorem sc_lies_in:FnScope ["runs", "sign", "low", "high"] ["runs", "sign"] (Zb s_lies_in):=fsc
theorem Z3o (F:Fun K "lies_in" "lies_in" s_lies_in f fd):FnOk P w K mg base CX0 1 f fd ["runs", "sign"] Z4l:=by
 refine F.ok sc_lies_in (fun vs H Q E h=>?_) (fun cdv A outer s H vs Q E hr h=>?_)
 ·obtain ⟨r,rs,c,rfl,_⟩:=h
  rfl
 obtain ⟨r,rs,c,rfl,⟨vs,hv,hp,hz⟩,q⟩:=h
 refine ltX ?_
 intro Xz
 refine ⟨_,(Z1 (Xl PassesOwn.never rfl (Vg (pv 0)) (Zc2 rfl (Z2c (pN 2 sc_lies_in.nd) (Z2c (pN 3 sc_lies_in.nd) Z9b))) (Z5 (Zo (PW.pt (Xp (Z9 Z0b (pv 2) (pv 1) (Zc _)) (X2 (Z9 Z0b (pv 1) (pv 3) (Zc _))))) (Z5 (Zh Wt)) Zf)))
  (Z5 (Zh Wt))),?_⟩
 refine Zba ?_
 intro Ez Az1 Az2 Az3
 have hl:=Paired.length hp
 refine (exA rfl ⟨r,rfl,⟨vs,SqT.of hv⟩,?_⟩)
 refine Uv (xs:=vs) (fun i σ H'=>∃ lo hi:Option V,σ = [some (.ref r),some (.str c),lo,hi]∧H' = H∧(rs.take i).any (fun r=>!decide (c.cps.toList < r.1.cps.toList) && !decide (r.2.cps.toList < c.cps.toList)) = false) ⟨none,none,rfl,rfl,rfl⟩ (fun i σ H' _ ⟨_,_,_,e,_⟩=>by rw [e]; exact SqT.of hv) ?_ ?_
 ·rintro i x σ H1 hx ⟨lo,hi,rfl,rfl,hno⟩
  obtain ⟨p,hpi,_,_,a,rfl,ha⟩:=Y2 hp hx
  refine ⟨a,_,rfl,SqT.of ha,rfl,_,_,rfl,_,_,rfl,rfl,?_⟩
  have yes:(!decide (c.cps.toList < p.1.cps.toList) && !decide (p.2.cps.toList < c.cps.toList)) = true→Yi rs c = true:=fun h=>by
   unfold Yi
   rw [List.any_eq_true]
   exact ⟨p,List.mem_of_getElem? hpi,h⟩
  have no:(!decide (c.cps.toList < p.1.cps.toList) && !decide (p.2.cps.toList < c.cps.toList)) = false→(rs.take (i + 1)).any (fun r=>!decide (c.cps.toList < r.1.cps.toList) && !decide (r.2.cps.toList < c.cps.toList)) = false:=fun h=>by
   rw [Y9 hpi,List.any_append,hno]
   simpa using h
  refine (exA rfl (exA rfl (exB rfl rfl (exA rfl (X7 (fun z1=>?_) (fun z1=>?_))))))
  ·refine (exA rfl (exA rfl (exB rfl rfl (exA rfl (X7 (fun z2=>?_) (fun z2=>?_))))))
   ·rw [yes (by rw [z1,z2]; rfl)] at q
    exact q
   ·exact ⟨_,_,rfl,rfl,no (by rw [z1,Bool.eq_false_iff.mpr z2]; rfl)⟩
  ·exact Z0l ⟨_,_,rfl,rfl,no (by rw [Bool.eq_false_iff.mpr z1]; rfl)⟩
 ·rintro σ H1 ⟨lo,hi,rfl,rfl,hno⟩
  rw [hl,List.take_length] at hno
  rw [show Yi rs c = false from hno] at q
  exact q
inductive spTakesI (vs:List V) (H:Hp) (Q:VK):Prop
 | mk (a:Addr) (h:Hd) (t:Str) (i:Int) (_:vs = [.ref a,.str t,.int i]) (_:PatAt H 1 (.ref a) (.node h [])) (_:h.one = true) (_:0 ≤ i) (_:t.length ≤ 1000) (_:Q (.bl (Y8 h t i)) H)
def Z0z:Sp:=fun vs H Q _=>spTakesI vs H Q
abbrev s_takes_sign:Stmt:=top 11
theorem sc_takes_sign:FnScope ["row", "text", "at", "kind"] ["row", "text", "at"] (Zb s_takes_sign):=fsc
theorem J9 (T:Blt mg) (O_lies_in:Own P w K mg base 1 "lies_in" ["runs", "sign"] Z4l) (F:Fun K "takes_sign" "takes_sign" s_takes_sign f fd):FnOk P w K mg base CX0 2 f fd ["row", "text", "at"] Z0z:=by
 refine F.ok sc_takes_sign (fun vs H Q E h=>?_) (fun cdv A outer s H vs Q E hr h=>?_)
 ·obtain ⟨a,h,t,i,rfl,_⟩:=h
  rfl
 obtain ⟨a,h,t,i,rfl,hp,h1,h0,ht,q⟩:=h
 refine ltX ?_
 intro Xz
 refine ⟨_,(Z1 (Zo (Z9 Z5b (pv 2) (Zp Y6 rfl T.b_len PyProof.Rows.Boot.«len» (Z0 (pv 1) Z4)) (Zc _)) (Z5 (Zh Wt)) Zf)
  (Z1 (pS 3 sc_takes_sign.nd (Z8 Z6 (pv 0) Z2 (fun _ _=>rfl)))
  (Z1 (Zo (Z9 Zs (pv 3) Ze (Zc _)) (Z5 (Zh (Yp Zs (Z8 Z6 (pv 0) Z2 (fun _ _=>rfl)) (Z8 Z0j (pv 1) (pv 2) (fun _ _=>rfl)) (Zc _)))) Zf)
  (Z1 (Zo (Z9 Zs (pv 3) Ze (Zc _)) (Z5 (Zh Wt)) Zf)
  (Z5 (Zh (Yp Zs (Zk (O_lies_in.mono (by omega)) hr rfl (Z0 (Z8 Z6 (pv 0) Z2 (fun _ _=>rfl)) (Z0 (Z8 Z0j (pv 1) (pv 2) (fun _ _=>rfl)) Z4))) (Yp Zs (pv 3) Ze (Zc _)) (Zc _)))))))),?_⟩
 refine Zbc ?_
 intro Ez Az1 Az2 Az3 Az4 Az5 Az6 Az7
 obtain ⟨a',kv,e,lay,hk⟩:=hp
 cases e
 cases hk
 obtain ⟨r0,ea⟩:=lay.head
 unfold Y8 at q
 refine (exA rfl (exA rfl ⟨t,rfl,Xa ht,exB rfl rfl (exA rfl (X7 (fun z=>?_) (fun z=>?_)))⟩))
 ·have:¬ i < t.length:=by
   have:=of_decide_eq_true z
   omega
  rw [if_neg this] at q
  exact q
 have hlt:i < t.length:=by
  have:¬ ((t.length:Nat):Int) ≤ i:=fun e=>z (decide_eq_true e)
  omega
 rw [if_pos hlt] at q
 have hc:=Z6d h0 hlt
 refine (ixT ea at0 (?_))
 cases h with
 | sign x =>
  refine (exA rfl ⟨rfl,exA rfl (Zg (show isw "sign" "sign" = true by decide +kernel) ?_)⟩)
  exact (ixT lay.2.2 rfl ⟨_,rfl,_,rfl,t,i,_,rfl,rfl,Xa ht,hc,rfl,q⟩)
 | any =>
  refine (exA rfl ⟨rfl,exA rfl (Zd (show ¬ isw "any" "sign" = true by decide +kernel) ?_)⟩)
  exact (exA rfl ⟨rfl,exA rfl (Zg (show isw "any" "any" = true by decide +kernel) q)⟩)
 | inn rs =>
  obtain ⟨_,r,e,hr'⟩:=lay
  refine (exA rfl ⟨rfl,exA rfl (Zd (show ¬ isw "in" "sign" = true by decide +kernel) ?_)⟩)
  refine (exA rfl ⟨rfl,exA rfl (Zd (show ¬ isw "in" "any" = true by decide +kernel) ?_)⟩)
  refine (ixT e rfl ⟨_,rfl,_,rfl,t,i,_,rfl,rfl,Xa ht,hc,r,rs,_,rfl,hr',_,rfl,rfl,rfl,?_⟩)
  have e2:decide (V.str (Hd.inn rs).word = V.str "in") = true:=by show decide (V.str "in" = V.str "in") = true; decide +kernel
  rw [e2]
  have q':Q (.bl (Yi rs (chr t i.toNat))) H:=q
  show Q (.bl (decide (V.bl (Yi rs (chr t i.toNat)) = V.bl true))) H
  cases hb:Yi rs (chr t i.toNat) <;> rw [hb] at q' <;> exact q'
 | out rs =>
  obtain ⟨_,r,e,hr'⟩:=lay
  refine (exA rfl ⟨rfl,exA rfl (Zd (show ¬ isw "out" "sign" = true by decide +kernel) ?_)⟩)
  refine (exA rfl ⟨rfl,exA rfl (Zd (show ¬ isw "out" "any" = true by decide +kernel) ?_)⟩)
  refine (ixT e rfl ⟨_,rfl,_,rfl,t,i,_,rfl,rfl,Xa ht,hc,r,rs,_,rfl,hr',_,rfl,rfl,rfl,?_⟩)
  have e2:decide (V.str (Hd.out rs).word = V.str "in") = false:=by show decide (V.str "out" = V.str "in") = false; decide +kernel
  rw [e2]
  have q':Q (.bl (!Yi rs (chr t i.toNat))) H:=q
  show Q (.bl (decide (V.bl (Yi rs (chr t i.toNat)) = V.bl false))) H
  cases hb:Yi rs (chr t i.toNat) <;> rw [hb] at q' <;> exact q'
 | _=>exact absurd h1 (by simp [Hd.one])
end
def MM.doSign (h:Hd) (M:MM):MM:=if Y8 h M.s.text M.s.place = true then ⟨{ M.s with place:=M.s.place + 1 },M.cs⟩ else M.back
def MM.doBegin (M:MM):MM:=if M.s.place = 0 then M else M.back
def MM.doEnd (M:MM):MM:=if M.s.place = M.s.text.length then M else M.back
def MM.doFound (M:MM):MM:=⟨{ M.s with found:=true },M.cs⟩
section
variable {P:Program} {w:World} {K:PySem.W.Frag} {mg:Str→Option Value} {base:Heap} {f C:Addr} {fd:FuncData}
inductive spRowI (C:Addr) (pre:MM→Prop) (row:Hp→Addr→Prop) (go:MM→MM) (vs:List V) (H:Hp) (Q:VK):Prop
 | mk (m a:Addr) (M:MM) (_:vs = [.ref m,.ref a]) (_:MAt C H m M) (_:M.cs.length ≤ 1000000) (_:pre M) (_:row H a) (_:Zef C Q H m M.s.choices (go M))
def Z10 (C:Addr) (pre:MM→Prop) (row:Hp→Addr→Prop) (go:MM→MM):Sp:=fun vs H Q _=>spRowI C pre row go vs H Q
abbrev Zar:MM→Prop:=fun M=>0 ≤ M.s.place∧M.s.text.length ≤ 1000
def Zdo (h:Hd):Hp→Addr→Prop:=fun H a=>PatAt H 1 (.ref a) (.node h [])
abbrev s_do_sign:Stmt:=top 15
theorem Z3a:FnScope ["machine", "row"] ["machine", "row"] (Zb s_do_sign):=fsc
theorem Z3r {h:Hd} (h1:h.one = true) (MT:Txt K mg C) (O_takes_sign:Own P w K mg base 2 "takes_sign" ["row", "text", "at"] Z0z) (O_Machine_go_back:OwnM P w K mg base 2 C "go_back" ["self"] (Xj C)) (F:Fun K "do_sign" "do_sign" s_do_sign f fd) :
  FnOk P w K mg base CX0 3 f fd ["machine", "row"] (Z10 C Zar (Zdo h) (MM.doSign h)):=by
 refine F.ok Z3a (fun vs H Q E h=>?_) (fun cdv A outer s H vs Q E hr h=>?_)
 ·obtain ⟨m,a,M,rfl,_⟩:=h
  rfl
 obtain ⟨m,a,M,rfl,hM,hz,⟨p0,p1⟩,hrow,q⟩:=h
 refine ltX ?_
 intro Xz
 refine ⟨_,(Z5 (Zo (Yy (Zk (O_takes_sign.mono (by omega)) hr rfl (Z0 (pv 1) (Z0 (Zt (pv 0) rfl) (Z0 (Zt (pv 0) rfl) Z4))))) (Z5 (Uf (pv 0) Z2 Z5y)) (Z5 (Zm (Yd (O_Machine_go_back.mono (by omega)) MT.cl hr (pv 0)))))),?_⟩
 refine Z88 ?_
 intro Ez Az1 Az2
 obtain ⟨⟨dx,e1⟩,_⟩:=id hM
 refine (exA rfl (exA rfl ⟨m,C,dx,_,_,rfl,e1,MT.cl,MT.a2,Jg _,exA rfl ⟨m,C,dx,_,_,rfl,e1,MT.cl,MT.a4,W6 _,a,_,M.s.text,M.s.place,rfl,hrow,h1,p0,p1,exA rfl (?_)⟩⟩))
 unfold MM.doSign at q
 refine X7 (fun z=>?_) (fun z=>?_)
 ·rw [if_pos z] at q
  refine (exA rfl ⟨m,C,dx,_,_,rfl,e1,MT.cl,MT.a4,W6 _,exB rfl rfl ⟨dx,_,e1,Yt _,?_⟩⟩)
  rw [Z6z]
  exact q _ (hM.put (s':={ M.s with place:=M.s.place + 1 }) e1 rfl) (Gro.ins (by simp) e1 _)
 ·rw [if_neg z] at q
  exact (exA rfl ⟨m,dx,exA rfl ⟨e1,Yk _,m,M,rfl,hM,hz,q⟩⟩)
abbrev s_do_begin:Stmt:=top 16
theorem Z14:FnScope ["machine", "row"] ["machine", "row"] (Zb s_do_begin):=fsc
theorem Z1e (MT:Txt K mg C) (O_Machine_go_back:OwnM P w K mg base 2 C "go_back" ["self"] (Xj C)) (F:Fun K "do_begin" "do_begin" s_do_begin f fd):FnOk P w K mg base CX0 3 f fd ["machine", "row"] (Z10 C Zar (Zdo .beg) MM.doBegin):=by
 refine F.ok Z14 (fun vs H Q E h=>?_) (fun cdv A outer s H vs Q E hr h=>?_)
 ·obtain ⟨m,a,M,rfl,_⟩:=h
  rfl
 obtain ⟨m,a,M,rfl,hM,hz,_,_,q⟩:=h
 refine ltX ?_
 intro Xz
 refine ⟨_,(Z5 (Zo (Z9 Z3l (Zt (pv 0) rfl) Z2 (Zc _)) (Z5 (Zm (Yd (O_Machine_go_back.mono (by omega)) MT.cl hr (pv 0)))) Zf)),?_⟩
 refine Z03 ?_
 intro Ez Az1
 obtain ⟨⟨dx,e1⟩,_⟩:=id hM
 unfold MM.doBegin at q
 refine (exA rfl ⟨m,C,dx,_,_,rfl,e1,MT.cl,MT.a4,W6 _,rfl,exA rfl (X7 (fun z=>?_) (fun z=>?_))⟩)
 ·have:¬ M.s.place = 0:=fun e=>by rw [e] at z; exact absurd z (by decide)
  rw [if_neg this] at q
  exact (exA rfl ⟨m,dx,exA rfl ⟨e1,Yk _,m,M,rfl,hM,hz,q⟩⟩)
 ·have:M.s.place = 0:=by
   have:(!decide (V.int M.s.place = V.int 0)) = false:=Bool.eq_false_iff.mpr z
   simpa using this
  rw [if_pos this] at q
  exact q H hM Gro.refl
abbrev s_do_end:Stmt:=top 17
theorem Z4r:FnScope ["machine", "row"] ["machine", "row"] (Zb s_do_end):=fsc
theorem Z5h (T:Blt mg) (MT:Txt K mg C) (O_Machine_go_back:OwnM P w K mg base 2 C "go_back" ["self"] (Xj C)) (F:Fun K "do_end" "do_end" s_do_end f fd):FnOk P w K mg base CX0 3 f fd ["machine", "row"] (Z10 C Zar (Zdo .fin) MM.doEnd):=by
 refine F.ok Z4r (fun vs H Q E h=>?_) (fun cdv A outer s H vs Q E hr h=>?_)
 ·obtain ⟨m,a,M,rfl,_⟩:=h
  rfl
 obtain ⟨m,a,M,rfl,hM,hz,⟨p0,p1⟩,_,q⟩:=h
 refine ltX ?_
 intro Xz
 refine ⟨_,(Z5 (Zo (Z9 Z3l (Zt (pv 0) rfl) (Zp Y6 rfl T.b_len PyProof.Rows.Boot.«len» (Z0 (Zt (pv 0) rfl) Z4)) (Zc _)) (Z5 (Zm (Yd (O_Machine_go_back.mono (by omega)) MT.cl hr (pv 0)))) Zf)),?_⟩
 refine Z03 ?_
 intro Ez Az1
 obtain ⟨⟨dx,e1⟩,_⟩:=id hM
 unfold MM.doEnd at q
 refine (exA rfl ⟨m,C,dx,_,_,rfl,e1,MT.cl,MT.a4,W6 _,exA rfl ⟨m,C,dx,_,_,rfl,e1,MT.cl,MT.a2,Jg _,M.s.text,rfl,Xa p1,rfl,exA rfl (X7 (fun z=>?_) (fun z=>?_))⟩⟩)
 ·have:¬ M.s.place = M.s.text.length:=fun e=>by rw [e] at z; simp at z
  rw [if_neg this] at q
  exact (exA rfl ⟨m,dx,exA rfl ⟨e1,Yk _,m,M,rfl,hM,hz,q⟩⟩)
 ·have:M.s.place = M.s.text.length:=by
   have:(!decide (V.int M.s.place = V.int ((M.s.text.length:Nat):Int))) = false:=Bool.eq_false_iff.mpr z
   simpa using this
  rw [if_pos this] at q
  exact q H hM Gro.refl
def Zev:Hp→Addr→Prop:=fun H a=>H a = some (.tup [.str "found"])
abbrev s_do_found:Stmt:=top 33
theorem Z13:FnScope ["machine", "row"] ["machine", "row"] (Zb s_do_found):=fsc
theorem Z1c (MT:Txt K mg C) (F:Fun K "do_found" "do_found" s_do_found f fd):FnOk P w K mg base CX0 1 f fd ["machine", "row"] (Z10 C (fun _=>True) Zev MM.doFound):=by
 refine F.ok Z13 (fun vs H Q E h=>?_) (fun cdv A outer s H vs Q E hr h=>?_)
 ·obtain ⟨m,a,M,rfl,_⟩:=h
  rfl
 obtain ⟨m,a,M,rfl,hM,hz,_,_,q⟩:=h
 refine ltX ?_
 intro Xz
 refine ⟨_,(Z5 (Yg (pv 0) Wt rfl)),?_⟩
 obtain ⟨⟨dx,e1⟩,_⟩:=id hM
 refine (exA rfl ⟨m,C,dx,exA rfl ⟨e1,MT.cl,MT.a9,Yt _,?_⟩⟩)
 rw [Z2d]
 exact q _ (hM.put (s':={ M.s with found:=true }) e1 rfl) (Gro.ins (by simp) e1 _)
inductive spMovesI (C:Addr) (vs:List V) (H:Hp) (Q:VK):Prop
 | mk (m:Addr) (M:MM) (_:vs = [.ref m]) (_:MAt C H m M) (_:Q (.int M.s.made) H)
def J1 (C:Addr):Sp:=fun vs H Q _=>spMovesI C vs H Q
abbrev s_Machine_moves:Stmt:=Xn (top 35) 2
theorem Vx:FnScope ["self"] ["self"] (Zb s_Machine_moves):=fsc
theorem Z78 (MT:Txt K mg C) (F:Fun K "moves" "Machine.moves" s_Machine_moves f fd):FnOk P w K mg base CX0 1 f fd ["self"] (J1 C):=by
 refine F.ok Vx (fun vs H Q E h=>?_) (fun cdv A outer s H vs Q E hr h=>?_)
 ·obtain ⟨m,M,rfl,_⟩:=h
  rfl
 obtain ⟨m,M,rfl,hM,q⟩:=h
 refine ltX ?_
 intro Xz
 refine ⟨_,(Z5 (Zh (Zt (pv 0) rfl))),?_⟩
 obtain ⟨⟨dx,e1⟩,_⟩:=id hM
 exact (exA rfl ⟨m,C,dx,_,_,rfl,e1,MT.cl,MT.a8,Jh _,q⟩)
structure Tells (P:Program) (w:World) (K:PySem.W.Frag) (mg:Str→Option Value) (base:Heap) (k:Nat) (ds:List (Key × V)) (wd:Str) (sp:Sp):Prop where
 ex:∃ f fd ps,Z4a ds (Sum.inr wd) = some (.ref f)∧FnOk P w K mg base CX0 k f fd ps sp∧PySem.W.keepIn K (.ref f) = true∧Binds K fd ps []
def MM.next (M:MM):MM:=⟨{ M.s with row:=M.s.row + 1,made:=M.s.made + 1 },M.cs⟩
inductive spMoveI (P:Program) (w:World) (K:PySem.W.Frag) (mg:Str→Option Value) (base:Heap) (k:Nat) (ds:List (Key × V)) (C:Addr) (vs:List V) (H:Hp) (Q:VK):Prop
 | mk (m ra a:Addr) (ys:List V) (wd:Str) (r:List V) (M:MM) (sp:Sp) (_:vs = [.ref m]) (_:MAt C H m M) (_:M.s.rows = .ref ra) (_:H ra = some (.tup ys)) (_:atI ys M.s.row = some (.ref a)) (_:H a = some (.tup (.str wd :: r))) (_:Tells P w K mg base k ds wd sp) (_:∀ H1:Hp,MAt C H1 m M.next→Gro [m] H H1→sp [.ref m,.ref a] H1 (fun _ H2=>Q .non H2) E0)
def U5 (P:Program) (w:World) (K:PySem.W.Frag) (mg:Str→Option Value) (base:Heap) (k:Nat) (ds:List (Key × V)) (C:Addr):Sp:=fun vs H Q _=>spMoveI P w K mg base k ds C vs H Q
abbrev s_Machine_move:Stmt:=Xn (top 35) 3
theorem sc_Machine_move:FnScope ["self", "row"] ["self"] (Zb s_Machine_move):=fsc
theorem Z5e {k:Nat} {dn:Addr} {ds:List (Key × V)} (MT:Txt K mg C) (c_DOINGS:mg "DOINGS" = some (.ref dn)) (hDN:DcK K w dn ds) (F:Fun K "move" "Machine.move" s_Machine_move f fd):FnOk P w K mg base CX0 (k + 1) f fd ["self"] (U5 P w K mg base k ds C):=by
 refine F.ok sc_Machine_move (fun vs H Q E h=>?_) (fun cdv A outer s H vs Q E hr h=>?_)
 ·obtain ⟨m,ra,a,ys,wd,r,M,sp,rfl,_⟩:=h
  rfl
 obtain ⟨m,ra,a,ys,wd,r,M,sp,rfl,hM,hrows,hra,hat,ha,⟨g,gd,ps,hv,G,kp,hb⟩,q⟩:=h
 refine ltX ?_
 intro Xz
 refine ⟨_,(Z1 (pS 1 sc_Machine_move.nd (Z8 Z6 (Zt (pv 0) rfl) (Zt (pv 0) rfl) (fun _ _=>rfl)))
  (Z1 (Uf (pv 0) Z2 Z5y)
  (Z1 (Uf (pv 0) Z2 Z5y)
  (Z5 (Zm (Zc6 hr (Z18 (Vq (v:=.ref _) rfl c_DOINGS rfl) (Z8 Z6 (pv 1) Z2 (fun _ _=>rfl)) (fun _ _=>rfl)) (Z0 (pv 0) (Z0 (pv 1) Z4)))))))),?_⟩
 refine Z4x ?_
 intro Ez Az1 Az2 Az3
 obtain ⟨⟨dx,e1⟩,_⟩:=id hM
 have hrr:M.s.fs.lookup ("rows":Str) = some (.ref ra):=by rw [Zaa,hrows]
 refine ⟨_,rfl,m,C,dx,_,_,rfl,e1,MT.cl,MT.a1,hrr,_,rfl,m,C,dx,_,_,rfl,e1,MT.cl,MT.a3,Z2u _,ra,ys,_,_,rfl,rfl,SqT.of hra,hat,?_⟩
 refine (exA rfl ⟨m,C,dx,_,_,rfl,e1,MT.cl,MT.a3,Z2u _,exB rfl rfl ⟨dx,_,e1,Yt _,?_⟩⟩)
 rw [Tf]
 have M1:=hM.put (s':={ M.s with row:=M.s.row + 1 }) e1 rfl
 have g1:Gro [m] H (upd H m (.ins C dx ({ M.s with row:=M.s.row + 1 }:MS).fs)):=Gro.ins (by simp) e1 _
 have e2:(upd H m (.ins C dx ({ M.s with row:=M.s.row + 1 }:MS).fs)) m = some (.ins C dx ({ M.s with row:=M.s.row + 1 }:MS).fs):=Z3
 generalize upd H m (.ins C dx ({ M.s with row:=M.s.row + 1 }:MS).fs) = H1 at *
 refine (exA rfl ⟨m,C,dx,_,_,rfl,e2,MT.cl,MT.a8,Jh _,exB rfl rfl ⟨dx,_,e2,Yt _,?_⟩⟩)
 rw [Z9c]
 have M2:MAt C _ m M.next:=M1.put (s':={ M.s with row:=M.s.row + 1,made:=M.s.made + 1 }) e2 rfl
 have g2:Gro [m] H1 (upd H1 m (.ins C dx ({ M.s with row:=M.s.row + 1,made:=M.s.made + 1 }:MS).fs)):=Gro.ins (by simp) e2 _
 have q2:=q _ M2 (g1.trans g2)
 refine (ixT (g2.tups _ _ (g1.tups _ _ ha)) at0 ⟨dn,ds,Sum.inr wd,_,rfl,hDN,rfl,hv,g,gd,ps,sp,rfl,G,kp,hb,?_⟩)
 exact (exA rfl (exA rfl q2))
end
def MM.fresh (M:MM):MM:=if M.s.found = true then MM.back ⟨{ M.s with found:=false },M.cs⟩ else M
section
variable {P:Program} {w:World} {K:PySem.W.Frag} {mg:Str→Option Value} {base:Heap} {f C:Addr} {fd:FuncData}
structure Runs (P:Program) (w:World) (K:PySem.W.Frag) (mg:Str→Option Value) (base:Heap) (kk:Nat) (ds:List (Key × V)) (C m:Addr) (M:MM) (H:Hp) (most:Int) (Q:VK) (J:Nat→MM→Hp→Prop):Prop where
 start:∀ H',MAt C H' m M.fresh→Gro [m,M.s.choices] H H'→J 0 M.fresh H'
 at_:∀ k M' H',J k M' H'→MAt C H' m M'∧M'.s.made = M.s.made + k∧M'.s.found = false∧(k:Int) ≤ most
 none_:∀ k M' H',J k M' H'→M'.s.ended = true→∀ t,H' t = none→Q (.ref t) (upd H' t (.tup [.str "none"]))
 over:∀ k M' H',J k M' H'→M'.s.ended = false→(k:Int) = most→∀ t,H' t = none→Q (.ref t) (upd H' t (.tup [.str "over"]))
 turn:∀ k M' H',J k M' H'→M'.s.ended = false→(k:Int) < most→∀ Q':VK,(∀ (v:V) (H2:Hp) (M2:MM),MAt C H2 m M2→((M2.s.found = true∧∀ t,H2 t = none→Q (.ref t) (upd H2 t (.tup [.str "way",.int M2.s.place,M2.s.groups]))) ∨ (M2.s.found = false∧J (k + 1) M2 H2))→Q' v H2)→U5 P w K mg base kk ds C [.ref m] H' Q' E0
inductive spWayI (P:Program) (w:World) (K:PySem.W.Frag) (mg:Str→Option Value) (base:Heap) (kk:Nat) (ds:List (Key × V)) (C:Addr) (vs:List V) (H:Hp) (Q:VK):Prop
 | mk (m:Addr) (most:Int) (M:MM) (J:Nat→MM→Hp→Prop) (_:vs = [.ref m,.int most]) (_:MAt C H m M) (_:1 ≤ most) (_:M.cs.length ≤ 1000000) (_:Runs P w K mg base kk ds C m M H most Q J)
def Z8v (P:Program) (w:World) (K:PySem.W.Frag) (mg:Str→Option Value) (base:Heap) (kk:Nat) (ds:List (Key × V)) (C:Addr):Sp:=fun vs H Q _=>spWayI P w K mg base kk ds C vs H Q
def Zf6 (m:Addr) (most:Int) (M:MM) (J:Nat→MM→Hp→Prop):TS:=fun D σ H1=>σ = [some (.ref m),some (.int most),none]∧J 0 M.fresh H1
abbrev s_Machine_way:Stmt:=Xn (top 35) 1
theorem sc_Machine_way:FnScope ["self", "most", "last"] ["self", "most"] (Zb s_Machine_way):=fsc
theorem Z8e {kk:Nat} {ds:List (Key × V)} (MT:Txt K mg C) (O_Machine_move:OwnM P w K mg base (kk + 1) C "move" ["self"] (U5 P w K mg base kk ds C)) (O_Machine_go_back:OwnM P w K mg base 2 C "go_back" ["self"] (Xj C)) (F:Fun K "way" "Machine.way" s_Machine_way f fd) :
  FnOk P w K mg base CX0 (kk + 3) f fd ["self", "most"] (Z8v P w K mg base kk ds C):=by
 refine F.ok sc_Machine_way (fun vs H Q E h=>?_) (fun cdv A outer s H vs Q E hr h=>?_)
 ·obtain ⟨m,most,M,J,rfl,_⟩:=h
  rfl
 obtain ⟨m,most,M,J,rfl,hM,h1,hz,R⟩:=h
 refine ltX ?_
 intro Xz
 refine ⟨_,(Z1 (Zo (Yy (Zt (pv 0) rfl)) (Z1 (Yg (pv 0) Wt rfl)
  (Z5 (Zm (Yd (O_Machine_go_back.mono (by omega)) MT.cl hr (pv 0))))) Zf)
  (Xu (fun D σ H1=>Zf6 m most M J D σ H1∧D.rt = Q) (Z1 (pS 2 sc_Machine_way.nd (Zu Ya (Zt (pv 0) rfl) (pv 1)))
  (Z1 (U2 PassesOwn.never (PW.pt (Xp (Z2a (Yy (Zt (pv 0) rfl))) (X2 (Z9 Wh (Zt (pv 0) rfl) (pv 2) (Zc _))))) (Z1 (Zm (Yd (O_Machine_move.mono (by omega)) MT.cl hr (pv 0)))
  (Z5 (Zo (Yy (Zt (pv 0) rfl)) (Z5 (Zh (Zj (Z0 Ze (Z0 (Zt (pv 0) rfl) (Z0 (Zt (pv 0) rfl) Z4)))))) Zf))))
  (Z5 (Zh (Vi (Yy (Zt (pv 0) rfl)) (Zj (Z0 Ze Z4)) (Zj (Z0 Ze Z4))))))) (fun D1 σ1 H1 hcut=>?cut1))),?_⟩
 case cut1 =>
  refine Zbo ?_
  intro Ez Az1 Az2 Az3 Az4 Az5
  obtain ⟨⟨rfl,hJ⟩,hD⟩:=hcut
  obtain ⟨M0,hm0,_,_⟩:=R.at_ _ _ _ hJ
  obtain ⟨⟨dx,e1⟩,_⟩:=id M0
  refine (exA rfl ⟨m,C,dx,_,_,rfl,e1,MT.cl,MT.a8,Jh _,exA rfl (exB rfl rfl (?_))⟩)
  have hlast:M.fresh.s.made = M.s.made:=by rw [hm0]; simp
  refine ⟨fun n σ H'=>∃ (k:Nat) (M':MM),(n:Int) = most - k∧σ = [some (.ref m),some (.int most),some (.int (M.fresh.s.made + most))]∧J k M' H',⟨most.toNat,0,_,by omega,rfl,hJ⟩,?_⟩
  rintro n σ H2 ⟨k,M',hn,rfl,hJ2⟩
  obtain ⟨M2,hm2,hf2,hk2⟩:=R.at_ _ _ _ hJ2
  obtain ⟨⟨dx2,e2⟩,_⟩:=id M2
  have rest:(M'.s.ended = false→¬ (k:Int) < most)→(Zda (tIf (tB (Zei K (V9 0) "ended")) (Zav (Yv (tC (.str "none")) T1)) (Zav (Yv (tC (.str "over")) T1)))) D1 [some (.ref m),some (.int most),some (.int (M.fresh.s.made + most))] H2:=by
   intro hk
   refine (exA rfl ⟨m,C,dx2,_,_,rfl,e2,MT.cl,MT.a10,Z2w _,exA rfl (X7 (fun z=>?_) (fun z=>?_))⟩)
   ·refine ⟨sz,fun t ht=>?_⟩
    rw [hD]
    exact R.none_ _ _ _ hJ2 z t ht
   ·refine ⟨sz,fun t ht=>?_⟩
    rw [hD]
    have z':M'.s.ended = false:=Bool.eq_false_iff.mpr z
    exact R.over _ _ _ hJ2 z' (by have:=hk z'; omega) t ht
  refine (exA rfl ⟨m,C,dx2,_,_,rfl,e2,MT.cl,MT.a10,Z2w _,exA rfl (?_)⟩)
  cases he:M'.s.ended with
  | true=>exact Z0l (Z0l (rest (fun z=>absurd (he.symm.trans z) (by decide))))
  | false =>
   refine Z0k ?_
   refine (exA rfl ⟨m,C,dx2,_,_,rfl,e2,MT.cl,MT.a8,Jh _,exA rfl (exB rfl rfl (exA rfl (?_)))⟩)
   by_cases hlt:(k:Int) < most
   ·have hd:decide (M'.s.made < M.fresh.s.made + most) = true:=decide_eq_true (by omega)
    rw [hd]
    refine Z0k ⟨fun σ' H'=>∃ M3,σ' = [some (.ref m),some (.int most),some (.int (M.fresh.s.made + most))]∧J (k + 1) M3 H',fun σ' H' ⟨M3,e3,j3⟩=>⟨n - 1,by omega,k + 1,M3,by omega,e3,j3⟩,?_⟩
    refine (exA rfl ⟨m,dx2,exA rfl ⟨e2,Za0 _,?_⟩⟩)
    unfold T1
    refine R.turn _ _ _ hJ2 he hlt _ fun v H3 M3 hM3 h3=>?_
    obtain ⟨⟨dx3,e3⟩,_⟩:=id hM3
    refine (exA rfl ⟨m,C,dx3,_,_,rfl,e3,MT.cl,MT.a9,Z2v _,exA rfl (?_)⟩)
    rcases h3 with ⟨hf,hq⟩ | ⟨hf,hj⟩
    ·rw [hf]
     refine Z0k (exA rfl ⟨m,C,dx3,_,_,rfl,e3,MT.cl,MT.a4,W6 _,exA rfl ⟨m,C,dx3,_,_,rfl,e3,MT.cl,MT.a5,X8 _,sz,fun t ht=>?_⟩⟩)
     show D1.rt _ _
     rw [hD]
     exact hq t ht
    ·rw [hf]
     exact Z0l ⟨M3,rfl,hj⟩
   ·have hd:decide (M'.s.made < M.fresh.s.made + most) = false:=decide_eq_false (by omega)
    rw [hd]
    exact Z0l (rest (fun _=>hlt))
 refine Zb1 ?_
 intro Ez Az1 Az2 Az3
 obtain ⟨⟨dx,e1⟩,_⟩:=id hM
 have fr:∀ H',MAt C H' m M.fresh→Gro [m,M.s.choices] H H'→J 0 M.fresh H':=R.start
 unfold MM.fresh at fr
 refine (exA rfl ⟨m,C,dx,_,_,rfl,e1,MT.cl,MT.a9,Z2v _,exA rfl (X7 (fun z=>?_) (fun z=>?_))⟩)
 ·rw [if_pos z] at fr
  refine (exA rfl ⟨m,C,dx,exA rfl ⟨e1,MT.cl,MT.a9,Yt _,?_⟩⟩)
  rw [Z2d]
  have M1:=hM.put (s':={ M.s with found:=false }) e1 rfl
  have g1:Gro [m] H (upd H m (.ins C dx ({ M.s with found:=false }:MS).fs)):=Gro.ins (by simp) e1 _
  refine (exA rfl ⟨m,dx,exA rfl ⟨Z3,Yk _,m,_,rfl,M1,hz,fun H2 M2 g2=>⟨⟨rfl,?_⟩,rfl⟩⟩⟩)
  have:=fr H2 M2 ((g1.mono (by simp)).trans g2)
  unfold MM.fresh
  rw [if_pos z]
  exact this
 ·rw [if_neg z] at fr
  refine ⟨⟨rfl,?_⟩,rfl⟩
  unfold MM.fresh
  rw [if_neg z]
  exact fr H hM Gro.refl
end
def Rw.close:Rw→Option Int
 | .tup [.str x,.int k]=>if x = "close" then some k else none
 | _=>none
def X1 (rs:List Rw):List Int:=rs.filterMap Rw.close
def Z6i (rs:List Rw):Int:=if X1 rs = [] then 0 else mxL (X1 rs)
def Rw.tame:Rw→Prop
 | .pat _=>True
 | .tup xs=>∃ (x:Str) (r:List V),xs = .str x :: r∧(x = "close"→∃ k,r = [.int k])
theorem Z54 (h:Hd):decide (V.str h.word = V.str "close") = false:=by
 rw [h.word_wd]
 cases h.wd <;> decide +kernel
def ms0 (ra:Addr) (t:Str) (i:Int) (g:V) (c:Addr):MM:=⟨{ rows:=.ref ra,text:=t,row:=0,place:=i,groups:=g,held:=.non,choices:=c,made:=0,found:=false,ended:=false },[]⟩
section
variable {P:Program} {w:World} {K:PySem.W.Frag} {mg:Str→Option Value} {base:Heap} {f C:Addr} {fd:FuncData}
inductive spInitI (C:Addr) (vs:List V) (H:Hp) (Q:VK):Prop
 | mk (m dx ra:Addr) (t:Str) (i:Int) (ys:List V) (rs:List Rw) (_:vs = [.ref m,.ref ra,.str t,.int i]) (_:H m = some (.ins C dx [])) (_:H ra = some (.tup ys)) (_:Paired (RowAt H) ys rs) (_:ys.length ≤ 1000000) (_:(∀ r ∈ rs,r.tame)) (_:0 ≤ Z6i rs) (_:Z6i rs ≤ 1000) (_:∀ (c g:Addr) (H':Hp),H c = none→MAt C H' m (ms0 ra t i (.ref g) c)→H' g = some (.tup (List.replicate (Z6i rs).toNat .non))→Gro [m] H H'→Q .non H')
def Z1z (C:Addr):Sp:=fun vs H Q _=>spInitI C vs H Q
theorem Z3h {H:Hp} {v:V} {r:Rw} (h:RowAt H v r) (ht:r.tame):∃ (a:Addr) (x:Str) (xs:List V),v = .ref a∧H a = some (.tup (.str x :: xs))∧((decide (V.str x = V.str "close") = false∧r.close = none) ∨ (decide (V.str x = V.str "close") = true∧∃ k,xs = [.int k]∧r.close = some k)):=by
 cases r with
 | pat hd =>
  obtain ⟨a,kv,rfl,l,_⟩:=h
  obtain ⟨xs,e⟩:=l.head
  exact ⟨a,_,xs,rfl,e,.inl ⟨Z54 hd,rfl⟩⟩
 | tup ys =>
  obtain ⟨a,rfl,e⟩:=h
  obtain ⟨x,xs,rfl,hc⟩:=ht
  refine ⟨a,x,xs,rfl,e,?_⟩
  by_cases hx:x = "close"
  ·obtain ⟨k,rfl⟩:=hc hx
   exact .inr ⟨decide_eq_true (by rw [hx]),k,rfl,by show (if x = "close" then some k else none) = some k; rw [if_pos hx]⟩
  ·refine .inl ⟨decide_eq_false (fun z=>hx (by injection z)),?_⟩
   unfold Rw.close
   split
   ·rename_i heq
    injection heq with heq
    injection heq with h1 h2
    injection h1 with h1
    subst h1
    rw [if_neg hx]
   ·rfl
theorem Gro.obj {H:Hp} {m C dx:Addr} {fs fs':List (Str × V)} (h:H m = some (.ins C dx fs)):Gro [m] H (upd H m (.ins C dx fs')):=Gro.ins (by simp) h _
abbrev s_Machine___init__:Stmt:=Xn (top 35) 0
theorem Wz:FnScope ["self", "rows", "text", "at"] ["self", "rows", "text", "at"] (Zb s_Machine___init__):=fsc
theorem Z9u (T:Blt mg) (MT:Txt K mg C) (F:Fun K "__init__" "Machine.__init__" s_Machine___init__ f fd):FnOk P w K mg base CX0 1 f fd ["self", "rows", "text", "at"] (Z1z C):=by
 refine F.ok Wz (fun vs H Q E h=>?_) (fun cdv A outer s H vs Q E hr h=>?_)
 ·obtain ⟨m,dx,ra,t,i,ys,rs,rfl,_⟩:=h
  rfl
 obtain ⟨m,dx,ra,t,i,ys,rs,rfl,h0,hra,hp,hz,htm,hc0,hc1,q⟩:=h
 refine ltX ?_
 intro Xz
 refine ⟨_,(Z1 (Yg (pv 0) (pv 1) rfl)
  (Z1 (Yg (pv 0) (pv 2) rfl)
  (Z1 (Yg (pv 0) Z2 rfl)
  (Z1 (Yg (pv 0) (pv 3) rfl)
  (Z1 (Yg (pv 0) (Zu Z9k (Zj (Z0 Uk Z4)) (Z9f rfl rfl T.b_max (Z0 (Xm rfl (show CScope _ ["self", "rows", "text", "at"] (Zb s_Machine___init__) _ from ⟨rfl,by decide +kernel,rfl,by decide +kernel,by decide +kernel,by decide +kernel,by decide +kernel⟩) (Vg (pv 1)) (fun _ _ _ _=>(Z16 (Z9 Zs (Z8 (r:=U0 K) Z6 (pv 0) Z2 (fun _ _=>rfl)) Ze (Zc _)))) (fun _ _ _ _=>(Z8 (r:=U0 K) Z6 (pv 0) Z2 (fun _ _=>rfl)))) Z4) (Z9a Z2 Zc1))) rfl)
  (Z1 (Yg (pv 0) Uk rfl)
  (Z1 (Yg (pv 0) (Zv Z4) rfl)
  (Z1 (Yg (pv 0) Z2 rfl)
  (Z1 (Yg (pv 0) Wt rfl)
  (Z5 (Yg (pv 0) Wt rfl))))))))))),?_⟩
 refine Zbt ?_
 intro Ez Az1 Az2 Az3 Az4 Az5 Az6 Az7 Az8 Az9
 have hl:=Paired.length hp
 refine (exA rfl (exA rfl ⟨m,C,dx,exA rfl ⟨h0,MT.cl,MT.a1,by simp,?_⟩⟩))
 have g1:Gro [m] H (upd H m (.ins C dx (Yw "rows" (.ref ra) []))):=Gro.obj h0
 have e1:(upd H m (.ins C dx (Yw "rows" (.ref ra) []))) m = some (.ins C dx [("rows",.ref ra)]):=Z3
 generalize upd H m (.ins C dx (Yw "rows" (.ref ra) [])) = H1 at *
 refine (exA rfl (exA rfl ⟨m,C,dx,exA rfl ⟨e1,MT.cl,MT.a2,by simp,?_⟩⟩))
 have g2:Gro [m] H1 (upd H1 m (.ins C dx (Yw "text" (.str t) [("rows",.ref ra)]))):=Gro.obj e1
 have e2:(upd H1 m (.ins C dx (Yw "text" (.str t) [("rows",.ref ra)]))) m = some (.ins C dx [("rows",.ref ra),("text",.str t)]):=by rw [Z3,Zn (by decide +kernel),Vh]
 generalize upd H1 m (.ins C dx (Yw "text" (.str t) [("rows",.ref ra)])) = H2 at *
 refine (exA rfl ⟨m,C,dx,exA rfl ⟨e2,MT.cl,MT.a3,by simp,?_⟩⟩)
 have g3:Gro [m] H2 (upd H2 m (.ins C dx (Yw "row" (.int 0) [("rows",.ref ra),("text",.str t)]))):=Gro.obj e2
 have e3:(upd H2 m (.ins C dx (Yw "row" (.int 0) [("rows",.ref ra),("text",.str t)]))) m = some (.ins C dx [("rows",.ref ra),("text",.str t),("row",.int 0)]):=by rw [Z3,Zn (by decide +kernel),Zn (by decide +kernel),Vh]
 generalize upd H2 m (.ins C dx (Yw "row" (.int 0) [("rows",.ref ra),("text",.str t)])) = H3 at *
 refine (exA rfl (exA rfl ⟨m,C,dx,exA rfl ⟨e3,MT.cl,MT.a4,by simp,?_⟩⟩))
 have g4:Gro [m] H3 (upd H3 m (.ins C dx (Yw "at" (.int i) [("rows",.ref ra),("text",.str t),("row",.int 0)]))):=Gro.obj e3
 have e4:(upd H3 m (.ins C dx (Yw "at" (.int i) [("rows",.ref ra),("text",.str t),("row",.int 0)]))) m = some (.ins C dx [("rows",.ref ra),("text",.str t),("row",.int 0),("at",.int i)]):=by rw [Z3,Zn (by decide +kernel),Zn (by decide +kernel),Zn (by decide +kernel),Vh]
 generalize upd H3 m (.ins C dx (Yw "at" (.int i) [("rows",.ref ra),("text",.str t),("row",.int 0)])) = H4 at *
 have g14:=((g1.trans g2).trans g3).trans g4
 refine ⟨sz,fun t1 ht1=>?_⟩
 have g5:Gro [m] H4 (upd H4 t1 (.tup [.non])):=Gro.new ht1 _
 have f5:(upd H4 t1 (.tup [.non])) t1 = some (.tup [.non]):=Z3
 have e5:(upd H4 t1 (.tup [.non])) m = some (.ins C dx [("rows",.ref ra),("text",.str t),("row",.int 0),("at",.int i)]):=by rw [Zl (Z7 e4 ht1)]; exact e4
 generalize upd H4 t1 (.tup [.non]) = H5 at *
 have g15:=g14.trans g5
 have hra5:=g15.tups _ _ hra
 have hp5:=Y4 g15.tups hp
 refine (exA rfl ⟨ra,rfl,⟨ys,SqT.of hra5⟩,?_⟩)
 refine Z0i (n:=ys.length) (fun j zs H'=>H' = H5∧zs = (X1 (rs.take j)).map V.int∧zs.length ≤ j) ⟨rfl,rfl,Nat.le_refl _⟩ (big hz) (fun j zs H' ⟨_,_,h⟩=>h) (fun j zs H' hj ⟨e,_⟩=>by rw [e]; exact ⟨ys,ys[j],SqT.of hra5,by simp [hj]⟩) (fun zs H' ⟨e,_⟩=>by rw [e]; exact ⟨ys,SqT.of hra5,Nat.le_refl _⟩) ?_ ?_
 ·rintro j zs H' x H'' hj ⟨rfl,rfl,hzl⟩ ⟨rfl,hx⟩
  have hx':=hx ys (SqT.of hra5)
  obtain ⟨r,hri,hr'⟩:=Y2 hp5 hx'
  obtain ⟨a,wd,xs,rfl,ha,hcl⟩:=Z3h hr' (htm r (List.mem_of_getElem? hri))
  have snoc:X1 (rs.take (j + 1)) = X1 (rs.take j) ++ r.close.toList:=by
   unfold X1
   rw [Y9 hri,List.filterMap_append]
   congr 1
  refine (ixT ha at0 ⟨rfl,_,rfl,?_⟩)
  rcases hcl with ⟨h1,h2⟩ | ⟨h1,k,rfl,h2⟩
  ·rw [h1,if_neg (by decide)]
   refine ⟨rfl,?_,by omega⟩
   rw [snoc,h2]
   simp
  ·rw [h1,if_pos rfl]
   refine (ixT ha rfl ⟨rfl,?_,by simp at hzl ⊢; omega⟩)
   rw [snoc,h2]
   simp
 ·rintro zs H' ⟨rfl,rfl,_⟩ l6 hl6
  rw [hl,List.take_length]
  have g6:Gro [m] H' (upd H' l6 (.lst ((X1 rs).map V.int))):=Gro.new hl6 _
  refine ⟨l6,X1 rs,.int 0,rfl,rfl,SqL.of Z3,?_⟩
  have ev:(if X1 rs = [] then V.int 0 else V.int (mxL (X1 rs))) = V.int (Z6i rs):=by unfold Z6i; split <;> rfl
  rw [ev]
  have f6:=g6.tups _ _ f5
  have e6:(upd H' l6 (.lst ((X1 rs).map V.int))) m = some (.ins C dx [("rows",.ref ra),("text",.str t),("row",.int 0),("at",.int i)]):=by rw [Zl (Z7 e5 hl6)]; exact e5
  generalize upd H' l6 (.lst ((X1 rs).map V.int)) = H6 at *
  have g16:=g15.trans g6
  have fin:∀ (g:Addr) (H7:Hp),H7 g = some (.tup (List.replicate (Z6i rs).toNat .non))→H7 m = some (.ins C dx [("rows",.ref ra),("text",.str t),("row",.int 0),("at",.int i)])→Gro [m] H H7 →
    (V9 0) [some (.ref m),some (.ref ra),some (.str t),some (.int i)] H7 (fun x H2=>∃ a C dx fs,x = .ref a∧H2 a = some (.ins C dx fs)∧Cls K C∧NoAttr K C "groups"∧fs.length < 1000 ∧
     (Za (Zao K (V9 0) (tC .non) "held") (Za (Zao K (V9 0) (Zd0 T1) "choices") (Za (Zao K (V9 0) (tC (.int 0)) "made") (Za (Zao K (V9 0) (tC (.bl false)) "found") (Zao K (V9 0) (tC (.bl false)) "ended"))))) { nx:=fun _ H'=>Q .non H',rt:=Q } [some (.ref m),some (.ref ra),some (.str t),some (.int i)] (upd H2 a (.ins C dx (Yw "groups" (.ref g) fs)))):=by
   intro g H7 hg e7 g17
   refine (exA rfl ⟨m,C,dx,exA rfl ⟨e7,MT.cl,MT.a5,by simp,?_⟩⟩)
   have g8:Gro [m] H7 (upd H7 m (.ins C dx (Yw "groups" (.ref g) [("rows",.ref ra),("text",.str t),("row",.int 0),("at",.int i)]))):=Gro.obj e7
   have e8:(upd H7 m (.ins C dx (Yw "groups" (.ref g) [("rows",.ref ra),("text",.str t),("row",.int 0),("at",.int i)]))) m = some (.ins C dx [("rows",.ref ra),("text",.str t),("row",.int 0),("at",.int i),("groups",.ref g)]):=by
    rw [Z3,Zn (by decide +kernel),Zn (by decide +kernel),Zn (by decide +kernel),Zn (by decide +kernel),Vh]
   generalize upd H7 m (.ins C dx (Yw "groups" (.ref g) [("rows",.ref ra),("text",.str t),("row",.int 0),("at",.int i)])) = H8 at *
   refine (exA rfl ⟨m,C,dx,exA rfl ⟨e8,MT.cl,MT.a6,by simp,?_⟩⟩)
   have g9:Gro [m] H8 (upd H8 m (.ins C dx (Yw "held" .non [("rows",.ref ra),("text",.str t),("row",.int 0),("at",.int i),("groups",.ref g)]))):=Gro.obj e8
   have e9:(upd H8 m (.ins C dx (Yw "held" .non [("rows",.ref ra),("text",.str t),("row",.int 0),("at",.int i),("groups",.ref g)]))) m = some (.ins C dx [("rows",.ref ra),("text",.str t),("row",.int 0),("at",.int i),("groups",.ref g),("held",.non)]):=by
    rw [Z3,Zn (by decide +kernel),Zn (by decide +kernel),Zn (by decide +kernel),Zn (by decide +kernel),Zn (by decide +kernel),Vh]
   generalize upd H8 m (.ins C dx (Yw "held" .non [("rows",.ref ra),("text",.str t),("row",.int 0),("at",.int i),("groups",.ref g)])) = H9 at *
   refine ⟨sz,fun c hc=>?_⟩
   have gA:Gro [m] H9 (upd H9 c (.lst [])):=Gro.new hc _
   have fA:(upd H9 c (.lst [])) c = some (.lst []):=Z3
   have mc:m ≠ c:=Z7 e9 hc
   have eA:(upd H9 c (.lst [])) m = some (.ins C dx [("rows",.ref ra),("text",.str t),("row",.int 0),("at",.int i),("groups",.ref g),("held",.non)]):=by rw [Zl mc]; exact e9
   generalize upd H9 c (.lst []) = HA at *
   refine (exA rfl ⟨m,C,dx,exA rfl ⟨eA,MT.cl,MT.a7,by simp,?_⟩⟩)
   have gB:Gro [m] HA (upd HA m (.ins C dx (Yw "choices" (.ref c) [("rows",.ref ra),("text",.str t),("row",.int 0),("at",.int i),("groups",.ref g),("held",.non)]))):=Gro.obj eA
   have eB:(upd HA m (.ins C dx (Yw "choices" (.ref c) [("rows",.ref ra),("text",.str t),("row",.int 0),("at",.int i),("groups",.ref g),("held",.non)]))) m = some (.ins C dx [("rows",.ref ra),("text",.str t),("row",.int 0),("at",.int i),("groups",.ref g),("held",.non),("choices",.ref c)]):=by
    rw [Z3,Zn (by decide +kernel),Zn (by decide +kernel),Zn (by decide +kernel),Zn (by decide +kernel),Zn (by decide +kernel),Zn (by decide +kernel),Vh]
   generalize upd HA m (.ins C dx (Yw "choices" (.ref c) [("rows",.ref ra),("text",.str t),("row",.int 0),("at",.int i),("groups",.ref g),("held",.non)])) = HB at *
   refine (exA rfl ⟨m,C,dx,exA rfl ⟨eB,MT.cl,MT.a8,by simp,?_⟩⟩)
   have gC:Gro [m] HB (upd HB m (.ins C dx (Yw "made" (.int 0) [("rows",.ref ra),("text",.str t),("row",.int 0),("at",.int i),("groups",.ref g),("held",.non),("choices",.ref c)]))):=Gro.obj eB
   have eC:(upd HB m (.ins C dx (Yw "made" (.int 0) [("rows",.ref ra),("text",.str t),("row",.int 0),("at",.int i),("groups",.ref g),("held",.non),("choices",.ref c)]))) m = some (.ins C dx [("rows",.ref ra),("text",.str t),("row",.int 0),("at",.int i),("groups",.ref g),("held",.non),("choices",.ref c),("made",.int 0)]):=by
    rw [Z3,Zn (by decide +kernel),Zn (by decide +kernel),Zn (by decide +kernel),Zn (by decide +kernel),Zn (by decide +kernel),Zn (by decide +kernel),Zn (by decide +kernel),Vh]
   generalize upd HB m (.ins C dx (Yw "made" (.int 0) [("rows",.ref ra),("text",.str t),("row",.int 0),("at",.int i),("groups",.ref g),("held",.non),("choices",.ref c)])) = HC at *
   refine (exA rfl ⟨m,C,dx,exA rfl ⟨eC,MT.cl,MT.a9,by simp,?_⟩⟩)
   have gD:Gro [m] HC (upd HC m (.ins C dx (Yw "found" (.bl false) [("rows",.ref ra),("text",.str t),("row",.int 0),("at",.int i),("groups",.ref g),("held",.non),("choices",.ref c),("made",.int 0)]))):=Gro.obj eC
   have eD:(upd HC m (.ins C dx (Yw "found" (.bl false) [("rows",.ref ra),("text",.str t),("row",.int 0),("at",.int i),("groups",.ref g),("held",.non),("choices",.ref c),("made",.int 0)]))) m = some (.ins C dx [("rows",.ref ra),("text",.str t),("row",.int 0),("at",.int i),("groups",.ref g),("held",.non),("choices",.ref c),("made",.int 0),("found",.bl false)]):=by
    rw [Z3,Zn (by decide +kernel),Zn (by decide +kernel),Zn (by decide +kernel),Zn (by decide +kernel),Zn (by decide +kernel),Zn (by decide +kernel),Zn (by decide +kernel),Zn (by decide +kernel),Vh]
   generalize upd HC m (.ins C dx (Yw "found" (.bl false) [("rows",.ref ra),("text",.str t),("row",.int 0),("at",.int i),("groups",.ref g),("held",.non),("choices",.ref c),("made",.int 0)])) = HD at *
   refine (exA rfl ⟨m,C,dx,exA rfl ⟨eD,MT.cl,MT.a10,by simp,?_⟩⟩)
   have gE:Gro [m] HD (upd HD m (.ins C dx (Yw "ended" (.bl false) [("rows",.ref ra),("text",.str t),("row",.int 0),("at",.int i),("groups",.ref g),("held",.non),("choices",.ref c),("made",.int 0),("found",.bl false)]))):=Gro.obj eD
   have eE:(upd HD m (.ins C dx (Yw "ended" (.bl false) [("rows",.ref ra),("text",.str t),("row",.int 0),("at",.int i),("groups",.ref g),("held",.non),("choices",.ref c),("made",.int 0),("found",.bl false)]))) m = some (.ins C dx (ms0 ra t i (.ref g) c).s.fs):=by
    rw [Z3,Zn (by decide +kernel),Zn (by decide +kernel),Zn (by decide +kernel),Zn (by decide +kernel),Zn (by decide +kernel),Zn (by decide +kernel),Zn (by decide +kernel),Zn (by decide +kernel),Zn (by decide +kernel),Vh]
    rfl
   have gAE:=((gB.trans gC).trans gD).trans gE
   have fE:=gAE.keep c _ fA (by simpa using Ne.symm mc)
   have gg:=(((g17.trans g8).trans g9).trans gA).trans gAE
   have hnc:H c = none:=by
    cases hh:H c with
    | none=>rfl
    | some o =>
     exfalso
     have:=((g17.trans g8).trans g9).keep c o hh (by simpa using Ne.symm mc)
     rw [hc] at this
     cases this
   exact q c g _ hnc ⟨⟨dx,eE⟩,[],fE,.nil⟩ (gAE.tups _ _ (gA.tups _ _ (g9.tups _ _ (g8.tups _ _ hg)))) gg
  refine ⟨t1,Z6i rs,[.non],rfl,rfl,f6,hc0,by simp; omega,hc1,fun hk1=>?_,fun _ _ p hp'=>?_,by simp⟩
  ·exact fin t1 H6 (by rw [f6,hk1]; rfl) e6 g16
  ·refine fin p _ ?_ (by rw [Zl (Z7 e6 hp')]; exact e6) (g16.tup hp')
   rw [Z3]
   congr 2
   induction (Z6i rs).toNat with
   | zero=>rfl
   | succ n ih=>rw [List.replicate_succ,List.flatten_cons,ih]; rfl
end
inductive Ez where
 | pat (h:Hd) | try_ (z:Int) | go (z:Int) | found
def Ez.rw:Ez→Rw
 | .pat h=>.pat h | .try_ z=>.tup [.str "try",.int z] | .go z=>.tup [.str "go",.int z] | .found=>.tup [.str "found"]
def MM.push (z:Int) (M:MM):MM:=⟨M.s,M.cs ++ [(z,M.s.place,M.s.groups,M.s.held)]⟩
def MM.goTo (z:Int) (M:MM):MM:=⟨{ M.s with row:=z },M.cs⟩
def Zfc:Hd→MM→MM
 | .beg=>MM.doBegin
 | .fin=>MM.doEnd
 | h=>MM.doSign h
def Ez.act:Ez→MM→MM
 | .pat h=>Zfc h
 | .try_ z=>MM.push z
 | .go z=>MM.goTo z
 | .found=>MM.doFound
theorem V2 {α β:Type} {F:α→β→Prop}:∀ {xs:List α} {ys:List β} {i:Nat} {y:β},Paired F xs ys→ys[i]? = some y→∃ x,xs[i]? = some x∧F x y
 | _,_,_,_,.nil,h=>by simp at h
 | _,_,0,_,.cons r _,h=>by
  simp only [List.getElem?_cons_zero,Option.some.injEq] at h
  subst h
  exact (exA rfl r)
 | _,_,i + 1,_,.cons _ t,h=>by
  rw [List.getElem?_cons_succ] at h
  obtain ⟨x,e,q⟩:=V2 t h
  exact ⟨x,by rw [List.getElem?_cons_succ]; exact e,q⟩
section
variable {P:Program} {w:World} {K:PySem.W.Frag} {mg:Str→Option Value} {base:Heap} {f C:Addr} {fd:FuncData}
abbrev Zel (e:Ez):Hp→Addr→Prop:=fun H a=>RowAt H (.ref a) e.rw
abbrev s_do_try:Stmt:=top 19
theorem Z4q:FnScope ["machine", "row"] ["machine", "row"] (Zb s_do_try):=fsc
theorem Z5g {z:Int} (MT:Txt K mg C) (F:Fun K "do_try" "do_try" s_do_try f fd):FnOk P w K mg base CX0 1 f fd ["machine", "row"] (Z10 C Zar (Zel (.try_ z)) (MM.push z)):=by
 refine F.ok Z4q (fun vs H Q E h=>?_) (fun cdv A outer s H vs Q E hr h=>?_)
 ·obtain ⟨m,a,M,rfl,_⟩:=h
  rfl
 obtain ⟨m,a,M,rfl,hM,hz,_,⟨a',e,ha⟩,q⟩:=h
 cases e
 refine ltX ?_
 intro Xz
 refine ⟨_,(Z5 (Zm (X3 PySem.F.plainAttrs_list PySem.F.slot_list_append PySem.F.type_list_append Zy (Zt (pv 0) rfl) (Z0 (Zj (Z0 (Z8 Z6 (pv 1) Z2 (fun _ _=>rfl)) (Z0 (Zt (pv 0) rfl) (Z0 (Zt (pv 0) rfl) (Z0 (Zt (pv 0) rfl) Z4))))) Z4)))),?_⟩
 have hne:=hM.ne
 obtain ⟨⟨dx,e1⟩,vs,hv,hp⟩:=id hM
 have hl:=Paired.length hp
 refine (exA rfl ⟨m,C,dx,_,_,rfl,e1,MT.cl,MT.a7,Ym _,.inl ⟨rfl,_,SqL.of hv⟩,ixT ha rfl ⟨_,rfl,m,C,dx,_,_,rfl,e1,MT.cl,MT.a4,W6 _,_,rfl,m,C,dx,_,_,rfl,e1,MT.cl,MT.a5,X8 _,_,rfl,m,C,dx,_,_,rfl,e1,MT.cl,MT.a6,V5 _,sz,fun t ht=>?_⟩⟩)
 refine ⟨M.s.choices,vs,exA rfl ⟨rfl,Xi hv ht,big (by omega),?_⟩⟩
 have g1:Gro [M.s.choices] H _:=W8 (zs:=vs ++ [V.ref t]) (o:=.tup [.int z,.int M.s.place,M.s.groups,M.s.held]) hv ht
 refine q _ ⟨⟨dx,?_⟩,vs ++ [.ref t],Z3,?_⟩ (g1.mono (by simp))
 ·rw [Zl hne,Zl (Z7 e1 ht)]
  exact e1
 ·exact (Paired.mapP hp fun _ _ q=>q.mono g1.tups).snoc ⟨t,rfl,W7 hv ht⟩
abbrev s_do_go:Stmt:=top 20
theorem Z6r:FnScope ["machine", "row"] ["machine", "row"] (Zb s_do_go):=fsc
theorem Z7b {z:Int} (MT:Txt K mg C) (F:Fun K "do_go" "do_go" s_do_go f fd):FnOk P w K mg base CX0 1 f fd ["machine", "row"] (Z10 C Zar (Zel (.go z)) (MM.goTo z)):=by
 refine F.ok Z6r (fun vs H Q E h=>?_) (fun cdv A outer s H vs Q E hr h=>?_)
 ·obtain ⟨m,a,M,rfl,_⟩:=h
  rfl
 obtain ⟨m,a,M,rfl,hM,hz,_,⟨a',e,ha⟩,q⟩:=h
 cases e
 refine ltX ?_
 intro Xz
 refine ⟨_,(Z5 (Yg (pv 0) (Z8 Z6 (pv 1) Z2 (fun _ _=>rfl)) rfl)),?_⟩
 obtain ⟨⟨dx,e1⟩,_⟩:=id hM
 refine (ixT ha rfl ⟨_,rfl,m,C,dx,_,rfl,e1,MT.cl,MT.a3,Yt _,?_⟩)
 rw [Tf]
 exact q _ (hM.put (s':={ M.s with row:=z }) e1 rfl) (Gro.ins (by simp) e1 _)
def stp (es:List Ez) (M:MM):MM:=(es.getD M.s.row.toNat .found).act M.next
def its (es:List Ez):Nat→MM→MM
 | 0,M=>M
 | k + 1,M=>stp es (its es k M)
theorem Z02 {H:Hp} {v:V} {r:Rw} (h:RowAt H v r):∃ a,v = .ref a:=by
 cases r with
 | pat hd=>obtain ⟨a,kv,e,_⟩:=h; exact ⟨a,e⟩
 | tup xs=>obtain ⟨a,e,_⟩:=h; exact ⟨a,e⟩
end
section
variable {K:PySem.W.Frag} {mg:Str→Option Value} {h:Heap}
def MDef (K:PySem.W.Frag) (C:Addr) (m qual:Str) (st:Stmt) (ps:List Str):Prop:=∃ f fd,Fun K m qual st f fd∧Meth K C m f∧Binds K fd ps []
theorem mdef_mk {C f:Addr} {m qual:Str} {st:Stmt} {ps:List Str} {oc:Value} {od an:Option Addr} {osl:Array (Option Value)} {kV doc pm cdv ct:Value} (a:PySem.W.findIn K (.ref C) m = some (some (.ref f))) (i:PySem.W.isFn K (.ref f) = true)
  (l:K.lookup f = some ⟨oc,od,.func (PySem.W.fnOf m qual (X9 st) (X5 st) (Zb st) .none kV doc pm an cdv ct),osl⟩) (c:PySem.W.codeIn K cdv qual = true) (k:PySem.W.keepIn K (.ref f) = true)
  (hb:∀ (kV doc pm:Value) (an:Option Addr) (cdv ct:Value) (us:List Value),us.length = ps.length→bindArgs (PySem.W.fnOf m qual (X9 st) (X5 st) (Zb st) .none kV doc pm an cdv ct) ⟨us,[]⟩ = pure (ps.zip us)):MDef K C m qual st ps :=
 ⟨f,_,Uu (st:=st) l c k,⟨a,i,k⟩,(Uu (st:=st) l c k).binds hb⟩
theorem txt_mk {C:Addr} (pg:PySem.W.plainGet K C Str.empty = true) (hd:PySem.W.hasDictIn K C = true) (po:PySem.W.plainOver K C = true) (sa:PySem.W.findIn K (.ref C) "__setattr__" = some (some (.builtin "object.__setattr__")))
  (a1:PySem.W.findIn K (.ref C) "rows" = some none) (a2:PySem.W.findIn K (.ref C) "text" = some none) (a3:PySem.W.findIn K (.ref C) "row" = some none) (a4:PySem.W.findIn K (.ref C) "at" = some none) (a5:PySem.W.findIn K (.ref C) "groups" = some none) (a6:PySem.W.findIn K (.ref C) "held" = some none)
  (a7:PySem.W.findIn K (.ref C) "choices" = some none) (a8:PySem.W.findIn K (.ref C) "made" = some none) (a9:PySem.W.findIn K (.ref C) "found" = some none) (a10:PySem.W.findIn K (.ref C) "ended" = some none):Txt K mg C:=⟨⟨pg,hd,po,sa⟩,a1,a2,a3,a4,a5,a6,a7,a8,a9,a10⟩
structure MachDefs (K:PySem.W.Frag) (mg:Str→Option Value) (C:Addr):Prop where
 mg_:mg "Machine" = some (.ref C)
 tx:Txt K mg C
 mks:PySem.W.makesIn K C = true
 kc:PySem.W.keepIn K (.ref C) = true
 init:MDef K C "__init__" "Machine.__init__" s_Machine___init__ ["self", "rows", "text", "at"]
 way:MDef K C "way" "Machine.way" s_Machine_way ["self", "most"]
 moves:MDef K C "moves" "Machine.moves" s_Machine_moves ["self"]
 move:MDef K C "move" "Machine.move" s_Machine_move ["self"]
 enter:MDef K C "enter" "Machine.enter" s_Machine_enter ["self", "state"]
 go_back:MDef K C "go_back" "Machine.go_back" s_Machine_go_back ["self"]
def Dn (K:PySem.W.Frag) (ds:List (Key × V)) (wd x:Str) (st:Stmt) (ps:List Str):Prop:=∃ f fd,Z4a ds (Sum.inr wd) = some (.ref f)∧Fun K x x st f fd∧Binds K fd ps []
theorem dn_mk {ds:List (Key × V)} {wd x:Str} {st:Stmt} {ps:List Str} {f:Addr} {oc:Value} {od an:Option Addr} {osl:Array (Option Value)} {kV doc pm cdv ct:Value} (v:Z4a ds (Sum.inr wd) = some (.ref f))
  (l:K.lookup f = some ⟨oc,od,.func (PySem.W.fnOf x x (X9 st) (X5 st) (Zb st) .none kV doc pm an cdv ct),osl⟩) (c:PySem.W.codeIn K cdv x = true) (k:PySem.W.keepIn K (.ref f) = true)
  (hb:∀ (kV doc pm:Value) (an:Option Addr) (cdv ct:Value) (us:List Value),us.length = ps.length→bindArgs (PySem.W.fnOf x x (X9 st) (X5 st) (Zb st) .none kV doc pm an cdv ct) ⟨us,[]⟩ = pure (ps.zip us)):Dn K ds wd x st ps :=
 ⟨f,_,v,Uu (st:=st) l c k,(Uu (st:=st) l c k).binds hb⟩
theorem Dn.tells {P:Program} {w:World} {base:Heap} {k:Nat} {ds:List (Key × V)} {wd x:Str} {st:Stmt} {ps:List Str} {sp:Sp} (D:Dn K ds wd x st ps) (h:∀ f fd,Fun K x x st f fd→FnOk P w K mg base CX0 k f fd ps sp):Tells P w K mg base k ds wd sp:=by
 obtain ⟨f,fd,v,F,b⟩:=D
 exact ⟨f,fd,ps,v,h f fd F,F.kp,b⟩
theorem dent_ref {w:World} {h:Int} {x:Str} {t:Tok} {a:Addr} (e:h = PyData.keyHash w.params x):Zcz w ⟨h,.str x t,.ref a⟩ (.inr x,.ref a):=⟨Us x t,e,rfl⟩
end
section
variable {P:Program} {w:World} {K:PySem.W.Frag} {mg:Str→Option Value} {base:Heap} {C:Addr}
theorem MDef.own {m qual:Str} {st:Stmt} {ps:List Str} {k:Nat} {sp:Sp} (D:MDef K C m qual st ps) (h:∀ f fd,Fun K m qual st f fd→FnOk P w K mg base CX0 k f fd ps sp):OwnM P w K mg base k C m ps sp:=by
 obtain ⟨f,fd,F,M,b⟩:=D
 exact ⟨f,fd,h f fd F,M,b⟩
theorem Z73 (T:Blt mg) (MD:MachDefs K mg C):OwnC P w K mg base 1 C "Machine" ["self", "rows", "text", "at"] (Z1z C):=by
 obtain ⟨f,fd,F,M,b⟩:=MD.init
 exact ⟨f,fd,Z9u T MD.tx F,⟨MD.mks,M.at_,M.fn,MD.kc⟩,MD.mg_,b⟩
theorem Z58 (MD:MachDefs K mg C):OwnM P w K mg base 1 C "moves" ["self"] (J1 C):=MD.moves.own fun _ _ F=>Z78 MD.tx F
end
section
variable {P:Program} {w:World} {K:PySem.W.Frag} {mg:Str→Option Value} {base:Heap} {f C:Addr} {fd:FuncData}
inductive spHoldMI (C:Addr) (vs:List V) (H:Hp) (Q:VK):Prop
 | mk (m:Addr) (k:Int) (M:MM) (_:vs = [.ref m,.int k]) (_:MAt C H m M) (_:∀ (H':Hp) (p:Addr),MAt C H' m ⟨{ M.s with held:=.ref p },M.cs⟩→H' p = some (.tup [.int k,.int M.s.place,M.s.held])→Gro [m] H H'→Q .non H')
def U7 (C:Addr):Sp:=fun vs H Q _=>spHoldMI C vs H Q
inductive spLetMI (C:Addr) (vs:List V) (H:Hp) (Q:VK):Prop
 | mk (m p:Addr) (M:MM) (a b v:V) (_:vs = [.ref m]) (_:MAt C H m M) (_:M.s.held = .ref p) (_:H p = some (.tup [a,b,v])) (_:∀ H':Hp,MAt C H' m ⟨{ M.s with held:=v },M.cs⟩→Gro [m] H H'→Q (.ref p) H')
def U6 (C:Addr):Sp:=fun vs H Q _=>spLetMI C vs H Q
inductive spDropMI (C:Addr) (vs:List V) (H:Hp) (Q:VK):Prop
 | mk (m:Addr) (k:Nat) (M:MM) (_:vs = [.ref m,.int k]) (_:MAt C H m M) (_:M.cs.length ≤ 1000000) (_:∀ H':Hp,MAt C H' m ⟨M.s,M.cs.take k⟩→Gro [M.s.choices] H H'→Q .non H')
def U8 (C:Addr):Sp:=fun vs H Q _=>spDropMI C vs H Q
inductive spEntMI (C:Addr) (vs:List V) (H:Hp) (Q:VK):Prop
 | mk (m g:Addr) (k:Int) (M:MM) (es:List V) (e:V) (_:vs = [.ref m,.int k]) (_:MAt C H m M) (_:M.s.groups = .ref g) (_:H g = some (.tup es)) (_:k ≤ es.length) (_:es.length ≤ 1000) (_:atI es (k - 1) = some e) (_:Q e H)
def Z20 (C:Addr):Sp:=fun vs H Q _=>spEntMI C vs H Q
inductive spWithI (vs:List V) (H:Hp) (Q:VK):Prop
 | mk (g:Addr) (k:Int) (x y:V) (es:List V) (_:vs = [.ref g,.int k,x,y]) (_:H g = some (.tup es)) (_:1 ≤ k) (_:k ≤ es.length) (_:es.length ≤ 900) (_:∀ (r p:Addr) (H':Hp),H' p = some (.tup [x,y])→H' r = some (.tup (es.take (k - 1).toNat ++ [.ref p] ++ es.drop k.toNat))→Gro [] H H'→Q (.ref r) H')
def Z4g:Sp:=fun vs H Q _=>spWithI vs H Q
abbrev s_Machine_hold:Stmt:=Xn (top 35) 7
theorem Ua:FnScope ["self", "number"] ["self", "number"] (Zb s_Machine_hold):=fsc
theorem Z9v (MT:Txt K mg C) (F:Fun K "hold" "Machine.hold" s_Machine_hold f fd):FnOk P w K mg base CX0 1 f fd ["self", "number"] (U7 C):=by
 refine F.ok Ua (fun vs H Q E h=>?_) (fun cdv A outer s H vs Q E hr h=>?_)
 ·obtain ⟨m,k,M,rfl,_⟩:=h
  rfl
 obtain ⟨m,k,M,rfl,hM,q⟩:=h
 refine ltX ?_
 intro Xz
 refine ⟨_,(Z5 (Yg (pv 0) (Zj (Z0 (pv 1) (Z0 (Zt (pv 0) rfl) (Z0 (Zt (pv 0) rfl) Z4)))) rfl)),?_⟩
 obtain ⟨⟨dx,h1⟩,_⟩:=id hM
 refine (exA rfl (exA rfl ⟨m,C,dx,_,_,rfl,h1,MT.cl,MT.a4,W6 _,exA rfl ⟨m,C,dx,_,_,rfl,h1,MT.cl,MT.a6,V5 _,sz,fun p hp=>?_⟩⟩))
 have hM1:=hM.new (o:=.tup [.int k,.int M.s.place,M.s.held]) hp
 have e1:(upd H p (.tup [.int k,.int M.s.place,M.s.held])) m = some (.ins C dx M.s.fs):=by rw [Zl (Z7 h1 hp)]; exact h1
 have ep:(upd H p (.tup [.int k,.int M.s.place,M.s.held])) p = some (.tup [.int k,.int M.s.place,M.s.held]):=Z3
 have g1:=Gro.new (S:=[m]) hp (.tup [.int k,.int M.s.place,M.s.held])
 generalize upd H p (.tup [.int k,.int M.s.place,M.s.held]) = H1 at *
 refine (exA rfl ⟨m,C,dx,exA rfl ⟨e1,MT.cl,MT.a6,Yt _,?_⟩⟩)
 rw [Ui]
 have g2:Gro [m] H1 (upd H1 m (.ins C dx ({ M.s with held:=.ref p }:MS).fs)):=Gro.ins (by simp) e1 _
 exact q _ p (hM1.put (s':={ M.s with held:=.ref p }) e1 rfl) (g2.tups _ _ ep) (g1.trans g2)
abbrev s_Machine_let_go:Stmt:=Xn (top 35) 8
theorem sc_Machine_let_go:FnScope ["self", "pair"] ["self"] (Zb s_Machine_let_go):=fsc
theorem Z5f (MT:Txt K mg C) (F:Fun K "let_go" "Machine.let_go" s_Machine_let_go f fd):FnOk P w K mg base CX0 1 f fd ["self"] (U6 C):=by
 refine F.ok sc_Machine_let_go (fun vs H Q E h=>?_) (fun cdv A outer s H vs Q E hr h=>?_)
 ·obtain ⟨m,p,M,a,b,v,rfl,_⟩:=h
  rfl
 obtain ⟨m,p,M,a,b,v,rfl,hM,hh,hp,q⟩:=h
 refine ltX ?_
 intro Xz
 refine ⟨_,(Z1 (pS 1 sc_Machine_let_go.nd (Zt (pv 0) rfl))
  (Z1 (Yg (pv 0) (Z8 Z6 (pv 1) Z2 (fun _ _=>rfl)) rfl)
  (Z5 (Zh (pv 1))))),?_⟩
 refine Z28 ?_
 intro Ez Az1 Az2
 obtain ⟨⟨dx,h1⟩,_⟩:=id hM
 refine (exA rfl ⟨m,C,dx,_,_,rfl,h1,MT.cl,MT.a6,(by rw [V5,hh]),?_⟩)
 refine (ixT hp rfl ⟨_,rfl,m,C,dx,_,rfl,h1,MT.cl,MT.a6,Yt _,?_⟩)
 rw [Ui]
 exact (exA rfl (q _ (hM.put (s':={ M.s with held:=v }) h1 rfl) (Gro.ins (by simp) h1 _)))
abbrev s_Machine_drop_choices:Stmt:=Xn (top 35) 6
theorem Xs:FnScope ["self", "size"] ["self", "size"] (Zb s_Machine_drop_choices):=fsc
theorem Z9x (T:Blt mg) (MT:Txt K mg C) (F:Fun K "drop_choices" "Machine.drop_choices" s_Machine_drop_choices f fd):FnOk P w K mg base CX0 1 f fd ["self", "size"] (U8 C):=by
 refine F.ok Xs (fun vs H Q E h=>?_) (fun cdv A outer s H vs Q E hr h=>?_)
 ·obtain ⟨m,k,M,rfl,_⟩:=h
  rfl
 obtain ⟨m,k,M,rfl,hM,hz,q⟩:=h
 refine ltX ?_
 intro Xz
 refine ⟨_,(Z5 (U2 PassesOwn.never (Z9 Z0c (Zp Zx rfl T.b_len PyProof.Rows.Boot.«len» (Z0 (Zt (pv 0) rfl) Z4)) (pv 1) (Zc _)) (Z5 (Zm (Z2f PySem.F.plainAttrs_list PySem.F.slot_list_pop PySem.F.type_list_pop Z2p (Zt (pv 0) rfl)))))),?_⟩
 refine Zbv ?_
 intro Ez Az1
 refine Z6k (fun σ H'=>∃ j,σ = [some (.ref m),some (.int k)]∧MAt C H' m ⟨M.s,M.cs.take j⟩∧(k ≤ j ∨ j = M.cs.length)∧j ≤ M.cs.length∧Gro [M.s.choices] H H') (fun σ H'=>match H' M.s.choices with | some (.lst vs)=>vs.length | _=>0) ⟨M.cs.length,rfl,by rw [List.take_length]; exact hM,.inr rfl,Nat.le_refl _,Gro.refl⟩ ?_ ?_
 ·rintro σ H1 ⟨j,rfl,hM1,hj,hjl,g1⟩
  have hne:=hM1.ne
  obtain ⟨⟨dx,h1⟩,vs,hv,hp⟩:=id hM1
  have hl:=Paired.length hp
  have hv':H1 M.s.choices = some (.lst vs):=hv
  have hvl:vs.length = j:=by rw [hl]; show (M.cs.take j).length = j; rw [List.length_take]; omega
  refine (exA rfl ⟨m,C,dx,_,_,rfl,h1,MT.cl,MT.a7,Ym _,M.s.choices,vs,rfl,.inl (SqL.of hv'),exA rfl (exB rfl rfl (exA rfl (X7 (fun z=>?_) (fun z=>?_))))⟩)
  ·have hkj:k < j:=by have:=of_decide_eq_true z; omega
   have hx:vs[vs.length - 1]? = some (vs[vs.length - 1]'(by omega)):=List.getElem?_eq_getElem _
   refine (exA rfl ⟨m,C,dx,_,_,rfl,h1,MT.cl,MT.a7,Ym _,.inl ⟨rfl,_,SqL.of hv'⟩,M.s.choices,vs,exA rfl ⟨rfl,hv',hx,?_⟩⟩)
   have g2:Gro [M.s.choices] H1 (upd H1 M.s.choices (.lst vs.dropLast)):=Gro.set (by simp) hv' _
   refine ⟨⟨j - 1,rfl,⟨⟨dx,by rw [Zl hne]; exact h1⟩,vs.dropLast,Z3,?_⟩,.inl (by omega),by omega,g1.trans g2⟩,?_⟩
   ·have:=Paired.mapP (Um hp) fun _ _ q=>q.mono g2.tups
    have e:(M.cs.take j).dropLast = M.cs.take (j - 1):=by rw [List.dropLast_eq_take,List.take_take,List.length_take]; congr 1; omega
    show Paired _ _ (M.cs.take (j - 1))
    rw [← e]
    exact this
   ·show (match (upd H1 M.s.choices (.lst vs.dropLast)) M.s.choices with | some (.lst vs)=>vs.length | _=>0) < (match H1 M.s.choices with | some (.lst vs)=>vs.length | _=>0)
    rw [Z3,hv']
    show vs.dropLast.length < vs.length
    rw [List.length_dropLast]
    omega
  ·have hkj:j ≤ k:=by
    have:¬ (k:Int) < vs.length:=fun z'=>z (decide_eq_true z')
    omega
   refine q H1 ?_ g1
   have:M.cs.take k = M.cs.take j:=by
    rcases hj with h | h
    ·rw [show k = j by omega]
    ·rw [List.take_of_length_le (by omega),List.take_of_length_le (by omega)]
   rw [this]
   exact hM1
 ·intro σ H1 Q1 Q2 hQ h
  obtain ⟨x,hx,a,b,d,e,f',r1,r2,r3,r4,r5,p,ys,r6,r7,x2,r8,i,j,r9,r10,b2,r11,r12⟩:=h
  exact ⟨x,hx,a,b,d,e,f',r1,r2,r3,r4,r5,p,ys,r6,r7,x2,r8,i,j,r9,r10,b2,r11,hQ _ _ r12⟩
abbrev s_Machine_entry:Stmt:=Xn (top 35) 9
theorem Vy:FnScope ["self", "number"] ["self", "number"] (Zb s_Machine_entry):=fsc
theorem Z79 (T:Blt mg) (MT:Txt K mg C) (F:Fun K "entry" "Machine.entry" s_Machine_entry f fd):FnOk P w K mg base CX0 1 f fd ["self", "number"] (Z20 C):=by
 refine F.ok Vy (fun vs H Q E h=>?_) (fun cdv A outer s H vs Q E hr h=>?_)
 ·obtain ⟨m,g,k,M,es,e,rfl,_⟩:=h
  rfl
 obtain ⟨m,g,k,M,es,e,rfl,hM,hg,hge,hk,hl,hat,q⟩:=h
 refine ltX ?_
 intro Xz
 refine ⟨_,(Z5 (Zh (Vi (Z9 Z9l (pv 1) (Zp Zx rfl T.b_len PyProof.Rows.Boot.«len» (Z0 (Zt (pv 0) rfl) Z4)) (Zc _)) (Z8 Z6 (Zt (pv 0) rfl) (Zu Yh (pv 1) Z2) (fun _ _=>rfl)) Uk))),?_⟩
 obtain ⟨⟨dx,h1⟩,_⟩:=id hM
 have hfs:M.s.fs.lookup ("groups":Str) = some (.ref g):=by rw [X8,hg]
 refine (exA rfl (exA rfl ⟨m,C,dx,_,_,rfl,h1,MT.cl,MT.a5,hfs,g,es,rfl,.inr (SqT.of hge),exB rfl rfl (exA rfl (Zg (decide_eq_true hk) ?_))⟩))
 exact ⟨_,rfl,m,C,dx,_,_,rfl,h1,MT.cl,MT.a5,hfs,_,rfl,_,_,rfl,rfl,g,es,_,_,rfl,rfl,SqT.of hge,hat,q⟩
abbrev s_with_entry:Stmt:=top 13
theorem J5:FnScope ["groups", "number", "begin", "end"] ["groups", "number", "begin", "end"] (Zb s_with_entry):=fsc
theorem Z9n (F:Fun K "with_entry" "with_entry" s_with_entry f fd):FnOk P w K mg base CX0 1 f fd ["groups", "number", "begin", "end"] Z4g:=by
 refine F.ok J5 (fun vs H Q E h=>?_) (fun cdv A outer s H vs Q E hr h=>?_)
 ·obtain ⟨g,k,x,y,es,rfl,_⟩:=h
  rfl
 obtain ⟨g,k,x,y,es,rfl,hg,hk1,hk2,hl,q⟩:=h
 obtain ⟨j,rfl⟩:∃ j:Nat,k = ((j + 1:Nat):Int):=⟨(k - 1).toNat,by omega⟩
 refine ltX ?_
 intro Xz
 refine ⟨_,(Z5 (Zh (Zu X4 (Zu X4 (Y1 Xk (pv 0) Yf (Y3 (Zu Yh (pv 1) Z2))) (Zj (Z0 (Zj (Z0 (pv 2) (Z0 (pv 3) Z4))) Z4))) (Y1 Xk (pv 0) (Y3 (pv 1)) Yf)))),?_⟩
 refine (exA rfl (exA rfl (exB rfl rfl (exA rfl ⟨g,es,rfl,SqT.of hg,?nw1,fun p1 hp1=>?_⟩))))
 case nw1 =>
  rw [show ((j + 1:Nat):Int) - 1 = (j:Nat) by omega,HT.sIx_nat]
  omega
 rw [show ((j + 1:Nat):Int) - 1 = (j:Nat) by omega,Z8m (by omega)]
 have g1:=Gro.new (S:=[]) hp1 (.tup (es.take j))
 have e1:(upd H p1 (.tup (es.take j))) p1 = some (.tup (es.take j)):=Z3
 generalize upd H p1 (.tup (es.take j)) = H1 at *
 refine (exA rfl (exA rfl ⟨sz,fun p2 hp2=>⟨sz,fun p3 hp3=>?_⟩⟩))
 have g2:Gro [] H1 (upd (upd H1 p2 (.tup [x,y])) p3 (.tup [.ref p2])):=(Gro.new hp2 _).tup hp3
 have e2:(upd (upd H1 p2 (.tup [x,y])) p3 (.tup [.ref p2])) p3 = some (.tup [.ref p2]):=Z3
 have e3:(upd (upd H1 p2 (.tup [x,y])) p3 (.tup [.ref p2])) p2 = some (.tup [x,y]):=by rw [Zl (Z7 Z3 hp3)]; exact Z3
 generalize upd (upd H1 p2 (.tup [x,y])) p3 (.tup [.ref p2]) = H2 at *
 refine Jk (g2.tups _ _ e1) e2 (by rw [List.length_take,List.length_singleton]; omega) fun r4 H4 hr4 g4=>?_
 have t4:Tm H H4:=fun b xs h=>g4.tups _ _ (g2.tups _ _ (g1.tups _ _ h))
 refine (exA rfl (exA rfl (exA rfl ⟨g,es,rfl,SqT.of (t4 _ _ hg),?nw2,fun p5 hp5=>?_⟩)))
 case nw2 =>
  rw [HT.sIx_nat]
  omega
 rw [Z2z (by omega)]
 have g5:=Gro.new (S:=[]) hp5 (.tup (es.drop (j + 1)))
 refine Jk (g5.tups _ _ hr4) Z3 (by simp only [List.length_append,List.length_take,List.length_drop,List.length_singleton]; omega) fun r6 H6 hr6 g6=>?_
 refine q r6 p2 H6 (g6.tups _ _ (g5.tups _ _ (g4.tups _ _ e3))) ?_ ((((g1.trans g2).trans g4).trans g5).trans g6)
 rw [show (((j + 1:Nat):Int) - 1).toNat = j by omega,show ((j + 1:Nat):Int).toNat = j + 1 from rfl]
 exact hr6
end
theorem Ab.cslen {H:Hp} {ra:Addr} {t:Str} {ch:Addr} {M:MM} {c:Cg} (h:Ab H ra t ch M c):M.cs.length = c.cs.length:=Paired.length h.cs
theorem MAt.push {C:Addr} {H:Hp} {m tp:Addr} {M:MM} {vs:List V} {q:Chc} (h:MAt C H m M) (hv:H M.s.choices = some (.lst vs)) (hp:Paired (ChAt H) vs M.cs) (ht:H tp = some (.tup [.int q.1,.int q.2.1,q.2.2.1,q.2.2.2])) :
  MAt C (upd H M.s.choices (.lst (vs ++ [.ref tp]))) m ⟨M.s,M.cs ++ [q]⟩∧Gro [M.s.choices] H (upd H M.s.choices (.lst (vs ++ [.ref tp]))):=by
 have hne:=h.ne
 obtain ⟨⟨dx,e1⟩,_⟩:=h
 have g1:Gro [M.s.choices] H (upd H M.s.choices (.lst (vs ++ [.ref tp]))):=Gro.set (by simp) hv _
 exact ⟨⟨⟨dx,by rw [Zl hne]; exact e1⟩,vs ++ [.ref tp],Z3,(Paired.mapP hp fun _ _ q=>q.mono g1.tups).snoc ⟨tp,rfl,g1.tups _ _ ht⟩⟩,g1⟩
section
variable {P:Program} {w:World} {K:PySem.W.Frag} {mg:Str→Option Value} {base:Heap} {f C:Addr} {fd:FuncData}
abbrev s_do_again:Stmt:=top 18
theorem sc_do_again:FnScope ["machine", "row", "entry", "end"] ["machine", "row"] (Zb s_do_again):=fsc
theorem Z1f {k:Int} (MT:Txt K mg C) (O_Machine_go_back:OwnM P w K mg base 2 C "go_back" ["self"] (Xj C)) (O_Machine_entry:OwnM P w K mg base 1 C "entry" ["self", "number"] (Z20 C)) (F:Fun K "do_again" "do_again" s_do_again f fd):FnOk P w K mg base CX0 3 f fd ["machine", "row"] (Jm C (.pat (.again k))):=by
 refine F.ok sc_do_again (fun vs H Q E h=>?_) (fun cdv A outer s H vs Q E hr h=>?_)
 ·obtain ⟨m,a,ra,ch,t,n,M,c,rfl,_⟩:=h
  rfl
 obtain ⟨m,a,ra,ch,t,n,M,c,rfl,hM,hA,hrow,ht,hci,hgo,hn,hneed,hcs,q⟩:=h
 refine ltX ?_
 intro Xz
 refine ⟨_,(Z1 (pS 2 sc_do_again.nd (Yz (O_Machine_entry.mono (by omega)) MT.cl hr (pv 0) (Z0 (Z8 Z6 (pv 1) Z2 (fun _ _=>rfl)) Z4)))
  (Z1 (Zo (Ve (Wf (pv 2))) (Z1 (Zm (Yd (O_Machine_go_back.mono (by omega)) MT.cl hr (pv 0)))
  (Z5 Z4z)) Zf)
  (Z1 (pS 3 sc_do_again.nd (Zu Yh (Zu Ya (Zt (pv 0) rfl) (Z8 Z6 (pv 2) Z2 (fun _ _=>rfl))) (Z8 Z6 (pv 2) Z2 (fun _ _=>rfl))))
  (Z5 (Zo (Z9 Zs (Y1 Ta (Zt (pv 0) rfl) (Y3 (Zt (pv 0) rfl)) (Y3 (pv 3))) (Y1 Ta (Zt (pv 0) rfl) (Y3 (Z8 Z6 (pv 2) Z2 (fun _ _=>rfl))) (Y3 (Z8 Z6 (pv 2) Z2 (fun _ _=>rfl)))) (Zc _)) (Z5 (Yg (pv 0) (pv 3) rfl)) (Z5 (Zm (Yd (O_Machine_go_back.mono (by omega)) MT.cl hr (pv 0))))))))),?_⟩
 refine Zbf ?_
 intro Ez Az1 Az2 Az3 Az4 Az5 Az6 Az7
 obtain rfl:=hA.chs
 obtain rfl:=hA.text
 obtain ⟨⟨dx,e1⟩,_⟩:=id hM
 obtain ⟨a',kv,e,⟨hk,_,ha⟩,_⟩:=hrow
 cases e
 obtain ⟨hk1,hk2⟩:1 ≤ k∧k ≤ n:=by
  rcases hneed with h | h
  ·exact h
  ·cases h
 have hcl:=hA.cslen
 have hgl:=hgo.len
 obtain ⟨g,es,en,hg,hge,hel,hat,hen⟩:=hA.gs.ent hk1 (by omega)
 refine (exA rfl ⟨m,dx,exA rfl ⟨e1,Z2n _,ixT ha rfl ⟨m,g,k,M,es,en,rfl,hM,hg,hge,by omega,by omega,hat,?_⟩⟩⟩)
 refine (exA rfl (exA rfl (?_)))
 cases he:ent c.g k with
 | none =>
  rw [he] at hen
  have hen':en = .non:=hen
  have hact:(Op.pat (.again k)).act M.s.text c = bk c.cs:=by
   show (match ent c.g k with | none=>bk c.cs | some p=>_) = _
   rw [he]
  refine Zg (decide_eq_true hen') (exA rfl ⟨m,dx,exA rfl ⟨e1,Yk _,m,M,rfl,hM,by omega,fun H' hM' g'=>?_⟩⟩)
  have bf:=Yn M
  exact q H' _ hM' (by rw [hact]; exact hA.back.mono g'.tups) bf.1 bf.2 g'
 | some p =>
  rw [he] at hen
  obtain ⟨pa,rfl,hpa⟩:=hen
  obtain ⟨p1,p2⟩:=Z2x hgo he
  refine Zd (by intro z; have z':=of_decide_eq_true z; cases z') ?_
  refine (exA rfl ⟨m,C,dx,_,_,rfl,e1,MT.cl,MT.a4,W6 _,ixT hpa rfl ⟨_,_,rfl,rfl,ixT hpa at0 ⟨_,_,rfl,rfl,?_⟩⟩⟩)
  have hend:M.s.place + (p.2:Int) - (p.1:Int) = ((c.i + (p.2 - p.1):Nat):Int):=by rw [hA.pl]; omega
  refine (exA rfl ⟨m,C,dx,_,_,rfl,e1,MT.cl,MT.a2,Jg _,exA rfl ⟨m,C,dx,_,_,rfl,e1,MT.cl,MT.a4,W6 _,exA rfl (exA rfl (exA rfl ⟨M.s.text,rfl,Xa ht,?_⟩))⟩⟩)
  refine (exA rfl ⟨m,C,dx,_,_,rfl,e1,MT.cl,MT.a2,Jg _,ixT hpa at0 ⟨_,rfl,ixT hpa rfl ⟨_,rfl,M.s.text,rfl,Xa ht,rfl,_,rfl,?_⟩⟩⟩)
  have hs1:Txt.slice M.s.text (some M.s.place) (some (M.s.place + (p.2:Int) - (p.1:Int))) = sub M.s.text c.i (c.i + (p.2 - p.1)):=by
   rw [hend,hA.pl,Xo (by omega) (by omega)]
   rfl
  have hs2:Txt.slice M.s.text (some (p.1:Int)) (some (p.2:Int)) = sub M.s.text p.1 p.2:=by
   rw [Xo (by omega) (by omega)]
   rfl
  have hact:(Op.pat (.again k)).act M.s.text c = if sub M.s.text c.i (c.i + (p.2 - p.1)) = sub M.s.text p.1 p.2 then .run { c with i:=c.i + (p.2 - p.1) } else bk c.cs:=by
   show (match ent c.g k with | none=>bk c.cs | some p=>_) = _
   rw [he]
  show if decide (V.str (Txt.slice M.s.text (some M.s.place) (some (M.s.place + (p.2:Int) - (p.1:Int)))) = V.str (Txt.slice M.s.text (some (p.1:Int)) (some (p.2:Int)))) = true then _ else _
  rw [hs1,hs2]
  refine X7 (fun z=>?_) (fun z=>?_)
  ·have z':sub M.s.text c.i (c.i + (p.2 - p.1)) = sub M.s.text p.1 p.2:=by
    have:=of_decide_eq_true z
    injection this
   rw [if_pos z'] at hact
   refine (exA rfl (exA rfl ⟨m,C,dx,exA rfl ⟨e1,MT.cl,MT.a4,Yt _,?_⟩⟩))
   rw [Z6z]
   have g1:Gro [m,M.s.choices] H (upd H m (.ins C dx ({ M.s with place:=M.s.place + (p.2:Int) - (p.1:Int) }:MS).fs)):=Gro.ins (by simp) e1 _
   refine q _ _ (hM.put (s':={ M.s with place:=M.s.place + (p.2:Int) - (p.1:Int) }) e1 rfl) ?_ rfl rfl g1
   rw [hact]
   have hA1:=hA.mono g1.tups
   exact ⟨hA1.rows,rfl,rfl,hA1.en,hA1.row,hend,hA1.gs,hA1.hl,hA1.cs⟩
  ·have z':¬ sub M.s.text c.i (c.i + (p.2 - p.1)) = sub M.s.text p.1 p.2:=fun e=>z (decide_eq_true (by rw [e]))
   rw [if_neg z'] at hact
   refine (exA rfl ⟨m,dx,exA rfl ⟨e1,Yk _,m,M,rfl,hM,by omega,fun H' hM' g'=>?_⟩⟩)
   have bf:=Yn M
   exact q H' _ hM' (by rw [hact]; exact hA.back.mono g'.tups) bf.1 bf.2 g'
abbrev s_do_have:Stmt:=top 21
theorem Z3g:FnScope ["machine", "row"] ["machine", "row"] (Zb s_do_have):=fsc
theorem Z3x {k:Int} {z:Nat} (MT:Txt K mg C) (O_Machine_entry:OwnM P w K mg base 1 C "entry" ["self", "number"] (Z20 C)) (F:Fun K "do_have" "do_have" s_do_have f fd):FnOk P w K mg base CX0 2 f fd ["machine", "row"] (Jm C (.have_ k z)):=by
 refine F.ok Z3g (fun vs H Q E h=>?_) (fun cdv A outer s H vs Q E hr h=>?_)
 ·obtain ⟨m,a,ra,ch,t,n,M,c,rfl,_⟩:=h
  rfl
 obtain ⟨m,a,ra,ch,t,n,M,c,rfl,hM,hA,hrow,ht,hci,hgo,hn,hneed,hcs,q⟩:=h
 refine ltX ?_
 intro Xz
 refine ⟨_,(Z5 (Zo (Ve (Wf (Yz (O_Machine_entry.mono (by omega)) MT.cl hr (pv 0) (Z0 (Z8 Z6 (pv 1) Z2 (fun _ _=>rfl)) Z4)))) (Z5 (Yg (pv 0) (Z8 Z6 (pv 1) Z2 (fun _ _=>rfl)) rfl)) Zf)),?_⟩
 refine Z03 ?_
 intro Ez Az1
 obtain rfl:=hA.chs
 obtain rfl:=hA.text
 obtain ⟨⟨dx,e1⟩,_⟩:=id hM
 obtain ⟨a',e,ha⟩:=hrow
 cases e
 obtain ⟨hk1,hk2⟩:1 ≤ k∧k ≤ n:=by
  rcases hneed with h | h
  ·exact h
  ·cases h
 have hgl:=hgo.len
 obtain ⟨g,es,en,hg,hge,hel,hat,hen⟩:=hA.gs.ent hk1 (by omega)
 refine (exA rfl ⟨m,dx,exA rfl ⟨e1,Z2n _,ixT ha rfl ⟨m,g,k,M,es,en,rfl,hM,hg,hge,by omega,by omega,hat,_,rfl,?_⟩⟩⟩)
 cases he:ent c.g k with
 | none =>
  rw [he] at hen
  have hen':en = .non:=hen
  have hact:(Op.have_ k z).act M.s.text c = .run { c with r:=z }:=by
   show (match ent c.g k with | none=>Cf.run _ | some _=>_) = _
   rw [he]
  refine Zg (decide_eq_true hen') ?_
  refine (ixT ha rfl ⟨_,rfl,m,C,dx,_,rfl,e1,MT.cl,MT.a3,Yt _,?_⟩)
  rw [Tf]
  have g1:Gro [m,M.s.choices] H (upd H m (.ins C dx ({ M.s with row:=(z:Int) }:MS).fs)):=Gro.ins (by simp) e1 _
  refine q _ _ (hM.put (s':={ M.s with row:=(z:Int) }) e1 rfl) ?_ rfl rfl g1
  rw [hact]
  have hA1:=hA.mono g1.tups
  exact ⟨hA1.rows,rfl,rfl,hA1.en,rfl,hA1.pl,hA1.gs,hA1.hl,hA1.cs⟩
 | some p =>
  rw [he] at hen
  obtain ⟨pa,rfl,hpa⟩:=hen
  have hact:(Op.have_ k z).act M.s.text c = .run c:=by
   show (match ent c.g k with | none=>Cf.run _ | some _=>_) = _
   rw [he]
  refine Zd (by intro z; have z':=of_decide_eq_true z; cases z') ?_
  exact q H M hM (by rw [hact]; exact hA) rfl rfl Gro.refl
abbrev s_do_hold:Stmt:=top 22
theorem Z3e:FnScope ["machine", "row"] ["machine", "row"] (Zb s_do_hold):=fsc
theorem Tk {o:Op} (ho:o = .turns ∨ o = .open_) (MT:Txt K mg C) (O_Machine_hold:OwnM P w K mg base 1 C "hold" ["self", "number"] (U7 C)) (F:Fun K "do_hold" "do_hold" s_do_hold f fd):FnOk P w K mg base CX0 2 f fd ["machine", "row"] (Jm C o):=by
 refine F.ok Z3e (fun vs H Q E h=>?_) (fun cdv A outer s H vs Q E hr h=>?_)
 ·obtain ⟨m,a,ra,ch,t,n,M,c,rfl,_⟩:=h
  rfl
 obtain ⟨m,a,ra,ch,t,n,M,c,rfl,hM,hA,hrow,ht,hci,hgo,hn,hneed,hcs,q⟩:=h
 refine ltX ?_
 intro Xz
 refine ⟨_,(Z5 (Zm (Yz (O_Machine_hold.mono (by omega)) MT.cl hr (pv 0) (Z0 Z2 Z4)))),?_⟩
 obtain rfl:=hA.chs
 obtain rfl:=hA.text
 obtain ⟨⟨dx,e1⟩,_⟩:=id hM
 refine (exA rfl ⟨m,dx,exA rfl ⟨e1,Z1g _,m,0,M,rfl,hM,fun H' p hM' hp g'=>?_⟩⟩)
 have hA1:=hA.mono g'.tups
 have hres:Ab H' ra M.s.text M.s.choices ⟨{ M.s with held:=.ref p },M.cs⟩ { c with h:=(0,c.i) :: c.h }:=⟨hA1.rows,rfl,rfl,hA1.en,hA1.row,hA1.pl,hA1.gs,⟨p,exA rfl ⟨by rw [hp,hA.pl]; rfl,hA1.hl⟩⟩,hA1.cs⟩
 rcases ho with rfl | rfl
 ·exact q H' _ hM' hres rfl rfl (g'.mono (by simp))
 ·exact q H' _ hM' hres rfl rfl (g'.mono (by simp))
abbrev s_do_close:Stmt:=top 23
theorem sc_do_close:FnScope ["machine", "row", "pair"] ["machine", "row"] (Zb s_do_close):=fsc
theorem Z1d {k:Int} (MT:Txt K mg C) (O_Machine_let_go:OwnM P w K mg base 1 C "let_go" ["self"] (U6 C)) (O_with_entry:Own P w K mg base 1 "with_entry" ["groups", "number", "begin", "end"] Z4g) (F:Fun K "do_close" "do_close" s_do_close f fd):FnOk P w K mg base CX0 2 f fd ["machine", "row"] (Jm C (.close k)):=by
 refine F.ok sc_do_close (fun vs H Q E h=>?_) (fun cdv A outer s H vs Q E hr h=>?_)
 ·obtain ⟨m,a,ra,ch,t,n,M,c,rfl,_⟩:=h
  rfl
 obtain ⟨m,a,ra,ch,t,n,M,c,rfl,hM,hA,hrow,ht,hci,hgo,hn,hneed,hcs,q⟩:=h
 refine ltX ?_
 intro Xz
 refine ⟨_,(Z1 (pS 2 sc_do_close.nd (Yd (O_Machine_let_go.mono (by omega)) MT.cl hr (pv 0)))
  (Z5 (Yg (pv 0) (Zk (O_with_entry.mono (by omega)) hr rfl (Z0 (Zt (pv 0) rfl) (Z0 (Z8 Z6 (pv 1) Z2 (fun _ _=>rfl)) (Z0 (Z8 Z6 (pv 2) Z2 (fun _ _=>rfl)) (Z0 (Zt (pv 0) rfl) Z4))))) rfl))),?_⟩
 refine Z29 ?_
 intro Ez Az1
 obtain rfl:=hA.chs
 obtain rfl:=hA.text
 obtain ⟨⟨dx,e1⟩,_⟩:=id hM
 obtain ⟨a',e,ha⟩:=hrow
 cases e
 obtain ⟨⟨hk1,hk2⟩,hh⟩:(1 ≤ k∧k ≤ n)∧c.h ≠ []:=by
  rcases hneed with h | h
  ·exact h
  ·cases h
 obtain ⟨x,hrest,hch⟩:∃ x r,c.h = x :: r:=by
  cases hc:c.h with
  | nil=>exact absurd hc hh
  | cons x r=>exact ⟨x,r,rfl⟩
 have hl:=hA.hl
 rw [hch] at hl
 obtain ⟨pa,v',hheld,hpa,hl'⟩:=hl
 have hgl:=hgo.len
 obtain ⟨g,es,hg,hge,hel,hpe⟩:=hA.gs.len
 refine (exA rfl ⟨m,dx,exA rfl ⟨e1,Wi _,m,pa,M,_,_,_,rfl,hM,hheld,hpa,fun H1 hM1 g1=>?_⟩⟩)
 obtain ⟨⟨dx1,f1⟩,_⟩:=id hM1
 have hfg:({ M.s with held:=v' }:MS).fs.lookup ("groups":Str) = some (.ref g):=by rw [X8]; exact congrArg some hg
 refine (exA rfl ⟨m,C,dx1,_,_,rfl,f1,MT.cl,MT.a5,hfg,ixT (g1.tups _ _ ha) rfl (ixT (g1.tups _ _ hpa) rfl ⟨_,rfl,m,C,dx1,_,_,rfl,f1,MT.cl,MT.a4,W6 _,g,k,_,_,es,rfl,g1.tups _ _ hge,hk1,by omega,by omega,fun r p H2 hp2 hr2 g2=>?_⟩)⟩)
 have hM2:=hM1.gro g2 (by simp) (by simp)
 obtain ⟨⟨dx2,f2⟩,_⟩:=id hM2
 refine (exA rfl ⟨m,C,dx2,exA rfl ⟨f2,MT.cl,MT.a5,Yt _,?_⟩⟩)
 rw [Z06]
 have g3:Gro [m,M.s.choices] H2 (upd H2 m (.ins C dx2 ({ M.s with held:=v',groups:=.ref r }:MS).fs)):=Gro.ins (by simp) f2 _
 have gg:Gro [m,M.s.choices] H (upd H2 m (.ins C dx2 ({ M.s with held:=v',groups:=.ref r }:MS).fs)):=((g1.mono (by simp)).trans (g2.mono (by simp))).trans g3
 refine q _ _ (hM2.put (s':={ M.s with held:=v',groups:=.ref r }) f2 rfl) ?_ rfl rfl gg
 have hact:(Op.close k).act M.s.text c = .run { c with h:=hrest,g:=put c.g k x.2 c.i }:=by
  show (match c.h with | []=>Cf.ended | p :: h=>Cf.run { c with h:=h,g:=put c.g k p.2 c.i }) = _
  rw [hch]
 rw [hact]
 have hA1:=hA.mono gg.tups
 refine ⟨hA1.rows,rfl,rfl,hA1.en,hA1.row,hA1.pl,?_,hl'.mono gg.tups,hA1.cs⟩
 refine GsAt.put (Paired.mapP hpe fun _ _ h=>h.mono gg.tups) (g3.tups _ _ ?_) (g3.tups _ _ hr2)
 rw [hp2]
 show some (HO.tup [.int x.2,.int M.s.place]) = _
 rw [hA.pl]
end
section
variable {P:Program} {w:World} {K:PySem.W.Frag} {mg:Str→Option Value} {base:Heap} {f C:Addr} {fd:FuncData}
theorem Ab.top {H:Hp} {ra:Addr} {t:Str} {ch:Addr} {M:MM} {c:Cg} (h:Ab H ra t ch M c) (hh:c.h ≠ []):∃ (x:Nat × Nat) (r:Hl) (pa:Addr) (v':V),c.h = x :: r∧M.s.held = .ref pa∧H pa = some (.tup [.int x.1,.int x.2,v'])∧HlAt H v' r:=by
 have hl:=h.hl
 cases hc:c.h with
 | nil=>exact absurd hc hh
 | cons x r =>
  rw [hc] at hl
  obtain ⟨pa,v',h1,h2,h3⟩:=hl
  exact ⟨x,r,pa,v',rfl,h1,h2,h3⟩
theorem Tn {n:Nat} {c:Cg} {o:Op} (h:o.need n c ∨ o = .found) (e:o.need n c = (c.h ≠ [])) (hf:o ≠ .found):c.h ≠ []:=by
 rcases h with h | h
 ·rw [e] at h; exact h
 ·exact absurd h hf
abbrev s_do_once:Stmt:=top 26
theorem Z3b:FnScope ["machine", "row"] ["machine", "row"] (Zb s_do_once):=fsc
theorem Z3s (T:Blt mg) (MT:Txt K mg C) (O_Machine_hold:OwnM P w K mg base 1 C "hold" ["self", "number"] (U7 C)) (F:Fun K "do_once" "do_once" s_do_once f fd):FnOk P w K mg base CX0 2 f fd ["machine", "row"] (Jm C .once):=by
 refine F.ok Z3b (fun vs H Q E h=>?_) (fun cdv A outer s H vs Q E hr h=>?_)
 ·obtain ⟨m,a,ra,ch,t,n,M,c,rfl,_⟩:=h
  rfl
 obtain ⟨m,a,ra,ch,t,n,M,c,rfl,hM,hA,hrow,ht,hci,hgo,hn,hneed,hcs,q⟩:=h
 refine ltX ?_
 intro Xz
 refine ⟨_,(Z5 (Zm (Yz (O_Machine_hold.mono (by omega)) MT.cl hr (pv 0) (Z0 (Zp Zx rfl T.b_len PyProof.Rows.Boot.«len» (Z0 (Zt (pv 0) rfl) Z4)) Z4)))),?_⟩
 obtain rfl:=hA.chs
 obtain rfl:=hA.text
 obtain ⟨⟨dx,e1⟩,vs,hv,hp⟩:=id hM
 have hl:=Paired.length hp
 have hcl:=hA.cslen
 refine (exA rfl ⟨m,dx,exA rfl ⟨e1,Z1g _,exA rfl ⟨m,C,dx,_,_,rfl,e1,MT.cl,MT.a7,Ym _,M.s.choices,vs,rfl,.inl (SqL.of hv),m,_,M,rfl,hM,fun H' p hM' hp' g'=>?_⟩⟩⟩)
 have hA1:=hA.mono g'.tups
 refine q H' _ hM' ⟨hA1.rows,rfl,rfl,hA1.en,hA1.row,hA1.pl,hA1.gs,⟨p,exA rfl ⟨?_,hA1.hl⟩⟩,hA1.cs⟩ rfl rfl (g'.mono (by simp))
 rw [hp',hA.pl,show vs.length = c.cs.length by omega]
abbrev s_do_kept:Stmt:=top 27
theorem Z3d:FnScope ["machine", "row"] ["machine", "row"] (Zb s_do_kept):=fsc
theorem Z3v (MT:Txt K mg C) (O_Machine_let_go:OwnM P w K mg base 1 C "let_go" ["self"] (U6 C)) (O_Machine_drop_choices:OwnM P w K mg base 1 C "drop_choices" ["self", "size"] (U8 C)) (F:Fun K "do_kept" "do_kept" s_do_kept f fd):FnOk P w K mg base CX0 2 f fd ["machine", "row"] (Jm C .kept):=by
 refine F.ok Z3d (fun vs H Q E h=>?_) (fun cdv A outer s H vs Q E hr h=>?_)
 ·obtain ⟨m,a,ra,ch,t,n,M,c,rfl,_⟩:=h
  rfl
 obtain ⟨m,a,ra,ch,t,n,M,c,rfl,hM,hA,hrow,ht,hci,hgo,hn,hneed,hcs,q⟩:=h
 refine ltX ?_
 intro Xz
 refine ⟨_,(Z5 (Zm (Yz (O_Machine_drop_choices.mono (by omega)) MT.cl hr (pv 0) (Z0 (Z8 Z6 (Yd (O_Machine_let_go.mono (by omega)) MT.cl hr (pv 0)) Z2 (fun _ _=>rfl)) Z4)))),?_⟩
 obtain rfl:=hA.chs
 obtain rfl:=hA.text
 obtain ⟨⟨dx,e1⟩,_⟩:=id hM
 have hcl:=hA.cslen
 obtain ⟨x,r,pa,v',hch,hheld,hpa,hl'⟩:=hA.top (Tn hneed rfl (by intro z; cases z))
 refine (exA rfl ⟨m,dx,exA rfl ⟨e1,Z1h _,exA rfl ⟨m,dx,exA rfl ⟨e1,Wi _,m,pa,M,_,_,_,rfl,hM,hheld,hpa,fun H1 hM1 g1=>?_⟩⟩⟩⟩)
 refine ⟨pa,_,_,_,rfl,rfl,SqT.of (g1.tups _ _ hpa),at0,m,x.1,_,rfl,hM1,by show M.cs.length ≤ _; omega,fun H2 hM2 g2=>?_⟩
 have gg:Gro [m,M.s.choices] H H2:=(g1.mono (by simp)).trans (g2.mono (by simp))
 have hA1:=hA.mono gg.tups
 refine q H2 _ hM2 ?_ rfl rfl gg
 have hact:Op.kept.act M.s.text c = .run { c with h:=r,cs:=c.cs.take x.1 }:=by
  show (match c.h with | []=>Cf.ended | p :: h=>Cf.run { c with h:=h,cs:=c.cs.take p.1 }) = _
  rw [hch]
 rw [hact]
 exact ⟨hA1.rows,rfl,rfl,hA1.en,hA1.row,hA1.pl,hA1.gs,hl'.mono gg.tups,Ye _ hA1.cs⟩
abbrev s_do_peeked:Stmt:=top 28
theorem sc_do_peeked:FnScope ["machine", "row", "pair"] ["machine", "row"] (Zb s_do_peeked):=fsc
theorem Z0d (MT:Txt K mg C) (O_Machine_let_go:OwnM P w K mg base 1 C "let_go" ["self"] (U6 C)) (O_Machine_drop_choices:OwnM P w K mg base 1 C "drop_choices" ["self", "size"] (U8 C)) (F:Fun K "do_peeked" "do_peeked" s_do_peeked f fd):FnOk P w K mg base CX0 2 f fd ["machine", "row"] (Jm C .peeked):=by
 refine F.ok sc_do_peeked (fun vs H Q E h=>?_) (fun cdv A outer s H vs Q E hr h=>?_)
 ·obtain ⟨m,a,ra,ch,t,n,M,c,rfl,_⟩:=h
  rfl
 obtain ⟨m,a,ra,ch,t,n,M,c,rfl,hM,hA,hrow,ht,hci,hgo,hn,hneed,hcs,q⟩:=h
 refine ltX ?_
 intro Xz
 refine ⟨_,(Z1 (pS 2 sc_do_peeked.nd (Yd (O_Machine_let_go.mono (by omega)) MT.cl hr (pv 0)))
  (Z1 (Zm (Yz (O_Machine_drop_choices.mono (by omega)) MT.cl hr (pv 0) (Z0 (Z8 Z6 (pv 2) Z2 (fun _ _=>rfl)) Z4)))
  (Z5 (Yg (pv 0) (Z8 Z6 (pv 2) Z2 (fun _ _=>rfl)) rfl)))),?_⟩
 refine Z28 ?_
 intro Ez Az1 Az2
 obtain rfl:=hA.chs
 obtain rfl:=hA.text
 obtain ⟨⟨dx,e1⟩,_⟩:=id hM
 have hcl:=hA.cslen
 obtain ⟨x,r,pa,v',hch,hheld,hpa,hl'⟩:=hA.top (Tn hneed rfl (by intro z; cases z))
 refine (exA rfl ⟨m,dx,exA rfl ⟨e1,Wi _,m,pa,M,_,_,_,rfl,hM,hheld,hpa,fun H1 hM1 g1=>?_⟩⟩)
 obtain ⟨⟨dx1,f1⟩,_⟩:=id hM1
 refine (exA rfl ⟨m,dx1,exA rfl ⟨f1,Z1h _,ixT (g1.tups _ _ hpa) at0 ⟨m,x.1,_,rfl,hM1,by show M.cs.length ≤ _; omega,fun H2 hM2 g2=>?_⟩⟩⟩)
 obtain ⟨⟨dx2,f2⟩,_⟩:=id hM2
 refine (ixT (g2.tups _ _ (g1.tups _ _ hpa)) rfl ⟨_,rfl,m,C,dx2,_,rfl,f2,MT.cl,MT.a4,Yt _,?_⟩)
 rw [Z6z]
 have g3:Gro [m,M.s.choices] H2 (upd H2 m (.ins C dx2 ({ M.s with held:=v',place:=(x.2:Int) }:MS).fs)):=Gro.ins (by simp) f2 _
 have gg:Gro [m,M.s.choices] H (upd H2 m (.ins C dx2 ({ M.s with held:=v',place:=(x.2:Int) }:MS).fs)):=((g1.mono (by simp)).trans (g2.mono (by simp))).trans g3
 have hA1:=hA.mono gg.tups
 refine q _ _ (hM2.put (s':={ M.s with held:=v',place:=(x.2:Int) }) f2 rfl) ?_ rfl rfl gg
 have hact:Op.peeked.act M.s.text c = .run { c with i:=x.2,h:=r,cs:=c.cs.take x.1 }:=by
  show (match c.h with | []=>Cf.ended | p :: h=>Cf.run { c with i:=p.2,h:=h,cs:=c.cs.take p.1 }) = _
  rw [hch]
 rw [hact]
 exact ⟨hA1.rows,rfl,rfl,hA1.en,hA1.row,rfl,hA1.gs,hl'.mono gg.tups,Ye _ hA1.cs⟩
abbrev s_do_barred:Stmt:=top 30
theorem Jy:FnScope ["machine", "row"] ["machine", "row"] (Zb s_do_barred):=fsc
theorem Z0e (MT:Txt K mg C) (O_Machine_let_go:OwnM P w K mg base 1 C "let_go" ["self"] (U6 C)) (O_Machine_drop_choices:OwnM P w K mg base 1 C "drop_choices" ["self", "size"] (U8 C)) (O_Machine_go_back:OwnM P w K mg base 2 C "go_back" ["self"] (Xj C)) (F:Fun K "do_barred" "do_barred" s_do_barred f fd):FnOk P w K mg base CX0 3 f fd ["machine", "row"] (Jm C .barred):=by
 refine F.ok Jy (fun vs H Q E h=>?_) (fun cdv A outer s H vs Q E hr h=>?_)
 ·obtain ⟨m,a,ra,ch,t,n,M,c,rfl,_⟩:=h
  rfl
 obtain ⟨m,a,ra,ch,t,n,M,c,rfl,hM,hA,hrow,ht,hci,hgo,hn,hneed,hcs,q⟩:=h
 refine ltX ?_
 intro Xz
 refine ⟨_,(Z1 (Zm (Yz (O_Machine_drop_choices.mono (by omega)) MT.cl hr (pv 0) (Z0 (Z8 Z6 (Yd (O_Machine_let_go.mono (by omega)) MT.cl hr (pv 0)) Z2 (fun _ _=>rfl)) Z4)))
  (Z5 (Zm (Yd (O_Machine_go_back.mono (by omega)) MT.cl hr (pv 0))))),?_⟩
 refine Z29 ?_
 intro Ez Az1
 obtain rfl:=hA.chs
 obtain rfl:=hA.text
 obtain ⟨⟨dx,e1⟩,_⟩:=id hM
 have hcl:=hA.cslen
 obtain ⟨x,r,pa,v',hch,hheld,hpa,hl'⟩:=hA.top (Tn hneed rfl (by intro z; cases z))
 refine (exA rfl ⟨m,dx,exA rfl ⟨e1,Z1h _,exA rfl ⟨m,dx,exA rfl ⟨e1,Wi _,m,pa,M,_,_,_,rfl,hM,hheld,hpa,fun H1 hM1 g1=>?_⟩⟩⟩⟩)
 refine ⟨pa,_,_,_,rfl,rfl,SqT.of (g1.tups _ _ hpa),at0,m,x.1,_,rfl,hM1,by show M.cs.length ≤ _; omega,fun H2 hM2 g2=>?_⟩
 have gg:Gro [m,M.s.choices] H H2:=(g1.mono (by simp)).trans (g2.mono (by simp))
 have hA1:=hA.mono gg.tups
 have hA2:Ab H2 ra M.s.text M.s.choices ⟨{ M.s with held:=v' },M.cs.take x.1⟩ { c with h:=r,cs:=c.cs.take x.1 }:=⟨hA1.rows,rfl,rfl,hA1.en,hA1.row,hA1.pl,hA1.gs,hl'.mono gg.tups,Ye _ hA1.cs⟩
 obtain ⟨⟨dx2,f2⟩,_⟩:=id hM2
 refine (exA rfl ⟨m,dx2,exA rfl ⟨f2,Yk _,m,_,rfl,hM2,by show (M.cs.take x.1).length ≤ _; rw [List.length_take]; omega,fun H3 hM3 g3=>?_⟩⟩)
 have bf:=Yn ⟨{ M.s with held:=v' },M.cs.take x.1⟩
 have hact:Op.barred.act M.s.text c = bk (c.cs.take x.1):=by
  show (match c.h with | []=>Cf.ended | p :: _=>bk (c.cs.take p.1)) = _
  rw [hch]
 exact q H3 _ hM3 (by rw [hact]; exact hA2.back.mono g3.tups) bf.1 bf.2 (gg.trans g3)
abbrev s_do_here:Stmt:=top 32
theorem Z3f:FnScope ["machine", "row"] ["machine", "row"] (Zb s_do_here):=fsc
theorem Z3w (MT:Txt K mg C) (O_Machine_go_back:OwnM P w K mg base 2 C "go_back" ["self"] (Xj C)) (F:Fun K "do_here" "do_here" s_do_here f fd):FnOk P w K mg base CX0 3 f fd ["machine", "row"] (Jm C .here):=by
 refine F.ok Z3f (fun vs H Q E h=>?_) (fun cdv A outer s H vs Q E hr h=>?_)
 ·obtain ⟨m,a,ra,ch,t,n,M,c,rfl,_⟩:=h
  rfl
 obtain ⟨m,a,ra,ch,t,n,M,c,rfl,hM,hA,hrow,ht,hci,hgo,hn,hneed,hcs,q⟩:=h
 refine ltX ?_
 intro Xz
 refine ⟨_,(Z5 (Zo (Z9 Z3l (Zt (pv 0) rfl) (Z8 Z6 (Zt (pv 0) rfl) Z2 (fun _ _=>rfl)) (Zc _)) (Z5 (Zm (Yd (O_Machine_go_back.mono (by omega)) MT.cl hr (pv 0)))) Zf)),?_⟩
 refine Z03 ?_
 intro Ez Az1
 obtain rfl:=hA.chs
 obtain rfl:=hA.text
 obtain ⟨⟨dx,e1⟩,_⟩:=id hM
 have hcl:=hA.cslen
 obtain ⟨x,r,pa,v',hch,hheld,hpa,hl'⟩:=hA.top (Tn hneed rfl (by intro z; cases z))
 have hfh:M.s.fs.lookup ("held":Str) = some (.ref pa):=by rw [V5,hheld]
 have hact:Op.here.act M.s.text c = if c.i = x.2 then .run c else bk c.cs:=by
  show (match c.h with | []=>Cf.ended | p :: _=>if c.i = p.2 then Cf.run c else bk c.cs) = _
  rw [hch]
 refine (exA rfl ⟨m,C,dx,_,_,rfl,e1,MT.cl,MT.a4,W6 _,exA rfl ⟨m,C,dx,_,_,rfl,e1,MT.cl,MT.a6,hfh,pa,_,_,_,rfl,rfl,SqT.of hpa,rfl,rfl,exA rfl (?_)⟩⟩)
 by_cases e:c.i = x.2
 ·rw [if_pos e] at hact
  refine Zd (fun z=>?_) (q H M hM (by rw [hact]; exact hA) rfl rfl Gro.refl)
  have:V.int M.s.place = V.int (x.2:Int):=by rw [hA.pl,e]
  rw [decide_eq_true this] at z
  cases z
 ·rw [if_neg e] at hact
  refine Zg ?_ (exA rfl ⟨m,dx,exA rfl ⟨e1,Yk _,m,M,rfl,hM,by omega,fun H' hM' g'=>?_⟩⟩)
  ·have:¬ V.int M.s.place = V.int (x.2:Int):=fun z=>by
    injection z with z
    rw [hA.pl] at z
    omega
   rw [decide_eq_false this]
   rfl
  ·have bf:=Yn M
   exact q H' _ hM' (by rw [hact]; exact hA.back.mono g'.tups) bf.1 bf.2 g'
abbrev s_do_lean:Stmt:=top 31
theorem Z3c:FnScope ["machine", "row"] ["machine", "row"] (Zb s_do_lean):=fsc
theorem Z3u (MT:Txt K mg C) (F:Fun K "do_lean" "do_lean" s_do_lean f fd):FnOk P w K mg base CX0 1 f fd ["machine", "row"] (Jm C .lean):=by
 refine F.ok Z3c (fun vs H Q E h=>?_) (fun cdv A outer s H vs Q E hr h=>?_)
 ·obtain ⟨m,a,ra,ch,t,n,M,c,rfl,_⟩:=h
  rfl
 obtain ⟨m,a,ra,ch,t,n,M,c,rfl,hM,hA,hrow,ht,hci,hgo,hn,hneed,hcs,q⟩:=h
 refine ltX ?_
 intro Xz
 refine ⟨_,(Z5 (Zo (Z9 Z0c (Zt (pv 0) rfl) Z2 (Zc _)) (Z5 (Zm (X3 PySem.F.plainAttrs_list PySem.F.slot_list_append PySem.F.type_list_append Zy (Zt (pv 0) rfl) (Z0 (Zj (Z0 (Zu Yh (Zt (pv 0) rfl) Z2) (Z0 (Zu Yh (Zt (pv 0) rfl) Z2) (Z0 (Zt (pv 0) rfl) (Z0 (Zt (pv 0) rfl) Z4))))) Z4)))) Zf)),?_⟩
 refine Z03 ?_
 intro Ez Az1
 obtain rfl:=hA.chs
 obtain rfl:=hA.text
 obtain ⟨⟨dx,e1⟩,vs,hv,hp⟩:=id hM
 have hl:=Paired.length hp
 have hcl:=hA.cslen
 have hact:Op.lean.act M.s.text c = if 0 < c.i then .run { c with cs:=c.cs ++ [(c.r - 1,c.i - 1,c.g,c.h)] } else .run c:=rfl
 refine (exA rfl ⟨m,C,dx,_,_,rfl,e1,MT.cl,MT.a4,W6 _,exB rfl rfl (exA rfl (?_))⟩)
 by_cases e:0 < c.i
 ·rw [if_pos e] at hact
  refine Zg (decide_eq_true (by rw [hA.pl]; omega)) ?_
  refine (exA rfl ⟨m,C,dx,_,_,rfl,e1,MT.cl,MT.a7,Ym _,.inl ⟨rfl,_,SqL.of hv⟩,exA rfl ⟨m,C,dx,_,_,rfl,e1,MT.cl,MT.a3,Z2u _,exB rfl rfl (exA rfl ⟨m,C,dx,_,_,rfl,e1,MT.cl,MT.a4,W6 _,exB rfl rfl (exA rfl ⟨m,C,dx,_,_,rfl,e1,MT.cl,MT.a5,X8 _,exA rfl ⟨m,C,dx,_,_,rfl,e1,MT.cl,MT.a6,V5 _,sz,fun tp htp=>?_⟩⟩)⟩)⟩⟩)
  have g2:=Gro.new (S:=[m,M.s.choices]) htp (.tup [.int (M.s.row - 1),.int (M.s.place - 1),M.s.groups,M.s.held])
  have hM2:=hM.new (o:=.tup [.int (M.s.row - 1),.int (M.s.place - 1),M.s.groups,M.s.held]) htp
  have hv2:(upd H tp (.tup [.int (M.s.row - 1),.int (M.s.place - 1),M.s.groups,M.s.held])) M.s.choices = some (.lst vs):=by rw [Zl (Z7 hv htp)]; exact hv
  have hq2:=Paired.mapP hp fun _ _ q=>q.mono g2.tups
  have et:(upd H tp (.tup [.int (M.s.row - 1),.int (M.s.place - 1),M.s.groups,M.s.held])) tp = some (.tup [.int (M.s.row - 1),.int (M.s.place - 1),M.s.groups,M.s.held]):=Z3
  refine ⟨M.s.choices,vs,exA rfl ⟨rfl,hv2,big (by omega),?_⟩⟩
  obtain ⟨hM3,g3⟩:=hM2.push (q:=(M.s.row - 1,M.s.place - 1,M.s.groups,M.s.held)) hv2 hq2 et
  have gg:Gro [m,M.s.choices] H _:=g2.trans (g3.mono (by simp))
  have hA1:=hA.mono gg.tups
  refine q _ _ hM3 ?_ rfl rfl gg
  rw [hact]
  refine ⟨hA1.rows,rfl,rfl,hA1.en,hA1.row,hA1.pl,hA1.gs,hA1.hl,hA1.cs.snoc ⟨?_,?_,hA1.gs,hA1.hl⟩⟩
  ·show M.s.row - 1 = ((c.r - 1:Nat):Int)
   rw [hA.row]
   omega
  ·show M.s.place - 1 = ((c.i - 1:Nat):Int)
   rw [hA.pl]
   omega
 ·rw [if_neg e] at hact
  refine Zd (fun z=>?_) (q H M hM (by rw [hact]; exact hA) rfl rfl Gro.refl)
  have:=of_decide_eq_true z
  rw [hA.pl] at this
  omega
abbrev s_do_bar:Stmt:=top 29
theorem sc_do_bar:FnScope ["machine", "row", "held"] ["machine", "row"] (Zb s_do_bar):=fsc
theorem Z5i {z:Nat} (T:Blt mg) (MT:Txt K mg C) (O_Machine_hold:OwnM P w K mg base 1 C "hold" ["self", "number"] (U7 C)) (F:Fun K "do_bar" "do_bar" s_do_bar f fd):FnOk P w K mg base CX0 2 f fd ["machine", "row"] (Jm C (.bar z)):=by
 refine F.ok sc_do_bar (fun vs H Q E h=>?_) (fun cdv A outer s H vs Q E hr h=>?_)
 ·obtain ⟨m,a,ra,ch,t,n,M,c,rfl,_⟩:=h
  rfl
 obtain ⟨m,a,ra,ch,t,n,M,c,rfl,hM,hA,hrow,ht,hci,hgo,hn,hneed,hcs,q⟩:=h
 refine ltX ?_
 intro Xz
 refine ⟨_,(Z1 (pS 2 sc_do_bar.nd (Zt (pv 0) rfl))
  (Z1 (Zm (Yz (O_Machine_hold.mono (by omega)) MT.cl hr (pv 0) (Z0 (Zp Zx rfl T.b_len PyProof.Rows.Boot.«len» (Z0 (Zt (pv 0) rfl) Z4)) Z4)))
  (Z5 (Zm (X3 PySem.F.plainAttrs_list PySem.F.slot_list_append PySem.F.type_list_append Zy (Zt (pv 0) rfl) (Z0 (Zj (Z0 (Z8 Z6 (pv 1) Z2 (fun _ _=>rfl)) (Z0 (Zt (pv 0) rfl) (Z0 (Zt (pv 0) rfl) (Z0 (pv 2) Z4))))) Z4)))))),?_⟩
 refine Z28 ?_
 intro Ez Az1 Az2
 obtain rfl:=hA.chs
 obtain rfl:=hA.text
 obtain ⟨⟨dx,e1⟩,vs,hv,hp⟩:=id hM
 obtain ⟨a',e,ha⟩:=hrow
 cases e
 have hl:=Paired.length hp
 have hcl:=hA.cslen
 refine (exA rfl ⟨m,C,dx,_,_,rfl,e1,MT.cl,MT.a6,V5 _,?_⟩)
 refine (exA rfl ⟨m,dx,exA rfl ⟨e1,Z1g _,exA rfl ⟨m,C,dx,_,_,rfl,e1,MT.cl,MT.a7,Ym _,M.s.choices,vs,rfl,.inl (SqL.of hv),m,_,M,rfl,hM,fun H1 p hM1 hp1 g1=>?_⟩⟩⟩)
 obtain ⟨⟨dx1,f1⟩,vs1,hv1,hq1⟩:=id hM1
 have hv1':H1 M.s.choices = some (.lst vs1):=hv1
 have hl1:vs1.length = M.cs.length:=Paired.length hq1
 refine (exA rfl ⟨m,C,dx1,_,_,rfl,f1,MT.cl,MT.a7,Ym _,.inl ⟨rfl,_,SqL.of hv1'⟩,ixT (g1.tups _ _ ha) rfl ⟨_,rfl,m,C,dx1,_,_,rfl,f1,MT.cl,MT.a4,W6 _,_,rfl,m,C,dx1,_,_,rfl,f1,MT.cl,MT.a5,X8 _,_,rfl,sz,fun tp htp=>?_⟩⟩)
 have g2:=Gro.new (S:=[m,M.s.choices]) htp (.tup [.int z,.int M.s.place,M.s.groups,M.s.held])
 have hM2:=hM1.new (o:=.tup [.int z,.int M.s.place,M.s.groups,M.s.held]) htp
 have hv2:(upd H1 tp (.tup [.int z,.int M.s.place,M.s.groups,M.s.held])) M.s.choices = some (.lst vs1):=by rw [Zl (Z7 hv1' htp)]; exact hv1'
 have hq2:=Paired.mapP hq1 fun _ _ q=>q.mono g2.tups
 have et:(upd H1 tp (.tup [.int z,.int M.s.place,M.s.groups,M.s.held])) tp = some (.tup [.int z,.int M.s.place,M.s.groups,M.s.held]):=Z3
 refine ⟨M.s.choices,vs1,exA rfl ⟨rfl,hv2,big (by omega),?_⟩⟩
 obtain ⟨hM3,g3⟩:=hM2.push (q:=((z:Int),M.s.place,M.s.groups,M.s.held)) hv2 hq2 et
 have gg:Gro [m,M.s.choices] H _:=((g1.mono (by simp)).trans g2).trans (g3.mono (by simp))
 have hA1:=hA.mono gg.tups
 refine q _ _ hM3 ⟨hA1.rows,rfl,rfl,hA1.en,hA1.row,hA1.pl,hA1.gs,⟨p,exA rfl ⟨?_,hA1.hl⟩⟩,hA1.cs.snoc ⟨rfl,hA1.pl,hA1.gs,hA1.hl⟩⟩ rfl rfl gg
 rw [g3.tups _ _ (g2.tups _ _ hp1),hA.pl,show vs.length = c.cs.length by omega]
end
section
variable {P:Program} {w:World} {K:PySem.W.Frag} {mg:Str→Option Value} {base:Heap} {f C:Addr} {fd:FuncData}
abbrev s_do_next:Stmt:=top 25
theorem sc_do_next:FnScope ["machine", "row", "pair"] ["machine", "row"] (Zb s_do_next):=fsc
theorem Z3t {lo:Int} {z:Nat} (MT:Txt K mg C) (O_Machine_let_go:OwnM P w K mg base 1 C "let_go" ["self"] (U6 C)) (O_Machine_go_back:OwnM P w K mg base 2 C "go_back" ["self"] (Xj C)) (F:Fun K "do_next" "do_next" s_do_next f fd):FnOk P w K mg base CX0 3 f fd ["machine", "row"] (Jm C (.next lo z)):=by
 refine F.ok sc_do_next (fun vs H Q E h=>?_) (fun cdv A outer s H vs Q E hr h=>?_)
 ·obtain ⟨m,a,ra,ch,t,n,M,c,rfl,_⟩:=h
  rfl
 obtain ⟨m,a,ra,ch,t,n,M,c,rfl,hM,hA,hrow,ht,hci,hgo,hn,hneed,hcs,q⟩:=h
 refine ltX ?_
 intro Xz
 refine ⟨_,(Z1 (pS 2 sc_do_next.nd (Yd (O_Machine_let_go.mono (by omega)) MT.cl hr (pv 0)))
  (Z5 (Zo (PW.pt (Xp (Z9 Z5b (Z8 Z6 (pv 2) Z2 (fun _ _=>rfl)) (Z8 Z6 (pv 1) Z2 (fun _ _=>rfl)) (Zc _)) (X2 (Z9 Zs (Zt (pv 0) rfl) (Z8 Z6 (pv 2) Z2 (fun _ _=>rfl)) (Zc _))))) (Z5 (Zm (Yd (O_Machine_go_back.mono (by omega)) MT.cl hr (pv 0)))) (Z1 (Yg (pv 0) (Zj (Z0 (Zu Ya (Z8 Z6 (pv 2) Z2 (fun _ _=>rfl)) Z2) (Z0 (Z8 Z6 (pv 2) Z2 (fun _ _=>rfl)) (Z0 (Z8 Z6 (pv 2) Z2 (fun _ _=>rfl)) Z4)))) rfl)
  (Z5 (Yg (pv 0) (Z8 Z6 (pv 1) Z2 (fun _ _=>rfl)) rfl)))))),?_⟩
 refine Zbg ?_
 intro Ez Az1 Az2 Az3 Az4
 obtain rfl:=hA.chs
 obtain rfl:=hA.text
 obtain ⟨⟨dx,e1⟩,_⟩:=id hM
 obtain ⟨a',e,ha⟩:=hrow
 cases e
 have hcl:=hA.cslen
 obtain ⟨x,r,pa,v',hch,hheld,hpa,hl'⟩:=hA.top (Tn hneed rfl (by intro z; cases z))
 have hact:(Op.next lo z).act M.s.text c = if lo ≤ x.1∧c.i = x.2 then bk c.cs else .run ⟨z,c.i,c.g,(x.1 + 1,x.2) :: r,c.cs⟩:=by
  show (match c.h with | []=>Cf.ended | p :: h=>if lo ≤ p.1∧c.i = p.2 then bk c.cs else .run ⟨z,c.i,c.g,(p.1 + 1,p.2) :: h,c.cs⟩) = _
  rw [hch]
 refine (exA rfl ⟨m,dx,exA rfl ⟨e1,Wi _,m,pa,M,_,_,_,rfl,hM,hheld,hpa,fun H1 hM1 g1=>?_⟩⟩)
 obtain ⟨⟨dx1,f1⟩,_⟩:=id hM1
 have hpa1:=g1.tups _ _ hpa
 have ha1:=g1.tups _ _ ha
 have hA1:=hA.mono g1.tups
 have hA2:Ab H1 ra M.s.text M.s.choices ⟨{ M.s with held:=v' },M.cs⟩ { c with h:=r }:=⟨hA1.rows,rfl,rfl,hA1.en,hA1.row,hA1.pl,hA1.gs,hl'.mono g1.tups,hA1.cs⟩
 have goback:lo ≤ x.1∧c.i = x.2→Xj C [.ref m] H1 (fun _ H'=>Q .non H') E:=fun hc=>by
  rw [if_pos hc] at hact
  refine ⟨m,_,rfl,hM1,by show M.cs.length ≤ _; omega,fun H' hM' g'=>?_⟩
  have bf:=Yn ⟨{ M.s with held:=v' },M.cs⟩
  exact q H' _ hM' (by rw [hact]; exact hA2.back.mono g'.tups) bf.1 bf.2 ((g1.mono (by simp)).trans g')
 have onward:¬ (lo ≤ x.1∧c.i = x.2)→∀ p:Addr,H1 p = none→Q .non (upd (upd H1 p (.tup [.int ((x.1:Int) + 1),.int x.2,v'])) m (.ins C dx1 ({ M.s with held:=.ref p,row:=(z:Int) }:MS).fs)):=fun hc p hp=>by
  rw [if_neg hc] at hact
  have hM2:=hM1.new (o:=.tup [.int ((x.1:Int) + 1),.int x.2,v']) hp
  have f2:(upd H1 p (.tup [.int ((x.1:Int) + 1),.int x.2,v'])) m = some (.ins C dx1 ({ M.s with held:=v' }:MS).fs):=by rw [Zl (Z7 f1 hp)]; exact f1
  have g2:=Gro.new (S:=[m,M.s.choices]) hp (.tup [.int ((x.1:Int) + 1),.int x.2,v'])
  have g3:Gro [m,M.s.choices] (upd H1 p (.tup [.int ((x.1:Int) + 1),.int x.2,v'])) (upd (upd H1 p (.tup [.int ((x.1:Int) + 1),.int x.2,v'])) m (.ins C dx1 ({ M.s with held:=.ref p,row:=(z:Int) }:MS).fs)):=Gro.ins (by simp) f2 _
  have gg:=((g1.mono (S':=[m,M.s.choices]) (by simp)).trans g2).trans g3
  have hA3:=hA.mono gg.tups
  refine q _ _ (hM2.put (s':={ M.s with held:=.ref p,row:=(z:Int) }) f2 rfl) ?_ rfl rfl gg
  rw [hact]
  exact ⟨hA3.rows,rfl,rfl,hA3.en,rfl,hA3.pl,hA3.gs,⟨p,v',rfl,g3.tups _ _ Z3,hl'.mono gg.tups⟩,hA3.cs⟩
 refine (ixT hpa1 at0 (ixT ha1 rfl ⟨_,_,rfl,rfl,_,rfl,?_⟩))
 have rest:¬ (lo ≤ x.1∧c.i = x.2)→_:=onward
 by_cases hlo:lo ≤ x.1
 ·refine Zg (decide_eq_true hlo) ?_
  refine (exA rfl ⟨m,C,dx1,_,_,rfl,f1,MT.cl,MT.a4,W6 _,ixT hpa1 rfl ⟨rfl,_,rfl,?_⟩⟩)
  by_cases hi:c.i = x.2
  ·refine Zg (decide_eq_true ?_) (exA rfl ⟨m,dx1,exA rfl ⟨f1,Yk _,goback ⟨hlo,hi⟩⟩⟩)
   show V.int M.s.place = V.int (x.2:Int)
   rw [hA.pl,hi]
  ·refine Zd (fun z=>?_) ?_
   ·have z':V.int M.s.place = V.int (x.2:Int):=of_decide_eq_true z
    injection z' with z'
    rw [hA.pl] at z'
    omega
   ·refine (ixT hpa1 at0 ⟨_,_,rfl,rfl,ixT hpa1 rfl (ixT hpa1 rfl ⟨sz,fun p hp=>?_⟩)⟩)
    have f2:(upd H1 p (.tup [.int ((x.1:Int) + 1),.int x.2,v'])) m = some (.ins C dx1 ({ M.s with held:=v' }:MS).fs):=by rw [Zl (Z7 f1 hp)]; exact f1
    refine (exA rfl ⟨m,C,dx1,exA rfl ⟨f2,MT.cl,MT.a6,Yt _,?_⟩⟩)
    rw [Ui]
    have ha2:=(Gro.ins (S:=[m]) (by simp) f2 (.ins C dx1 ({ M.s with held:=.ref p }:MS).fs)).tups _ _ ((Gro.new (S:=[]) hp (.tup [.int ((x.1:Int) + 1),.int x.2,v'])).tups _ _ ha1)
    refine (ixT ha2 rfl ⟨_,rfl,m,C,dx1,_,rfl,Z3,MT.cl,MT.a3,Yt _,?_⟩)
    rw [Tf,Z4b]
    exact onward (fun h=>hi h.2) p hp
 ·refine Zd (fun z=>hlo (of_decide_eq_true z)) (Zd (by decide) ?_)
  refine (ixT hpa1 at0 ⟨_,_,rfl,rfl,ixT hpa1 rfl (ixT hpa1 rfl ⟨sz,fun p hp=>?_⟩)⟩)
  have f2:(upd H1 p (.tup [.int ((x.1:Int) + 1),.int x.2,v'])) m = some (.ins C dx1 ({ M.s with held:=v' }:MS).fs):=by rw [Zl (Z7 f1 hp)]; exact f1
  refine (exA rfl ⟨m,C,dx1,exA rfl ⟨f2,MT.cl,MT.a6,Yt _,?_⟩⟩)
  rw [Ui]
  have ha2:=(Gro.ins (S:=[m]) (by simp) f2 (.ins C dx1 ({ M.s with held:=.ref p }:MS).fs)).tups _ _ ((Gro.new (S:=[]) hp (.tup [.int ((x.1:Int) + 1),.int x.2,v'])).tups _ _ ha1)
  refine (ixT ha2 rfl ⟨_,rfl,m,C,dx1,_,rfl,Z3,MT.cl,MT.a3,Yt _,?_⟩)
  rw [Tf,Z4b]
  exact onward (fun h=>hlo h.1) p hp
end
section
variable {P:Program} {w:World} {K:PySem.W.Frag} {mg:Str→Option Value} {base:Heap} {f C:Addr} {fd:FuncData}
theorem Z7k {K:PySem.W.Frag} {σ:L2.St} {H:Hp} {Q:VK} {a:Addr} {n:Nat} {hi:Option Int} {xs:List V} (h1:σ[1]? = some (some (.ref a))) (h2:σ[2]? = some (some (.int n))) (ha:H a = some (.tup xs)) (hx:atI xs 2 = some (Z3k hi)) (q:Q (.bl (Xq hi n)) H) :
  Zeg (Zeh (tOp (U0 K) (V9 1) (tC (.int 2)))) (tOp (rI0 fun i j=>V.bl (decide (i < j))) (V9 2) (tOp (U0 K) (V9 1) (tC (.int 2)))) σ H Q:=by
 refine ⟨_,h1,a,_,_,_,rfl,rfl,SqT.of ha,hx,exA rfl (?_)⟩
 cases hi with
 | none=>exact Zg (by decide) q
 | some y=>exact Zd (by intro z; have z':=of_decide_eq_true z; cases z') ⟨_,h2,_,h1,a,_,_,_,rfl,rfl,SqT.of ha,hx,exB rfl rfl q⟩
abbrev s_do_turn:Stmt:=top 24
theorem sc_do_turn:FnScope ["machine", "row", "turns", "below", "going", "stopping", "may_go", "may_stop", "little"] ["machine", "row"] (Zb s_do_turn):=fsc
theorem Z3q {lo:Int} {hi:Option Int} {how:How} {z:Nat} (MT:Txt K mg C) (O_Machine_enter:OwnM P w K mg base 1 C "enter" ["self", "state"] (Wb C)) (O_Machine_go_back:OwnM P w K mg base 2 C "go_back" ["self"] (Xj C)) (F:Fun K "do_turn" "do_turn" s_do_turn f fd):FnOk P w K mg base CX0 3 f fd ["machine", "row"] (Jm C (.turn lo hi how z)):=by
 refine F.ok sc_do_turn (fun vs H Q E h=>?_) (fun cdv A outer s H vs Q E hr h=>?_)
 ·obtain ⟨m,a,ra,ch,t,n,M,c,rfl,_⟩:=h
  rfl
 obtain ⟨m,a,ra,ch,t,n,M,c,rfl,hM,hA,hrow,ht,hci,hgo,hn,hneed,hcs,q⟩:=h
 refine ltX ?_
 intro Xz
 refine ⟨_,(Z1 (pS 2 sc_do_turn.nd (Z8 Z6 (Zt (pv 0) rfl) Z2 (fun _ _=>rfl)))
  (Z1 (pS 3 sc_do_turn.nd (Z8 Z6 (Zt (pv 0) rfl) Z2 (fun _ _=>rfl)))
  (Z1 (pS 4 sc_do_turn.nd (Zj (Z0 (Zt (pv 0) rfl) (Z0 (Zt (pv 0) rfl) (Z0 (Zt (pv 0) rfl) (Z0 (Zj (Z0 (pv 2) (Z0 (Zt (pv 0) rfl) (Z0 (pv 3) Z4)))) Z4))))))
  (Z1 (pS 5 sc_do_turn.nd (Zj (Z0 (Z8 Z6 (pv 1) Z2 (fun _ _=>rfl)) (Z0 (Zt (pv 0) rfl) (Z0 (Zt (pv 0) rfl) (Z0 (pv 3) Z4))))))
  (Z1 (pS 6 sc_do_turn.nd (Zc4 (Z2e (Wf (Z8 Z6 (pv 1) Z2 (fun _ _=>rfl)))) (Tg (Yp Wh (pv 2) (Z8 Z6 (pv 1) Z2 (fun _ _=>rfl)) (Zc _)))))
  (Z1 (pS 7 sc_do_turn.nd (Yp Z5b (pv 2) (Z8 Z6 (pv 1) Z2 (fun _ _=>rfl)) (Zc _)))
  (Z5 (Zo (PW.pt (Xp (Yy (pv 6)) (X2 (Yy (pv 7))))) (Z1 (pS 8 sc_do_turn.nd (Yp Zs (Z8 Z6 (pv 1) Z2 (fun _ _=>rfl)) Ze (Zc _)))
  (Z1 (Zm (X3 PySem.F.plainAttrs_list PySem.F.slot_list_append PySem.F.type_list_append Zy (Zt (pv 0) rfl) (Z0 (Vi (Yy (pv 8)) (pv 4) (pv 5)) Z4)))
  (Z5 (Zm (Yz (O_Machine_enter.mono (by omega)) MT.cl hr (pv 0) (Z0 (Vi (Yy (pv 8)) (pv 5) (pv 4)) Z4)))))) (Z5 (Zo (Yy (pv 6)) (Z5 (Zm (Yz (O_Machine_enter.mono (by omega)) MT.cl hr (pv 0) (Z0 (pv 4) Z4)))) (Z5 (Zo (Yy (pv 7)) (Z5 (Zm (Yz (O_Machine_enter.mono (by omega)) MT.cl hr (pv 0) (Z0 (pv 5) Z4)))) (Z5 (Zm (Yd (O_Machine_go_back.mono (by omega)) MT.cl hr (pv 0)))))))))))))))),?_⟩
 refine Zbu ?_
 intro Ez Az1 Az2 Az3 Az4 Az5 Az6 Az7 Az8 Az9 Az10 Az11 Az12 Az13 Az14
 obtain rfl:=hA.chs
 obtain rfl:=hA.text
 obtain ⟨⟨dx,e1⟩,vs,hv,hvp⟩:=id hM
 obtain ⟨a',e,ha⟩:=hrow
 cases e
 have hcl:=hA.cslen
 have hvl:=Paired.length hvp
 obtain ⟨x,r,pa,v',hch,hheld,hpa,hl'⟩:=hA.top (Tn hneed rfl (by intro z; cases z))
 have hfh:M.s.fs.lookup ("held":Str) = some (.ref pa):=by rw [V5,hheld]
 refine (exA rfl ⟨m,C,dx,_,_,rfl,e1,MT.cl,MT.a6,hfh,pa,_,_,_,rfl,rfl,SqT.of hpa,at0,?_⟩)
 refine (exA rfl ⟨m,C,dx,_,_,rfl,e1,MT.cl,MT.a6,hfh,pa,_,_,_,rfl,rfl,SqT.of hpa,rfl,?_⟩)
 refine (exA rfl ⟨m,C,dx,_,_,rfl,e1,MT.cl,MT.a3,Z2u _,exA rfl ⟨m,C,dx,_,_,rfl,e1,MT.cl,MT.a4,W6 _,exA rfl ⟨m,C,dx,_,_,rfl,e1,MT.cl,MT.a5,X8 _,exA rfl (exA rfl ⟨m,C,dx,_,_,rfl,e1,MT.cl,MT.a4,W6 _,exA rfl ⟨sz,fun p1 hp1=>⟨sz,fun p2 hp2=>?_⟩⟩⟩)⟩⟩⟩)
 have g1:Gro [] H (upd (upd H p1 (.tup [.int x.1,.int M.s.place,v'])) p2 (.tup [.int M.s.row,.int M.s.place,M.s.groups,.ref p1])):=(Gro.new hp1 _).tup hp2
 have t1:(upd (upd H p1 (.tup [.int x.1,.int M.s.place,v'])) p2 (.tup [.int M.s.row,.int M.s.place,M.s.groups,.ref p1])) p1 = some (.tup [.int x.1,.int M.s.place,v']):=by rw [Zl (Z7 Z3 hp2)]; exact Z3
 have t2:(upd (upd H p1 (.tup [.int x.1,.int M.s.place,v'])) p2 (.tup [.int M.s.row,.int M.s.place,M.s.groups,.ref p1])) p2 = some (.tup [.int M.s.row,.int M.s.place,M.s.groups,.ref p1]):=Z3
 have hM1:=hM.gro g1 (by simp) (by simp)
 have f1:=g1.keep _ _ e1 (by simp)
 have ha1:=g1.tups _ _ ha
 generalize upd (upd H p1 (.tup [.int x.1,.int M.s.place,v'])) p2 (.tup [.int M.s.row,.int M.s.place,M.s.groups,.ref p1]) = H1 at *
 refine (ixT ha1 rfl ⟨_,rfl,m,C,dx,_,_,rfl,f1,MT.cl,MT.a4,W6 _,_,rfl,m,C,dx,_,_,rfl,f1,MT.cl,MT.a5,X8 _,_,rfl,sz,fun p3 hp3=>?_⟩)
 have g2:=Gro.new (S:=[]) hp3 (.tup [.int z,.int M.s.place,M.s.groups,v'])
 have t3:(upd H1 p3 (.tup [.int z,.int M.s.place,M.s.groups,v'])) p3 = some (.tup [.int z,.int M.s.place,M.s.groups,v']):=Z3
 have hM2:=hM1.new (o:=.tup [.int z,.int M.s.place,M.s.groups,v']) hp3
 have f2:=g2.keep _ _ f1 (by simp)
 have ha2:=g2.tups _ _ ha1
 have t1':=g2.tups _ _ t1
 have t2':=g2.tups _ _ t2
 have g12:=g1.trans g2
 have hv2:=g12.keep _ _ hv (by simp)
 have hvp2:=Paired.mapP hvp fun _ _ q=>q.mono g12.tups
 generalize upd H1 p3 (.tup [.int z,.int M.s.place,M.s.groups,v']) = H2 at *
 have hA2:=hA.mono g12.tups
 have hHl:HlAt H2 (.ref p1) ((x.1,c.i) :: r):=⟨p1,v',rfl,by rw [t1',hA.pl],hl'.mono g12.tups⟩
 have hact:(Op.turn lo hi how z).act M.s.text c = if Xq hi x.1 = true then
    (if lo ≤ x.1 then (match how with
     | .little=>.run ⟨z,c.i,c.g,r,c.cs ++ [(c.r,c.i,c.g,(x.1,c.i) :: r)]⟩
     | _=>.run ⟨c.r,c.i,c.g,(x.1,c.i) :: r,c.cs ++ [(z,c.i,c.g,r)]⟩)
    else .run ⟨c.r,c.i,c.g,(x.1,c.i) :: r,c.cs⟩)
   else if lo ≤ x.1 then .run ⟨z,c.i,c.g,r,c.cs⟩ else bk c.cs:=by
  cases how <;> simp only [Op.act,hch]
 have goG:∀ (H3:Hp) (cs:List Chc) (cs':List Ch),MAt C H3 m ⟨M.s,cs⟩→Gro [m,M.s.choices] H2 H3→Paired (ChA H3) cs cs'→(Op.turn lo hi how z).act M.s.text c = .run ⟨c.r,c.i,c.g,(x.1,c.i) :: r,cs'⟩→Wb C [.ref m,.ref p2] H3 (fun _ H'=>Q .non H') E:=fun H3 cs cs' hM3 g3 hcs' hact' =>
  ⟨m,p2,⟨M.s,cs⟩,(M.s.row,M.s.place,M.s.groups,.ref p1),rfl,hM3,g3.tups _ _ t2',fun H' hM' g'=>by
   have gg:=(g12.mono (S':=[m,M.s.choices]) (by simp)).trans (g3.trans g')
   have hA3:=hA.mono gg.tups
   refine q H' _ hM' ?_ rfl rfl gg
   rw [hact']
   exact ⟨hA3.rows,rfl,rfl,hA3.en,hA3.row,hA3.pl,hA3.gs,hHl.mono fun b xs h=>g'.tups _ _ (g3.tups _ _ h),Paired.mapP hcs' fun _ _ h=>h.mono g'.tups⟩⟩
 have goS:∀ (H3:Hp) (cs:List Chc) (cs':List Ch),MAt C H3 m ⟨M.s,cs⟩→Gro [m,M.s.choices] H2 H3→Paired (ChA H3) cs cs'→(Op.turn lo hi how z).act M.s.text c = .run ⟨z,c.i,c.g,r,cs'⟩→Wb C [.ref m,.ref p3] H3 (fun _ H'=>Q .non H') E:=fun H3 cs cs' hM3 g3 hcs' hact' =>
  ⟨m,p3,⟨M.s,cs⟩,((z:Int),M.s.place,M.s.groups,v'),rfl,hM3,g3.tups _ _ t3,fun H' hM' g'=>by
   have gg:=(g12.mono (S':=[m,M.s.choices]) (by simp)).trans (g3.trans g')
   have hA3:=hA.mono gg.tups
   refine q H' _ hM' ?_ rfl rfl gg
   rw [hact']
   exact ⟨hA3.rows,rfl,rfl,hA3.en,rfl,hA3.pl,hA3.gs,hl'.mono gg.tups,Paired.mapP hcs' fun _ _ h=>h.mono g'.tups⟩⟩
 refine Z7k rfl rfl ha2 rfl ?_
 refine (exA rfl (ixT ha2 rfl ⟨_,_,rfl,rfl,?_⟩))
 refine (exA rfl (exA rfl (?_)))
 cases hG:Xq hi x.1 with
 | true =>
  rw [hG,if_pos rfl] at hact
  refine Zg rfl (exA rfl (exA rfl (?_)))
  by_cases hlo:lo ≤ x.1
  ·rw [if_pos hlo] at hact
   refine Zg (decide_eq_true hlo) ?_
   refine (ixT ha2 rfl ⟨rfl,?_⟩)
   refine (exA rfl ⟨m,C,dx,_,_,rfl,f2,MT.cl,MT.a7,Ym _,.inl ⟨rfl,_,SqL.of hv2⟩,exA rfl (exA rfl (?_))⟩)
   by_cases hl:how = .little
   ·subst hl
    refine Zg (show isw "little" "little" = true by decide +kernel) (exA rfl ⟨M.s.choices,vs,exA rfl ⟨rfl,hv2,big (by omega),?_⟩⟩)
    obtain ⟨hM3,g3⟩:=hM2.push (q:=(M.s.row,M.s.place,M.s.groups,.ref p1)) hv2 hvp2 t2'
    obtain ⟨⟨dx3,f3⟩,_⟩:=id hM3
    refine (exA rfl ⟨m,dx3,exA rfl ⟨f3,Vj _,exA rfl (exA rfl (Zg (show isw "little" "little" = true by decide +kernel) (exA rfl (?_))))⟩⟩)
    exact goS _ _ _ hM3 (g3.mono (by simp)) ((Paired.mapP hA2.cs fun _ _ h=>h.mono g3.tups).snoc ⟨hA.row,hA.pl,hA2.gs.mono g3.tups,hHl.mono g3.tups⟩) hact
   ·have hn':¬ isw how.text "little" = true:=by
     cases how with
     | little=>exact absurd rfl hl
     | much=>decide +kernel
     | keep=>decide +kernel
    have hact':(Op.turn lo hi how z).act M.s.text c = .run ⟨c.r,c.i,c.g,(x.1,c.i) :: r,c.cs ++ [(z,c.i,c.g,r)]⟩:=by
     cases how with
     | little=>exact absurd rfl hl
     | much=>exact hact
     | keep=>exact hact
    refine Zd hn' (exA rfl ⟨M.s.choices,vs,exA rfl ⟨rfl,hv2,big (by omega),?_⟩⟩)
    obtain ⟨hM3,g3⟩:=hM2.push (q:=((z:Int),M.s.place,M.s.groups,v')) hv2 hvp2 t3
    obtain ⟨⟨dx3,f3⟩,_⟩:=id hM3
    refine (exA rfl ⟨m,dx3,exA rfl ⟨f3,Vj _,exA rfl (exA rfl (Zd hn' (exA rfl (?_))))⟩⟩)
    exact goG _ _ _ hM3 (g3.mono (by simp)) ((Paired.mapP hA2.cs fun _ _ h=>h.mono g3.tups).snoc ⟨rfl,hA.pl,hA2.gs.mono g3.tups,(hl'.mono g12.tups).mono g3.tups⟩) hact'
  ·rw [if_neg hlo] at hact
   refine Zd (fun z=>hlo (of_decide_eq_true z)) (exA rfl (exA rfl (Zg rfl ?_)))
   exact (exA rfl ⟨m,dx,exA rfl ⟨f2,Vj _,exA rfl (goG H2 M.cs c.cs hM2 Gro.refl hA2.cs hact)⟩⟩)
 | false =>
  rw [hG,if_neg (by decide)] at hact
  refine Zd (by decide) (Zd (by decide) (exA rfl (exA rfl (Zd (by decide) (exA rfl (exA rfl (?_)))))))
  by_cases hlo:lo ≤ x.1
  ·rw [if_pos hlo] at hact
   refine Zg (decide_eq_true hlo) ?_
   exact (exA rfl ⟨m,dx,exA rfl ⟨f2,Vj _,exA rfl (goS H2 M.cs c.cs hM2 Gro.refl hA2.cs hact)⟩⟩)
  ·rw [if_neg hlo] at hact
   refine Zd (fun z=>hlo (of_decide_eq_true z)) (exA rfl ⟨m,dx,exA rfl ⟨f2,Yk _,m,M,rfl,hM2,by omega,fun H' hM' g'=>?_⟩⟩)
   have bf:=Yn M
   exact q H' _ hM' (by rw [hact]; exact hA2.back.mono g'.tups) bf.1 bf.2 ((g12.mono (by simp)).trans g')
end
theorem Z27 {H:Hp} {a:Addr} {o:Op} (h:RowAt H (.ref a) o.rw):∃ r,H a = some (.tup (.str o.word :: r)):=by
 cases o with
 | pat hd =>
  obtain ⟨a',kv,e',l,_⟩:=h
  cases e'
  exact l.head
 | _=>obtain ⟨a',e',h⟩:=h; cases e'; exact ⟨_,h⟩
def Cf.csl:Cf→Nat
 | .run c=>c.cs.length
 | .ended=>0
theorem Z6f (cs:List Ch):(bk cs).csl ≤ cs.length:=by
 unfold bk
 split
 ·exact Nat.zero_le _
 ·show cs.dropLast.length ≤ _
  rw [List.length_dropLast]
  omega
theorem Zag (t:Str) (o:Op) (c:Cg):(o.act t c).csl ≤ c.cs.length + 1:=by
 have b:=Z6f c.cs
 have one:∀ q:Ch,(c.cs ++ [q]).length ≤ c.cs.length + 1:=fun q=>by rw [List.length_append]; exact Nat.le_refl _
 have tk:∀ k,(c.cs.take k).length ≤ c.cs.length + 1:=fun k=>by rw [List.length_take]; omega
 cases o with
 | pat h =>
  cases h with
  | beg=>simp only [Op.act]; split <;> first | exact Nat.le_succ _ | omega
  | fin=>simp only [Op.act]; split <;> first | exact Nat.le_succ _ | omega
  | again k =>
   simp only [Op.act]
   split
   ·omega
   ·split <;> first | exact Nat.le_succ _ | omega
  | _=>simp only [Op.act]; split <;> first | exact Nat.le_succ _ | omega
 | try_ z=>exact one _
 | go z=>exact Nat.le_succ _
 | have_ k z=>simp only [Op.act]; split <;> exact Nat.le_succ _
 | turns=>exact Nat.le_succ _
 | open_=>exact Nat.le_succ _
 | close k=>simp only [Op.act]; split <;> first | exact Nat.zero_le _ | exact Nat.le_succ _
 | turn lo hi how z =>
  simp only [Op.act]
  split
  ·exact Nat.zero_le _
  ·split
   ·split
    ·split <;> exact one _
    ·exact Nat.le_succ _
   ·split
    ·exact Nat.le_succ _
    ·omega
 | next lo z =>
  simp only [Op.act]
  split
  ·exact Nat.zero_le _
  ·split
   ·omega
   ·exact Nat.le_succ _
 | once=>exact Nat.le_succ _
 | kept=>simp only [Op.act]; split <;> first | exact Nat.zero_le _ | exact tk _
 | peeked=>simp only [Op.act]; split <;> first | exact Nat.zero_le _ | exact tk _
 | bar z=>exact one _
 | barred =>
  simp only [Op.act]
  split
  ·exact Nat.zero_le _
  ·rename_i p _ _
   have h1:=Z6f (c.cs.take p.1)
   have h2:=tk p.1
   omega
 | lean=>simp only [Op.act]; split <;> first | exact one _ | exact Nat.le_succ _
 | here =>
  simp only [Op.act]
  split
  ·exact Nat.zero_le _
  ·split
   ·exact Nat.le_succ _
   ·omega
 | found=>exact Nat.le_succ _
theorem Xt (es:List Op) (t:Str) (M:Cf):∀ k,(run es t k M).csl ≤ M.csl + k
 | 0=>Nat.le_refl _
 | k + 1=>by
  have ih:=Xt es t M k
  show (step es t (run es t k M)).csl ≤ _
  cases h:run es t k M with
  | ended=>exact Nat.zero_le _
  | run c =>
   rw [h] at ih
   have:=Zag t (es.getD c.r .found) { c with r:=c.r + 1 }
   show ((es.getD c.r .found).act t { c with r:=c.r + 1 }).csl ≤ _
   have ih':c.cs.length ≤ M.csl + k:=ih
   have th':_ ≤ c.cs.length + 1:=this
   omega
section
variable {P:Program} {w:World} {K:PySem.W.Frag} {mg:Str→Option Value} {base:Heap} {C:Addr}
theorem Tq {o:Op} {row:Hp→Addr→Prop} {go:MM→MM} (hrow:∀ H a,RowAt H (.ref a) o.rw→row H a) (hgo:∀ (H:Hp) (ra ch:Addr) (t:Str) (n:Nat) (M:MM) (c:Cg),Ab H ra t ch M c→AbF H ra t ch (go M) (o.act t c)∧(go M).s.made = M.s.made∧(go M).s.found = o.fd M.s.found) :
  ∀ vs H Q E,Jm C o vs H Q E→Z10 C Zar row go vs H Q E:=by
 rintro vs H Q E ⟨m,a,ra,ch,t,n,M,c,rfl,hM,hA,hr,ht,hci,hg,hn,hneed,hcs,q⟩
 have hl:=hA.cslen
 refine ⟨m,a,M,rfl,hM,by omega,⟨by rw [hA.pl]; omega,by rw [hA.text]; exact ht⟩,hrow H a hr,fun H' hM' g'=>?_⟩
 obtain ⟨h1,h2,h3⟩:=hgo H ra ch t n M c hA
 have g'':Gro [m,ch] H H':=by rw [← hA.chs]; exact g'
 exact q H' _ hM' (h1.mono g'.tups) h2 h3 g''
theorem Zah {h:Hd} (h1:h.one = true) (H:Hp) (ra ch:Addr) (t:Str) (n:Nat) (M:MM) (c:Cg) (hA:Ab H ra t ch M c):AbF H ra t ch (MM.doSign h M) ((Op.pat h).act t c)∧(MM.doSign h M).s.made = M.s.made∧(MM.doSign h M).s.found = (Op.pat h).fd M.s.found:=by
 have hact:(Op.pat h).act t c = if Y8 h t c.i = true then .run { c with i:=c.i + 1 } else bk c.cs:=by
  cases h <;> first | rfl | cases h1
 have b:=Yn M
 unfold MM.doSign
 rw [hact,hA.text,hA.pl]
 split
 ·exact ⟨⟨hA.rows,hA.text,hA.chs,hA.en,hA.row,by show (c.i:Int) + 1 = ((c.i + 1:Nat):Int); omega,hA.gs,hA.hl,hA.cs⟩,rfl,rfl⟩
 ·exact ⟨hA.back,b.1,b.2⟩
theorem Zcv (H:Hp) (ra ch:Addr) (t:Str) (n:Nat) (M:MM) (c:Cg) (hA:Ab H ra t ch M c):AbF H ra t ch (MM.doBegin M) ((Op.pat .beg).act t c)∧(MM.doBegin M).s.made = M.s.made∧(MM.doBegin M).s.found = (Op.pat .beg).fd M.s.found:=by
 have b:=Yn M
 have hact:(Op.pat .beg).act t c = if c.i = 0 then .run c else bk c.cs:=rfl
 have hp:=hA.pl
 unfold MM.doBegin
 rw [hact]
 by_cases e:c.i = 0
 ·rw [if_pos e,if_pos (by omega)]
  exact ⟨hA,rfl,rfl⟩
 ·rw [if_neg e,if_neg (by omega)]
  exact ⟨hA.back,b.1,b.2⟩
theorem Zcu (H:Hp) (ra ch:Addr) (t:Str) (n:Nat) (M:MM) (c:Cg) (hA:Ab H ra t ch M c):AbF H ra t ch (MM.doEnd M) ((Op.pat .fin).act t c)∧(MM.doEnd M).s.made = M.s.made∧(MM.doEnd M).s.found = (Op.pat .fin).fd M.s.found:=by
 have b:=Yn M
 have hact:(Op.pat .fin).act t c = if c.i = t.length then .run c else bk c.cs:=rfl
 have hp:=hA.pl
 unfold MM.doEnd
 rw [hact,hA.text]
 by_cases e:c.i = t.length
 ·rw [if_pos e,if_pos (by omega)]
  exact ⟨hA,rfl,rfl⟩
 ·rw [if_neg e,if_neg (by omega)]
  exact ⟨hA.back,b.1,b.2⟩
structure DoesA (P:Program) (w:World) (K:PySem.W.Frag) (mg:Str→Option Value) (base:Heap) (kk:Nat) (ds:List (Key × V)) (C:Addr):Prop where
 all:∀ o:Op,o.ok→Tells P w K mg base kk ds o.word (Jm C o)
def AM (H:Hp) (ra:Addr) (t:Str) (ch:Addr) (M:MM) (cf:Cf):Prop:=(M.s.found = false∧AbF H ra t ch M cf) ∨ (M.s.found = true∧∃ c,Ab H ra t ch M c∧cf = bk c.cs)
theorem AM.fresh {H:Hp} {ra:Addr} {t:Str} {ch:Addr} {M:MM} {cf:Cf} (h:AM H ra t ch M cf):AbF H ra t ch M.fresh cf∧M.fresh.s.found = false∧M.fresh.s.made = M.s.made∧M.s.choices = ch:=by
 unfold MM.fresh
 rcases h with ⟨h1,h2⟩ | ⟨h1,c,h2,rfl⟩
 ·rw [if_neg (by rw [h1]; decide)]
  refine ⟨h2,h1,rfl,?_⟩
  cases cf with
  | run c=>exact Ab.chs h2
  | ended=>exact AbE.chs h2
 ·rw [if_pos h1]
  have h3:Ab H ra t ch ⟨{ M.s with found:=false },M.cs⟩ c:=⟨h2.rows,h2.text,h2.chs,h2.en,h2.row,h2.pl,h2.gs,h2.hl,h2.cs⟩
  have b:=Yn ⟨{ M.s with found:=false },M.cs⟩
  exact ⟨h3.back,b.2,b.1,h2.chs⟩
theorem AM.mono {H H':Hp} (tm:Tm H H') {ra:Addr} {t:Str} {ch:Addr} {M:MM} {cf:Cf} (h:AM H ra t ch M cf):AM H' ra t ch M cf:=by
 rcases h with ⟨h1,h2⟩ | ⟨h1,c,h2,h3⟩
 ·exact .inl ⟨h1,h2.mono tm⟩
 ·exact .inr ⟨h1,c,h2.mono tm,h3⟩
def Zec (C:Addr) (Q:VK) (H:Hp) (m ra ch:Addr) (t:Str) (n:Nat) (es:List Op) (most:Int) (cf:Cf):Prop :=
 (∃ (k:Nat) (c:Cg),Rc es t n cf k (.run c)∧es[c.r]? = some .found∧c.i ≤ t.length∧GOk t n c.g∧(k:Int) < most∧cf.csl + k ≤ 999999 ∧
  ∀ (H':Hp) (tt:Addr) (gv:V) (M':MM),MAt C H' m M'→AM H' ra t ch M' (bk c.cs)→M'.cs.length = c.cs.length→H' tt = some (.tup [.str "way",.int c.i,gv])→GsAt H' gv c.g→Gro [m,ch] H H'→Q (.ref tt) H') ∨
 (∃ k:Nat,Rc es t n cf k .ended∧(k:Int) ≤ most∧cf.csl + k ≤ 999999 ∧
  ∀ (H':Hp) (tt:Addr) (M':MM),MAt C H' m M'→AM H' ra t ch M' .ended→M'.cs.length = 0→H' tt = some (.tup [.str "none"])→Gro [m,ch] H H'→Q (.ref tt) H')
inductive spWayAI (C:Addr) (vs:List V) (H:Hp) (Q:VK):Prop
 | mk (m ra ch:Addr) (most:Int) (t:Str) (n:Nat) (es:List Op) (ys:List V) (M:MM) (cf:Cf) (_:vs = [.ref m,.int most]) (_:1 ≤ most) (_:MAt C H m M) (_:AM H ra t ch M cf) (_:M.cs.length ≤ 1000000) (_:H ra = some (.tup ys)) (_:Paired (RowAt H) ys (es.map Op.rw)) (_:(∀ o ∈ es,o.ok)) (_:t.length ≤ 1000) (_:n ≤ 900) (_:Zec C Q H m ra ch t n es most cf)
def Z4h (C:Addr):Sp:=fun vs H Q _=>spWayAI C vs H Q
theorem Zd7 {kk:Nat} {ds:List (Key × V)} (D:DoesA P w K mg base kk ds C):∀ vs H Q E,Z4h C vs H Q E→Z8v P w K mg base kk ds C vs H Q E:=by
 rintro vs H Q E ⟨m,ra,ch,most,t,n,es,ys,M,cf,rfl,h1,hM,hAM,hz,hra,hp,hok,ht,hn,hw⟩
 obtain ⟨hF,hff,hfm,hch⟩:=hAM.fresh
 subst hch
 have mv:∀ (j:Nat) (M':MM) (H':Hp) (c:Cg) (o:Op),es[c.r]? = some o→MAt C H' m M'→Ab H' ra t M.s.choices M' c→c.i ≤ t.length→GOk t n c.g→(o.need n { c with r:=c.r + 1 } ∨ o = .found)→c.cs.length ≤ 1000000→Gro [m,M.s.choices] H H'→∀ Q':VK,
   (∀ (H2:Hp) (M2:MM),MAt C H2 m M2→AbF H2 ra t M.s.choices M2 (o.act t { c with r:=c.r + 1 })→M2.s.made = M'.s.made + 1→M2.s.found = o.fd M'.s.found→Gro [m,M.s.choices] H H2→Q' .non H2)→U5 P w K mg base kk ds C [.ref m] H' Q' E0:=by
  intro j M' H' c o ho hM' hA' hi hg hneed hcs g Q' hQ
  have hge:(es.map Op.rw)[c.r]? = some o.rw:=by rw [List.getElem?_map,ho]; rfl
  obtain ⟨v,hv,hrow⟩:=V2 hp hge
  have hrow':=hrow.mono g.tups
  obtain ⟨a,rfl⟩:=Z02 hrow
  obtain ⟨r,ha⟩:=Z27 hrow'
  have hat:atI ys M'.s.row = some (.ref a):=by rw [hA'.row]; exact Xy hv
  refine ⟨m,ra,a,ys,_,r,M',Jm C o,rfl,hM',hA'.rows,g.tups _ _ hra,hat,ha,D.all o (hok o (List.mem_of_getElem? ho)),fun H1 hM1 g1=>?_⟩
  have hA1:=hA'.mono g1.tups
  refine ⟨m,a,ra,M.s.choices,t,n,M'.next,{ c with r:=c.r + 1 },rfl,hM1,⟨hA1.rows,hA1.text,hA1.chs,hA1.en,by show M'.s.row + 1 = ((c.r + 1:Nat):Int); rw [hA'.row]; omega,hA1.pl,hA1.gs,hA1.hl,hA1.cs⟩,hrow'.mono g1.tups,ht,hi,hg,hn,hneed,⟨hcs,Nat.le_add_left 1 _⟩,fun H2 M2 hM2 hA2 hm2 hf2 g2=>?_⟩
  exact hQ H2 M2 hM2 hA2 hm2 hf2 (g.trans ((g1.mono (by simp)).trans g2))
 have getD_of:∀ (r:Nat),r < es.length→es[r]? = some (es.getD r .found):=fun r h=>by rw [List.getD_eq_getElem?_getD,List.getElem?_eq_getElem h]; rfl
 have noF:∀ (o:Op) (c:Cg),o.need n c→∀ b,o.fd b = b:=fun o c h b=>by cases o <;> first | rfl | exact h.elim
 rcases hw with ⟨k,c0,rc,hfd,hi0,hg0,hkm,hcsb,fin⟩ | ⟨k,rc,hkm,hcsb,fin⟩
 ·refine ⟨m,most,M,fun j M' H'=>j ≤ k∧MAt C H' m M'∧AbF H' ra t M.s.choices M' (run es t j cf)∧M'.s.made = M.s.made + j∧M'.s.found = false∧Gro [m,M.s.choices] H H',rfl,hM,h1,hz,⟨?_,?_,?_,?_,?_⟩⟩
  ·exact fun H' hM' g=>⟨Nat.zero_le _,hM',hF.mono g.tups,by rw [hfm]; simp,hff,g⟩
  ·rintro j M' H' ⟨hj,hM',_,hm,hf,_⟩
   exact ⟨hM',hm,hf,by omega⟩
  ·rintro j M' H' ⟨hj,hM',hA',hm,hf,g⟩ he
   exfalso
   have:∃ c,run es t j cf = .run c:=by
    by_cases hlt:j < k
    ·obtain ⟨c,h,_⟩:=rc.live j hlt
     exact ⟨c,h⟩
    ·rw [show j = k by omega]
     exact ⟨c0,rc.eq⟩
   obtain ⟨c,h⟩:=this
   rw [h] at hA'
   have:=Ab.en hA'
   rw [he] at this
   cases this
  ·rintro j M' H' ⟨hj,_⟩ _ hjm
   omega
  ·rintro j M' H' ⟨hj,hM',hA',hm,hf,g⟩ he hjm Q' hQ
   have hcl:=Xt es t cf j
   by_cases hlt:j < k
   ·obtain ⟨c,h,lv⟩:=rc.live j hlt
    rw [h] at hA' hcl
    have ho:=getD_of c.r lv.r
    have hcl':c.cs.length ≤ cf.csl + j:=hcl
    refine mv j M' H' c _ ho hM' hA' lv.i lv.g (.inl lv.op) (by omega) g Q' fun H2 M2 hM2 hA2 hm2 hf2 g2=>hQ _ H2 M2 hM2 (.inr ⟨?_,by omega,hM2,?_,by rw [hm2,hm]; omega,?_,g2⟩)
    ·rw [hf2,noF _ _ lv.op,hf]
    ·show AbF H2 ra t M.s.choices M2 (step es t (run es t j cf))
     rw [h]
     exact hA2
    ·rw [hf2,noF _ _ lv.op,hf]
   ·have hjk:j = k:=by omega
    subst hjk
    rw [rc.eq] at hA' hcl
    have hcl':c0.cs.length ≤ cf.csl + j:=hcl
    refine mv j M' H' c0 _ hfd hM' hA' hi0 hg0 (.inr rfl) (by omega) g Q' fun H2 M2 hM2 hA2 hm2 hf2 g2=>hQ _ H2 M2 hM2 (.inl ⟨hf2,fun tt htt=>?_⟩)
    have hA3:Ab H2 ra t M.s.choices M2 { c0 with r:=c0.r + 1 }:=hA2
    have g3:=Gro.new (S:=[]) htt (.tup [.str "way",.int M2.s.place,M2.s.groups])
    have hA4:=hA3.mono g3.tups
    exact fin _ tt M2.s.groups M2 (hM2.new htt) (.inr ⟨hf2,_,hA4,rfl⟩) hA4.cslen (by rw [Z3,hA3.pl]) hA4.gs (g2.trans (g3.mono (by simp)))
 ·refine ⟨m,most,M,fun j M' H'=>j ≤ k∧MAt C H' m M'∧AbF H' ra t M.s.choices M' (run es t j cf)∧M'.s.made = M.s.made + j∧M'.s.found = false∧Gro [m,M.s.choices] H H',rfl,hM,h1,hz,⟨?_,?_,?_,?_,?_⟩⟩
  ·exact fun H' hM' g=>⟨Nat.zero_le _,hM',hF.mono g.tups,by rw [hfm]; simp,hff,g⟩
  ·rintro j M' H' ⟨hj,hM',_,hm,hf,_⟩
   exact ⟨hM',hm,hf,by omega⟩
  ·rintro j M' H' ⟨hj,hM',hA',hm,hf,g⟩ he tt htt
   have hjk:j = k:=by
    by_cases hlt:j < k
    ·obtain ⟨c,h,_⟩:=rc.live j hlt
     rw [h] at hA'
     have:=Ab.en hA'
     rw [he] at this
     cases this
    ·omega
   subst hjk
   rw [rc.eq] at hA'
   have g3:=Gro.new (S:=[]) htt (.tup [.str "none"])
   have hE:AbE ra t M.s.choices M':=hA'
   exact fin _ tt M' (hM'.new htt) (.inl ⟨hf,hE⟩) (by rw [hE.cs]; rfl) Z3 (g.trans (g3.mono (by simp)))
  ·rintro j M' H' ⟨hj,hM',hA',hm,hf,g⟩ he hjm
   exfalso
   have hjk:j = k:=by omega
   subst hjk
   rw [rc.eq] at hA'
   have hE:AbE ra t M.s.choices M':=hA'
   rw [hE.en] at he
   cases he
  ·rintro j M' H' ⟨hj,hM',hA',hm,hf,g⟩ he hjm Q' hQ
   have hcl:=Xt es t cf j
   have hlt:j < k:=by
    by_cases hlt:j < k
    ·exact hlt
    ·exfalso
     have hjk:j = k:=by omega
     subst hjk
     rw [rc.eq] at hA'
     have hE:AbE ra t M.s.choices M':=hA'
     rw [hE.en] at he
     cases he
   obtain ⟨c,h,lv⟩:=rc.live j hlt
   rw [h] at hA' hcl
   have ho:=getD_of c.r lv.r
   have hcl':c.cs.length ≤ cf.csl + j:=hcl
   refine mv j M' H' c _ ho hM' hA' lv.i lv.g (.inl lv.op) (by omega) g Q' fun H2 M2 hM2 hA2 hm2 hf2 g2=>hQ _ H2 M2 hM2 (.inr ⟨?_,by omega,hM2,?_,by rw [hm2,hm]; omega,?_,g2⟩)
   ·rw [hf2,noF _ _ lv.op,hf]
   ·show AbF H2 ra t M.s.choices M2 (step es t (run es t j cf))
    rw [h]
    exact hA2
   ·rw [hf2,noF _ _ lv.op,hf]
end
structure MachDefsA (K:PySem.W.Frag) (mg:Str→Option Value) (C:Addr):Prop where
 base_:MachDefs K mg C
 hold:MDef K C "hold" "Machine.hold" s_Machine_hold ["self", "number"]
 let_go:MDef K C "let_go" "Machine.let_go" s_Machine_let_go ["self"]
 drop:MDef K C "drop_choices" "Machine.drop_choices" s_Machine_drop_choices ["self", "size"]
 entry:MDef K C "entry" "Machine.entry" s_Machine_entry ["self", "number"]
structure DoingsA (K:PySem.W.Frag) (ds:List (Key × V)):Prop where
 sign:Dn K ds "sign" "do_sign" s_do_sign ["machine", "row"]
 any:Dn K ds "any" "do_sign" s_do_sign ["machine", "row"]
 inn:Dn K ds "in" "do_sign" s_do_sign ["machine", "row"]
 out:Dn K ds "out" "do_sign" s_do_sign ["machine", "row"]
 beg:Dn K ds "begin" "do_begin" s_do_begin ["machine", "row"]
 fin:Dn K ds "end" "do_end" s_do_end ["machine", "row"]
 again:Dn K ds "again" "do_again" s_do_again ["machine", "row"]
 try_:Dn K ds "try" "do_try" s_do_try ["machine", "row"]
 go:Dn K ds "go" "do_go" s_do_go ["machine", "row"]
 have_:Dn K ds "have" "do_have" s_do_have ["machine", "row"]
 turns:Dn K ds "turns" "do_hold" s_do_hold ["machine", "row"]
 open_:Dn K ds "open" "do_hold" s_do_hold ["machine", "row"]
 close:Dn K ds "close" "do_close" s_do_close ["machine", "row"]
 turn:Dn K ds "turn" "do_turn" s_do_turn ["machine", "row"]
 next:Dn K ds "next" "do_next" s_do_next ["machine", "row"]
 once:Dn K ds "once" "do_once" s_do_once ["machine", "row"]
 kept:Dn K ds "kept" "do_kept" s_do_kept ["machine", "row"]
 peeked:Dn K ds "peeked" "do_peeked" s_do_peeked ["machine", "row"]
 bar:Dn K ds "bar" "do_bar" s_do_bar ["machine", "row"]
 barred:Dn K ds "barred" "do_barred" s_do_barred ["machine", "row"]
 lean:Dn K ds "lean" "do_lean" s_do_lean ["machine", "row"]
 here:Dn K ds "here" "do_here" s_do_here ["machine", "row"]
 found:Dn K ds "found" "do_found" s_do_found ["machine", "row"]
section
variable {P:Program} {w:World} {K:PySem.W.Frag} {mg:Str→Option Value} {base:Heap} {C:Addr}
theorem Z2y {ds:List (Key × V)} (T:Blt mg) (MA:MachDefsA K mg C) (DD:DoingsA K ds) (p1:Def K mg "takes_sign" s_takes_sign ["row", "text", "at"]) (p2:Def K mg "lies_in" s_lies_in ["runs", "sign"]) (p3:Def K mg "with_entry" s_with_entry ["groups", "number", "begin", "end"]):DoesA P w K mg base 3 ds C:=by
 have MD:=MA.base_
 have li:Own P w K mg base 1 "lies_in" ["runs", "sign"] Z4l:=p2.own fun _ _ F=>Z3o F
 have ta:Own P w K mg base 2 "takes_sign" ["row", "text", "at"] Z0z:=p1.own fun _ _ F=>J9 T li F
 have we:Own P w K mg base 1 "with_entry" ["groups", "number", "begin", "end"] Z4g:=p3.own fun _ _ F=>Z9n F
 have en:OwnM P w K mg base 1 C "enter" ["self", "state"] (Wb C):=MD.enter.own fun _ _ F=>Jb MD.tx F
 have gb:OwnM P w K mg base 2 C "go_back" ["self"] (Xj C):=MD.go_back.own fun _ _ F=>Vr T MD.tx en F
 have ho:OwnM P w K mg base 1 C "hold" ["self", "number"] (U7 C):=MA.hold.own fun _ _ F=>Z9v MD.tx F
 have lg:OwnM P w K mg base 1 C "let_go" ["self"] (U6 C):=MA.let_go.own fun _ _ F=>Z5f MD.tx F
 have dr:OwnM P w K mg base 1 C "drop_choices" ["self", "size"] (U8 C):=MA.drop.own fun _ _ F=>Z9x T MD.tx F
 have et:OwnM P w K mg base 1 C "entry" ["self", "number"] (Z20 C):=MA.entry.own fun _ _ F=>Z79 T MD.tx F
 have sg:∀ h:Hd,h.one = true→∀ f fd,Fun K "do_sign" "do_sign" s_do_sign f fd→FnOk P w K mg base CX0 3 f fd ["machine", "row"] (Jm C (.pat h)):=fun h h1 f fd F =>
  (Z3r (P:=P) (w:=w) (base:=base) h1 MD.tx ta gb F).imp (Tq (fun _ _ h=>h) (Zah h1))
 refine ⟨fun o hok=>?_⟩
 cases o with
 | pat h =>
  cases h with
  | sign x=>exact DD.sign.tells (sg (.sign x) rfl)
  | any=>exact DD.any.tells (sg .any rfl)
  | inn x=>exact DD.inn.tells (sg (.inn x) rfl)
  | out x=>exact DD.out.tells (sg (.out x) rfl)
  | beg=>exact DD.beg.tells fun _ _ F=>(Z1e MD.tx gb F).imp (Tq (fun _ _ h=>h) Zcv)
  | fin=>exact DD.fin.tells fun _ _ F=>(Z5h T MD.tx gb F).imp (Tq (fun _ _ h=>h) Zcu)
  | again k=>exact DD.again.tells fun _ _ F=>Z1f MD.tx gb et F
  | _=>cases hok
 | try_ z=>exact DD.try_.tells fun _ _ F=>((Z5g (z:=(z:Int)) MD.tx F).mono (by decide)).imp (Tq (fun _ _ h=>h) fun H ra ch t n M c hA=>⟨⟨hA.rows,hA.text,hA.chs,hA.en,hA.row,hA.pl,hA.gs,hA.hl,hA.cs.snoc ⟨rfl,hA.pl,hA.gs,hA.hl⟩⟩,rfl,rfl⟩)
 | go z=>exact DD.go.tells fun _ _ F=>((Z7b (z:=(z:Int)) MD.tx F).mono (by decide)).imp (Tq (fun _ _ h=>h) fun H ra ch t n M c hA=>⟨⟨hA.rows,hA.text,hA.chs,hA.en,rfl,hA.pl,hA.gs,hA.hl,hA.cs⟩,rfl,rfl⟩)
 | have_ k z=>exact DD.have_.tells fun _ _ F=>(Z3x MD.tx et F).mono (by decide)
 | turns=>exact DD.turns.tells fun _ _ F=>(Tk (.inl rfl) MD.tx ho F).mono (by decide)
 | open_=>exact DD.open_.tells fun _ _ F=>(Tk (.inr rfl) MD.tx ho F).mono (by decide)
 | close k=>exact DD.close.tells fun _ _ F=>(Z1d MD.tx lg we F).mono (by decide)
 | turn lo hi how z=>exact DD.turn.tells fun _ _ F=>Z3q MD.tx en gb F
 | next lo z=>exact DD.next.tells fun _ _ F=>Z3t MD.tx lg gb F
 | once=>exact DD.once.tells fun _ _ F=>(Z3s T MD.tx ho F).mono (by decide)
 | kept=>exact DD.kept.tells fun _ _ F=>(Z3v MD.tx lg dr F).mono (by decide)
 | peeked=>exact DD.peeked.tells fun _ _ F=>(Z0d MD.tx lg dr F).mono (by decide)
 | bar z=>exact DD.bar.tells fun _ _ F=>(Z5i T MD.tx ho F).mono (by decide)
 | barred=>exact DD.barred.tells fun _ _ F=>Z0e MD.tx lg dr gb F
 | lean=>exact DD.lean.tells fun _ _ F=>(Z3u MD.tx F).mono (by decide)
 | here=>exact DD.here.tells fun _ _ F=>Z3w MD.tx gb F
 | found =>
  refine DD.found.tells fun _ _ F=>((Z1c MD.tx F).mono (by decide)).imp fun vs H Q E h=>?_
  obtain ⟨m,a,M,rfl,hM,hz,_,⟨a',e',ha⟩,q⟩:=Tq (C:=C) (o:=.found) (row:=fun H a=>RowAt H (.ref a) (Op.rw .found)) (go:=MM.doFound) (fun _ _ h=>h) (fun H ra ch t n M c hA=>⟨⟨hA.rows,hA.text,hA.chs,hA.en,hA.row,hA.pl,hA.gs,hA.hl,hA.cs⟩,rfl,rfl⟩) vs H Q E h
  cases e'
  exact ⟨m,a,M,rfl,hM,hz,trivial,ha,q⟩
theorem Z72 {dn:Addr} {ds:List (Key × V)} (T:Blt mg) (MA:MachDefsA K mg C) (c_DOINGS:mg "DOINGS" = some (.ref dn)) (hDN:DcK K w dn ds) (DD:DoingsA K ds) (p1:Def K mg "takes_sign" s_takes_sign ["row", "text", "at"]) (p2:Def K mg "lies_in" s_lies_in ["runs", "sign"]) (p3:Def K mg "with_entry" s_with_entry ["groups", "number", "begin", "end"]):OwnM P w K mg base 6 C "way" ["self", "most"] (Z4h C):=by
 have MD:=MA.base_
 have en:OwnM P w K mg base 1 C "enter" ["self", "state"] (Wb C):=MD.enter.own fun _ _ F=>Jb MD.tx F
 have gb:OwnM P w K mg base 2 C "go_back" ["self"] (Xj C):=MD.go_back.own fun _ _ F=>Vr T MD.tx en F
 have mv:OwnM P w K mg base (3 + 1) C "move" ["self"] (U5 P w K mg base 3 ds C):=MD.move.own fun _ _ F=>Z5e MD.tx c_DOINGS hDN F
 exact MD.way.own fun _ _ F=>(Z8e (kk:=3) MD.tx mv gb F).imp (Zd7 (Z2y T MA DD p1 p2 p3))
end
section
variable {P:Program} {w:World} {K:PySem.W.Frag} {mg:Str→Option Value} {base:Heap} {C:Addr}
def Zeo (C:Addr) (Q:VK) (H:Hp) (m ra ch:Addr) (t:Str) (n:Nat) (es:List Op) (most:Int) (cf:Cf) (made:Int):Prop :=
 (∃ (k:Nat) (c:Cg),Rc es t n cf k (.run c)∧es[c.r]? = some .found∧c.i ≤ t.length∧GOk t n c.g∧(k:Int) < most∧cf.csl + k ≤ 999999 ∧
  ∀ (H':Hp) (tt:Addr) (gv:V) (M':MM),MAt C H' m M'→AM H' ra t ch M' (bk c.cs)→M'.cs.length = c.cs.length→M'.s.made = made + k + 1→H' tt = some (.tup [.str "way",.int c.i,gv])→GsAt H' gv c.g→Gro [m,ch] H H'→Q (.ref tt) H') ∨
 (∃ k:Nat,Rc es t n cf k .ended∧(k:Int) ≤ most∧cf.csl + k ≤ 999999 ∧
  ∀ (H':Hp) (tt:Addr) (M':MM),MAt C H' m M'→AM H' ra t ch M' .ended→M'.cs.length = 0→M'.s.made = made + k→H' tt = some (.tup [.str "none"])→Gro [m,ch] H H'→Q (.ref tt) H') ∨
 (∃ (k:Nat) (c:Cg),Rc es t n cf k (.run c)∧(k:Int) = most∧cf.csl + k ≤ 999999 ∧
  ∀ (H':Hp) (tt:Addr) (M':MM),MAt C H' m M'→AM H' ra t ch M' (.run c)→M'.cs.length = c.cs.length→M'.s.made = made + k→H' tt = some (.tup [.str "over"])→Gro [m,ch] H H'→Q (.ref tt) H')
inductive spWayCI (C:Addr) (vs:List V) (H:Hp) (Q:VK):Prop
 | mk (m ra ch:Addr) (most:Int) (t:Str) (n:Nat) (es:List Op) (ys:List V) (M:MM) (cf:Cf) (_:vs = [.ref m,.int most]) (_:1 ≤ most) (_:MAt C H m M) (_:AM H ra t ch M cf) (_:M.cs.length ≤ 1000000) (_:H ra = some (.tup ys)) (_:Paired (RowAt H) ys (es.map Op.rw)) (_:(∀ o ∈ es,o.ok)) (_:t.length ≤ 1000) (_:n ≤ 900) (_:Zeo C Q H m ra ch t n es most cf M.s.made)
def Z1x (C:Addr):Sp:=fun vs H Q _=>spWayCI C vs H Q
theorem Zd6 {kk:Nat} {ds:List (Key × V)} (D:DoesA P w K mg base kk ds C):∀ vs H Q E,Z1x C vs H Q E→Z8v P w K mg base kk ds C vs H Q E:=by
 rintro vs H Q E ⟨m,ra,ch,most,t,n,es,ys,M,cf,rfl,h1,hM,hAM,hz,hra,hp,hok,ht,hn,hw⟩
 obtain ⟨hF,hff,hfm,hch⟩:=hAM.fresh
 subst hch
 have mv:∀ (j:Nat) (M':MM) (H':Hp) (c:Cg) (o:Op),es[c.r]? = some o→MAt C H' m M'→Ab H' ra t M.s.choices M' c→c.i ≤ t.length→GOk t n c.g→(o.need n { c with r:=c.r + 1 } ∨ o = .found)→c.cs.length ≤ 1000000→Gro [m,M.s.choices] H H'→∀ Q':VK,
   (∀ (H2:Hp) (M2:MM),MAt C H2 m M2→AbF H2 ra t M.s.choices M2 (o.act t { c with r:=c.r + 1 })→M2.s.made = M'.s.made + 1→M2.s.found = o.fd M'.s.found→Gro [m,M.s.choices] H H2→Q' .non H2)→U5 P w K mg base kk ds C [.ref m] H' Q' E0:=by
  intro j M' H' c o ho hM' hA' hi hg hneed hcs g Q' hQ
  have hge:(es.map Op.rw)[c.r]? = some o.rw:=by rw [List.getElem?_map,ho]; rfl
  obtain ⟨v,hv,hrow⟩:=V2 hp hge
  have hrow':=hrow.mono g.tups
  obtain ⟨a,rfl⟩:=Z02 hrow
  obtain ⟨r,ha⟩:=Z27 hrow'
  have hat:atI ys M'.s.row = some (.ref a):=by rw [hA'.row]; exact Xy hv
  refine ⟨m,ra,a,ys,_,r,M',Jm C o,rfl,hM',hA'.rows,g.tups _ _ hra,hat,ha,D.all o (hok o (List.mem_of_getElem? ho)),fun H1 hM1 g1=>?_⟩
  have hA1:=hA'.mono g1.tups
  refine ⟨m,a,ra,M.s.choices,t,n,M'.next,{ c with r:=c.r + 1 },rfl,hM1,⟨hA1.rows,hA1.text,hA1.chs,hA1.en,by show M'.s.row + 1 = ((c.r + 1:Nat):Int); rw [hA'.row]; omega,hA1.pl,hA1.gs,hA1.hl,hA1.cs⟩,hrow'.mono g1.tups,ht,hi,hg,hn,hneed,⟨hcs,Nat.le_add_left 1 _⟩,fun H2 M2 hM2 hA2 hm2 hf2 g2=>?_⟩
  exact hQ H2 M2 hM2 hA2 hm2 hf2 (g.trans ((g1.mono (by simp)).trans g2))
 have getD_of:∀ (r:Nat),r < es.length→es[r]? = some (es.getD r .found):=fun r h=>by rw [List.getD_eq_getElem?_getD,List.getElem?_eq_getElem h]; rfl
 have noF:∀ (o:Op) (c:Cg),o.need n c→∀ b,o.fd b = b:=fun o c h b=>by cases o <;> first | rfl | exact h.elim
 rcases hw with ⟨k,c0,rc,hfd,hi0,hg0,hkm,hcsb,fin⟩ | ⟨k,rc,hkm,hcsb,fin⟩ | ⟨k,c0,rc,hkm,hcsb,fin⟩
 ·refine ⟨m,most,M,fun j M' H'=>j ≤ k∧MAt C H' m M'∧AbF H' ra t M.s.choices M' (run es t j cf)∧M'.s.made = M.s.made + j∧M'.s.found = false∧Gro [m,M.s.choices] H H',rfl,hM,h1,hz,⟨?_,?_,?_,?_,?_⟩⟩
  ·exact fun H' hM' g=>⟨Nat.zero_le _,hM',hF.mono g.tups,by rw [hfm]; simp,hff,g⟩
  ·rintro j M' H' ⟨hj,hM',_,hm,hf,_⟩
   exact ⟨hM',hm,hf,by omega⟩
  ·rintro j M' H' ⟨hj,hM',hA',hm,hf,g⟩ he
   exfalso
   have:∃ c,run es t j cf = .run c:=by
    by_cases hlt:j < k
    ·obtain ⟨c,h,_⟩:=rc.live j hlt
     exact ⟨c,h⟩
    ·rw [show j = k by omega]
     exact ⟨c0,rc.eq⟩
   obtain ⟨c,h⟩:=this
   rw [h] at hA'
   have:=Ab.en hA'
   rw [he] at this
   cases this
  ·rintro j M' H' ⟨hj,_⟩ _ hjm
   omega
  ·rintro j M' H' ⟨hj,hM',hA',hm,hf,g⟩ he hjm Q' hQ
   have hcl:=Xt es t cf j
   by_cases hlt:j < k
   ·obtain ⟨c,h,lv⟩:=rc.live j hlt
    rw [h] at hA' hcl
    have ho:=getD_of c.r lv.r
    have hcl':c.cs.length ≤ cf.csl + j:=hcl
    refine mv j M' H' c _ ho hM' hA' lv.i lv.g (.inl lv.op) (by omega) g Q' fun H2 M2 hM2 hA2 hm2 hf2 g2=>hQ _ H2 M2 hM2 (.inr ⟨?_,by omega,hM2,?_,by rw [hm2,hm]; omega,?_,g2⟩)
    ·rw [hf2,noF _ _ lv.op,hf]
    ·show AbF H2 ra t M.s.choices M2 (step es t (run es t j cf))
     rw [h]
     exact hA2
    ·rw [hf2,noF _ _ lv.op,hf]
   ·have hjk:j = k:=by omega
    subst hjk
    rw [rc.eq] at hA' hcl
    have hcl':c0.cs.length ≤ cf.csl + j:=hcl
    refine mv j M' H' c0 _ hfd hM' hA' hi0 hg0 (.inr rfl) (by omega) g Q' fun H2 M2 hM2 hA2 hm2 hf2 g2=>hQ _ H2 M2 hM2 (.inl ⟨hf2,fun tt htt=>?_⟩)
    have hA3:Ab H2 ra t M.s.choices M2 { c0 with r:=c0.r + 1 }:=hA2
    have g3:=Gro.new (S:=[]) htt (.tup [.str "way",.int M2.s.place,M2.s.groups])
    have hA4:=hA3.mono g3.tups
    exact fin _ tt M2.s.groups M2 (hM2.new htt) (.inr ⟨hf2,_,hA4,rfl⟩) hA4.cslen (by omega) (by rw [Z3,hA3.pl]) hA4.gs (g2.trans (g3.mono (by simp)))
 ·refine ⟨m,most,M,fun j M' H'=>j ≤ k∧MAt C H' m M'∧AbF H' ra t M.s.choices M' (run es t j cf)∧M'.s.made = M.s.made + j∧M'.s.found = false∧Gro [m,M.s.choices] H H',rfl,hM,h1,hz,⟨?_,?_,?_,?_,?_⟩⟩
  ·exact fun H' hM' g=>⟨Nat.zero_le _,hM',hF.mono g.tups,by rw [hfm]; simp,hff,g⟩
  ·rintro j M' H' ⟨hj,hM',_,hm,hf,_⟩
   exact ⟨hM',hm,hf,by omega⟩
  ·rintro j M' H' ⟨hj,hM',hA',hm,hf,g⟩ he tt htt
   have hjk:j = k:=by
    by_cases hlt:j < k
    ·obtain ⟨c,h,_⟩:=rc.live j hlt
     rw [h] at hA'
     have:=Ab.en hA'
     rw [he] at this
     cases this
    ·omega
   subst hjk
   rw [rc.eq] at hA'
   have g3:=Gro.new (S:=[]) htt (.tup [.str "none"])
   have hE:AbE ra t M.s.choices M':=hA'
   exact fin _ tt M' (hM'.new htt) (.inl ⟨hf,hE⟩) (by rw [hE.cs]; rfl) hm Z3 (g.trans (g3.mono (by simp)))
  ·rintro j M' H' ⟨hj,hM',hA',hm,hf,g⟩ he hjm
   exfalso
   have hjk:j = k:=by omega
   subst hjk
   rw [rc.eq] at hA'
   have hE:AbE ra t M.s.choices M':=hA'
   rw [hE.en] at he
   cases he
  ·rintro j M' H' ⟨hj,hM',hA',hm,hf,g⟩ he hjm Q' hQ
   have hcl:=Xt es t cf j
   have hlt:j < k:=by
    by_cases hlt:j < k
    ·exact hlt
    ·exfalso
     have hjk:j = k:=by omega
     subst hjk
     rw [rc.eq] at hA'
     have hE:AbE ra t M.s.choices M':=hA'
     rw [hE.en] at he
     cases he
   obtain ⟨c,h,lv⟩:=rc.live j hlt
   rw [h] at hA' hcl
   have ho:=getD_of c.r lv.r
   have hcl':c.cs.length ≤ cf.csl + j:=hcl
   refine mv j M' H' c _ ho hM' hA' lv.i lv.g (.inl lv.op) (by omega) g Q' fun H2 M2 hM2 hA2 hm2 hf2 g2=>hQ _ H2 M2 hM2 (.inr ⟨?_,by omega,hM2,?_,by rw [hm2,hm]; omega,?_,g2⟩)
   ·rw [hf2,noF _ _ lv.op,hf]
   ·show AbF H2 ra t M.s.choices M2 (step es t (run es t j cf))
    rw [h]
    exact hA2
   ·rw [hf2,noF _ _ lv.op,hf]
 ·have lives:∀ j,j ≤ k→∃ c,run es t j cf = .run c:=fun j hj=>by
   by_cases hlt:j < k
   ·obtain ⟨c,h,_⟩:=rc.live j hlt
    exact ⟨c,h⟩
   ·rw [show j = k by omega]
    exact ⟨c0,rc.eq⟩
  refine ⟨m,most,M,fun j M' H'=>j ≤ k∧MAt C H' m M'∧AbF H' ra t M.s.choices M' (run es t j cf)∧M'.s.made = M.s.made + j∧M'.s.found = false∧Gro [m,M.s.choices] H H',rfl,hM,h1,hz,⟨?_,?_,?_,?_,?_⟩⟩
  ·exact fun H' hM' g=>⟨Nat.zero_le _,hM',hF.mono g.tups,by rw [hfm]; simp,hff,g⟩
  ·rintro j M' H' ⟨hj,hM',_,hm,hf,_⟩
   exact ⟨hM',hm,hf,by omega⟩
  ·rintro j M' H' ⟨hj,hM',hA',hm,hf,g⟩ he
   exfalso
   obtain ⟨c,h⟩:=lives j hj
   rw [h] at hA'
   have:=Ab.en hA'
   rw [he] at this
   cases this
  ·rintro j M' H' ⟨hj,hM',hA',hm,hf,g⟩ he hjm tt htt
   have hjk:j = k:=by omega
   subst hjk
   rw [rc.eq] at hA'
   have hA3:Ab H' ra t M.s.choices M' c0:=hA'
   have g3:=Gro.new (S:=[]) htt (.tup [.str "over"])
   exact fin _ tt M' (hM'.new htt) (.inl ⟨hf,hA3.mono g3.tups⟩) hA3.cslen hm Z3 (g.trans (g3.mono (by simp)))
  ·rintro j M' H' ⟨hj,hM',hA',hm,hf,g⟩ he hjm Q' hQ
   have hcl:=Xt es t cf j
   have hlt:j < k:=by omega
   obtain ⟨c,h,lv⟩:=rc.live j hlt
   rw [h] at hA' hcl
   have ho:=getD_of c.r lv.r
   have hcl':c.cs.length ≤ cf.csl + j:=hcl
   refine mv j M' H' c _ ho hM' hA' lv.i lv.g (.inl lv.op) (by omega) g Q' fun H2 M2 hM2 hA2 hm2 hf2 g2=>hQ _ H2 M2 hM2 (.inr ⟨?_,by omega,hM2,?_,by rw [hm2,hm]; omega,?_,g2⟩)
   ·rw [hf2,noF _ _ lv.op,hf]
   ·show AbF H2 ra t M.s.choices M2 (step es t (run es t j cf))
    rw [h]
    exact hA2
   ·rw [hf2,noF _ _ lv.op,hf]
theorem Z71 {dn:Addr} {ds:List (Key × V)} (T:Blt mg) (MA:MachDefsA K mg C) (c_DOINGS:mg "DOINGS" = some (.ref dn)) (hDN:DcK K w dn ds) (DD:DoingsA K ds) (p1:Def K mg "takes_sign" s_takes_sign ["row", "text", "at"]) (p2:Def K mg "lies_in" s_lies_in ["runs", "sign"]) (p3:Def K mg "with_entry" s_with_entry ["groups", "number", "begin", "end"]):OwnM P w K mg base 6 C "way" ["self", "most"] (Z1x C):=by
 have MD:=MA.base_
 have en:OwnM P w K mg base 1 C "enter" ["self", "state"] (Wb C):=MD.enter.own fun _ _ F=>Jb MD.tx F
 have gb:OwnM P w K mg base 2 C "go_back" ["self"] (Xj C):=MD.go_back.own fun _ _ F=>Vr T MD.tx en F
 have mv:OwnM P w K mg base (3 + 1) C "move" ["self"] (U5 P w K mg base 3 ds C):=MD.move.own fun _ _ F=>Z5e MD.tx c_DOINGS hDN F
 exact MD.way.own fun _ _ F=>(Z8e (kk:=3) MD.tx mv gb F).imp (Zd6 (Z2y T MA DD p1 p2 p3))
end
section
variable {P:Program} {w:World} {K:PySem.W.Frag} {mg:Str→Option Value} {base:Heap} {f:Addr} {fd:FuncData}
inductive spHoldI (vs:List V) (H:Hp) (Q:VK):Prop
 | mk (r:Addr) (xs:List V) (_:vs = [.ref r]) (_:H r = some (.lst xs)) (_:xs.length ≤ 1000000) (_:∀ (t:Addr) (H':Hp),H' r = some (.lst (xs ++ [.ref t]))→H' t = some (.tup [])→Gro [r] H H'→Q (.int xs.length) H')
def T8:Sp:=fun vs H Q _=>spHoldI vs H Q
def Zcw (Q:VK) (H:Hp) (r:Addr) (xs:List V) (rs:List Rw):Prop:=∀ (ys:List V) (H':Hp),H' r = some (.lst (xs ++ ys))→Paired (RowAt H') ys rs→Gro [r] H H'→Q .non H'
inductive spPutI (n:Nat) (vs:List V) (H:Hp) (Q:VK):Prop
 | mk (r:Addr) (v:V) (xs:List V) (p:Pat) (_:vs = [.ref r,v]) (_:PatAt H n v p) (_:H r = some (.lst xs)) (_:xs.length + 7 * p.size ≤ 1000000) (_:Zcw Q H r xs (p.code xs.length))
def Jt (n:Nat):Sp:=fun vs H Q _=>spPutI n vs H Q
inductive spPutOrI (n:Nat) (vs:List V) (H:Hp) (Q:VK):Prop
 | mk (r b:Addr) (xs kv:List V) (ks:List Pat) (_:vs = [.ref r,.ref b]) (_:H b = some (.tup kv)) (_:Paired (PatAt H n) kv ks) (_:1 ≤ kv.length) (_:kv.length ≤ 10) (_:H r = some (.lst xs)) (_:xs.length + 7 * (Y7 ks + 1) ≤ 1000000) (_:Zcw Q H r xs (orC (ks.map Pat.code) xs.length))
def Z4k (n:Nat):Sp:=fun vs H Q _=>spPutOrI n vs H Q
def How.ext:How→Nat
 | .keep=>7 | _=>6
inductive spPutTimesI (ok:How→Prop) (n:Nat) (vs:List V) (H:Hp) (Q:VK):Prop
 | mk (r:Addr) (lo:Int) (hi:Option Int) (how:How) (v:V) (xs:List V) (p:Pat) (_:vs = [.ref r,.int lo,Z3k hi,.str how.text,v]) (_:ok how) (_:PatAt H n v p) (_:H r = some (.lst xs)) (_:xs.length + 7 * p.size + how.ext ≤ 1000000) (_:Zcw Q H r xs (U4 lo hi how p.code xs.length))
def Xc (ok:How→Prop) (n:Nat):Sp:=fun vs H Q _=>spPutTimesI ok n vs H Q
inductive spPutHaveI (n:Nat) (vs:List V) (H:Hp) (Q:VK):Prop
 | mk (r:Addr) (k:Int) (y z:V) (xs:List V) (p q:Pat) (_:vs = [.ref r,.int k,y,z]) (_:PatAt H n y p) (_:PatAt H n z q) (_:H r = some (.lst xs)) (_:xs.length + 7 * (p.size + q.size + 1) ≤ 1000000) (_:Zcw Q H r xs (Za6 k p.code q.code xs.length))
def Js (n:Nat):Sp:=fun vs H Q _=>spPutHaveI n vs H Q
inductive spPutLookI (n:Nat) (vs:List V) (H:Hp) (Q:VK):Prop
 | mk (r:Addr) (lk:Lk) (v:V) (xs:List V) (p:Pat) (_:vs = [.ref r,.str lk.text,v]) (_:PatAt H n v p) (_:H r = some (.lst xs)) (_:xs.length + 7 * (p.size + 1) ≤ 1000000) (_:Zcw Q H r xs (U1 lk p.code xs.length))
def Jr (n:Nat):Sp:=fun vs H Q _=>spPutLookI n vs H Q
abbrev s_hold_place:Stmt:=top 6
theorem J6:FnScope ["rows"] ["rows"] (Zb s_hold_place):=fsc
theorem Ja (T:Blt mg) (F:Fun K "hold_place" "hold_place" s_hold_place f fd):FnOk P w K mg base CX0 1 f fd ["rows"] T8:=by
 refine F.ok J6 (fun vs H Q E h=>?_) (fun cdv A outer s H vs Q E hr h=>?_)
 ·obtain ⟨r,xs,rfl,_⟩:=h
  rfl
 obtain ⟨r,xs,rfl,hr0,hz,q⟩:=h
 refine ltX ?_
 intro Xz
 refine ⟨_,(Z1 (Zm (X3 PySem.F.plainAttrs_list PySem.F.slot_list_append PySem.F.type_list_append Zy (pv 0) (Z0 (Zj Z4) Z4)))
  (Z5 (Zh (Zu Yh (Zp Zx rfl T.b_len PyProof.Rows.Boot.«len» (Z0 (pv 0) Z4)) Z2)))),?_⟩
 refine Z29 ?_
 intro Ez Az1
 refine (exA rfl ⟨.inl ⟨rfl,_,SqL.of hr0⟩,sz,fun t ht=>⟨r,xs,exA rfl ⟨rfl,Xi hr0 ht,big hz,?_⟩⟩⟩)
 refine (exA rfl ⟨r,exA rfl ⟨.inl (SqL.of Z3),exB rfl rfl (?_)⟩⟩)
 have e:((xs ++ [V.ref t]).length:Int) - 1 = xs.length:=by simp
 show Q (V.int (((xs ++ [V.ref t]).length:Int) - 1)) _
 rw [e]
 exact q t _ Z3 (W7 hr0 ht) (W8 hr0 ht)
abbrev s_put_times:Stmt:=top 8
theorem sc_put_times:FnScope ["rows", "low", "high", "how", "part", "turn"] ["rows", "low", "high", "how", "part"] (Zb s_put_times):=fsc
theorem Vu {n k:Nat} {ok ok':How→Prop} (hk:∀ how,ok how→how = .keep→ok' .much) (T:Blt mg) (O_hold_place:Own P w K mg base 1 "hold_place" ["rows"] T8) (O_put:Own P w K mg base (2 + k) "put" ["rows", "pattern"] (Jt n)) (O_put_times:Own P w K mg base (2 + k) "put_times" ["rows", "low", "high", "how", "part"] (Xc ok' n))
  (F:Fun K "put_times" "put_times" s_put_times f fd):FnOk P w K mg base CX0 (2 + k + 1) f fd ["rows", "low", "high", "how", "part"] (Xc ok n):=by
 refine F.ok sc_put_times (fun vs H Q E h=>?_) (fun cdv A outer s H vs Q E hr h=>?_)
 ·obtain ⟨r,lo,hi,how,v,xs,p,rfl,_⟩:=h
  rfl
 obtain ⟨r,lo,hi,how,v,xs,p,rfl,hok,hp,hr0,hz,q⟩:=h
 refine ltX ?_
 intro Xz
 refine ⟨_,(Z1 (Zo (Z9 Zs (pv 3) Ze (Zc _)) (Z1 (Zm (X3 PySem.F.plainAttrs_list PySem.F.slot_list_append PySem.F.type_list_append Zy (pv 0) (Z0 (Zj (Z0 Ze Z4)) Z4)))
  (Z1 (Zm (Zk (O_put_times.mono (by omega)) hr rfl (Z0 (pv 0) (Z0 (pv 1) (Z0 (pv 2) (Z0 Ze (Z0 (pv 4) Z4)))))))
  (Z1 (Zm (X3 PySem.F.plainAttrs_list PySem.F.slot_list_append PySem.F.type_list_append Zy (pv 0) (Z0 (Zj (Z0 Ze Z4)) Z4)))
  (Z5 Z4z)))) Zf)
  (Z1 (Zm (X3 PySem.F.plainAttrs_list PySem.F.slot_list_append PySem.F.type_list_append Zy (pv 0) (Z0 (Zj (Z0 Ze Z4)) Z4)))
  (Z1 (pS 5 sc_put_times.nd (Zk (O_hold_place.mono (by omega)) hr rfl (Z0 (pv 0) Z4)))
  (Z1 (Zm (Zk (O_put.mono (by omega)) hr rfl (Z0 (pv 0) (Z0 (pv 4) Z4))))
  (Z1 (Zm (X3 PySem.F.plainAttrs_list PySem.F.slot_list_append PySem.F.type_list_append Zy (pv 0) (Z0 (Zj (Z0 Ze (Z0 (pv 1) (Z0 (pv 5) Z4)))) Z4)))
  (Z5 (W0 (Zj (Z0 Ze (Z0 (pv 1) (Z0 (pv 2) (Z0 (pv 3) (Z0 (Zp Zx rfl T.b_len PyProof.Rows.Boot.«len» (Z0 (pv 0) Z4)) Z4)))))) (W1 (pv 0) (pv 5) Yu)))))))),?_⟩
 refine Zb2 ?_
 intro Ez Az1 Az2 Az3 Az4 Az5 Az6 Az7 Az8 Az9
 refine (exA rfl ⟨rfl,exA rfl (X7 (fun z=>?_) (fun z=>?_))⟩)
 ·have hk':how = .keep:=by
   cases how with
   | keep=>rfl
   | much=>exact absurd z (by decide +kernel)
   | little=>exact absurd z (by decide +kernel)
  subst hk'
  have hz:xs.length + 7 * p.size + 7 ≤ 1000000:=hz
  refine (exA rfl ⟨.inl ⟨rfl,_,SqL.of hr0⟩,sz,fun t ht=>⟨r,xs,exA rfl ⟨rfl,Xi hr0 ht,big (by omega),?_⟩⟩⟩)
  have g1:Gro [r] H _:=W8 (zs:=xs ++ [.ref t]) (o:=.tup [.str "once"]) hr0 ht
  have e1:(xs ++ [V.ref t]).length = xs.length + 1:=by simp
  refine (exA rfl (exA rfl (exA rfl (exA rfl ⟨r,lo,hi,.much,v,xs ++ [.ref t],p,rfl,hk _ hok rfl,hp.mono g1.tups,Z3,by rw [e1]; show _ + 6 ≤ _; omega,fun ys H2 hr2 hp2 g2=>?_⟩))))
  rw [e1] at hp2
  have hl:=Paired.length hp2
  have hf:=Pat.code_fits p (xs.length + 1 + 2)
  have hl2:(xs ++ [V.ref t] ++ ys).length ≤ 1000000:=by
   rw [List.length_append,e1,hl]
   show _ + (Jo lo hi "much" p.code (xs.length + 1)).length ≤ _
   rw [V8]
   omega
  refine (exA rfl ⟨.inl ⟨rfl,_,SqL.of hr2⟩,sz,fun t2 ht2=>⟨r,exB rfl rfl ⟨Xi hr2 ht2,big hl2,?_⟩⟩⟩)
  have g3:Gro [r] H2 _:=W8 (zs:=xs ++ [V.ref t] ++ ys ++ [V.ref t2]) (o:=.tup [.str "kept"]) hr2 ht2
  have et:H2 t = some (.tup [.str "once"]):=g2.tups _ _ (W7 hr0 ht)
  refine q (.ref t :: (ys ++ [.ref t2])) _ (by simp [Z3]) ?_ ((g1.trans g2).trans g3)
  exact .cons ⟨t,rfl,g3.tups _ _ et⟩ (Zr (Y4 g3.tups hp2) (.cons ⟨t2,rfl,W7 hr2 ht2⟩ .nil))
 ·have hT:U4 lo hi how p.code = Jo lo hi how.text p.code:=by
   cases how with
   | keep=>exact absurd (by decide +kernel) z
   | much=>rfl
   | little=>rfl
  rw [hT] at q
  have hz:xs.length + 7 * p.size + 6 ≤ 1000000:=by
   cases how with
   | keep=>exact absurd (by decide +kernel) z
   | much=>exact hz
   | little=>exact hz
  have hf:=Pat.code_fits p (xs.length + 2)
  refine (exA rfl ⟨.inl ⟨rfl,_,SqL.of hr0⟩,sz,fun t ht=>⟨r,xs,exA rfl ⟨rfl,Xi hr0 ht,big (by omega),?_⟩⟩⟩)
  have g1:Gro [r] H _:=W8 (zs:=xs ++ [.ref t]) (o:=.tup [.str "turns"]) hr0 ht
  have e1:(xs ++ [V.ref t]).length = xs.length + 1:=by simp
  refine (exA rfl ⟨r,_,rfl,Z3,by rw [e1]; omega,fun t1 H2 hr2 ht1 g2=>?_⟩)
  have e2:(xs ++ [V.ref t] ++ [V.ref t1]).length = xs.length + 2:=by simp
  have g12:=g1.trans g2
  refine (exA rfl (exA rfl ⟨r,v,_,p,rfl,hp.mono g12.tups,hr2,by rw [e2]; omega,fun ys H3 hr3 hp3 g3=>?_⟩))
  rw [e2] at hp3
  have hl:=Paired.length hp3
  have hl2:(xs ++ [V.ref t] ++ [V.ref t1] ++ ys).length ≤ 1000000:=by rw [List.length_append,e2,hl]; omega
  refine (exA rfl ⟨.inl ⟨rfl,_,SqL.of hr3⟩,exA rfl (exA rfl ⟨sz,fun t2 ht2=>⟨r,exB rfl rfl ⟨Xi hr3 ht2,big hl2,?_⟩⟩⟩)⟩)
  have g4:Gro [r] H3 _:=W8 (zs:=xs ++ [V.ref t] ++ [V.ref t1] ++ ys ++ [V.ref t2]) (o:=.tup [.str "next",.int lo,.int ((xs ++ [V.ref t]).length:Nat)]) hr3 ht2
  refine (exA rfl (exA rfl (exA rfl (exA rfl ⟨r,exA rfl ⟨.inl (SqL.of Z3),sz,fun t3 ht3=>?_⟩⟩))))
  refine (exA rfl (exA rfl ⟨r,_,_,xs.length + 1,rfl,rfl,Xi Z3 ht3,by rw [e1]; exact V4 (by simp),?_⟩))
  have g5:Gro [r] _ (upd (upd (upd (upd H3 t2 (.tup [.str "next",.int lo,.int ((xs ++ [V.ref t]).length:Nat)])) r (.lst (xs ++ [V.ref t] ++ [V.ref t1] ++ ys ++ [V.ref t2]))) t3 (.tup [.str "turn",.int lo,Z3k hi,.str how.text,.int ((xs ++ [V.ref t] ++ [V.ref t1] ++ ys ++ [V.ref t2]).length:Nat)])) r (HO.lst ((xs ++ [V.ref t] ++ [V.ref t1] ++ ys ++ [V.ref t2]).set (xs.length + 1) (V.ref t3)))):=W8 Z3 ht3
  have eL:(xs ++ [V.ref t] ++ [V.ref t1] ++ ys ++ [V.ref t2]).set (xs.length + 1) (.ref t3) = xs ++ (.ref t :: .ref t3 :: (ys ++ [.ref t2])):=by
   rw [show xs ++ [V.ref t] ++ [V.ref t1] ++ ys ++ [V.ref t2] = (xs ++ [V.ref t]) ++ V.ref t1 :: (ys ++ [V.ref t2]) by simp,Jw (by simp)]
   simp
  rw [eL] at g5 ⊢
  have et:H3 t = some (.tup [.str "turns"]):=g3.tups _ _ (g2.tups _ _ (W7 hr0 ht))
  refine q _ _ Z3 ?_ (((g12.trans g3).trans g4).trans g5)
  refine .cons ⟨t,rfl,g5.tups _ _ (g4.tups _ _ et)⟩ (.cons ⟨t3,rfl,?_⟩ (Zr (Y4 (fun b xs h=>g5.tups _ _ (g4.tups _ _ h)) hp3) (.cons ⟨t2,rfl,?_⟩ .nil)))
  ·rw [W7 Z3 ht3]
   have:((xs ++ [V.ref t] ++ [V.ref t1] ++ ys ++ [V.ref t2]).length:Int) = (xs.length:Int) + 3 + (p.code (xs.length + 2)).length:=by
    rw [List.length_append,List.length_append,e2,hl]
    simp
    omega
   rw [this]
  ·rw [g5.tups _ _ (W7 hr3 ht2),e1]
   rfl
abbrev s_put_have:Stmt:=top 9
theorem sc_put_have:FnScope ["rows", "number", "yes", "no", "asked", "gone"] ["rows", "number", "yes", "no"] (Zb s_put_have):=fsc
theorem Z1b {n k:Nat} (T:Blt mg) (O_hold_place:Own P w K mg base 1 "hold_place" ["rows"] T8) (O_put:Own P w K mg base (2 + k) "put" ["rows", "pattern"] (Jt n)) (F:Fun K "put_have" "put_have" s_put_have f fd):FnOk P w K mg base CX0 (2 + k + 1) f fd ["rows", "number", "yes", "no"] (Js n):=by
 refine F.ok sc_put_have (fun vs H Q E h=>?_) (fun cdv A outer s H vs Q E hr h=>?_)
 ·obtain ⟨r,j,y,z,xs,p,p',rfl,_⟩:=h
  rfl
 obtain ⟨r,j,y,z,xs,p,p',rfl,hp,hp',hr0,hz,q⟩:=h
 refine ltX ?_
 intro Xz
 refine ⟨_,(Z1 (pS 4 sc_put_have.nd (Zk (O_hold_place.mono (by omega)) hr rfl (Z0 (pv 0) Z4)))
  (Z1 (Zm (Zk (O_put.mono (by omega)) hr rfl (Z0 (pv 0) (Z0 (pv 2) Z4))))
  (Z1 (pS 5 sc_put_have.nd (Zk (O_hold_place.mono (by omega)) hr rfl (Z0 (pv 0) Z4)))
  (Z1 (W0 (Zj (Z0 Ze (Z0 (pv 1) (Z0 (Zp Zx rfl T.b_len PyProof.Rows.Boot.«len» (Z0 (pv 0) Z4)) Z4)))) (W1 (pv 0) (pv 4) Yu))
  (Z1 (Zm (Zk (O_put.mono (by omega)) hr rfl (Z0 (pv 0) (Z0 (pv 3) Z4))))
  (Z5 (W0 (Zj (Z0 Ze (Z0 (Zp Zx rfl T.b_len PyProof.Rows.Boot.«len» (Z0 (pv 0) Z4)) Z4))) (W1 (pv 0) (pv 5) Yu)))))))),?_⟩
 refine Zb6 ?_
 intro Ez Az1 Az2 Az3 Az4 Az5
 have hf:=Pat.code_fits p (xs.length + 1)
 refine (exA rfl ⟨r,_,rfl,hr0,by omega,fun t1 H1 hr1 ht1 g1=>?_⟩)
 have e1:(xs ++ [V.ref t1]).length = xs.length + 1:=by simp
 refine (exA rfl (exA rfl ⟨r,y,_,p,rfl,hp.mono g1.tups,hr1,by rw [e1]; omega,fun ys H2 hr2 hp2 g2=>?_⟩))
 rw [e1] at hp2
 have hl:=Paired.length hp2
 have e2:(xs ++ [V.ref t1] ++ ys).length = xs.length + 1 + (p.code (xs.length + 1)).length:=by rw [List.length_append,e1,hl]
 refine (exA rfl ⟨r,_,rfl,hr2,by rw [e2]; omega,fun t2 H3 hr3 ht2 g3=>?_⟩)
 have e3:(xs ++ [V.ref t1] ++ ys ++ [V.ref t2]).length = xs.length + (p.code (xs.length + 1)).length + 2:=by rw [List.length_append,e2]; simp; omega
 refine (exA rfl (exA rfl ⟨r,exA rfl ⟨.inl (SqL.of hr3),sz,fun t3 ht3=>?_⟩⟩))
 refine (exA rfl (exA rfl ⟨r,_,_,xs.length,rfl,rfl,Xi hr3 ht3,V4 (by rw [e3]; omega),?_⟩))
 have eL:(xs ++ [V.ref t1] ++ ys ++ [V.ref t2]).set xs.length (.ref t3) = xs ++ [.ref t3] ++ ys ++ [V.ref t2]:=by
  rw [show xs ++ [V.ref t1] ++ ys ++ [V.ref t2] = xs ++ V.ref t1 :: (ys ++ [V.ref t2]) by simp,Jw rfl]
  simp
 rw [eL]
 generalize hH4:upd (upd H3 t3 (.tup [.str "have",.int j,.int ((xs ++ [V.ref t1] ++ ys ++ [V.ref t2]).length:Nat)])) r (.lst (xs ++ [.ref t3] ++ ys ++ [V.ref t2])) = H4
 have g4:Gro [r] H3 H4:=by rw [← hH4]; exact W8 hr3 ht3
 have hr4:H4 r = some (.lst (xs ++ [.ref t3] ++ ys ++ [V.ref t2])):=by rw [← hH4]; exact Z3
 have ht3':H4 t3 = some (.tup [.str "have",.int j,.int ((xs.length:Int) + (p.code (xs.length + 1)).length + 2)]):=by
  rw [← hH4,W7 hr3 ht3,e3]
  simp
 have e4:(xs ++ [V.ref t3] ++ ys ++ [V.ref t2]).length = xs.length + (p.code (xs.length + 1)).length + 2:=by rw [← e3]; simp
 have g14:=((g1.trans g2).trans g3).trans g4
 refine (exA rfl (exA rfl ⟨r,z,_,p',rfl,hp'.mono g14.tups,hr4,by rw [e4]; omega,fun zs H5 hr5 hp5 g5=>?_⟩))
 rw [e4] at hp5
 have hl5:=Paired.length hp5
 refine (exA rfl ⟨r,exA rfl ⟨.inl (SqL.of hr5),sz,fun t6 ht6=>?_⟩⟩)
 have eL2:(xs ++ [V.ref t3] ++ ys ++ [V.ref t2] ++ zs).set (xs.length + 1 + (p.code (xs.length + 1)).length) (.ref t6) = xs ++ (.ref t3 :: (ys ++ .ref t6 :: zs)):=by
  rw [show xs ++ [V.ref t3] ++ ys ++ [V.ref t2] ++ zs = (xs ++ [V.ref t3] ++ ys) ++ V.ref t2 :: zs by simp,Jw (by simp [hl]; omega)]
  simp
 refine (exA rfl (exA rfl ⟨r,_,_,xs.length + 1 + (p.code (xs.length + 1)).length,rfl,rfl,Xi hr5 ht6,by rw [e2]; exact V4 (by rw [List.length_append,e4]; omega),?_⟩))
 rw [eL2]
 generalize hH6:upd (upd H5 t6 (.tup [.str "go",.int ((xs ++ [V.ref t3] ++ ys ++ [V.ref t2] ++ zs).length:Nat)])) r (.lst (xs ++ (.ref t3 :: (ys ++ .ref t6 :: zs)))) = H6
 have g6:Gro [r] H5 H6:=by rw [← hH6]; exact W8 hr5 ht6
 have hr6:H6 r = some (.lst (xs ++ (.ref t3 :: (ys ++ .ref t6 :: zs)))):=by rw [← hH6]; exact Z3
 have ht6':H6 t6 = some (.tup [.str "go",.int ((xs.length:Int) + (p.code (xs.length + 1)).length + 2 + (p'.code (xs.length + (p.code (xs.length + 1)).length + 2)).length)]):=by
  rw [← hH6,W7 hr5 ht6,List.length_append,e4,hl5]
  simp
 refine q _ H6 hr6 ?_ ((g14.trans g5).trans g6)
 exact .cons ⟨t3,rfl,g6.tups _ _ (g5.tups _ _ ht3')⟩ (Zr (Y4 (fun b c h=>g6.tups _ _ (g5.tups _ _ (g4.tups _ _ (g3.tups _ _ h)))) hp2) (.cons ⟨t6,rfl,ht6'⟩ (Y4 g6.tups hp5)))
end
def Lk.pre (l:Lk):List Rw:=match l.leans with
 | true=>[.tup [.str "lean"]]
 | false=>[]
def Lk.post (l:Lk):List Rw:=match l.leans with
 | true=>[.tup [.str "here"]]
 | false=>[]
theorem Jf (l:Lk) (c:Cd) (b:Nat):l.inner c b = l.pre ++ (c (b + 1 + l.pre.length) ++ l.post):=by
 unfold Lk.inner Lk.pre Lk.post
 cases l.leans <;> simp
section
variable {P:Program} {w:World} {K:PySem.W.Frag} {mg:Str→Option Value} {base:Heap} {f:Addr} {fd:FuncData}
def Zcy (D:Ends) (H:Hp) (r:Addr) (xs:List V) (rs:List Rw):Prop:=∀ (σ':L2.St) (ys:List V) (H':Hp),H' r = some (.lst (xs ++ ys))→Paired (RowAt H') ys rs→Gro [r] H H'→D.nx σ' H'
def Zfb (H:Hp) (r:Addr) (xs:List V) (lk:Lk) (v:V) (p:Pat):TS:=fun D σ H1=>∃ (t1:Addr) (pre:List V),σ = [some (.ref r),some (.str lk.text),some v,some (.int xs.length)]∧H1 r = some (.lst (xs ++ .ref t1 :: pre))∧Paired (RowAt H1) pre lk.pre∧Gro [r] H H1∧Zcy D H r xs (U1 lk p.code xs.length)
def Zfa (H:Hp) (r:Addr) (xs:List V) (lk:Lk) (v:V) (p:Pat):TS:=fun D σ H1=>∃ (t1:Addr) (mid:List V),σ = [some (.ref r),some (.str lk.text),some v,some (.int xs.length)]∧H1 r = some (.lst (xs ++ .ref t1 :: mid))∧Paired (RowAt H1) mid (lk.inner p.code xs.length)∧Gro [r] H H1∧Zcy D H r xs (U1 lk p.code xs.length)
abbrev s_put_look:Stmt:=top 10
theorem sc_put_look:FnScope ["rows", "kind", "part", "first"] ["rows", "kind", "part"] (Zb s_put_look):=fsc
theorem Z1a {n k:Nat} {le ls:Addr} (T:Blt mg) (c_LEANING:mg "LEANING" = some (.ref le)) (hLE:∀ H,SqT K H le leaning) (c_LAST_ROWS:mg "LAST_ROWS" = some (.ref ls)) (hLS:DcK K w ls lastRows) (O_hold_place:Own P w K mg base 1 "hold_place" ["rows"] T8) (O_put:Own P w K mg base (2 + k) "put" ["rows", "pattern"] (Jt n))
  (F:Fun K "put_look" "put_look" s_put_look f fd):FnOk P w K mg base CX0 (2 + k + 1) f fd ["rows", "kind", "part"] (Jr n):=by
 refine F.ok sc_put_look (fun vs H Q E h=>?_) (fun cdv A outer s H vs Q E hr h=>?_)
 ·obtain ⟨r,lk,v,xs,p,rfl,_⟩:=h
  rfl
 obtain ⟨r,lk,v,xs,p,rfl,hp,hr0,hz,q⟩:=h
 have hf:=Pat.code_fits p (xs.length + 1 + lk.pre.length)
 have hpre:lk.pre.length ≤ 1∧lk.post.length ≤ 1:=by unfold Lk.pre Lk.post; cases lk.leans <;> simp
 have hin:(lk.inner p.code xs.length).length = lk.pre.length + (p.code (xs.length + 1 + lk.pre.length)).length + lk.post.length:=by rw [Jf]; simp; omega
 refine ltX ?_
 intro Xz
 refine ⟨_,(Z1 (pS 3 sc_put_look.nd (Zk (O_hold_place.mono (by omega)) hr rfl (Z0 (pv 0) Z4)))
  (Z1 (Zo (Z9 Xh (pv 1) (Vq (v:=.ref _) rfl c_LEANING rfl) (by with_unfolding_all rfl)) (Z5 (Zm (X3 PySem.F.plainAttrs_list PySem.F.slot_list_append PySem.F.type_list_append Zy (pv 0) (Z0 (Zj (Z0 Ze Z4)) Z4)))) Zf)
  (Xu (Zfb H r xs lk v p) (Z1 (Zm (Zk (O_put.mono (by omega)) hr rfl (Z0 (pv 0) (Z0 (pv 2) Z4))))
  (Z1 (Zo (Z9 Xh (pv 1) (Vq (v:=.ref _) rfl c_LEANING rfl) (by with_unfolding_all rfl)) (Z5 (Zm (X3 PySem.F.plainAttrs_list PySem.F.slot_list_append PySem.F.type_list_append Zy (pv 0) (Z0 (Zj (Z0 Ze Z4)) Z4)))) Zf)
  (Xu (Zfa H r xs lk v p) (Z1 (Zm (X3 PySem.F.plainAttrs_list PySem.F.slot_list_append PySem.F.type_list_append Zy (pv 0) (Z0 (Zj (Z0 (Z18 (Vq (v:=.ref _) rfl c_LAST_ROWS rfl) (pv 1) (fun _ _=>rfl)) Z4)) Z4)))
  (Z5 (W0 (Vi (Z9 Zs (Z18 (Vq (v:=.ref _) rfl c_LAST_ROWS rfl) (pv 1) (fun _ _=>rfl)) Ze (Zc _)) (Zj (Z0 Ze (Z0 (Zp Zx rfl T.b_len PyProof.Rows.Boot.«len» (Z0 (pv 0) Z4)) Z4))) (Zj (Z0 Ze Z4))) (W1 (pv 0) (pv 3) Yu)))) (fun D1 σ1 H1 hcut=>?cut4)))) (fun D1 σ1 H1 hcut=>?cut2)))),?_⟩
 case cut4 =>
  refine Z29 ?_
  intro Ez Az1
  obtain ⟨t1,mid,rfl,hr1,hm1,g1,q⟩:=hcut
  have hl:=Paired.length hm1
  have e1:(xs ++ V.ref t1 :: mid).length = xs.length + 1 + (lk.inner p.code xs.length).length:=by rw [List.length_append,List.length_cons,hl]; omega
  refine (exA rfl ⟨.inl ⟨rfl,_,SqL.of hr1⟩,exA rfl ⟨ls,lastRows,_,_,rfl,hLS,rfl,Z5r lk,sz,fun t2 ht2=>⟨r,exB rfl rfl ⟨Xi hr1 ht2,big (by omega),?_⟩⟩⟩⟩)
  have g2:Gro [r] H1 _:=W8 (zs:=xs ++ V.ref t1 :: mid ++ [V.ref t2]) (o:=.tup [.str lk.last]) hr1 ht2
  have e2:(xs ++ V.ref t1 :: mid ++ [V.ref t2]).length = xs.length + 2 + (lk.inner p.code xs.length).length:=by rw [List.length_append,e1]; simp; omega
  have eL:∀ t3,(xs ++ V.ref t1 :: mid ++ [V.ref t2]).set xs.length (.ref t3) = xs ++ (.ref t3 :: (mid ++ [.ref t2])):=fun t3=>by
   rw [show xs ++ V.ref t1 :: mid ++ [V.ref t2] = xs ++ V.ref t1 :: (mid ++ [V.ref t2]) by simp,Jw rfl]
  have fin:∀ (t3:Addr) (ws:List V),(upd (upd H1 t2 (.tup [.str lk.last])) r (.lst (xs ++ V.ref t1 :: mid ++ [V.ref t2]))) t3 = none→U1 lk p.code xs.length = .tup ws :: (lk.inner p.code xs.length ++ [.tup [.str lk.last]]) →
    ∀ σ',D1.nx σ' (upd (upd (upd (upd H1 t2 (.tup [.str lk.last])) r (.lst (xs ++ V.ref t1 :: mid ++ [V.ref t2]))) t3 (.tup ws)) r (.lst ((xs ++ V.ref t1 :: mid ++ [V.ref t2]).set xs.length (.ref t3)))):=by
   intro t3 ws ht3 hws σ'
   have g3:=W8 (zs:=(xs ++ V.ref t1 :: mid ++ [V.ref t2]).set xs.length (.ref t3)) (o:=.tup ws) (Z3 (H:=upd H1 t2 (.tup [.str lk.last])) (a:=r) (o:=.lst (xs ++ V.ref t1 :: mid ++ [V.ref t2]))) ht3
   have e3:=W7 (ys:=ws) (zs:=(xs ++ V.ref t1 :: mid ++ [V.ref t2]).set xs.length (.ref t3)) (Z3 (H:=upd H1 t2 (.tup [.str lk.last])) (a:=r) (o:=.lst (xs ++ V.ref t1 :: mid ++ [V.ref t2]))) ht3
   rw [eL] at g3 e3 ⊢
   refine q σ' _ _ Z3 ?_ ((g1.trans g2).trans g3)
   rw [hws]
   exact .cons ⟨t3,rfl,e3⟩ (Zr (Y4 (fun b c h=>g3.tups _ _ (g2.tups _ _ h)) hm1) (.cons ⟨t2,rfl,g3.tups _ _ (W7 hr1 ht2)⟩ .nil))
  refine (exA rfl ⟨ls,lastRows,_,_,rfl,hLS,rfl,Z5r lk,rfl,exA rfl (X7 (fun z=>?_) (fun z=>?_))⟩)
  ·have hb:(lk.last == "barred") = true:=by rw [← Jj]; exact z
   refine (exA rfl ⟨r,exA rfl ⟨.inl (SqL.of Z3),sz,fun t3 ht3=>?_⟩⟩)
   refine (exA rfl (exA rfl ⟨r,_,_,xs.length,rfl,rfl,Xi Z3 ht3,V4 (by rw [e2]; omega),fin t3 _ ht3 ?_ _⟩))
   unfold U1
   rw [hb,e2]
   simp only [List.cons.injEq,and_true,Rw.tup.injEq,V.int.injEq,true_and]
   omega
  ·have hb:(lk.last == "barred") = false:=by rw [← Jj]; simpa using z
   refine ⟨sz,fun t3 ht3=>?_⟩
   refine (exA rfl (exA rfl ⟨r,_,_,xs.length,rfl,rfl,Xi Z3 ht3,V4 (by rw [e2]; omega),fin t3 _ ht3 ?_ _⟩))
   unfold U1
   rw [hb]
 case cut2 =>
  refine Z86 ?_
  intro Ez Az1 Az2 Az3
  obtain ⟨t1,pre,rfl,hr1,hm1,g1,q⟩:=hcut
  have hl:=Paired.length hm1
  have e1:(xs ++ V.ref t1 :: pre).length = xs.length + 1 + lk.pre.length:=by rw [List.length_append,List.length_cons,hl]; omega
  refine (exA rfl (exA rfl ⟨r,v,_,p,rfl,hp.mono g1.tups,hr1,by rw [e1]; omega,fun ys H2 hr2 hp2 g2=>?_⟩))
  rw [e1] at hp2
  have hl2:=Paired.length hp2
  have e2:(xs ++ V.ref t1 :: pre ++ ys).length = xs.length + 1 + lk.pre.length + (p.code (xs.length + 1 + lk.pre.length)).length:=by rw [List.length_append,e1,hl2]
  refine (exA rfl ⟨le,leaning,rfl,.inr (hLE _),rfl,rfl,exA rfl (?_)⟩)
  show if inV (.str lk.text) leaning = true then _ else _
  rw [Z5o]
  refine X7 (fun z=>?_) (fun z=>?_)
  ·refine (exA rfl ⟨.inl ⟨rfl,_,SqL.of hr2⟩,sz,fun t2 ht2=>⟨r,exB rfl rfl ⟨Xi hr2 ht2,big (by omega),?_⟩⟩⟩)
   have g3:Gro [r] H2 _:=W8 (zs:=xs ++ V.ref t1 :: pre ++ ys ++ [V.ref t2]) (o:=.tup [.str "here"]) hr2 ht2
   refine ⟨t1,pre ++ (ys ++ [.ref t2]),rfl,by simp [Z3],?_,(g1.trans g2).trans g3,q⟩
   rw [Jf]
   refine Zr (Y4 (fun b c h=>g3.tups _ _ (g2.tups _ _ h)) hm1) (Zr (Y4 g3.tups hp2) ?_)
   rw [show lk.post = [.tup [.str "here"]] by unfold Lk.post; rw [z]]
   exact .cons ⟨t2,rfl,W7 hr2 ht2⟩ .nil
  ·refine ⟨t1,pre ++ ys,rfl,by rw [hr2]; simp,?_,g1.trans g2,q⟩
   rw [Jf,show lk.post = [] by unfold Lk.post; rw [Bool.eq_false_iff.mpr z],List.append_nil]
   exact Zr (Y4 g2.tups hm1) hp2
 refine Z86 ?_
 intro Ez Az1 Az2 Az3
 refine (exA rfl ⟨r,_,rfl,hr0,by omega,fun t1 H1 hr1 ht1 g1=>?_⟩)
 refine (exA rfl ⟨le,leaning,rfl,.inr (hLE _),rfl,rfl,exA rfl (?_)⟩)
 show if inV (.str lk.text) leaning = true then _ else _
 rw [Z5o]
 have q':Zcy { nx:=fun _ H'=>Q .non H',rt:=Q } H r xs (U1 lk p.code xs.length):=fun _ ys H' h1 h2 h3=>q ys H' h1 h2 h3
 refine X7 (fun z=>?_) (fun z=>?_)
 ·refine (exA rfl ⟨.inl ⟨rfl,_,SqL.of hr1⟩,sz,fun t2 ht2=>⟨r,exB rfl rfl ⟨Xi hr1 ht2,big (by simp; omega),?_⟩⟩⟩)
  have g3:Gro [r] H1 _:=W8 (zs:=xs ++ [V.ref t1] ++ [V.ref t2]) (o:=.tup [.str "lean"]) hr1 ht2
  refine ⟨t1,[.ref t2],rfl,by simp [Z3],?_,g1.trans g3,q'⟩
  rw [show lk.pre = [.tup [.str "lean"]] by unfold Lk.pre; rw [z]]
  exact .cons ⟨t2,rfl,W7 hr1 ht2⟩ .nil
 ·refine ⟨t1,[],rfl,hr1,?_,g1,q'⟩
  rw [show lk.pre = [] by unfold Lk.pre; rw [Bool.eq_false_iff.mpr z]]
  exact .nil
end
theorem Tb (ks:List Pat) (i:Nat):Y7 (ks.take i) + Y7 (ks.drop i) = Y7 ks:=by
 rw [← Wc,List.take_append_drop]
theorem Ux {α:Type} {l:List α} {i:Nat} {x:α} (h:l[i]? = some x):l.drop i = x :: l.drop (i + 1):=by
 obtain ⟨hi,e⟩:=List.getElem?_eq_some_iff.mp h
 rw [← e]
 exact List.drop_eq_getElem_cons hi
section
variable {P:Program} {w:World} {K:PySem.W.Frag} {mg:Str→Option Value} {base:Heap} {f:Addr} {fd:FuncData}
def W2 (b:Nat) (gs:List Nat):List V:=gs.map fun (j:Nat)=>V.int ((b:Int) + (j:Int))
def Zf8 (H:Hp) (r b:Addr) (xs kv:List V) (ks:List Pat):TS:=fun D σ H1=>∃ (g:Addr) (ys:List V) (br tr:Option V),σ = [some (.ref r),some (.ref b),some (.ref g),br,tr,none]∧r ≠ g∧H g = none∧H1 r = some (.lst (xs ++ ys))∧Paired (RowAt H1) ys (Vf [] ((ks.take (kv.length - 1)).map Pat.code) xs.length) ∧
 H1 g = some (.lst (W2 xs.length (Z17 ((ks.take (kv.length - 1)).map Pat.code) xs.length 0)))∧Gro [r] H H1∧Zcy D H r xs (orC (ks.map Pat.code) xs.length)
abbrev s_put_or:Stmt:=top 7
theorem sc_put_or:FnScope ["rows", "branches", "goes", "branch", "tried", "place"] ["rows", "branches"] (Zb s_put_or):=fsc
theorem Z5d {n k:Nat} (T:Blt mg) (O_hold_place:Own P w K mg base 1 "hold_place" ["rows"] T8) (O_put:Own P w K mg base (2 + k) "put" ["rows", "pattern"] (Jt n)) (F:Fun K "put_or" "put_or" s_put_or f fd):FnOk P w K mg base CX0 (2 + k + 1) f fd ["rows", "branches"] (Z4k n):=by
 refine F.ok sc_put_or (fun vs H Q E h=>?_) (fun cdv A outer s H vs Q E hr h=>?_)
 ·obtain ⟨r,b,xs,kv,ks,rfl,_⟩:=h
  rfl
 obtain ⟨r,b,xs,kv,ks,rfl,hb,hk,h1,h10,hr0,hz,q⟩:=h
 have hkl:=Paired.length hk
 refine ltX ?_
 intro Xz
 refine ⟨_,(Z1 (pS 2 sc_put_or.nd (Zv Z4))
  (Z1 (Xl PassesOwn.never rfl (Vg (Y1 Xk (pv 1) Yf (Y3 (Uj W9 Z2)))) (pN 3 sc_put_or.nd) (Z1 (pS 4 sc_put_or.nd (Zk (O_hold_place.mono (by omega)) hr rfl (Z0 (pv 0) Z4)))
  (Z1 (Zm (Zk (O_put.mono (by omega)) hr rfl (Z0 (pv 0) (Z0 (pv 3) Z4))))
  (Z1 (Zm (X3 PySem.F.plainAttrs_list PySem.F.slot_list_append PySem.F.type_list_append Zy (pv 2) (Z0 (Zk (O_hold_place.mono (by omega)) hr rfl (Z0 (pv 0) Z4)) Z4)))
  (Z5 (W0 (Zj (Z0 Ze (Z0 (Zp Zx rfl T.b_len PyProof.Rows.Boot.«len» (Z0 (pv 0) Z4)) Z4))) (W1 (pv 0) (pv 4) Yu)))))))
  (Xu (Zf8 H r b xs kv ks) (Z1 (Zm (Zk (O_put.mono (by omega)) hr rfl (Z0 (pv 0) (Z0 (Z8 Z6 (pv 1) (Uj W9 Z2) (fun _ _=>rfl)) Z4))))
  (Z5 (Xl PassesOwn.never rfl (We (pv 2)) (pN 5 sc_put_or.nd) (Z5 (W0 (Zj (Z0 Ze (Z0 (Zp Zx rfl T.b_len PyProof.Rows.Boot.«len» (Z0 (pv 0) Z4)) Z4))) (W1 (pv 0) (pv 5) Yu)))))) (fun D1 σ1 H1 hcut=>?cut2)))),?_⟩
 case cut2 =>
  refine Zby ?_
  intro Ez Az1 Az2
  obtain ⟨g,ys,br,tr,rfl,rg,hgn,hr1,hy1,hg1,g1,q⟩:=hcut
  have hl:=Paired.length hy1
  have hpf:=Ug (ks.take (kv.length - 1)) xs.length
  have hne:ks ≠ []:=fun z=>by rw [z,List.length_nil] at hkl; omega
  obtain ⟨d,hd⟩:∃ d,ks[kv.length - 1]? = some d:=⟨ks[kv.length - 1]'(by omega),List.getElem?_eq_getElem (by omega)⟩
  obtain ⟨vd,hvd⟩:∃ vd,kv[kv.length - 1]? = some vd:=⟨kv[kv.length - 1]'(by omega),List.getElem?_eq_getElem (by omega)⟩
  obtain ⟨d',hd',hpd⟩:=Y2 hk hvd
  rw [hd] at hd'
  cases hd'
  have hks:ks = ks.take (kv.length - 1) ++ [d]:=by
   have:=List.take_append_drop (kv.length - 1) ks
   rw [Ux hd,show kv.length - 1 + 1 = ks.length by omega,List.drop_length] at this
   exact this.symm
  have hss:Y7 (ks.take (kv.length - 1)) + d.size = Y7 ks:=by
   rw [← Yx d,← Wc,← hks]
  generalize hT:ks.take (kv.length - 1) = ts at hy1 hg1 hl hpf hks hss
  have e1:(xs ++ ys).length = xs.length + (Vf [] (ts.map Pat.code) xs.length).length:=by rw [List.length_append,hl]
  refine ⟨_,rfl,_,rfl,_,rfl,b,kv,_,_,rfl,rfl,SqT.of (g1.tups _ _ hb),Zad (by rw [List.getLast?_eq_getElem?]; exact hvd),?_⟩
  refine ⟨r,vd,_,d,rfl,hpd.mono g1.tups,hr1,by rw [e1]; omega,fun zs H2 hr2 hz2 g2=>?_⟩
  rw [e1] at hz2
  have hl2:=Paired.length hz2
  have rg':g ∉ [r]:=by simpa using Ne.symm rg
  have hg2:=g2.keep g _ hg1 rg'
  have alt:∀ G,Xr G (ks.map Pat.code) xs.length = Vf G (ts.map Pat.code) xs.length ++ d.code (xs.length + (Vf G (ts.map Pat.code) xs.length).length):=fun G=>by
   rw [hks,List.map_append]
   exact Z0v G _ d.code _
  have hgo:Z17 (ts.map Pat.code) xs.length 0 = goes (ks.map Pat.code) xs.length 0:=by
   rw [hks,List.map_append]
   exact (Z0m _ d.code _ _).symm
  have halen:(ys ++ zs).length = (Xr [] (ks.map Pat.code) xs.length).length:=by rw [alt,List.length_append,List.length_append,hl,hl2]
  rw [hgo] at hg2
  have hy2:Paired (RowAt H2) (ys ++ zs) (Xr [] (ks.map Pat.code) xs.length):=by
   rw [alt]
   exact Zr (Y4 g2.tups hy1) hz2
  have hlt:=Z7u (ks.map Pat.code) xs.length
  have hset:=U9 [] (goV ((xs.length:Int) + (Xr [] (ks.map Pat.code) xs.length).length)) (ks.map Pat.code) xs.length []
  generalize goes (ks.map Pat.code) xs.length 0 = gs at *
  refine (exA rfl ⟨g,rfl,⟨_,SqL.of hg2⟩,?_⟩)
  refine Ji (xs:=W2 xs.length gs) (fun i σ H'=>∃ (ws:List V) (pl:Option V),σ = [some (.ref r),some (.ref b),some (.ref g),br,tr,pl]∧H' r = some (.lst (xs ++ ws))∧Paired (RowAt H') ws (Vb (.tup (goV ((xs.length:Int) + (Xr [] (ks.map Pat.code) xs.length).length))) (gs.take i) (Xr [] (ks.map Pat.code) xs.length))∧H' g = some (.lst (W2 xs.length gs))∧Gro [r] H2 H')
   ⟨ys ++ zs,none,rfl,by rw [hr2]; simp,hy2,hg2,Gro.refl⟩ (fun i σ H' _ hh=>by obtain ⟨_,_,_,_,_,e,_⟩:=hh; exact SqL.of e) ?_ ?_
  ·rintro i x σ H3 hx ⟨ws,pl,rfl,hr3,hw3,hg3,g3⟩
   obtain ⟨j,hj,rfl⟩:∃ j,gs[i]? = some j∧x = .int ((xs.length:Int) + j):=by
    unfold W2 at hx
    rw [List.getElem?_map] at hx
    obtain ⟨j,h1,h2⟩:=Option.map_eq_some_iff.mp hx
    exact ⟨j,h1,h2.symm⟩
   have hjl:=hlt j (List.mem_of_getElem? hj)
   have hwl:=Paired.length hw3
   rw [Td] at hwl
   have elen:((xs ++ ws).length:Int) = (xs.length:Int) + (Xr [] (ks.map Pat.code) xs.length).length:=by rw [List.length_append,hwl]; simp
   refine (exA rfl ⟨r,exA rfl ⟨.inl (SqL.of hr3),sz,fun t3 ht3=>?_⟩⟩)
   refine (exA rfl (exA rfl ⟨r,_,_,xs.length + j,rfl,rfl,Xi hr3 ht3,by rw [show (xs.length:Int) + (j:Int) = ((xs.length + j:Nat):Int) by omega]; exact V4 (by rw [List.length_append]; omega),?_⟩))
   have eS:(xs ++ ws).set (xs.length + j) (.ref t3) = xs ++ ws.set j (.ref t3):=by rw [List.set_append_right _ _ (by omega)]; congr 1; congr 1; omega
   rw [eS]
   have g4:Gro [r] H3 (upd (upd H3 t3 (.tup [.str "go",.int ((xs ++ ws).length:Nat)])) r (.lst (xs ++ ws.set j (.ref t3)))):=W8 hr3 ht3
   have et:=W7 (ys:=[.str "go",.int ((xs ++ ws).length:Nat)]) (zs:=xs ++ ws.set j (.ref t3)) hr3 ht3
   rw [elen] at g4 et ⊢
   refine ⟨ws.set j (.ref t3),exA rfl ⟨Z3,?_,g4.keep g _ hg3 rg',g3.trans g4⟩⟩
   have:Vb (.tup (goV ((xs.length:Int) + (Xr [] (ks.map Pat.code) xs.length).length))) (gs.take (i + 1)) (Xr [] (ks.map Pat.code) xs.length) = (Vb (.tup (goV ((xs.length:Int) + (Xr [] (ks.map Pat.code) xs.length).length))) (gs.take i) (Xr [] (ks.map Pat.code) xs.length)).set j (.tup (goV ((xs.length:Int) + (Xr [] (ks.map Pat.code) xs.length).length))):=by
    rw [Y9 hj]
    unfold Vb
    rw [List.foldl_append]
    rfl
   rw [this]
   exact Th ⟨t3,rfl,et⟩ j (Y4 g4.tups hw3)
  ·rintro σ H3 ⟨ws,pl,rfl,hr3,hw3,hg3,g3⟩
   refine q _ ws H3 hr3 ?_ ((g1.trans g2).trans g3)
   rw [show (W2 xs.length gs).length = gs.length by simp [W2],List.take_length] at hw3
   rw [show Vb (.tup (goV ((xs.length:Int) + (Xr [] (ks.map Pat.code) xs.length).length))) gs (Xr [] (ks.map Pat.code) xs.length) = orC (ks.map Pat.code) xs.length from hset] at hw3
   exact hw3
 refine Zbl ?_
 intro Ez Az1 Az2 Az3 Az4 Az5 Az6
 refine ⟨sz,fun g hg=>?_⟩
 have rg:r ≠ g:=Z7 hr0 hg
 obtain ⟨ec,ew⟩:=Z7w h1
 have q':Zcy { nx:=fun _ H'=>Q .non H',rt:=Q } H r xs (orC (ks.map Pat.code) xs.length):=fun _ ys H' h1 h2 h3=>q ys H' h1 h2 h3
 refine (exA rfl (exA rfl (exA rfl ⟨b,kv,rfl,SqT.of ((Gro.new (S:=[]) hg _).tups _ _ hb),ew,fun s1 hs1=>⟨s1,rfl,⟨_,SqT.of Z3⟩,?_⟩⟩)))
 rw [ec]
 have g0:Gro [r] H (upd (upd H g (.lst [])) s1 (.tup (kv.take (kv.length - 1)))):=(Gro.new hg _).tup hs1
 have hg0:(upd (upd H g (.lst [])) s1 (.tup (kv.take (kv.length - 1)))) g = some (.lst []):=by rw [Zl (Z7 Z3 hs1)]; exact Z3
 have hr0':(upd (upd H g (.lst [])) s1 (.tup (kv.take (kv.length - 1)))) r = some (.lst xs):=by rw [Zl (Z7 (Xi hr0 hg) hs1)]; exact Xi hr0 hg
 have hs0:(upd (upd H g (.lst [])) s1 (.tup (kv.take (kv.length - 1)))) s1 = some (.tup (kv.take (kv.length - 1))):=Z3
 generalize upd (upd H g (.lst [])) s1 (.tup (kv.take (kv.length - 1))) = H0 at g0 hg0 hr0' hs0 ⊢
 refine Uv (xs:=kv.take (kv.length - 1)) (fun i σ H'=>∃ (ys:List V) (br tr:Option V),σ = [some (.ref r),some (.ref b),some (.ref g),br,tr,none]∧H' r = some (.lst (xs ++ ys))∧Paired (RowAt H') ys (Vf [] ((ks.take i).map Pat.code) xs.length)∧H' g = some (.lst (W2 xs.length (Z17 ((ks.take i).map Pat.code) xs.length 0)))∧Gro [r] H H'∧Gro [r,g] H0 H')
  ⟨[],none,none,rfl,by simpa using hr0',.nil,hg0,g0,Gro.refl⟩ (fun i σ H' _ hh=>by obtain ⟨_,_,_,_,_,_,_,_,gg⟩:=hh; exact SqT.of (gg.tups _ _ hs0)) ?_ ?_
 ·rintro i x σ H1 hx ⟨ys,br,tr,rfl,hr1,hy1,hg1,g1,gg1⟩
  have hi:i < kv.length - 1:=by
   have:=(List.getElem?_eq_some_iff.mp hx).1
   rw [List.length_take] at this
   omega
  have hx':kv[i]? = some x:=by rw [List.getElem?_take_of_lt hi] at hx; exact hx
  obtain ⟨p,hpi,hpx⟩:=Y2 hk hx'
  have hl:=Paired.length hy1
  have hpf:=Ug (ks.take i) xs.length
  have hsp:Y7 (ks.take i) + p.size ≤ Y7 ks:=by
   have:=Tb ks i
   rw [Ux hpi,Y7] at this
   omega
  generalize hM:xs.length + (Vf [] ((ks.take i).map Pat.code) xs.length).length = m
  have e1:(xs ++ ys).length = m:=by rw [List.length_append,hl,hM]
  have hf:=Pat.code_fits p (m + 1)
  refine (exA rfl ⟨r,_,rfl,hr1,by omega,fun t1 H2 hr2 ht1 g2=>?_⟩)
  have e2:(xs ++ ys ++ [V.ref t1]).length = m + 1:=by rw [List.length_append,e1]; rfl
  have g12:=g1.trans g2
  refine (exA rfl (exA rfl ⟨r,x,_,p,rfl,hpx.mono g12.tups,hr2,by rw [e2]; omega,fun zs H3 hr3 hz3 g3=>?_⟩))
  rw [e2] at hz3
  have hl3:=Paired.length hz3
  have g23:=g2.trans g3
  have rg':g ∉ [r]:=by simpa using Ne.symm rg
  have hg3:=g23.keep g _ hg1 rg'
  have e3:(xs ++ ys ++ [V.ref t1] ++ zs).length = m + 1 + (p.code (m + 1)).length:=by rw [List.length_append,e2,hl3]
  refine (exA rfl ⟨.inl ⟨rfl,_,SqL.of hg3⟩,exA rfl ⟨r,_,rfl,hr3,by rw [e3]; omega,fun t2 H4 hr4 ht2 g4=>?_⟩⟩)
  have hg4:=g4.keep g _ hg3 rg'
  have hgl:(W2 xs.length (Z17 ((ks.take i).map Pat.code) xs.length 0)).length ≤ 1000:=by
   have:∀ (cs:List Cd) (b s:Nat),(Z17 cs b s).length = cs.length:=by
    intro cs
    induction cs with
    | nil=>intro b s; rfl
    | cons c cs ih=>intro b s; rw [Z17,List.length_cons,ih,List.length_cons]
   simp only [W2,List.length_map,this,List.length_take]
   omega
  refine ⟨g,exB rfl rfl ⟨hg4,Yo hgl,?_⟩⟩
  generalize hH5:upd H4 g (.lst (W2 xs.length (Z17 ((ks.take i).map Pat.code) xs.length 0) ++ [V.int ((xs ++ ys ++ [V.ref t1] ++ zs).length:Nat)])) = H5
  have g5:Gro [g] H4 H5:=by rw [← hH5]; exact Gro.set (by simp) hg4 _
  have hr5:H5 r = some (.lst (xs ++ ys ++ [V.ref t1] ++ zs ++ [.ref t2])):=by rw [← hH5,Zl rg]; exact hr4
  have hg5:H5 g = some (.lst (W2 xs.length (Z17 ((ks.take (i + 1)).map Pat.code) xs.length 0))):=by
   rw [← hH5,Z3,Y9 hpi,List.map_append,List.map_singleton,Z04 _ _ _ _ m hM.symm]
   unfold W2
   rw [List.map_append,List.map_singleton,e3]
   congr 3
   simp only [List.cons.injEq,V.int.injEq,and_true]
   omega
  have e5:(xs ++ ys ++ [V.ref t1] ++ zs ++ [V.ref t2]).length = m + (p.code (m + 1)).length + 2:=by rw [List.length_append,e3]; simp; omega
  refine (exA rfl ⟨r,exA rfl ⟨.inl (SqL.of hr5),sz,fun t6 ht6=>?_⟩⟩)
  refine (exA rfl (exA rfl ⟨r,_,_,m,rfl,rfl,Xi hr5 ht6,by rw [e1]; exact V4 (by rw [e5]; omega),?_⟩))
  have eL:(xs ++ ys ++ [V.ref t1] ++ zs ++ [V.ref t2]).set m (.ref t6) = xs ++ (ys ++ (.ref t6 :: (zs ++ [.ref t2]))):=by
   rw [show xs ++ ys ++ [V.ref t1] ++ zs ++ [V.ref t2] = (xs ++ ys) ++ V.ref t1 :: (zs ++ [V.ref t2]) by simp,Jw e1.symm]
   simp
  rw [eL]
  have g6:Gro [r] H5 (upd (upd H5 t6 (.tup [.str "try",.int ((xs ++ ys ++ [V.ref t1] ++ zs ++ [V.ref t2]).length:Nat)])) r (.lst (xs ++ (ys ++ (.ref t6 :: (zs ++ [.ref t2])))))):=W8 hr5 ht6
  have et:=W7 (ys:=[.str "try",.int ((xs ++ ys ++ [V.ref t1] ++ zs ++ [V.ref t2]).length:Nat)]) (zs:=xs ++ (ys ++ (.ref t6 :: (zs ++ [.ref t2])))) hr5 ht6
  rw [e5] at g6 et ⊢
  have k16:∀ b c,H1 b = some (.tup c)→_:=fun b c h=>g6.tups b c (g5.tups _ _ (g4.tups _ _ (g23.tups _ _ h)))
  have k36:∀ b c,H3 b = some (.tup c)→_:=fun b c h=>g6.tups b c (g5.tups _ _ (g4.tups _ _ h))
  have g15:Gro [r,g] H1 _:=(((g23.trans g4).mono (by simp)).trans (g5.mono (by simp))).trans (g6.mono (by simp))
  refine ⟨ys ++ (.ref t6 :: (zs ++ [.ref t2])),_,_,rfl,Z3,?_,g6.keep g _ hg5 rg',?_,gg1.trans g15⟩
  ·rw [Y9 hpi,List.map_append,List.map_singleton,Z05 _ _ _ _ m hM.symm]
   refine Zr (Y4 k16 hy1) (.cons ⟨t6,rfl,?_⟩ (Zr (Y4 k36 hz3) (.cons ⟨t2,rfl,?_⟩ .nil)))
   ·rw [et]
    congr 5
   ·exact g6.tups _ _ (g5.tups _ _ ht2)
  ·have:=(g0.mono (S':=[r,g]) (by simp)).trans (gg1.trans g15)
   refine ⟨fun c o hc hcr=>this.keep c o hc ?_,this.tups⟩
   have:c ≠ g:=Z7 hc hg
   simp at hcr ⊢
   exact ⟨hcr,this⟩
 ·rintro σ H1 ⟨ys,br,tr,rfl,hr1,hy1,hg1,g1,gg1⟩
  rw [List.length_take,show min (kv.length - 1) kv.length = kv.length - 1 by omega] at hy1 hg1
  exact ⟨g,ys,br,tr,rfl,rg,hg,hr1,hy1,hg1,g1,q'⟩
end
theorem Z00:∀ (cs:List Cd) (c:Cd) (b m:Nat),m = b + (Z01 cs b).length→Z01 (cs ++ [c]) b = Z01 cs b ++ c m
 | [],c,b,m,h=>by rw [show m = b from h]; simp [Z01]
 | d :: cs,c,b,m,h=>by
  rw [Z01,List.length_append] at h
  rw [List.cons_append,Z01,Z00 cs c (b + (d b).length) m (by omega),Z01,List.append_assoc]
theorem Wn {α β:Type} {F:α→β→Prop} {x:α} {ys:List β} (h:Paired F [x] ys):∃ y,ys = [y]∧F x y:=by
 cases h with
 | cons r t=>cases t; exact (exA rfl r)
theorem Z3j {α β:Type} {F:α→β→Prop} {x x':α} {ys:List β} (h:Paired F [x,x'] ys):∃ y y',ys = [y,y']∧F x y∧F x' y':=by
 cases h with
 | cons r t =>
  obtain ⟨y,rfl,h'⟩:=Wn t
  exact ⟨_,_,rfl,r,h'⟩
section
variable {P:Program} {w:World} {K:PySem.W.Frag} {mg:Str→Option Value} {base:Heap} {f:Addr} {fd:FuncData}
abbrev Z8p:How→Prop:=fun _=>True
abbrev s_put:Stmt:=top 5
theorem sc_put:FnScope ["rows", "pattern", "kind", "part"] ["rows", "pattern"] (Zb s_put):=fsc
theorem Zca {n k:Nat} {it:Addr} (T:Blt mg) (c_ITSELF:mg "ITSELF" = some (.ref it)) (hIT:∀ H,SqT K H it itself) (O_put:Own P w K mg base (2 + k) "put" ["rows", "pattern"] (Jt n)) (O_put_or:Own P w K mg base (2 + k + 1) "put_or" ["rows", "branches"] (Z4k n)) (O_put_times:Own P w K mg base (2 + k + 2) "put_times" ["rows", "low", "high", "how", "part"] (Xc Z8p n))
  (O_put_have:Own P w K mg base (2 + k + 1) "put_have" ["rows", "number", "yes", "no"] (Js n)) (O_put_look:Own P w K mg base (2 + k + 1) "put_look" ["rows", "kind", "part"] (Jr n)) (F:Fun K "put" "put" s_put f fd):FnOk P w K mg base CX0 (2 + k + 3) f fd ["rows", "pattern"] (Jt (n + 1)):=by
 refine F.ok sc_put (fun vs H Q E h=>?_) (fun cdv A outer s H vs Q E hr h=>?_)
 ·obtain ⟨r,v,xs,p,rfl,_⟩:=h
  rfl
 obtain ⟨r,v,xs,⟨h,ks⟩,rfl,hp,hr0,hz,q⟩:=h
 refine ltX ?_
 intro Xz
 refine ⟨_,(Z1 (pS 2 sc_put.nd (Z8 Z6 (pv 1) Z2 (fun _ _=>rfl)))
  (Z5 (Zo (Z9 Xh (pv 2) (Vq (v:=.ref _) rfl c_ITSELF rfl) (by with_unfolding_all rfl)) (Z5 (Zm (X3 PySem.F.plainAttrs_list PySem.F.slot_list_append PySem.F.type_list_append Zy (pv 0) (Z0 (pv 1) Z4)))) (Z5 (Zo (Z9 Zs (pv 2) Ze (Zc _)) (Z5 (Xl PassesOwn.never rfl (Vg (Z8 Z6 (pv 1) Z2 (fun _ _=>rfl))) (pN 3 sc_put.nd) (Z5 (Zm (Zk (O_put.mono (by omega)) hr rfl (Z0 (pv 0) (Z0 (pv 3) Z4))))))) (Z5 (Zo (Z9 Zs (pv 2) Ze (Zc _)) (Z5 (Zm (Zk (O_put_or.mono (by omega)) hr rfl (Z0 (pv 0) (Z0 (Z8 Z6 (pv 1) Z2 (fun _ _=>rfl)) Z4))))) (Z5 (Zo (Z9 Zs (pv 2) Ze (Zc _)) (Z5 (Zm (Zk (O_put_times.mono (by omega)) hr rfl (Z0 (pv 0) (Z0 (Z8 Z6 (pv 1) Z2 (fun _ _=>rfl)) (Z0 (Z8 Z6 (pv 1) Z2 (fun _ _=>rfl)) (Z0 (Z8 Z6 (pv 1) Z2 (fun _ _=>rfl)) (Z0 (Z8 Z6 (pv 1) Z2 (fun _ _=>rfl)) Z4)))))))) (Z5 (Zo (Z9 Zs (pv 2) Ze (Zc _)) (Z1 (Zm (X3 PySem.F.plainAttrs_list PySem.F.slot_list_append PySem.F.type_list_append Zy (pv 0) (Z0 (Zj (Z0 Ze Z4)) Z4)))
  (Z1 (Zm (Zk (O_put.mono (by omega)) hr rfl (Z0 (pv 0) (Z0 (Z8 Z6 (pv 1) Z2 (fun _ _=>rfl)) Z4))))
  (Z5 (Zm (X3 PySem.F.plainAttrs_list PySem.F.slot_list_append PySem.F.type_list_append Zy (pv 0) (Z0 (Zj (Z0 Ze (Z0 (Z8 Z6 (pv 1) Z2 (fun _ _=>rfl)) Z4))) Z4)))))) (Z5 (Zo (Z9 Zs (pv 2) Ze (Zc _)) (Z5 (Zm (Zk (O_put_have.mono (by omega)) hr rfl (Z0 (pv 0) (Z0 (Z8 Z6 (pv 1) Z2 (fun _ _=>rfl)) (Z0 (Z8 Z6 (pv 1) Z2 (fun _ _=>rfl)) (Z0 (Z8 Z6 (pv 1) Z2 (fun _ _=>rfl)) Z4))))))) (Z5 (Zm (Zk (O_put_look.mono (by omega)) hr rfl (Z0 (pv 0) (Z0 (pv 2) (Z0 (Z8 Z6 (pv 1) Z2 (fun _ _=>rfl)) Z4))))))))))))))))))),?_⟩
 refine Zb3 ?_
 intro Ez Az1 Az2 Az3 Az4 Az5 Az6 Az7 Az8 Az9 Az10 Az11 Az12 Az13 Az14 Az15 Az16
 rw [Uz] at q
 rw [Yr] at hz
 obtain ⟨a,kv,rfl,lay,hk⟩:=id hp
 obtain ⟨r0,ea⟩:=lay.head
 refine (ixT ea at0 (?_))
 refine (exA rfl ⟨it,itself,rfl,.inr (hIT _),rfl,rfl,exA rfl (?_)⟩)
 show if inV (.str h.word) itself = true then _ else _
 rw [Z6l]
 refine X7 (fun z=>?_) (fun z=>?_)
 ·refine (exA rfl ⟨.inl ⟨rfl,_,SqL.of hr0⟩,exA rfl ⟨r,xs,exA rfl ⟨rfl,hr0,big (by omega),?_⟩⟩⟩)
  have g1:Gro [r] H (upd H r (.lst (xs ++ [.ref a]))):=Gro.set (by simp) hr0 _
  refine q [.ref a] _ Z3 ?_ g1
  rw [Z5p z]
  exact .cons ((hp.leafy z).mono g1.tups) .nil
 cases h with
 | row =>
  obtain ⟨z10,b,e,er⟩:=lay
  refine (exA rfl ⟨rfl,exA rfl (Zg (by decide +kernel) ?_)⟩)
  refine (ixT e rfl ⟨b,rfl,⟨_,SqT.of er⟩,?_⟩)
  have hkl:=Paired.length hk
  refine Uv (xs:=kv) (fun i σ H'=>∃ (ys:List V) (pt:Option V),σ = [some (.ref r),some (.ref a),some (.str "row"),pt]∧H' r = some (.lst (xs ++ ys))∧Paired (RowAt H') ys (Z01 ((ks.take i).map Pat.code) xs.length)∧Gro [r] H H')
   ⟨[],none,rfl,by simpa using hr0,.nil,Gro.refl⟩ (fun i σ H' _ hh=>by obtain ⟨_,_,_,_,_,g⟩:=hh; exact SqT.of (g.tups _ _ er)) ?_ ?_
  ·rintro i x σ H1 hx ⟨ys,pt,rfl,hr1,hy1,g1⟩
   obtain ⟨p,hpi,hpx⟩:=Y2 hk hx
   have hl:=Paired.length hy1
   have hrf:=Ue (ks:=ks.take i) (fun k _=>Pat.code_fits k) xs.length
   have hsp:Y7 (ks.take i) + p.size ≤ Y7 ks:=by
    have:=Tb ks i
    rw [Ux hpi,Y7] at this
    omega
   have e1:(xs ++ ys).length = xs.length + (Z01 ((ks.take i).map Pat.code) xs.length).length:=by rw [List.length_append,hl]
   refine (exA rfl (exA rfl ⟨r,x,_,p,rfl,hpx.mono g1.tups,hr1,by rw [e1]; omega,fun zs H2 hr2 hz2 g2=>?_⟩))
   refine ⟨ys ++ zs,exA rfl ⟨by rw [hr2,List.append_assoc],?_,g1.trans g2⟩⟩
   rw [Y9 hpi,List.map_append,List.map_singleton,Z00 _ _ _ _ rfl]
   rw [e1] at hz2
   exact Zr (Y4 g2.tups hy1) hz2
  ·rintro σ H1 ⟨ys,pt,rfl,hr1,hy1,g1⟩
   rw [hkl,List.take_length] at hy1
   exact q ys H1 hr1 hy1 g1
 | alt =>
  obtain ⟨z1,z10,b,e,er⟩:=lay
  refine (exA rfl ⟨rfl,exA rfl (Zd (by decide +kernel) ?_)⟩)
  refine (exA rfl ⟨rfl,exA rfl (Zg (by decide +kernel) ?_)⟩)
  exact (exA rfl (ixT e rfl ⟨r,b,xs,kv,ks,rfl,er,hk,z1,z10,hr0,by omega,fun ys H' h1 h2 h3=>q ys H' h1 h2 h3⟩))
 | times lo hi how =>
  obtain ⟨_,k,e0,e⟩:=lay
  subst e0
  refine (exA rfl ⟨rfl,exA rfl (Zd (show ¬ isw "times" "row" = true by decide +kernel) ?_)⟩)
  refine (exA rfl ⟨rfl,exA rfl (Zd (show ¬ isw "times" "or" = true by decide +kernel) ?_)⟩)
  refine (exA rfl ⟨rfl,exA rfl (Zg (show isw "times" "times" = true by decide +kernel) ?_)⟩)
  obtain ⟨p,rfl,hpk⟩:=Wn hk
  rw [Yx] at hz
  exact (exA rfl (ixT e rfl (ixT e rfl (ixT e rfl (ixT e rfl ⟨r,lo,hi,how,k,xs,p,rfl,trivial,hpk,hr0,by cases how <;> simp only [How.ext] <;> omega,fun ys H' h1 h2 h3=>q ys H' h1 h2 h3⟩)))))
 | grp j =>
  obtain ⟨_,k,e0,e⟩:=lay
  subst e0
  refine (exA rfl ⟨rfl,exA rfl (Zd (show ¬ isw "group" "row" = true by decide +kernel) ?_)⟩)
  refine (exA rfl ⟨rfl,exA rfl (Zd (show ¬ isw "group" "or" = true by decide +kernel) ?_)⟩)
  refine (exA rfl ⟨rfl,exA rfl (Zd (show ¬ isw "group" "times" = true by decide +kernel) ?_)⟩)
  refine (exA rfl ⟨rfl,exA rfl (Zg (show isw "group" "group" = true by decide +kernel) ?_)⟩)
  obtain ⟨p,rfl,hpk⟩:=Wn hk
  rw [Yx] at hz
  have hf:=Pat.code_fits p (xs.length + 1)
  refine (exA rfl ⟨.inl ⟨rfl,_,SqL.of hr0⟩,sz,fun t ht=>⟨r,xs,exA rfl ⟨rfl,Xi hr0 ht,big (by omega),?_⟩⟩⟩)
  have g1:Gro [r] H _:=W8 (zs:=xs ++ [V.ref t]) (o:=.tup [.str "open"]) hr0 ht
  have e1:(xs ++ [V.ref t]).length = xs.length + 1:=by simp
  refine (exA rfl (ixT (g1.tups _ _ e) rfl ⟨r,k,_,p,rfl,hpk.mono g1.tups,Z3,by rw [e1]; omega,fun ys H2 hr2 hp2 g2=>?_⟩))
  rw [e1] at hp2
  have hl:=Paired.length hp2
  have hl2:(xs ++ [V.ref t] ++ ys).length ≤ 1000000:=by rw [List.length_append,e1,hl]; omega
  refine (exA rfl ⟨.inl ⟨rfl,_,SqL.of hr2⟩,ixT (g2.tups _ _ (g1.tups _ _ e)) rfl ⟨sz,fun t2 ht2=>⟨r,exB rfl rfl ⟨Xi hr2 ht2,big hl2,?_⟩⟩⟩⟩)
  have g3:Gro [r] H2 _:=W8 (zs:=xs ++ [V.ref t] ++ ys ++ [V.ref t2]) (o:=.tup [.str "close",.int j]) hr2 ht2
  have et:H2 t = some (.tup [.str "open"]):=g2.tups _ _ (W7 hr0 ht)
  refine q (.ref t :: (ys ++ [.ref t2])) _ (by simp [Z3]) ?_ ((g1.trans g2).trans g3)
  exact .cons ⟨t,rfl,g3.tups _ _ et⟩ (Zr (Y4 g3.tups hp2) (.cons ⟨t2,rfl,W7 hr2 ht2⟩ .nil))
 | hav j =>
  obtain ⟨_,y,z',e0,e⟩:=lay
  subst e0
  refine (exA rfl ⟨rfl,exA rfl (Zd (show ¬ isw "have" "row" = true by decide +kernel) ?_)⟩)
  refine (exA rfl ⟨rfl,exA rfl (Zd (show ¬ isw "have" "or" = true by decide +kernel) ?_)⟩)
  refine (exA rfl ⟨rfl,exA rfl (Zd (show ¬ isw "have" "times" = true by decide +kernel) ?_)⟩)
  refine (exA rfl ⟨rfl,exA rfl (Zd (show ¬ isw "have" "group" = true by decide +kernel) ?_)⟩)
  refine (exA rfl ⟨rfl,exA rfl (Zg (show isw "have" "have" = true by decide +kernel) ?_)⟩)
  obtain ⟨p,p',rfl,hpk,hpk'⟩:=Z3j hk
  rw [Y7,Yx] at hz
  exact (exA rfl (ixT e rfl (ixT e rfl (ixT e rfl ⟨r,j,y,z',xs,p,p',rfl,hpk,hpk',hr0,by omega,fun ys H' h1 h2 h3=>q ys H' h1 h2 h3⟩))))
 | look lk =>
  obtain ⟨k,e0,e⟩:=lay
  subst e0
  have t:isw lk.text "row" = false∧isw lk.text "or" = false∧isw lk.text "times" = false∧isw lk.text "group" = false∧isw lk.text "have" = false:=by cases lk <;> decide +kernel
  obtain ⟨t1,t2,t3,t4,t5⟩:=t
  refine (exA rfl ⟨rfl,exA rfl (Zd (show ¬ isw lk.text "row" = true by rw [t1]; decide) ?_)⟩)
  refine (exA rfl ⟨rfl,exA rfl (Zd (show ¬ isw lk.text "or" = true by rw [t2]; decide) ?_)⟩)
  refine (exA rfl ⟨rfl,exA rfl (Zd (show ¬ isw lk.text "times" = true by rw [t3]; decide) ?_)⟩)
  refine (exA rfl ⟨rfl,exA rfl (Zd (show ¬ isw lk.text "group" = true by rw [t4]; decide) ?_)⟩)
  refine (exA rfl ⟨rfl,exA rfl (Zd (show ¬ isw lk.text "have" = true by rw [t5]; decide) ?_)⟩)
  obtain ⟨p,rfl,hpk⟩:=Wn hk
  rw [Yx] at hz
  exact (exA rfl (exA rfl (ixT e rfl ⟨r,lk,k,xs,p,rfl,hpk,hr0,by omega,fun ys H' h1 h2 h3=>q ys H' h1 h2 h3⟩)))
 | sign _=>exact absurd rfl z
 | any=>exact absurd rfl z
 | inn _=>exact absurd rfl z
 | out _=>exact absurd rfl z
 | beg=>exact absurd rfl z
 | fin=>exact absurd rfl z
 | again _=>exact absurd rfl z
theorem Z57 {it le ls:Addr} (T:Blt mg) (c_ITSELF:mg "ITSELF" = some (.ref it)) (hIT:∀ H,SqT K H it itself) (c_LEANING:mg "LEANING" = some (.ref le)) (hLE:∀ H,SqT K H le leaning) (c_LAST_ROWS:mg "LAST_ROWS" = some (.ref ls)) (hLS:DcK K w ls lastRows)
  (d1:Def K mg "put" s_put ["rows", "pattern"]) (d2:Def K mg "hold_place" s_hold_place ["rows"]) (d3:Def K mg "put_or" s_put_or ["rows", "branches"]) (d4:Def K mg "put_times" s_put_times ["rows", "low", "high", "how", "part"]) (d5:Def K mg "put_have" s_put_have ["rows", "number", "yes", "no"]) (d6:Def K mg "put_look" s_put_look ["rows", "kind", "part"]) :
  ∀ n,Own P w K mg base (2 + 3 * n) "put" ["rows", "pattern"] (Jt n)
 | 0=>d1.own fun f fd F=>FnOk.never fun vs H Q E h=>by
  obtain ⟨_,_,_,_,_,hp,_⟩:=h
  exact hp.elim
 | n + 1=>by
  have ih:=Z57 T c_ITSELF hIT c_LEANING hLE c_LAST_ROWS hLS d1 d2 d3 d4 d5 d6 n
  have hold:Own P w K mg base 1 "hold_place" ["rows"] T8:=d2.own fun _ _ F=>Ja T F
  have no:Own P w K mg base (2 + 3 * n) "put_times" ["rows", "low", "high", "how", "part"] (Xc (fun _=>False) n):=d4.own fun _ _ F=>FnOk.never fun vs H Q E h=>by
   obtain ⟨_,_,_,_,_,_,_,_,z,_⟩:=h
   exact z
  have t1:Own P w K mg base (2 + 3 * n + 1) "put_times" ["rows", "low", "high", "how", "part"] (Xc (fun h=>h = .much) n):=d4.own fun _ _ F=>Vu (ok':=fun _=>False) (fun how e z=>by rw [e] at z; cases z) T hold ih no F
  have t2:Own P w K mg base (2 + (3 * n + 1) + 1) "put_times" ["rows", "low", "high", "how", "part"] (Xc Z8p n):=d4.own fun _ _ F=>Vu (k:=3 * n + 1) (ok':=fun h=>h = .much) (fun how _ _=>rfl) T hold (ih.mono (k:=2 + (3 * n + 1)) (by omega)) (t1.mono (k:=2 + (3 * n + 1)) (by omega)) F
  exact d1.own fun _ _ F=>Zca (k:=3 * n) T c_ITSELF hIT ih (d3.own fun _ _ F=>Z5d T hold ih F) (t2.mono (k:=2 + 3 * n + 2) (by omega)) (d5.own fun _ _ F=>Z1b T hold ih F) (d6.own fun _ _ F=>Z1a T c_LEANING hLE c_LAST_ROWS hLS hold ih F) F
inductive spCodedI (vs:List V) (H:Hp) (Q:VK):Prop
 | mk (v:V) (p:Pat) (_:vs = [v]) (_:PatAt H 8 v p) (_:p.size ≤ 20000) (_:∀ (t:Addr) (ys:List V) (H':Hp),H' t = some (.tup ys)→Paired (RowAt H') ys (p.code 0 ++ [.tup [.str "found"]])→Gro [] H H'→Q (.ref t) H')
def J3:Sp:=fun vs H Q _=>spCodedI vs H Q
abbrev s_coded:Stmt:=top 4
theorem sc_coded:FnScope ["pattern", "rows"] ["pattern"] (Zb s_coded):=fsc
theorem Z7c (T:Blt mg) (O_put:Own P w K mg base 26 "put" ["rows", "pattern"] (Jt 8)) (F:Fun K "coded" "coded" s_coded f fd):FnOk P w K mg base CX0 27 f fd ["pattern"] J3:=by
 refine F.ok sc_coded (fun vs H Q E h=>?_) (fun cdv A outer s H vs Q E hr h=>?_)
 ·obtain ⟨v,p,rfl,_⟩:=h
  rfl
 obtain ⟨v,p,rfl,hp,hz,q⟩:=h
 refine ltX ?_
 intro Xz
 refine ⟨_,(Z1 (pS 1 sc_coded.nd (Zv Z4))
  (Z1 (Zm (Zk (O_put.mono (by omega)) hr rfl (Z0 (pv 1) (Z0 (pv 0) Z4))))
  (Z1 (Zm (X3 PySem.F.plainAttrs_list PySem.F.slot_list_append PySem.F.type_list_append Zy (pv 1) (Z0 (Zj (Z0 Ze Z4)) Z4)))
  (Z5 (Zh (Ys Xb rfl T.b_tuple PyProof.Rows.Boot.«tuple» (Z0 (pv 1) Z4))))))),?_⟩
 refine Z4x ?_
 intro Ez Az1 Az2 Az3
 refine ⟨sz,fun r hr0=>?_⟩
 have g0:Gro [] H (upd H r (.lst [])):=Gro.new hr0 _
 refine (exA rfl (exA rfl ⟨r,v,[],p,rfl,hp.mono g0.tups,Z3,by simp; omega,fun ys H1 hr1 hy1 g1=>?_⟩))
 have hl:=Paired.length hy1
 have hf:=Pat.code_fits p 0
 have hl1:([] ++ ys).length ≤ 1000000:=by rw [List.nil_append,hl]; show (p.code 0).length ≤ _; omega
 refine (exA rfl ⟨.inl ⟨rfl,_,SqL.of hr1⟩,sz,fun t ht=>⟨r,exB rfl rfl ⟨Xi hr1 ht,big hl1,?_⟩⟩⟩)
 have g2:Gro [r] H1 _:=W8 (zs:=[] ++ ys ++ [V.ref t]) (o:=.tup [.str "found"]) hr1 ht
 refine (exA rfl ⟨r,exA rfl (.inl ⟨SqL.of Z3,fun t3 ht3=>?_⟩)⟩)
 have et:=W7 (ys:=[.str "found"]) (zs:=[] ++ ys ++ [V.ref t]) hr1 ht
 generalize upd (upd H1 t (.tup [.str "found"])) r (.lst ([] ++ ys ++ [V.ref t])) = H2 at *
 have g3:Gro [] H2 (upd H2 t3 (.tup ([] ++ ys ++ [V.ref t]))):=Gro.new ht3 _
 have gg:Gro [r] (upd H r (.lst [])) (upd H2 t3 (.tup ([] ++ ys ++ [V.ref t]))):=(g1.trans g2).trans (g3.mono (by simp))
 refine q t3 _ _ Z3 ?_ ⟨fun c o hc _=>?_,fun c zs hc=>gg.tups _ _ (g0.tups _ _ hc)⟩
 ·rw [List.nil_append]
  exact Zr (Y4 (fun b c h=>g3.tups _ _ (g2.tups _ _ h)) hy1) (.cons ⟨t,rfl,g3.tups _ _ et⟩ .nil)
 ·exact gg.keep c o (g0.keep c o hc (by simp)) (by simpa using Z7 hc hr0)
end
section
variable {P:Program} {w:World} {K:PySem.W.Frag} {mg:Str→Option Value} {base:Heap} {f:Addr} {fd:FuncData}
inductive spAlkI (n:Nat) (vs:List V) (H:Hp) (Q:VK):Prop
 | mk (x y:V) (_:vs = [x,y]) (_:Vo H n x y) (_:Q (.bl true) H)
def Z39 (n:Nat):Sp:=fun vs H Q _=>spAlkI n vs H Q
abbrev s_l_alike:Stmt:=top 41
theorem sc_l_alike:FnScope ["_law_found", "_law_due", "_law_k"] ["_law_found", "_law_due"] (Zb s_l_alike):=fsc
theorem Zce {n:Nat} (T:Blt mg) (O_l_alike:Own P w K mg base (2 + n) "_law_alike" ["_law_found", "_law_due"] (Z39 n)) (F:Fun K "_law_alike" "_law_alike" s_l_alike f fd):FnOk P w K mg base CX0 (2 + n + 1) f fd ["_law_found", "_law_due"] (Z39 (n + 1)):=by
 refine F.ok sc_l_alike (fun vs H Q E h=>?_) (fun cdv A outer s H vs Q E hr h=>?_)
 ·obtain ⟨x,y,rfl,_⟩:=h
  rfl
 obtain ⟨x,y,rfl,hxy,q⟩:=h
 refine ltX ?_
 intro Xz
 refine ⟨_,(Z1 (Zo (Ve (Wf (pv 1))) (Z5 (Zh (Z2e (Wf (pv 0))))) Zf)
  (Z1 (Zo (Yy (Zp (Yc (T := "bool") (Wj (by simp))) rfl T.b_isinstance PyProof.Rows.Boot.«isinstance» (Z0 (pv 1) (Z0 (Xg (v:=.ty "bool") rfl T.b_bool PyProof.Rows.Boot.«bool» rfl) Z4)))) (Z5 (Zh (Z07 (Zp (Yc (T := "bool") (Wj (by simp))) rfl T.b_isinstance PyProof.Rows.Boot.«isinstance» (Z0 (pv 0) (Z0 (Xg (v:=.ty "bool") rfl T.b_bool PyProof.Rows.Boot.«bool» rfl) Z4))) (Tg (Yp Zs (pv 0) (pv 1) (Zc _)))))) Zf)
  (Z1 (Zo (Yy (Zp (Yc (T := "int") (Wj (by simp))) rfl T.b_isinstance PyProof.Rows.Boot.«isinstance» (Z0 (pv 1) (Z0 (Xg (v:=.ty "int") rfl T.b_int PyProof.Rows.Boot.«int» rfl) Z4)))) (Z5 (Zh (Z07 (Zp (Yc (T := "int") (Wj (by simp))) rfl T.b_isinstance PyProof.Rows.Boot.«isinstance» (Z0 (pv 0) (Z0 (Xg (v:=.ty "int") rfl T.b_int PyProof.Rows.Boot.«int» rfl) Z4))) (Z07 (Zc5 (Zp (Yc (T := "bool") (Wj (by simp))) rfl T.b_isinstance PyProof.Rows.Boot.«isinstance» (Z0 (pv 0) (Z0 (Xg (v:=.ty "bool") rfl T.b_bool PyProof.Rows.Boot.«bool» rfl) Z4)))) (Tg (Yp Zs (pv 0) (pv 1) (Zc _))))))) Zf)
  (Z1 (Zo (Yy (Zp (Yc (T := "str") (Wj (by simp))) rfl T.b_isinstance PyProof.Rows.Boot.«isinstance» (Z0 (pv 1) (Z0 (Xg (v:=.ty "str") rfl T.b_str PyProof.Rows.Boot.«str» rfl) Z4)))) (Z5 (Zh (Z07 (Zp (Yc (T := "str") (Wj (by simp))) rfl T.b_isinstance PyProof.Rows.Boot.«isinstance» (Z0 (pv 0) (Z0 (Xg (v:=.ty "str") rfl T.b_str PyProof.Rows.Boot.«str» rfl) Z4))) (Tg (Yp Zs (pv 0) (pv 1) (Zc _)))))) Zf)
  (Z1 (Zo (PW.pt (Ws (Z9 Z3l (Zp (Yc (T := "tuple") (Wj (by simp))) rfl T.b_isinstance PyProof.Rows.Boot.«isinstance» (Z0 (pv 1) (Z0 (Xg (v:=.ty "tuple") rfl T.b_tuple PyProof.Rows.Boot.«tuple» rfl) Z4))) (Zp (Yc (T := "tuple") (Wj (by simp))) rfl T.b_isinstance PyProof.Rows.Boot.«isinstance» (Z0 (pv 0) (Z0 (Xg (v:=.ty "tuple") rfl T.b_tuple PyProof.Rows.Boot.«tuple» rfl) Z4))) (Zc _)) (Xe (Z9 Z3l (Zp (Yc (T := "list") (Wj (by simp))) rfl T.b_isinstance PyProof.Rows.Boot.«isinstance» (Z0 (pv 1) (Z0 (Xg (v:=.ty "list") rfl T.b_list PyProof.Rows.Boot.«list» rfl) Z4))) (Zp (Yc (T := "list") (Wj (by simp))) rfl T.b_isinstance PyProof.Rows.Boot.«isinstance» (Z0 (pv 0) (Z0 (Xg (v:=.ty "list") rfl T.b_list PyProof.Rows.Boot.«list» rfl) Z4))) (Zc _))))) (Z5 (Zh Wt)) Zf)
  (Z1 (Zo (Z9 Z3l (Zp Zx rfl T.b_len PyProof.Rows.Boot.«len» (Z0 (pv 0) Z4)) (Zp Zx rfl T.b_len PyProof.Rows.Boot.«len» (Z0 (pv 1) Z4)) (Zc _)) (Z5 (Zh Wt)) Zf)
  (Z1 (Xl PassesOwn.never rfl (Xf rfl T.b_range (Z0 (Zp Zx rfl T.b_len PyProof.Rows.Boot.«len» (Z0 (pv 1) Z4)) Z4)) (pN 2 sc_l_alike.nd) (Z5 (Zo (Z2a (Yy (Zk (O_l_alike.mono (by omega)) hr rfl (Z0 (Z8 Z6 (pv 0) (pv 2) (fun _ _=>rfl)) (Z0 (Z8 Z6 (pv 1) (pv 2) (fun _ _=>rfl)) Z4))))) (Z5 (Zh Wt)) Zf)))
  (Z5 (Zh Wt))))))))),?_⟩
 refine Zb9 ?_
 intro Ez Az1 Az2 Az3 Az4 Az5 Az6 Az7 Az8 Az9 Az10 Az11 Az12 Az13 Az14 Az15
 rcases hxy with ⟨rfl,hx⟩ | ⟨a,b,xs,ys,rfl,rfl,ha,hb,hz,hp⟩
 ·cases x with
  | non=>exact (exA rfl (exA rfl (Zg (by decide) (exA rfl q))))
  | bl i =>
   refine ⟨_,rfl,_,rfl,Zd (by simp) ?_⟩
   refine ⟨_,rfl,_,_,rfl,rfl,_,rfl,Zg (by decide) ?_⟩
   refine ⟨_,rfl,_,_,rfl,rfl,_,rfl,Zg (by decide) ?_⟩
   refine (exA rfl (exA rfl ⟨rfl,?_⟩))
   rw [decide_eq_true rfl]
   exact q
  | int i =>
   refine ⟨_,rfl,_,rfl,Zd (by simp) ?_⟩
   refine ⟨_,rfl,_,_,rfl,rfl,_,rfl,Zd (by decide) ?_⟩
   refine ⟨_,rfl,_,_,rfl,rfl,_,rfl,Zg (by decide) ?_⟩
   refine ⟨_,rfl,_,_,rfl,rfl,_,rfl,Zg (by decide) ?_⟩
   refine ⟨_,rfl,_,_,rfl,rfl,_,rfl,_,rfl,Zg (by decide) ?_⟩
   refine (exA rfl (exA rfl ⟨rfl,?_⟩))
   rw [decide_eq_true rfl]
   exact q
  | str i =>
   refine ⟨_,rfl,_,rfl,Zd (by simp) ?_⟩
   refine ⟨_,rfl,_,_,rfl,rfl,_,rfl,Zd (by decide) ?_⟩
   refine ⟨_,rfl,_,_,rfl,rfl,_,rfl,Zd (by decide) ?_⟩
   refine ⟨_,rfl,_,_,rfl,rfl,_,rfl,Zg (by decide) ?_⟩
   refine ⟨_,rfl,_,_,rfl,rfl,_,rfl,Zg (by decide) ?_⟩
   refine (exA rfl (exA rfl ⟨rfl,?_⟩))
   rw [decide_eq_true rfl]
   exact q
  | _=>exact absurd (show false = true from hx) (by decide)
 ·have hl:=Paired.length hp
  refine (exA rfl (exA rfl (Zd (by simp) ?_)))
  refine (exA rfl ⟨_,_,rfl,.inl ⟨ys,hb,rfl⟩,exA rfl (Zd (by decide) ?_)⟩)
  refine (exA rfl ⟨_,_,rfl,.inl ⟨ys,hb,rfl⟩,exA rfl (Zd (by decide) ?_)⟩)
  refine (exA rfl ⟨_,_,rfl,.inl ⟨ys,hb,rfl⟩,exA rfl (Zd (by decide) ?_)⟩)
  refine (exA rfl ⟨_,_,rfl,.inl ⟨ys,hb,rfl⟩,exA rfl ⟨_,_,rfl,.inl ⟨xs,ha,rfl⟩,rfl,exA rfl (Zd (by decide) ?_)⟩⟩)
  refine (exA rfl ⟨_,_,rfl,.inl ⟨ys,hb,rfl⟩,exA rfl ⟨_,_,rfl,.inl ⟨xs,ha,rfl⟩,rfl,exA rfl (Zd (by decide) ?_)⟩⟩)
  refine (exA rfl ⟨a,xs,rfl,.inr (SqT.of ha),exA rfl ⟨b,ys,rfl,.inr (SqT.of hb),rfl,exA rfl (Zd (by rw [hl]; simp) ?_)⟩⟩)
  refine (exA rfl ⟨b,ys,rfl,.inr (SqT.of hb),exA rfl ⟨by omega,by omega,?_⟩⟩)
  refine Vk (fun i σ H'=>∃ k:Option V,σ = [some (.ref a),some (.ref b),k]∧H' = H) ⟨none,rfl,rfl⟩ ?_ ?_
  ·rintro i σ H' hi ⟨k,rfl,rfl⟩
   have hi2:i < ys.length:=by simpa using hi
   have hi1:i < xs.length:=by omega
   obtain ⟨y',hy',hs⟩:=Y2 hp (List.getElem?_eq_getElem hi1)
   have ez:(0:Int) + (i:Int) = ((i:Nat):Int):=by omega
   refine ⟨_,rfl,_,rfl,a,xs,_,_,rfl,rfl,SqT.of ha,by rw [ez]; exact Xy (List.getElem?_eq_getElem hi1),_,rfl,_,rfl,b,ys,_,_,rfl,rfl,SqT.of hb,by rw [ez]; exact Xy hy',_,_,rfl,hs,_,rfl,?_⟩
   exact Zd (by decide) (exA rfl rfl)
  ·rintro σ H' ⟨k,rfl,rfl⟩
   exact q
end
theorem Z7p:∀ xs:List Str,(Txt.join "" xs).length = (xs.map (·.length)).sum:=by
 have fold:∀ (xs:List Str) (acc:Array Nat),(xs.foldl (fun a p=>a ++ ("":Str).cps ++ p.cps) acc).size = acc.size + (xs.map (·.length)).sum:=by
  intro xs
  induction xs with
  | nil=>intro acc; simp
  | cons x xs ih =>
   intro acc
   rw [List.foldl_cons,ih,Array.size_append,Array.size_append,List.map_cons,List.sum_cons]
   show acc.size + 0 + x.length + _ = _
   omega
 intro xs
 cases xs with
 | nil=>rfl
 | cons x xs =>
  show (xs.foldl (fun a p=>a ++ ("":Str).cps ++ p.cps) x.cps).size = _
  rw [fold,List.map_cons,List.sum_cons]
  rfl
theorem Z2h:∀ {xs:List Str},(∀ x ∈ xs,x.length = 1)→(xs.map (·.length)).sum = xs.length
 | [],_=>rfl
 | x :: xs,h=>by
  rw [List.map_cons,List.sum_cons,Z2h (fun y hy=>h y (by simp [hy])),h x (by simp),List.length_cons]
  omega
section
variable {P:Program} {w:World} {K:PySem.W.Frag} {mg:Str→Option Value} {base:Heap} {f C:Addr} {fd:FuncData}
inductive spTextI (vs:List V) (H:Hp) (Q:VK):Prop
 | mk (b l:Addr) (n:Int) (_:vs = [.ref b,.ref l,.int n]) (_:BoxAt H b) (_:LetAt H l) (_:0 ≤ n) (_:n ≤ 1000) (_:∀ (t:Str) (H':Hp),(t.length:Int) = n→BoxAt H' b→Gro [b] H H'→Q (.str t) H')
def Z1y:Sp:=fun vs H Q _=>spTextI vs H Q
abbrev s_l_text:Stmt:=top 40
theorem Z4o:FnScope ["_law_box", "_law_letters_here", "_law_size"] ["_law_box", "_law_letters_here", "_law_size"] (Zb s_l_text):=fsc
theorem Z9p (T:Blt mg) (O_l_take:Own P w K mg base 1 "_law_take" ["_law_box", "_law_many"] Xd) (F:Fun K "_law_text" "_law_text" s_l_text f fd):FnOk P w K mg base CX0 2 f fd ["_law_box", "_law_letters_here", "_law_size"] Z1y:=by
 refine F.ok Z4o (fun vs H Q E h=>?_) (fun cdv A outer s H vs Q E hr h=>?_)
 ·obtain ⟨b,l,n,rfl,_⟩:=h
  rfl
 obtain ⟨b,l,n,rfl,hb,hl,h0,h1,q⟩:=h
 have bl:b ≠ l:=hb.ne_let hl
 have lS:l ∉ [b]:=by simpa using Ne.symm bl
 refine ltX ?_
 intro Xz
 refine ⟨_,(Z5 (Zh (X3 PySem.F.plainAttrs_str PySem.F.slot_str_join PySem.F.type_str_join Za2 Ze (Z0 (Xm rfl (show CScope _ ["_law_box", "_law_letters_here", "_law_size"] (Zb s_l_text) _ from ⟨rfl,by decide +kernel,rfl,by decide +kernel,by decide +kernel,by decide +kernel,by decide +kernel⟩) (Xf rfl T.b_range (Z0 (pv 2) Z4)) (fun _ _ _ _=>V0) (fun _ _ _ _=>(Z8 (r:=Zaq K) Zz (pv 2) (Zk (O_l_take.mono (by omega)) hr rfl (Z0 (pv 1) (Z0 Z2 Z4))) (fun _ _=>rfl)))) Z4)))),?_⟩
 refine ⟨rfl,exA rfl (exA rfl ⟨by omega,by omega,?_⟩)⟩
 refine Jd (n:=n.toNat) (fun i ys H'=>(∃ xs:List Str,ys = xs.map V.str∧xs.length = i∧∀ x ∈ xs,x.length = 1)∧BoxAt H' b∧Gro [b] H H') ⟨⟨[],rfl,rfl,by simp⟩,hb,Gro.refl⟩ (Yo (by omega)) (fun i ys H' ⟨⟨xs,e1,e2,_⟩,_⟩=>by rw [e1,List.length_map,e2]; exact Nat.le_refl _) ?_ ?_
 ·rintro i ys H1 hi ⟨⟨xs,rfl,e2,e3⟩,hb1,g1⟩
  refine (exA rfl (exA rfl ⟨b,3,rfl,hb1,by decide,by decide,fun r H2 h20 h21 hb2 g2=>?_⟩))
  refine Zch ((hl.gro g1 lS).gro g2 lS) h20 h21 fun s hs=>⟨⟨xs ++ [s],by simp,by simp [e2],fun x hx=>?_⟩,hb2,g1.trans g2⟩
  rcases List.mem_append.mp hx with z | z
  ·exact e3 x z
  ·rw [List.mem_singleton.mp z]; exact hs
 ·rintro ys H1 ⟨⟨xs,rfl,e2,e3⟩,hb1,g1⟩ a ha
  have hs:=Z2h e3
  have e0:("":Str).length = 0:=rfl
  refine ⟨_,a,xs,rfl,rfl,SqL.of Z3,by rw [hs,e0]; omega,?_⟩
  exact q _ _ (by rw [Z7p,hs]; omega) (hb1.new ha) (g1.tup ha)
end
def WyA (H:Hp) (v:V) (w:Way):Prop:=∃ (a:Addr) (gv:V),v = .ref a∧H a = some (.tup [.int w.1,gv])∧GsAt H gv w.2
theorem WyA.mono {H H':Hp} (t:Tm H H') {v:V} {w:Way} (h:WyA H v w):WyA H' v w:=by
 obtain ⟨a,gv,e1,e2,e3⟩:=h
 exact ⟨a,gv,e1,t _ _ e2,e3.mono t⟩
theorem Y5 {H H':Hp} (t:Tm H H') {vs:List V} {ws:List Way} (h:Paired (WyA H) vs ws):Paired (WyA H') vs ws:=Paired.mapP h fun _ _ q=>q.mono t
theorem Wx {H:Hp} {r lf:Addr} {vs:List V} {ws:List Way} {f:Int} (h:Paired (WyA H) vs ws) (hr:H r = some (.lst vs)) (hf:H lf = some (.lst [.int f])):r ≠ lf:=by
 refine Z1i hr hf fun q=>?_
 injection q with q'
 subst q'
 cases h with
 | cons x _ =>
  obtain ⟨a,gv,e,_⟩:=x
  cases e
def WX (lf:Addr) (S:Way→Prop) (R:List Way→Nat→Prop) (f:Int) (Q:VK) (H:Hp):Prop:=∀ (r:Addr) (vs:List V) (ws:List Way) (N:Nat) (H':Hp),H' r = some (.lst vs)→Paired (WyA H') vs ws→(∀ w ∈ ws,S w)→(0 ≤ f - N→R ws N)→H' lf = some (.lst [.int (f - N)])→ws.length + (f - N).toNat ≤ f.toNat→Gro [lf] H H'→Q (.ref r) H'
theorem Z6a {x:Str} (h:x.length = 1):x.cps.toList = [x.cps.getD 0 0]:=by
 obtain ⟨a⟩:=x
 have:a.size = 1:=h
 match a,this with
 | ⟨[c]⟩,_=>rfl
theorem Z8h {x y:Str} (hx:x.length = 1) (hy:y.length = 1):(!decide (y.cps.toList < x.cps.toList)) = decide (((x.cps.getD 0 0:Nat):Int) ≤ ((y.cps.getD 0 0:Nat):Int)):=by
 rw [Z6a hx,Z6a hy]
 generalize x.cps.getD 0 0 = m
 generalize y.cps.getD 0 0 = n
 have:([n] < [m]) ↔ n < m:=by
  constructor
  ·intro h
   cases h with
   | rel h=>exact h
   | cons h=>cases h
  ·exact fun h=>.rel h
 rw [Bool.eq_iff_iff]
 simp only [Bool.not_eq_true',decide_eq_false_iff_not,decide_eq_true_eq,this]
 omega
abbrev Zd2:List V→Hp→VK→Prop:=fun xs H Q=>∃ x,xs = [.str x]∧x.length = 1∧Q (.int (x.cps.getD 0 0:Nat)) H
theorem Za3 {K:PySem.W.Frag} {H:Hp} {σ:L2.St} {r:Addr} {rs:List (Str × Str)} {c:Str} {ts:TE} {Fin:List V→Hp→Prop} (hr:RunsAt H r rs) (hc:c.length = 1) (hts:∀ (x:V) (Q:VK),Q (.str c) H→ts (some x :: σ) H Q)
  (fin:∀ zs:List V,(!zs.isEmpty) = Yi rs c→Fin zs H) :
  LCW (Itt K r) σ (Zej (Z8r (tOp (rI0 fun i j=>V.bl (decide (i ≤ j))) (tCB Zd2 (Yv (tOp (U0 K) (V9 0) (tC (.int 0))) T1)) (tCB Zd2 (Yv ts T1))))
   (Z8r (tOp (rI0 fun i j=>V.bl (decide (i ≤ j))) (tCB Zd2 (Yv ts T1)) (tCB Zd2 (Yv (tOp (U0 K) (V9 0) (tC (.int 1))) T1))))) (V9 0) Fin H:=by
 obtain ⟨vs,hv,hp,hz⟩:=hr
 have hl:=Paired.length hp
 refine Z0i (n:=vs.length) (fun j zs H'=>H' = H∧(!zs.isEmpty) = Yi (rs.take j) c∧zs.length ≤ j) ⟨rfl,rfl,Nat.le_refl _⟩ (Yo (by omega)) (fun j zs H' ⟨_,_,h⟩=>h) (fun j zs H' hj ⟨e,_⟩=>by rw [e]; exact ⟨vs,vs[j],SqT.of hv,by simp [hj]⟩) (fun zs H' ⟨e,_⟩=>by rw [e]; exact ⟨vs,SqT.of hv,Nat.le_refl _⟩) ?_ ?_
 ·rintro j zs H' x H'' hj ⟨rfl,hzs,hzl⟩ ⟨rfl,hx⟩
  have hx':=hx vs (SqT.of hv)
  obtain ⟨p,hpi,h1,h2,a,rfl,ha⟩:=Y2 hp hx'
  have snoc:Yi (rs.take (j + 1)) c = (Yi (rs.take j) c || (!decide (c.cps.toList < p.1.cps.toList) && !decide (p.2.cps.toList < c.cps.toList))):=by
   unfold Yi
   rw [Y9 hpi,List.any_append]
   simp
  refine (ixT ha at0 ⟨p.1,rfl,h1,?_⟩)
  refine hts _ _ ⟨c,rfl,hc,exB rfl rfl (exA rfl (?_))⟩
  rw [Z8h h1 hc] at snoc
  rw [Z8h hc h2] at snoc
  refine X7 (fun z=>?_) (fun z=>?_)
  ·refine hts _ _ ⟨c,rfl,hc,?_⟩
   refine (ixT ha rfl ⟨p.2,rfl,h2,_,_,rfl,rfl,_,rfl,?_⟩)
   refine X7 (fun z2=>?_) (fun z2=>?_)
   ·refine (exA rfl ⟨rfl,?_,by simp; omega⟩)
    rw [snoc,z,z2]
    simp
   ·refine ⟨rfl,?_,by omega⟩
    rw [snoc,hzs,Bool.eq_false_iff.mpr z2]
    simp
  ·refine Z0l ⟨rfl,?_,by omega⟩
   rw [snoc,hzs,Bool.eq_false_iff.mpr z]
   simp
 ·rintro zs H' ⟨rfl,hzs,_⟩
  rw [hl,List.take_length] at hzs
  exact fin zs hzs
section
variable {P:Program} {w:World} {K:PySem.W.Frag} {mg:Str→Option Value} {base:Heap} {f:Addr} {fd:FuncData}
inductive spTkI (vs:List V) (H:Hp) (Q:VK):Prop
 | mk (d:Nat) (v:V) (h:Hd) (ks:List Pat) (c:Str) (_:vs = [v,.str c]) (_:PatAt H d v (.node h ks)) (_:h.one = true) (_:c.length = 1) (_:∀ (H':Hp),Gro [] H H'→Q (.bl (h.eats c)) H')
def Zal:Sp:=fun vs H Q _=>spTkI vs H Q
abbrev s_l_takes:Stmt:=top 48
theorem sc_l_takes:FnScope ["_law_p", "_law_sign_here", "_law_lies"] ["_law_p", "_law_sign_here"] (Zb s_l_takes):=fsc
theorem Zc9 (T:Blt mg) (F:Fun K "_law_takes" "_law_takes" s_l_takes f fd):FnOk P w K mg base CX0 1 f fd ["_law_p", "_law_sign_here"] Zal:=by
 refine F.ok sc_l_takes (fun vs H Q E h=>?_) (fun cdv A outer s H vs Q E hr h=>?_)
 ·obtain ⟨d,v,h,ks,c,rfl,_⟩:=h
  rfl
 obtain ⟨d,v,h,ks,c,rfl,hp,hs,hc,q⟩:=h
 refine ltX ?_
 intro Xz
 refine ⟨_,(Z1 (Zo (PW.pt (Ws (Z9 Zs (Z8 Z6 (pv 0) Z2 (fun _ _=>rfl)) Ze (Zc _)) (Xe (Z9 Zs (Z8 Z6 (pv 0) Z2 (fun _ _=>rfl)) Ze (Zc _))))) (Z5 (Zh (Zc4 (Yp Zs (Z8 Z6 (pv 0) Z2 (fun _ _=>rfl)) Ze (Zc _)) (Tg (Yp Zs (Z8 Z6 (pv 0) Z2 (fun _ _=>rfl)) (pv 1) (Zc _)))))) Zf)
  (Z1 (Z2b (i:=2) sc_l_takes.nd rfl rfl rfl (show CScope _ ["_law_p", "_law_sign_here", "_law_lies"] (Zb s_l_takes) _ from ⟨rfl,by decide +kernel,rfl,by decide +kernel,by decide +kernel,by decide +kernel,by decide +kernel⟩) (Vg (Z8 Z6 (pv 0) Z2 (fun _ _=>rfl))) (fun _ _ _ _=>(Z16 (PW.pt (Xp (Z9 Z9l (Zp Wr rfl T.b_ord PyProof.Rows.Boot.«ord» (Z0 (Z8 (r:=U0 K) Z6 (pv 0) Z2 (fun _ _=>rfl)) Z4)) (Zp Wr rfl T.b_ord PyProof.Rows.Boot.«ord» (Z0 (pv 2) Z4)) (Zc _)) (X2 (Z9 Z9l (Zp Wr rfl T.b_ord PyProof.Rows.Boot.«ord» (Z0 (pv 2) Z4)) (Zp Wr rfl T.b_ord PyProof.Rows.Boot.«ord» (Z0 (Z8 (r:=U0 K) Z6 (pv 0) Z2 (fun _ _=>rfl)) Z4)) (Zc _))))))) (fun _ _ _ _=>(pv 0)) rfl)
  (Z5 (Zh (Yp Zs (Yp (J7 hr.units0) (pv 2) (Zv Z4) (Zc _)) (Yp Zs (Z8 Z6 (pv 0) Z2 (fun _ _=>rfl)) Ze (Zc _)) (Zc _)))))),?_⟩
 refine Zbr ?_
 intro Ez Az1 Az2 Az3
 cases d with
 | zero=>exact hp.elim
 | succ d =>
 obtain ⟨a,kv,rfl,lay,hk⟩:=hp
 obtain ⟨r0,ea⟩:=lay.head
 have kinds:(∃ x,h = .sign x) ∨ h = .any ∨ ∃ (rs:List (Str × Str)) (r:Addr) (w1:Str) (b:Bool),H a = some (.tup [.str w1,.ref r])∧RunsAt H r rs∧isw w1 "any" = false∧isw w1 "sign" = false∧decide (V.str w1 = V.str "in") = b∧h.eats c = (Yi rs c == b):=by
  cases h with
  | sign x=>exact .inl ⟨x,rfl⟩
  | any=>exact .inr (.inl rfl)
  | inn rs =>
   obtain ⟨_,r,e,hr'⟩:=lay
   exact .inr (.inr ⟨rs,r, "in",true,e,hr',by decide +kernel,by decide +kernel,by decide +kernel,by show Yi rs c = _; cases Yi rs c <;> rfl⟩)
  | out rs =>
   obtain ⟨_,r,e,hr'⟩:=lay
   exact .inr (.inr ⟨rs,r, "out",false,e,hr',by decide +kernel,by decide +kernel,by decide +kernel,by show (!Yi rs c) = _; cases Yi rs c <;> rfl⟩)
  | _=>cases hs
 rcases kinds with ⟨x,rfl⟩ | rfl | ⟨rs,r,w1,b,e,hr',n1,n2,hb,hev⟩
 ·refine (ixT ea at0 ⟨rfl,_,rfl,Zd (show ¬ isw "sign" "any" = true by decide +kernel) ?_⟩)
  refine (ixT ea at0 ⟨rfl,_,rfl,Zg (show isw "sign" "sign" = true by decide +kernel) ?_⟩)
  refine (ixT ea at0 ⟨rfl,_,rfl,Zd (show ¬ isw "sign" "any" = true by decide +kernel) ?_⟩)
  exact (ixT lay.2.2 rfl ⟨_,rfl,rfl,q _ Gro.refl⟩)
 ·refine (ixT ea at0 ⟨rfl,_,rfl,Zg (show isw "any" "any" = true by decide +kernel) (Z0k ?_)⟩)
  refine (ixT ea at0 ⟨rfl,_,rfl,Zg (show isw "any" "any" = true by decide +kernel) ?_⟩)
  exact q H Gro.refl
 ·refine (ixT e at0 ⟨rfl,_,rfl,Zd (by show ¬ isw w1 "any" = true; rw [n1]; decide) ?_⟩)
  refine (ixT e at0 ⟨rfl,_,rfl,Zd (by show ¬ isw w1 "sign" = true; rw [n2]; decide) ?_⟩)
  refine (ixT e rfl ⟨r,rfl,?_⟩)
  obtain ⟨vs,hv,hp,hz⟩:=id hr'
  refine ⟨⟨vs,SqT.of hv⟩,?_⟩
  refine Za3 (K:=K) hr' hc (fun x Q' q'=>(exA rfl q')) (fun zs hzs l hl2=>?_)
  refine (exA rfl ⟨sz,fun l2 hl3=>?_⟩)
  have g2:Gro [] H (upd (upd H l (.lst zs)) l2 (.lst [])):=(Gro.new hl2 _).tup hl3
  refine ⟨l,l2,zs,rfl,rfl,SqL.of (by rw [Zl (Z7 Z3 hl3)]; exact Z3),SqL.of Z3,?_⟩
  refine (ixT (g2.tups _ _ e) at0 ⟨rfl,rfl,?_⟩)
  have q':=q _ g2
  rw [hev] at q'
  rw [hb,hzs]
  show Q (.bl (decide (V.bl (Yi rs c) = V.bl b))) _
  rw [show decide (V.bl (Yi rs c) = V.bl b) = (Yi rs c == b) by cases Yi rs c <;> cases b <;> rfl]
  exact q'
inductive spWaysI (d:Nat) (vs:List V) (H:Hp) (Q:VK):Prop
 | mk (v0 gv:V) (p:Pat) (t:Str) (i n:Nat) (g:Gs) (f:Int) (lf:Addr) (_:vs = [v0,.str t,.int i,gv,.ref lf]) (_:PatAt H d v0 p) (_:p.nm n) (_:t.length ≤ 8) (_:i ≤ t.length) (_:n ≤ 900) (_:GsAt H gv g) (_:GOk t n g) (_:H lf = some (.lst [.int f])) (_:f ≤ 1500) (_:WX lf (Gd t n i) (Wy t d p i g) f Q H)
def Wa (d:Nat):Sp:=fun vs H Q _=>spWaysI d vs H Q
inductive spEachI (d:Nat) (vs:List V) (H:Hp) (Q:VK):Prop
 | mk (v0:V) (p:Pat) (t:Str) (i n:Nat) (f:Int) (wr lf:Addr) (us:List V) (is:List Way) (_:vs = [v0,.str t,.ref wr,.ref lf]) (_:PatAt H d v0 p) (_:p.nm n) (_:t.length ≤ 8) (_:n ≤ 900) (_:H wr = some (.lst us)) (_:Paired (WyA H) us is) (_:us.length ≤ 1500) (_:(∀ w ∈ is,Gd t n i w)) (_:H lf = some (.lst [.int f])) (_:f ≤ 1500) (_:WX lf (Gd t n i) (Ew (Wy t d) p is) f Q H)
def Z4m (d:Nat):Sp:=fun vs H Q _=>spEachI d vs H Q
theorem Ew.snoc {W:Wk} {p:Pat}:∀ {vs ws us:List Way} {w:Way} {N N':Nat},Ew W p vs ws N→W p w.1 w.2 us N'→Ew W p (vs ++ [w]) (ws ++ us) (N + N')
 | _,_,_,_,_,_,.nil,h=>by
  have:=Ew.cons h Ew.nil
  rw [List.append_nil] at this
  simpa using this
 | _,_,_,_,_,_,.cons h r,h'=>by
  have:=Ew.cons h (Ew.snoc r h')
  rw [List.append_assoc,Nat.add_assoc]
  exact this
abbrev s_l_each:Stmt:=top 49
theorem sc_l_each:FnScope ["_law_part", "_law_text_here", "_law_ways_here", "_law_left", "_law_found", "_law_way"] ["_law_part", "_law_text_here", "_law_ways_here", "_law_left"] (Zb s_l_each):=fsc
theorem Z9w {d k:Nat} (O_l_ways:Own P w K mg base k "_law_ways" ["_law_p", "_law_text_here", "_law_i", "_law_g", "_law_left"] (Wa d)) (F:Fun K "_law_each" "_law_each" s_l_each f fd):FnOk P w K mg base CX0 (k + 1) f fd ["_law_part", "_law_text_here", "_law_ways_here", "_law_left"] (Z4m d):=by
 refine F.ok sc_l_each (fun vs H Q E h=>?_) (fun cdv A outer s H vs Q E hr h=>?_)
 ·obtain ⟨v0,p,t,i,n,f,wr,lf,us,is,rfl,_⟩:=h
  rfl
 obtain ⟨v0,p,t,i0,n,f0,wr,lf,us,is,rfl,hp,hnm,ht,hn,hwr,hus,hul,his,hlf,hf,q⟩:=h
 refine ltX ?_
 intro Xz
 refine ⟨_,(Z1 (pS 4 sc_l_each.nd (Zv Z4))
  (Z1 (Xl PassesOwn.never rfl (We (pv 2)) (pN 5 sc_l_each.nd) (Z5 (pS 4 sc_l_each.nd (Zu Tj (pv 4) (Zk (O_l_ways.mono (by omega)) hr rfl (Z0 (pv 0) (Z0 (pv 1) (Z0 (Z8 Z6 (pv 5) Z2 (fun _ _=>rfl)) (Z0 (Z8 Z6 (pv 5) Z2 (fun _ _=>rfl)) (Z0 (pv 3) Z4))))))))))
  (Z5 (Zh (pv 4))))),?_⟩
 refine Zb8 ?_
 intro Ez Az1 Az2 Az3
 have hne:=Wx hus hwr hlf
 refine ⟨sz,fun a ha=>?_⟩
 have na:wr ≠ a:=Z7 hwr ha
 have nf:lf ≠ a:=Z7 hlf ha
 refine (exA rfl ⟨wr,rfl,⟨us,SqL.of (by rw [Zl na]; exact hwr)⟩,?_⟩)
 refine Ji (xs:=us) (fun k σ H'=>∃ (fr:Addr) (vs:List V) (ws:List Way) (N:Nat) (wy:Option V),σ = [some v0,some (.str t),some (.ref wr),some (.ref lf),some (.ref fr),wy]∧H' fr = some (.lst vs)∧Paired (WyA H') vs ws∧(∀ w ∈ ws,Gd t n i0 w)∧(0 ≤ f0 - N→Ew (Wy t d) p (is.take k) ws N)∧H' lf = some (.lst [.int (f0 - N)])∧ws.length + (f0 - N).toNat ≤ f0.toNat∧Gro [lf] H H')
  ⟨a,[],[],0,none,rfl,Z3,.nil,(fun j hj=>by simp at hj),(fun _=>.nil),by rw [Zl nf,hlf]; simp,by simp,Gro.new ha _⟩ (fun k σ H' _ hh=>by obtain ⟨_,_,_,_,_,_,_,_,_,_,_,_,g⟩:=hh; exact SqL.of (g.keep _ _ hwr (by simpa using hne))) ?_ ?_
 ·rintro k x σ H1 hx ⟨fr,vs,ws,N,wy,rfl,hfr,hvs,hws,hR,hl1,hlen,g1⟩
  obtain ⟨w0,hii,hw⟩:=Y2 hus hx
  have him:=List.mem_of_getElem? hii
  have gd:=his w0 him
  obtain ⟨b,gv,rfl,hb,hg⟩:=hw.mono g1.tups
  refine (exA rfl (exA rfl (exA rfl (ixT hb at0 (ixT hb rfl ⟨_,rfl,v0,gv,p,t,w0.1,n,w0.2,f0 - N,lf,rfl,hp.mono g1.tups,hnm,ht,gd.hi,hn,hg,gd.g,hl1,by omega,fun r2 vs2 ws2 N2 H2 hr2 hv2 hs2 hR2 hl2 hlen2 g2=>?_⟩)))))
  have nr:fr ≠ lf:=Wx hvs hfr hl1
  have hfr2:=g2.keep _ _ hfr (by simpa using nr)
  have e1:=Paired.length hvs
  have e2:=Paired.length hv2
  refine ⟨fr,r2,vs,vs2,rfl,rfl,hfr2,hr2,Nat.le_of_lt (big (n:=vs.length + vs2.length) (by omega)),fun c hc=>?_⟩
  have g3:=Gro.new (S:=[lf]) hc (.lst (vs ++ vs2))
  have hN:f0 - (N:Int) - (N2:Int) = f0 - ((N + N2:Nat):Int):=by omega
  refine ⟨c,vs ++ vs2,ws ++ ws2,N + N2,exA rfl ⟨Z3,Zr (Y5 (fun b xs h=>g3.tups _ _ (g2.tups _ _ h)) hvs) (Y5 g3.tups hv2),fun j hj=>?_,fun h0=>?_,by rw [Zl (Z7 hl2 hc),hl2,hN],by rw [List.length_append]; omega,(g1.trans g2).trans g3⟩⟩
  ·rcases List.mem_append.mp hj with z | z
   ·exact hws j z
   ·exact (hs2 j z).trans gd.lo
  ·rw [Y9 hii]
   exact (hR (by omega)).snoc (hR2 (by omega))
 ·rintro σ H1 ⟨fr,vs,ws,N,wy,rfl,hfr,hvs,hws,hR,hl1,hlen,g1⟩
  rw [List.take_of_length_le (by rw [← Paired.length hus]; exact Nat.le_refl _)] at hR
  exact (exA rfl (q fr vs ws N H1 hfr hvs hws hR hl1 hlen g1))
end
structure Bh (t:Str) (n i:Nat) (w:Way):Prop where
 e:w.1 = i
 hi:w.1 ≤ t.length
 g:GOk t n w.2
section
variable {P:Program} {w:World} {K:PySem.W.Frag} {mg:Str→Option Value} {base:Heap} {f:Addr} {fd:FuncData}
inductive spBehI (d:Nat) (vs:List V) (H:Hp) (Q:VK):Prop
 | mk (v0 gv:V) (p:Pat) (t:Str) (i n:Nat) (g:Gs) (f:Int) (lf:Addr) (_:vs = [v0,.str t,.int i,gv,.ref lf]) (_:PatAt H d v0 p) (_:p.nm n) (_:t.length ≤ 8) (_:i ≤ t.length) (_:n ≤ 900) (_:GsAt H gv g) (_:GOk t n g) (_:H lf = some (.lst [.int f])) (_:f ≤ 1500) (_:WX lf (Bh t n i) (Bx (Wy t d) p i g i) f Q H)
def Z8x (d:Nat):Sp:=fun vs H Q _=>spBehI d vs H Q
abbrev s_l_behind:Stmt:=top 51
theorem sc_l_behind:FnScope ["_law_p", "_law_text_here", "_law_i", "_law_g", "_law_left", "_law_found", "_law_k"] ["_law_p", "_law_text_here", "_law_i", "_law_g", "_law_left"] (Zb s_l_behind):=fsc
theorem Zcd {d k:Nat} (T:Blt mg) (O_l_ways:Own P w K mg base k "_law_ways" ["_law_p", "_law_text_here", "_law_i", "_law_g", "_law_left"] (Wa d)) (F:Fun K "_law_behind" "_law_behind" s_l_behind f fd):FnOk P w K mg base CX0 (k + 1) f fd ["_law_p", "_law_text_here", "_law_i", "_law_g", "_law_left"] (Z8x d):=by
 refine F.ok sc_l_behind (fun vs H Q E h=>?_) (fun cdv A outer s H vs Q E hr h=>?_)
 ·obtain ⟨v0,gv,p,t,i,n,g,f,lf,rfl,_⟩:=h
  rfl
 obtain ⟨v0,gv,p,t,i,n,g,f0,lf,rfl,hp,hnm,ht,hi1,hn,hgs,hgo,hlf,hf,q⟩:=h
 refine ltX ?_
 intro Xz
 refine ⟨_,(Z1 (pS 5 sc_l_behind.nd (Zv Z4))
  (Z1 (Xl PassesOwn.never rfl (Xf rfl T.b_range (Z0 (Zu Ya (pv 2) Z2) Z4)) (pN 6 sc_l_behind.nd) (Z5 (Zo (Z9 (U3 hr.units0) (pv 5) (Zv Z4) (Zc _)) (Z5 (Z2b (i:=5) sc_l_behind.nd rfl rfl rfl (show CScope _ ["_law_p", "_law_text_here", "_law_i", "_law_g", "_law_left", "_law_found", "_law_k"] (Zb s_l_behind) _ from ⟨rfl,by decide +kernel,rfl,by decide +kernel,by decide +kernel,by decide +kernel,by decide +kernel⟩) (We (Zk (O_l_ways.mono (by omega)) hr rfl (Z0 (pv 0) (Z0 (pv 1) (Z0 (Zu Yh (pv 2) (pv 6)) (Z0 (pv 3) (Z0 (pv 4) Z4))))))) (fun _ _ _ _=>(Z16 (Z9 Zs (Z8 (r:=U0 K) Z6 (pv 0) Z2 (fun _ _=>rfl)) (pv 3) (Zc _)))) (fun _ _ _ _=>(pv 0)) rfl)) Zf)))
  (Z5 (Zh (pv 5))))),?_⟩
 refine Zbk ?_
 intro Ez Az1 Az2 Az3 Az4
 refine ⟨sz,fun a ha=>?_⟩
 have nf:lf ≠ a:=Z7 hlf ha
 refine (exA rfl (exB rfl rfl (exA rfl ⟨by omega,by omega,?_⟩)))
 refine Vk (n:=((i:Int) + 1).toNat) (fun x σ H'=>∃ (fr:Addr) (vs:List V) (ws:List Way) (N:Nat) (kv:Option V),σ = [some v0,some (.str t),some (.int i),some gv,some (.ref lf),some (.ref fr),kv]∧H' fr = some (.lst vs)∧Paired (WyA H') vs ws∧(∀ w ∈ ws,Bh t n i w) ∧
   (0 ≤ f0 - N→(ws = []∧x ≤ i∧∀ us N',Bx (Wy t d) p i g (i - x) us N'→Bx (Wy t d) p i g i us (N + N')) ∨ (Bx (Wy t d) p i g i ws N∧(ws = []→x = i + 1)))∧H' lf = some (.lst [.int (f0 - N)])∧ws.length + (f0 - N).toNat ≤ f0.toNat∧Gro [lf] H H')
  ⟨a,[],[],0,none,rfl,Z3,.nil,(fun j hj=>by simp at hj),(fun _=>.inl ⟨rfl,Nat.zero_le _,fun us N' h=>by rw [Nat.zero_add]; exact h⟩),by rw [Zl nf,hlf]; simp,by simp,Gro.new ha _⟩ ?_ ?_
 ·rintro x σ H1 hx ⟨fr,vs,ws,N,kv,rfl,hfr,hvs,hws,hR,hl1,hlen,g1⟩
  have hxi:x ≤ i:=by omega
  refine (exA rfl ⟨sz,fun b hb=>?_⟩)
  have g2:=Gro.new (S:=[lf]) hb (.lst [])
  have hl2:(upd H1 b (.lst [])) lf = some (.lst [.int (f0 - N)]):=by rw [Zl (Z7 hl1 hb)]; exact hl1
  have hfr2:(upd H1 b (.lst [])) fr = some (.lst vs):=by rw [Zl (Z7 hfr hb)]; exact hfr
  have hvs2:=Y5 g2.tups hvs
  refine ⟨fr,b,vs,rfl,rfl,SqL.of hfr2,SqL.of Z3,exA rfl (X7 (fun z=>?_) (fun z=>?_))⟩
  ·have hv0:vs = []:=List.isEmpty_iff.mp z
   have hw0:ws = []:=by
    have:=Paired.length hvs
    rw [hv0] at this
    exact List.length_eq_zero_iff.mp this.symm
   generalize upd H1 b (.lst []) = H2 at *
   have g12:=g1.trans g2
   have hst:(i:Int) - (0 + (x:Int)) = ((i - x:Nat):Int):=by omega
   refine (exA rfl (exA rfl (exA rfl (exA rfl (exB rfl rfl (exA rfl (exA rfl ⟨v0,gv,p,t,i - x,n,g,f0 - N,lf,by rw [← hst]; rfl,hp.mono g12.tups,hnm,ht,by omega,hn,hgs.mono g12.tups,hgo,hl2,by omega,fun r3 vs3 ws3 N3 H3 hr3 hv3 hs3 hR3 hl3 hlen3 g3=>?_⟩)))))))
   have e3:=Paired.length hv3
   have nr:=Wx hv3 hr3 hl3
   refine ⟨r3,rfl,⟨vs3,SqL.of hr3⟩,?_⟩
   refine Z7m (xs:=vs3) (fun y ys H'=>Paired (WyA H') ys ((ws3.take y).filter fun w=>w.1 == i)∧ys.length ≤ y∧H' = H3) ⟨.nil,Nat.le_refl _,rfl⟩ (big (by omega)) (fun y ys H' ⟨_,hl,_⟩=>hl) (fun y ys H' ⟨_,_,e⟩=>by rw [e]; exact SqL.of hr3) ?_ ?_
   ·rintro y ys H' v hv ⟨hz,hzl,rfl⟩
    obtain ⟨w0,hj,⟨b2,gv2,rfl,hb2,hg2⟩⟩:=Y2 hv3 hv
    refine (ixT hb2 at0 ⟨_,rfl,rfl,_,rfl,?_⟩)
    rw [Y9 hj,List.filter_append]
    by_cases hji:w0.1 = i
    ·refine Zg (decide_eq_true (by rw [hji])) (exA rfl ⟨?_,by simp; omega,rfl⟩)
     rw [List.filter_cons_of_pos (by simpa using hji)]
     exact hz.snoc ⟨b2,gv2,rfl,hb2,hg2⟩
    ·refine Zd (fun z=>hji ?_) ⟨?_,by omega,rfl⟩
     ·have z':V.int (w0.1:Int) = V.int (i:Int):=of_decide_eq_true z
      injection z' with z'
      omega
     ·rw [List.filter_cons_of_neg (by simpa using hji),List.filter_nil,List.append_nil]
      exact hz
   ·rintro ys H' ⟨hz,hzl,rfl⟩ c hc
    rw [List.take_of_length_le (by omega)] at hz
    have g4:=Gro.new (S:=[lf]) hc (.lst ys)
    have hN:f0 - (N:Int) - (N3:Int) = f0 - ((N + N3:Nat):Int):=by omega
    refine ⟨c,ys,ws3.filter fun w=>w.1 == i,N + N3,exA rfl ⟨Z3,Y5 g4.tups hz,fun w hw=>?_,fun h0=>?_,by rw [Zl (Z7 hl3 hc),hl3,hN],?_,(g12.trans g3).trans g4⟩⟩
    ·obtain ⟨h1,h2⟩:=List.mem_filter.mp hw
     have gd:=hs3 w h1
     exact ⟨by simpa using h2,gd.hi,gd.g⟩
    ·have r3':=hR3 (by omega)
     rcases hR (by omega) with ⟨_,_,acc⟩ | ⟨_,h⟩
     ·by_cases hfl:(ws3.filter fun w=>w.1 == i) = []
      ·by_cases h0':i - x = 0
       ·refine .inr ⟨?_,fun _=>by omega⟩
        rw [hfl]
        rw [h0'] at r3' acc
        exact acc [] N3 (.last r3' hfl)
       ·refine .inl ⟨hfl,by omega,fun us N' h=>?_⟩
        rw [Nat.add_assoc]
        refine acc us (N3 + N') ?_
        obtain ⟨y,hy⟩:∃ y,i - x = y + 1:=⟨i - x - 1,by omega⟩
        rw [hy] at r3' ⊢
        rw [show i - (x + 1) = y by omega] at h
        exact .down r3' hfl h
      ·exact .inr ⟨acc _ N3 (.here r3' hfl),fun e=>absurd e hfl⟩
     ·have:=h hw0
      omega
    ·have h1:=List.length_filter_le (fun w:Way=>w.1 == i) ws3
     rw [hw0] at hlen
     simp at hlen
     omega
  ·refine ⟨fr,vs,ws,N,exA rfl ⟨hfr2,hvs2,hws,fun h0=>?_,hl2,hlen,g1.trans g2⟩⟩
   have hwn:ws ≠ []:=fun e=>z (by
    have:=Paired.length hvs
    rw [e] at this
    rw [List.length_eq_zero_iff.mp this]
    rfl)
   rcases hR h0 with ⟨e,_⟩ | ⟨h1,_⟩
   ·exact absurd e hwn
   ·exact .inr ⟨h1,fun e=>absurd e hwn⟩
 ·rintro σ H1 ⟨fr,vs,ws,N,kv,rfl,hfr,hvs,hws,hR,hl1,hlen,g1⟩
  refine (exA rfl (q fr vs ws N H1 hfr hvs hws (fun h0=>?_) hl1 hlen g1))
  rcases hR h0 with ⟨_,h,_⟩ | ⟨h,_⟩
  ·omega
  ·exact h
inductive spTurnsI (d e:Nat) (vs:List V) (H:Hp) (Q:VK):Prop
 | mk (v0 gv:V) (p:Pat) (lo:Int) (hi:Option Int) (how:How) (t:Str) (m i n:Nat) (g:Gs) (f:Int) (lf:Addr) (_:vs = [v0,.str t,.int m,.int i,gv,.ref lf]) (_:PatAt H (d + 1) v0 (.node (.times lo hi how) [p])) (_:p.nm n) (_:t.length ≤ 8) (_:i ≤ t.length) (_:n ≤ 900) (_:GsAt H gv g) (_:GOk t n g) (_:H lf = some (.lst [.int f])) (_:f ≤ 1500) (_:(lo - m).toNat + (t.length - i) < e) (_:WX lf (Gd t n i) (Tx (Wy t d) lo hi how p e m i g) f Q H)
def J0 (d e:Nat):Sp:=fun vs H Q _=>spTurnsI d e vs H Q
def Zf7 (W:Wk) (v0 gv:V) (p:Pat) (lo:Int) (hi:Option Int) (how:How) (t:Str) (e m i n:Nat) (g:Gs) (f:Int) (lf:Addr) (H:Hp):TS:=fun D σ H1=>∃ (ar:Addr) (vs:List V) (on:List Way) (N1:Nat) (wy:Option V),σ = [some v0,some (.str t),some (.int m),some (.int i),some gv,some (.ref lf),some (.ref ar),wy]∧H1 ar = some (.lst vs)∧Paired (WyA H1) vs on∧(∀ w ∈ on,Gd t n i w) ∧
 (0 ≤ f - ((N1 + 1:Nat):Int)→(Xq hi m = true∧∃ vs Na Nb,W p i g vs Na∧Lx (Tx W lo hi how p e) lo m i vs on Nb∧N1 = Na + Nb) ∨ (Xq hi m = false∧on = []∧N1 = 0))∧H1 lf = some (.lst [.int (f - ((N1 + 1:Nat):Int))])∧on.length + 1 + (f - ((N1 + 1:Nat):Int)).toNat ≤ f.toNat∧Gro [lf] H H1∧WX lf (Gd t n i) (Tx W lo hi how p (e + 1) m i g) f D.rt H
theorem Lx.snoc {T:Nat→Nat→Gs→List Way→Nat→Prop} {lo:Int} {m i:Nat}:∀ {vs ws us:List Way} {w:Way} {N N':Nat},Lx T lo m i vs ws N→((m:Int) < lo ∨ i < w.1)→T (m + 1) w.1 w.2 us N'→Lx T lo m i (vs ++ [w]) (ws ++ us) (N + N')
 | _,_,_,_,_,_,.nil,c,h=>by
  have:=Lx.go c h (Lx.nil (T:=T) (lo:=lo) (m:=m) (i:=i))
  rw [List.append_nil] at this
  simpa using this
 | _,_,_,_,_,_,.go c' h' r,c,h=>by
  have:=Lx.go c' h' (Lx.snoc r c h)
  rw [List.append_assoc,Nat.add_assoc]
  exact this
 | _,_,_,_,_,_,.skip c' r,c,h=>.skip c' (Lx.snoc r c h)
theorem Lx.snocS {T:Nat→Nat→Gs→List Way→Nat→Prop} {lo:Int} {m i:Nat}:∀ {vs ws:List Way} {w:Way} {N:Nat},Lx T lo m i vs ws N→¬ ((m:Int) < lo ∨ i < w.1)→Lx T lo m i (vs ++ [w]) ws N
 | _,_,_,_,.nil,c=>.skip c .nil
 | _,_,_,_,.go c' h' r,c=>.go c' h' (Lx.snocS r c)
 | _,_,_,_,.skip c' r,c=>.skip c' (Lx.snocS r c)
abbrev s_l_turns:Stmt:=top 50
theorem sc_l_turns:FnScope ["_law_p", "_law_text_here", "_law_n", "_law_j", "_law_g", "_law_left", "_law_on_here", "_law_way"] ["_law_p", "_law_text_here", "_law_n", "_law_j", "_law_g", "_law_left"] (Zb s_l_turns):=fsc
theorem Z75 {d e k:Nat} (O_l_ways:Own P w K mg base k "_law_ways" ["_law_p", "_law_text_here", "_law_i", "_law_g", "_law_left"] (Wa d)) (O_l_turns:Own P w K mg base k "_law_turns" ["_law_p", "_law_text_here", "_law_n", "_law_j", "_law_g", "_law_left"] (J0 d e)) (F:Fun K "_law_turns" "_law_turns" s_l_turns f fd):FnOk P w K mg base CX0 (k + 1) f fd ["_law_p", "_law_text_here", "_law_n", "_law_j", "_law_g", "_law_left"] (J0 d (e + 1)):=by
 refine F.ok sc_l_turns (fun vs H Q E h=>?_) (fun cdv A outer s H vs Q E hr h=>?_)
 ·obtain ⟨v0,gv,p,lo,hi,how,t,m,i,n,g,f,lf,rfl,_⟩:=h
  rfl
 obtain ⟨v0,gv,p,lo,hi,how,t,m,i,n,g,f0,lf,rfl,hp,hnm,ht,hi1,hn,hgs,hgo,hlf,hf,hme,q⟩:=h
 obtain ⟨a0,kv,rfl,⟨⟨hlo0,hlo1,hhi⟩,k0,rfl,ea⟩,hk⟩:=id hp
 have hp1:PatAt H d k0 p:=by
  cases hk with
  | cons h _=>exact h
 refine ltX ?_
 intro Xz
 refine ⟨_,(Z1 (W0 (Zu Yh (Z8 Zz (pv 5) Z2 (fun _ _=>rfl)) Z2) (W1 (pv 5) Z2 Yu))
  (Z1 (Zo (Z9 Wh (Z8 Zz (pv 5) Z2 (fun _ _=>rfl)) Z2 (Zc _)) (Z5 (Zh (Zv Z4))) Zf)
  (Z1 (pS 6 sc_l_turns.nd (Zv Z4))
  (Z1 (Zo (PW.pt (Ws (Ve (Wf (Z8 Z6 (pv 0) Z2 (fun _ _=>rfl)))) (Xe (Z9 Wh (pv 2) (Z8 Z6 (pv 0) Z2 (fun _ _=>rfl)) (Zc _))))) (Z5 (Xl PassesOwn.never rfl (We (Zk (O_l_ways.mono (by omega)) hr rfl (Z0 (Z8 Z6 (pv 0) Z2 (fun _ _=>rfl)) (Z0 (pv 1) (Z0 (pv 3) (Z0 (pv 4) (Z0 (pv 5) Z4))))))) (pN 7 sc_l_turns.nd) (Z5 (Zo (PW.pt (Ws (Z9 Wh (pv 2) (Z8 Z6 (pv 0) Z2 (fun _ _=>rfl)) (Zc _)) (Xe (Z9 Z0c (Z8 Z6 (pv 7) Z2 (fun _ _=>rfl)) (pv 3) (Zc _))))) (Z5 (pS 6 sc_l_turns.nd (Zu Tj (pv 6) (Zk (O_l_turns.mono (by omega)) hr rfl (Z0 (pv 0) (Z0 (pv 1) (Z0 (Zu Ya (pv 2) Z2) (Z0 (Z8 Z6 (pv 7) Z2 (fun _ _=>rfl)) (Z0 (Z8 Z6 (pv 7) Z2 (fun _ _=>rfl)) (Z0 (pv 5) Z4)))))))))) Zf)))) Zf)
  (Xu (Zf7 (Wy t d) (.ref a0) gv p lo hi how t e m i n g f0 lf H) (Z1 (Zo (Z9 Wh (pv 2) (Z8 Z6 (pv 0) Z2 (fun _ _=>rfl)) (Zc _)) (Z5 (Zh (pv 6))) Zf)
  (Z1 (Zo (Z9 Zs (Z8 Z6 (pv 0) Z2 (fun _ _=>rfl)) Ze (Zc _)) (Z5 (Zh (Zu Tj (Zv (Z0 (Zj (Z0 (pv 3) (Z0 (pv 4) Z4))) Z4)) (pv 6)))) Zf)
  (Z5 (Zh (Zu Tj (pv 6) (Zv (Z0 (Zj (Z0 (pv 3) (Z0 (pv 4) Z4))) Z4))))))) (fun D1 σ1 H1 hcut=>?cut4)))))),?_⟩
 case cut4 =>
  refine Z89 ?_
  intro Ez Az1 Az2 Az3 Az4
  obtain ⟨ar,vs,on,N1,wy,rfl,har,hvs,hon,hR,hl1,hlen,g1,q⟩:=hcut
  have ea1:=g1.tups _ _ ea
  have el:=Paired.length hvs
  have me:Gd t n i (i,g):=⟨Nat.le_refl _,hi1,hgo⟩
  have tx:∀ ws,ws = (if (m:Int) < lo then on else if how = .little then (i,g) :: on else on ++ [(i,g)])→0 ≤ f0 - ((N1 + 1:Nat):Int)→Tx (Wy t d) lo hi how p (e + 1) m i g ws (N1 + 1):=fun ws hws h0=>⟨on,N1,hR h0,rfl,hws⟩
  refine (exA rfl (ixT ea1 rfl ⟨_,_,rfl,rfl,_,rfl,?_⟩))
  by_cases hml:(m:Int) < lo
  ·exact Zg (decide_eq_true hml) (exA rfl (q ar vs on (N1 + 1) H1 har hvs hon (tx on (by rw [if_pos hml])) hl1 (by omega) g1))
  refine Zd (fun z=>hml (of_decide_eq_true z)) ?_
  have nar:=Wx hvs har hl1
  refine (ixT ea1 rfl ⟨rfl,_,rfl,?_⟩)
  by_cases hl:how = .little
  ·refine Zg (show isw how.text "little" = true by rw [hl]; decide +kernel) ?_
   refine (exA rfl (exA rfl ⟨sz,fun t1 ht1=>⟨sz,fun r1 hr1=>?_⟩⟩))
   have g2:Gro [] H1 (upd (upd H1 t1 (.tup [.int i,gv])) r1 (.lst [.ref t1])):=(Gro.new ht1 _).tup hr1
   have et:(upd (upd H1 t1 (.tup [.int i,gv])) r1 (.lst [.ref t1])) t1 = some (.tup [.int i,gv]):=by rw [Zl (Z7 Z3 hr1)]; exact Z3
   have er:(upd (upd H1 t1 (.tup [.int i,gv])) r1 (.lst [.ref t1])) r1 = some (.lst [.ref t1]):=Z3
   generalize upd (upd H1 t1 (.tup [.int i,gv])) r1 (.lst [.ref t1]) = H2 at *
   refine (exA rfl ⟨r1,ar,[.ref t1],vs,rfl,rfl,er,g2.keep _ _ har (by simp),Nat.le_of_lt (big (n:=1 + vs.length) (by omega)),fun r2 hr2=>?_⟩)
   have g3:=Gro.new (S:=[]) hr2 (.lst ([.ref t1] ++ vs))
   refine q r2 ([.ref t1] ++ vs) ((i,g) :: on) (N1 + 1) _ Z3 (.cons ⟨t1,gv,rfl,g3.tups _ _ et,hgs.mono fun b xs h=>g3.tups _ _ (g2.tups _ _ (g1.tups _ _ h))⟩ (Y5 (fun b xs h=>g3.tups _ _ (g2.tups _ _ h)) hvs)) (fun w hw=>?_) (tx _ (by rw [if_neg hml,if_pos hl])) ((g2.trans g3).keep _ _ hl1 (by simp)) (by rw [List.length_cons]; omega) (g1.trans ((g2.trans g3).mono (by simp)))
   rcases List.mem_cons.mp hw with rfl | hw
   ·exact me
   ·exact hon w hw
  ·have hn':¬ isw how.text "little" = true:=by
    cases how with
    | little=>exact absurd rfl hl
    | much=>decide +kernel
    | keep=>decide +kernel
   refine Zd hn' ?_
   refine (exA rfl (exA rfl (exA rfl ⟨sz,fun t1 ht1=>⟨sz,fun r1 hr1=>?_⟩⟩)))
   have g2:Gro [] H1 (upd (upd H1 t1 (.tup [.int i,gv])) r1 (.lst [.ref t1])):=(Gro.new ht1 _).tup hr1
   have et:(upd (upd H1 t1 (.tup [.int i,gv])) r1 (.lst [.ref t1])) t1 = some (.tup [.int i,gv]):=by rw [Zl (Z7 Z3 hr1)]; exact Z3
   have er:(upd (upd H1 t1 (.tup [.int i,gv])) r1 (.lst [.ref t1])) r1 = some (.lst [.ref t1]):=Z3
   generalize upd (upd H1 t1 (.tup [.int i,gv])) r1 (.lst [.ref t1]) = H2 at *
   refine ⟨ar,r1,vs,[.ref t1],rfl,rfl,g2.keep _ _ har (by simp),er,Nat.le_of_lt (big (n:=vs.length + 1) (by omega)),fun r2 hr2=>?_⟩
   have g3:=Gro.new (S:=[]) hr2 (.lst (vs ++ [.ref t1]))
   refine q r2 (vs ++ [.ref t1]) (on ++ [(i,g)]) (N1 + 1) _ Z3 ((Y5 (fun b xs h=>g3.tups _ _ (g2.tups _ _ h)) hvs).snoc ⟨t1,gv,rfl,g3.tups _ _ et,hgs.mono fun b xs h=>g3.tups _ _ (g2.tups _ _ (g1.tups _ _ h))⟩) (fun w hw=>?_) (tx _ (by rw [if_neg hml,if_neg hl])) ((g2.trans g3).keep _ _ hl1 (by simp)) (by rw [List.length_append,List.length_singleton]; omega) (g1.trans ((g2.trans g3).mono (by simp)))
   rcases List.mem_append.mp hw with hw | hw
   ·exact hon w hw
   ·rw [List.mem_singleton.mp hw]; exact me
 refine Zbj ?_
 intro Ez Az1 Az2 Az3 Az4 Az5 Az6 Az7 Az8
 refine (ixL hlf rfl ⟨_,_,rfl,rfl,_,rfl,lf,_,_,0,rfl,rfl,hlf,rfl,?_⟩)
 have g1:Gro [lf] H (upd H lf (.lst [.int (f0 - 1)])):=Gro.set (by simp) hlf _
 have hl1:(upd H lf (.lst [.int (f0 - 1)])) lf = some (.lst [.int (f0 - 1)]):=Z3
 refine (ixL hl1 rfl ⟨_,_,rfl,rfl,_,rfl,X7 (fun z=>?_) (fun z=>?_)⟩)
 ·have hz:f0 - 1 < 0:=of_decide_eq_true z
  refine ⟨sz,fun r hr=>q r [] [] 1 _ Z3 .nil (fun w hw=>by simp at hw) (fun h0=>?_) ?_ (by show 0 + (f0 - ((1:Nat):Int)).toNat ≤ f0.toNat; omega) (g1.trans (Gro.new hr _))⟩
  ·exfalso
   have:f0 - ((1:Nat):Int) = f0 - 1:=rfl
   omega
  ·have:(upd H lf (.lst [.int (f0 - 1)])) lf = some (.lst [.int (f0 - ((1:Nat):Int))]):=hl1
   exact (Gro.new (S:=[]) hr (.lst [])).keep _ _ this (by simp)
 have hf0:0 ≤ f0 - 1:=by
  have:¬ f0 - 1 < 0:=fun z'=>z (decide_eq_true z')
  omega
 refine ⟨sz,fun ar har=>?_⟩
 have g2:=Gro.new (S:=[lf]) har (.lst [])
 have hl2:(upd (upd H lf (.lst [.int (f0 - 1)])) ar (.lst [])) lf = some (.lst [.int (f0 - 1)]):=by rw [Zl (Z7 hl1 har)]; exact hl1
 have ear:(upd (upd H lf (.lst [.int (f0 - 1)])) ar (.lst [])) ar = some (.lst []):=Z3
 have g12:Gro [lf] H (upd (upd H lf (.lst [.int (f0 - 1)])) ar (.lst [])):=g1.trans g2
 have ea2:=g12.tups _ _ ea
 have nar:ar ≠ lf:=Z1i ear hl2 (by intro z; cases z)
 refine (ixT ea2 rfl ⟨_,rfl,?_⟩)
 cases hb:Xq hi m with
 | true =>
  refine (fun key=>X7 (fun z=>Z0k key) (fun z=>?_)) ?_
  ·obtain ⟨h,hh⟩:∃ h,hi = some h:=by
    cases hi with
    | none=>exact absurd (decide_eq_true rfl) z
    | some h=>exact ⟨h,rfl⟩
   have hmh:(m:Int) < h:=by
    rw [hh] at hb
    exact of_decide_eq_true hb
   refine (exA rfl (ixT ea2 (show atI [V.str "times",.int lo,Z3k hi,.str how.text,k0] 2 = some (.int h) by rw [hh]; rfl) ⟨_,_,rfl,rfl,_,rfl,Zg (decide_eq_true hmh) key⟩))
  refine (ixT ea2 rfl ⟨_,rfl,_,rfl,_,rfl,_,rfl,k0,gv,p,t,i,n,g,f0 - 1,lf,rfl,hp1.mono g12.tups,hnm,ht,hi1,hn,hgs.mono g12.tups,hgo,hl2,by omega,fun r3 vs3 ws3 N3 H3 hr3 hv3 hs3 hR3 hl3 hlen3 g3=>?_⟩)
  have g13:=g12.trans g3
  have nr3:=Wx hv3 hr3 hl3
  have hel3:=Paired.length hv3
  refine ⟨r3,rfl,⟨vs3,SqL.of hr3⟩,?_⟩
  refine Ji (xs:=vs3) (fun x σ H'=>∃ (ar':Addr) (vs:List V) (on:List Way) (N:Nat) (wy:Option V),σ = [some (.ref a0),some (.str t),some (.int m),some (.int i),some gv,some (.ref lf),some (.ref ar'),wy]∧H' ar' = some (.lst vs)∧Paired (WyA H') vs on∧(∀ w ∈ on,Gd t n i w)∧(0 ≤ f0 - 1 - N3 - N→Lx (Tx (Wy t d) lo hi how p e) lo m i (ws3.take x) on N)∧H' lf = some (.lst [.int (f0 - 1 - N3 - N)])∧on.length + (f0 - 1 - N3 - N).toNat ≤ (f0 - 1 - N3).toNat∧Gro [lf] H3 H')
   ⟨ar,[],[],0,none,rfl,g3.keep _ _ ear (by simpa using nar),.nil,(fun w hw=>by simp at hw),(fun _=>.nil),by simp [hl3],by simp,Gro.refl⟩ (fun x σ H' _ hh=>by obtain ⟨_,_,_,_,_,_,_,_,_,_,_,_,g⟩:=hh; exact SqL.of (g.keep _ _ hr3 (by simpa using nr3))) ?_ ?_
  ·rintro x v σ H4 hv ⟨ar4,vs4,on4,N4,wy,rfl,har4,hvs4,hon4,hR4,hl4,hlen4,g4⟩
   obtain ⟨w0,hw3,hw⟩:=Y2 hv3 hv
   obtain ⟨b4,gv4,rfl,hb4,hg4⟩:=hw.mono g4.tups
   have gd:=hs3 w0 (List.mem_of_getElem? hw3)
   have ea4:=g4.tups _ _ (g3.tups _ _ ea2)
   have nar4:=Wx hvs4 har4 hl4
   refine (exA rfl (ixT ea4 rfl ⟨_,_,rfl,rfl,_,rfl,?_⟩))
   by_cases hc:(m:Int) < lo ∨ i < w0.1
   ·refine (fun key=>X7 (fun z=>Z0k key) (fun z=>⟨_,rfl,b4,_,_,_,rfl,rfl,SqT.of hb4,at0,_,rfl,_,_,rfl,rfl,_,rfl,Zg (decide_eq_true (by rcases hc with hc | hc <;> first | (show (i:Int) < (w0.1:Int); omega) | exact absurd (decide_eq_true hc) z)) key⟩)) ?_
    have hm1:(m:Int) + 1 = ((m + 1:Nat):Int):=by omega
    have hme2:=gd.lo
    have hme3:=gd.hi
    refine (exA rfl (exA rfl (exA rfl (exA rfl (exB rfl rfl (ixT hb4 at0 (ixT hb4 rfl ⟨_,rfl,.ref a0,gv4,p,lo,hi,how,t,m + 1,w0.1,n,w0.2,f0 - 1 - N3 - N4,lf,by rw [← hm1]; rfl,hp.mono (fun b xs h=>g4.tups _ _ (g13.tups _ _ h)),hnm,ht,gd.hi,hn,hg4,gd.g,hl4,by omega,by omega,fun r5 vs5 ws5 N5 H5 hr5 hv5 hs5 hR5 hl5 hlen5 g5=>?_⟩)))))))
    have e4:=Paired.length hvs4
    have e5:=Paired.length hv5
    refine ⟨ar4,r5,vs4,vs5,rfl,rfl,g5.keep _ _ har4 (by simpa using nar4),hr5,Nat.le_of_lt (big (n:=vs4.length + vs5.length) (by omega)),fun c hc'=>?_⟩
    have g6:=Gro.new (S:=[lf]) hc' (.lst (vs4 ++ vs5))
    have hN:f0 - 1 - (N3:Int) - (N4:Int) - (N5:Int) = f0 - 1 - N3 - ((N4 + N5:Nat):Int):=by omega
    refine ⟨c,vs4 ++ vs5,on4 ++ ws5,N4 + N5,exA rfl ⟨Z3,Zr (Y5 (fun b xs h=>g6.tups _ _ (g5.tups _ _ h)) hvs4) (Y5 g6.tups hv5),fun y hy=>?_,fun h0=>?_,by rw [Zl (Z7 hl5 hc'),hl5,hN],by rw [List.length_append]; omega,(g4.trans g5).trans g6⟩⟩
    ·rcases List.mem_append.mp hy with hy | hy
     ·exact hon4 y hy
     ·exact (hs5 y hy).trans gd.lo
    ·rw [Y9 hw3]
     exact (hR4 (by omega)).snoc hc (hR5 (by omega))
   ·refine Zd (fun z=>hc (.inl (of_decide_eq_true z))) (ixT hb4 at0 ⟨_,rfl,_,_,rfl,rfl,_,rfl,Zd (fun z=>hc (.inr (by have:(i:Int) < (w0.1:Int):=of_decide_eq_true z; omega))) ?_⟩)
    refine ⟨ar4,vs4,on4,N4,exA rfl ⟨har4,hvs4,hon4,fun h0=>?_,hl4,hlen4,g4⟩⟩
    rw [Y9 hw3]
    exact (hR4 h0).snocS hc
  ·rintro σ H4 ⟨ar4,vs4,on4,N4,wy,rfl,har4,hvs4,hon4,hR4,hl4,hlen4,g4⟩
   rw [List.take_of_length_le (by omega)] at hR4
   have hN:f0 - 1 - (N3:Int) - (N4:Int) = f0 - ((N3 + N4 + 1:Nat):Int):=by omega
   exact ⟨ar4,vs4,on4,N3 + N4,wy,rfl,har4,hvs4,hon4,fun h0=>.inl ⟨hb,ws3,N3,N4,hR3 (by omega),hR4 (by omega),rfl⟩,by rw [hl4,hN],by omega,g13.trans g4,q⟩
 | false =>
  obtain ⟨h,hh,hmh3⟩:∃ h,hi = some h∧¬ (m:Int) < h:=by
   cases hi with
   | none=>cases hb
   | some h=>exact ⟨h,rfl,of_decide_eq_false hb⟩
  refine Zd (by rw [hh]; intro z; have z':V.int h = V.non:=of_decide_eq_true z; cases z') ?_
  refine (exA rfl (ixT ea2 (show atI [V.str "times",.int lo,Z3k hi,.str how.text,k0] 2 = some (.int h) by rw [hh]; rfl) ⟨_,_,rfl,rfl,_,rfl,Zd (fun z=>hmh3 (of_decide_eq_true z)) ?_⟩))
  exact ⟨ar,[],[],0,none,rfl,ear,.nil,(fun w hw=>by simp at hw),(fun _=>.inr ⟨hb,rfl,rfl⟩),hl2,by show 0 + 1 + (f0 - ((0 + 1:Nat):Int)).toNat ≤ f0.toNat; omega,g12,q⟩
theorem Z08 {d k:Nat} (O_l_ways:Own P w K mg base k "_law_ways" ["_law_p", "_law_text_here", "_law_i", "_law_g", "_law_left"] (Wa d)) (D:Def K mg "_law_turns" s_l_turns ["_law_p", "_law_text_here", "_law_n", "_law_j", "_law_g", "_law_left"]):∀ e,Own P w K mg base (k + e) "_law_turns" ["_law_p", "_law_text_here", "_law_n", "_law_j", "_law_g", "_law_left"] (J0 d e)
 | 0=>D.own fun f fd F=>FnOk.never fun vs H Q E h=>by
  obtain ⟨_,_,_,_,_,_,_,_,_,_,_,_,_,_,_,_,_,_,_,_,_,_,_,h,_⟩:=h
  omega
 | e + 1=>D.own fun f fd F=>Z75 (O_l_ways.mono (Nat.le_add_right _ _)) (Z08 O_l_ways D e) F
end
abbrev Yq:List V:=[.str "sign",.str "any",.str "in",.str "out"]
inductive Kd where | one | edge | row | alt | times | grp | mem
 deriving DecidableEq
def Wd.kd:Wd→Kd
 | .sign=>.one | .any=>.one | .inn=>.one | .out=>.one | .beg=>.edge | .fin=>.edge | .row=>.row | .alt=>.alt | .times=>.times | .grp=>.grp | _=>.mem
theorem Zcp (h:Hd):inV (.str h.word) Yq = decide (h.wd.kd = .one):=by rw [h.word_wd]; cases h.wd <;> decide +kernel
theorem Z5u (h:Hd):(isw h.word "begin" || isw h.word "end") = decide (h.wd.kd = .edge):=by rw [h.word_wd]; cases h.wd <;> decide +kernel
theorem Ze2 (h:Hd):isw h.word "row" = decide (h.wd.kd = .row):=by rw [h.word_wd]; cases h.wd <;> decide +kernel
theorem Ze4 (h:Hd):isw h.word "or" = decide (h.wd.kd = .alt):=by rw [h.word_wd]; cases h.wd <;> decide +kernel
theorem Za4 (h:Hd):isw h.word "times" = decide (h.wd.kd = .times):=by rw [h.word_wd]; cases h.wd <;> decide +kernel
theorem Ze3 (h:Hd):isw h.word "group" = decide (h.wd.kd = .grp):=by rw [h.word_wd]; cases h.wd <;> decide +kernel
theorem Z4f {t:Str} {a b:Nat} (h1:a ≤ b) (h2:b ≤ t.length):(sub t a b).length = b - a:=by
 show ((t.cps.toList.drop a).take (b - a)).toArray.size = _
 have:t.cps.toList.length = t.length:=by simp [Str.length]
 rw [List.size_toArray,List.length_take,List.length_drop]
 omega
section
variable {P:Program} {w:World} {K:PySem.W.Frag} {mg:Str→Option Value} {base:Heap} {f:Addr} {fd:FuncData}
theorem WX.nil {lf:Addr} {S:Way→Prop} {R:List Way→Nat→Prop} {f:Int} {Q:VK} {H H':Hp} {r:Addr} {N:Nat} (h:WX lf S R f Q H) (hr:H' r = none) (g:Gro [lf] H H') (hf:H' lf = some (.lst [.int (f - N)])) (hR:0 ≤ f - N→R [] N):Q (.ref r) (upd H' r (.lst [])) :=
 h r [] [] N _ Z3 .nil (fun j hj=>by simp at hj) hR (by rw [Zl (Z7 hf hr)]; exact hf) (by show 0 + (f - (N:Int)).toNat ≤ f.toNat; omega) (g.trans (Gro.new hr _))
theorem WX.one {lf:Addr} {S:Way→Prop} {R:List Way→Nat→Prop} {f:Int} {Q:VK} {H H':Hp} {t r:Addr} {i:Nat} {gv:V} {gs:Gs} {N:Nat} (h:WX lf S R f Q H) (ht:H' t = none) (hr:(upd H' t (.tup [.int i,gv])) r = none) (g:Gro [lf] H H') (hf:H' lf = some (.lst [.int (f - N)])) (hN:1 ≤ N) (h0:0 < f) (hg:GsAt H' gv gs) (hs:S (i,gs)) (hR:0 ≤ f - N→R [(i,gs)] N) :
  Q (.ref r) (upd (upd H' t (.tup [.int i,gv])) r (.lst [.ref t])):=by
 have g1:Gro [] H' (upd (upd H' t (.tup [.int i,gv])) r (.lst [.ref t])):=(Gro.new ht _).tup hr
 refine h r [.ref t] [(i,gs)] N _ Z3 (.cons ⟨t,gv,rfl,?_,hg.mono g1.tups⟩ .nil) (fun k hk=>by rw [List.mem_singleton.mp hk]; exact hs) hR (g1.keep _ _ hf (by simp)) (by show 1 + (f - (N:Int)).toNat ≤ f.toNat; omega) (g.trans (g1.mono (by simp)))
 rw [Zl (Z7 Z3 hr)]
 exact Z3
inductive spMemI (d:Nat) (vs:List V) (H:Hp) (Q:VK):Prop
 | mk (v0 gv:V) (h:Hd) (ks:List Pat) (t:Str) (i n:Nat) (g:Gs) (f:Int) (lf:Addr) (_:vs = [v0,.str t,.int i,gv,.ref lf]) (_:PatAt H (d + 1) v0 (.node h ks)) (_:h.wd.kd = .mem) (_:(Pat.node h ks).nm n) (_:t.length ≤ 8) (_:i ≤ t.length) (_:n ≤ 900) (_:GsAt H gv g) (_:GOk t n g) (_:H lf = some (.lst [.int f])) (_:0 ≤ f) (_:f ≤ 1499) (_:WX lf (Gd t n i) (Wy t (d + 1) (.node h ks) i g) (f + 1) Q H)
def Z8w (d:Nat):Sp:=fun vs H Q _=>spMemI d vs H Q
def Zf9 (v0 gv:V) (h:Hd) (t:Str) (i n:Nat) (g:Gs) (f:Int) (lf:Addr) (H:Hp) (R:List Way→Nat→Prop):TS:=fun D σ H1=>∃ (wr:Addr) (vs:List V) (us:List Way) (N:Nat),σ = [some v0,some (.str t),some (.int i),some gv,some (.ref lf),some (.str h.word),none,none,some (.ref wr)]∧H1 wr = some (.lst vs)∧Paired (WyA H1) vs us∧(∀ w ∈ us,w.1 ≤ t.length∧GOk t n w.2)∧H1 lf = some (.lst [.int (f - N)])∧us.length + (f - N).toNat ≤ f.toNat∧Gro [lf] H H1 ∧
 (0 ≤ f - N→R us N)∧∃ lk:Lk,h = .look lk∧lk ≠ .once∧∀ (r:Addr) (vs:List V) (ws:List Way) (N:Nat) (H':Hp),H' r = some (.lst vs)→Paired (WyA H') vs ws→(∀ w ∈ ws,Gd t n i w)→(0 ≤ f - N→∃ us,R us N∧ws = Z5l lk i g us)→H' lf = some (.lst [.int (f - N)])→ws.length + (f - N).toNat ≤ f.toNat + 1→Gro [lf] H H'→D.rt (.ref r) H'
abbrev s_l_memory:Stmt:=top 52
theorem sc_l_memory:FnScope ["_law_p", "_law_text_here", "_law_i", "_law_g", "_law_left", "_law_word", "_law_pair", "_law_told", "_law_ways_here"] ["_law_p", "_law_text_here", "_law_i", "_law_g", "_law_left"] (Zb s_l_memory):=fsc
theorem Zcb {d k:Nat} (T:Blt mg) (O_l_ways:Own P w K mg base k "_law_ways" ["_law_p", "_law_text_here", "_law_i", "_law_g", "_law_left"] (Wa d)) (O_l_behind:Own P w K mg base k "_law_behind" ["_law_p", "_law_text_here", "_law_i", "_law_g", "_law_left"] (Z8x d)) (F:Fun K "_law_memory" "_law_memory" s_l_memory f fd):FnOk P w K mg base CX0 (k + 1) f fd ["_law_p", "_law_text_here", "_law_i", "_law_g", "_law_left"] (Z8w d):=by
 refine F.ok sc_l_memory (fun vs H Q E h=>?_) (fun cdv A outer s H vs Q E hr h=>?_)
 ·obtain ⟨v0,gv,h,ks,t,i,n,g,f,lf,rfl,_⟩:=h
  rfl
 obtain ⟨v0,gv,h,ks,t,i,n,g,f0,lf,rfl,hp,hkd,hnm,ht,hi1,hn,hgs,hgo,hlf,hf0,hf,q⟩:=h
 have me:Gd t n i (i,g):=⟨Nat.le_refl _,hi1,hgo⟩
 refine ltX ?_
 intro Xz
 refine ⟨_,(Z1 (pS 5 sc_l_memory.nd (Z8 Z6 (pv 0) Z2 (fun _ _=>rfl)))
  (Z1 (Zo (Z9 Zs (pv 5) Ze (Zc _)) (Z1 (pS 6 sc_l_memory.nd (Z8 Z6 (pv 3) (Zu Yh (Z8 Z6 (pv 0) Z2 (fun _ _=>rfl)) Z2) (fun _ _=>rfl)))
  (Z1 (Zo (Ve (Wf (pv 6))) (Z5 (Zh (Zv Z4))) Zf)
  (Z1 (pS 7 sc_l_memory.nd (Y1 Ta (pv 1) (Y3 (Z8 Z6 (pv 6) Z2 (fun _ _=>rfl))) (Y3 (Z8 Z6 (pv 6) Z2 (fun _ _=>rfl)))))
  (Z1 (Zo (Z9 Zs (Y1 Ta (pv 1) (Y3 (pv 2)) (Y3 (Zu Ya (pv 2) (Zp Y6 rfl T.b_len PyProof.Rows.Boot.«len» (Z0 (pv 7) Z4))))) (pv 7) (Zc _)) (Z5 (Zh (Zv (Z0 (Zj (Z0 (Zu Ya (pv 2) (Zp Y6 rfl T.b_len PyProof.Rows.Boot.«len» (Z0 (pv 7) Z4))) (Z0 (pv 3) Z4))) Z4)))) Zf)
  (Z5 (Zh (Zv Z4))))))) Zf)
  (Z1 (Zo (Z9 Zs (pv 5) Ze (Zc _)) (Z5 (Zh (Zk (O_l_ways.mono (by omega)) hr rfl (Z0 (Z8 Z6 (pv 0) (Zu Ya Z2 (Ys Wl rfl T.b_int PyProof.Rows.Boot.«int» (Z0 (Z2e (Wf (Z8 Z6 (pv 3) (Zu Yh (Z8 Z6 (pv 0) Z2 (fun _ _=>rfl)) Z2) (fun _ _=>rfl)))) Z4))) (fun _ _=>rfl)) (Z0 (pv 1) (Z0 (pv 2) (Z0 (pv 3) (Z0 (pv 4) Z4)))))))) Zf)
  (Z1 (Zo (Z9 Zs (pv 5) Ze (Zc _)) (Z5 (Zh (Y1 Vp (Zk (O_l_ways.mono (by omega)) hr rfl (Z0 (Z8 Z6 (pv 0) Z2 (fun _ _=>rfl)) (Z0 (pv 1) (Z0 (pv 2) (Z0 (pv 3) (Z0 (pv 4) Z4)))))) Yf (Y3 Z2)))) Zf)
  (Z1 (Zo (PW.pt (Ws (Z9 Zs (pv 5) Ze (Zc _)) (Xe (Z9 Zs (pv 5) Ze (Zc _))))) (Z5 (pS 8 sc_l_memory.nd (Zk (O_l_ways.mono (by omega)) hr rfl (Z0 (Z8 Z6 (pv 0) Z2 (fun _ _=>rfl)) (Z0 (pv 1) (Z0 (pv 2) (Z0 (pv 3) (Z0 (pv 4) Z4)))))))) (Z5 (pS 8 sc_l_memory.nd (Zk (O_l_behind.mono (by omega)) hr rfl (Z0 (Z8 Z6 (pv 0) Z2 (fun _ _=>rfl)) (Z0 (pv 1) (Z0 (pv 2) (Z0 (pv 3) (Z0 (pv 4) Z4)))))))))
  (Xu (Zf9 v0 gv h t i n g f0 lf H (fun us N=>∃ p l,h = .look l∧ks = [p]∧(if l.leans = true then Bx (Wy t d) p i g i us N else Wy t d p i g us N))) (Z1 (Zo (PW.pt (Ws (Z9 Zs (pv 5) Ze (Zc _)) (Xe (Z9 Zs (pv 5) Ze (Zc _))))) (Z5 (Zh (Xm rfl (show CScope _ ["_law_p", "_law_text_here", "_law_i", "_law_g", "_law_left", "_law_word", "_law_pair", "_law_told", "_law_ways_here"] (Zb s_l_memory) _ from ⟨rfl,by decide +kernel,rfl,by decide +kernel,by decide +kernel,by decide +kernel,by decide +kernel⟩) (We (Y1 Vp (pv 8) Yf (Y3 Z2))) (fun _ _ _ _=>V0) (fun _ _ _ _=>(Zj (Z0 (pv 3) (Z0 (Z8 (r:=U0 K) Z6 (pv 0) Z2 (fun _ _=>rfl)) Z4))))))) Zf)
  (Z1 (Zo (Z9 (J7 hr.units0) (pv 8) (Zv Z4) (Zc _)) (Z5 (Zh (Zv Z4))) Zf)
  (Z5 (Zh (Zv (Z0 (Zj (Z0 (pv 2) (Z0 (pv 3) Z4))) Z4)))))) (fun D1 σ1 H1 hcut=>?cut5))))))),?_⟩
 case cut5 =>
  refine Z89 ?_
  intro Ez Az1 Az2 Az3 Az4
  obtain ⟨wr,vs,us,N,rfl,hwr,hvs,hus,hl1,hlen,g1,hR,lk,hlk,hno,q⟩:=hcut
  have el:=Paired.length hvs
  subst hlk
  have ahd:(lk = .ahead ∨ lk = .behind) ∨ (lk = .notahead ∨ lk = .notbehind):=by
   cases lk with
   | once=>exact absurd rfl hno
   | ahead=>exact .inl (.inl rfl)
   | behind=>exact .inl (.inr rfl)
   | notahead=>exact .inr (.inl rfl)
   | notbehind=>exact .inr (.inr rfl)
  rcases ahd with hpos | hneg
  ·have hlw:Z5l lk i g us = (us.take 1).map fun w=>(i,w.2):=by rcases hpos with rfl | rfl <;> rfl
   have hw2:isw (Hd.look lk).word "ahead" = true ∨ isw (Hd.look lk).word "behind" = true:=by
    rcases hpos with rfl | rfl
    ·exact .inl (by decide +kernel)
    ·exact .inr (by decide +kernel)
   refine (exA rfl ⟨rfl,exA rfl (?_)⟩)
   refine (fun key=>X7 (fun z=>Z0k key) (fun z=>⟨_,rfl,rfl,_,rfl,Zg (by rcases hw2 with hw2 | hw2 <;> first | exact hw2 | exact absurd hw2 z) key⟩)) ?_
   refine (exA rfl (exA rfl ⟨wr,vs,rfl,SqL.of hwr,fun c hc=>?_⟩))
   rw [Z1q]
   have g2:=Gro.new (S:=[]) hc (.lst (vs.take 1))
   have hl2:(upd H1 c (.lst (vs.take 1))) lf = some (.lst [.int (f0 - N)]):=g2.keep _ _ hl1 (by simp)
   have hc2:(upd H1 c (.lst (vs.take 1))) c = some (.lst (vs.take 1)):=Z3
   have hv2:=Y5 g2.tups (Ye 1 hvs)
   generalize upd H1 c (.lst (vs.take 1)) = H2 at *
   refine ⟨c,rfl,⟨vs.take 1,SqL.of hc2⟩,?_⟩
   refine Z5q (xs:=vs.take 1) (fun x ys H'=>(Paired (WyA H') ys (((us.take 1).take x).map fun w=>(i,w.2))∧ys.length = x)∧Gro [] H2 H') ⟨⟨.nil,rfl⟩,Gro.refl⟩ (Yo (by rw [List.length_take]; omega)) (fun x ys H' ⟨⟨_,hl⟩,_⟩=>by omega) (fun x ys H' ⟨_,g⟩=>SqL.of (g.keep _ _ hc2 (by simp))) ?_ ?_
   ·rintro x ys H' v hv ⟨⟨hz,hzl⟩,g3⟩
    obtain ⟨w0,hj,hw⟩:=Y2 hv2 hv
    obtain ⟨b2,gv2,rfl,hb2,hg2⟩:=hw.mono g3.tups
    refine (exA rfl (ixT hb2 rfl ⟨sz,fun t1 ht1=>?_⟩))
    have g4:=Gro.new (S:=[]) ht1 (.tup [.int i,gv2])
    refine ⟨⟨?_,by simp [hzl]⟩,g3.trans g4⟩
    rw [Y9 hj,List.map_append]
    exact (Y5 g4.tups hz).snoc ⟨t1,gv2,rfl,Z3,hg2.mono g4.tups⟩
   ·rintro ys H' ⟨⟨hz,hzl⟩,g3⟩ c2 hc3
    have g4:=Gro.new (S:=[]) hc3 (.lst ys)
    have hl1':(us.take 1).length = (vs.take 1).length:=(Paired.length hv2).symm
    rw [List.take_of_length_le (by omega)] at hz
    refine q c2 ys _ N _ Z3 (Y5 g4.tups hz) (fun w hw=>?_) (fun h0=>⟨us,hR h0,hlw.symm⟩) ((g3.trans g4).keep _ _ hl2 (by simp)) (by rw [List.length_map,List.length_take]; omega) (g1.trans (((g2.trans g3).trans g4).mono (by simp)))
    obtain ⟨v,hv,rfl⟩:=List.mem_map.mp hw
    exact ⟨Nat.le_refl _,hi1,(hus v (List.mem_of_mem_take hv)).2⟩
  ·have hlw:Z5l lk i g us = if us.isEmpty = true then [(i,g)] else []:=by rcases hneg with rfl | rfl <;> rfl
   have hw2:¬ isw (Hd.look lk).word "ahead" = true∧¬ isw (Hd.look lk).word "behind" = true:=by
    rcases hneg with rfl | rfl <;> exact ⟨by decide +kernel,by decide +kernel⟩
   refine (exA rfl ⟨rfl,exA rfl (Zd hw2.1 (exA rfl ⟨rfl,exA rfl (Zd hw2.2 ?_)⟩))⟩)
   refine (exA rfl ⟨sz,fun c hc=>?_⟩)
   have g2:=Gro.new (S:=[]) hc (.lst [])
   have hl2:(upd H1 c (.lst [])) lf = some (.lst [.int (f0 - N)]):=g2.keep _ _ hl1 (by simp)
   have hw2:(upd H1 c (.lst [])) wr = some (.lst vs):=g2.keep _ _ hwr (by simp)
   have hemp:vs.isEmpty = us.isEmpty:=by
    cases vs with
    | nil=>cases us with
     | nil=>rfl
     | cons a b=>cases el
    | cons a b=>cases us with
     | nil=>cases el
     | cons a b=>rfl
   refine ⟨wr,c,vs,rfl,rfl,SqL.of hw2,SqL.of Z3,exA rfl (X7 (fun z=>?_) (fun z=>?_))⟩
   ·refine ⟨sz,fun r hr=>?_⟩
    have g3:=Gro.new (S:=[]) hr (.lst [])
    rw [if_neg (by rw [← hemp]; simpa using z)] at hlw
    exact q r [] [] N _ Z3 .nil (fun w hw=>by simp at hw) (fun h0=>⟨us,hR h0,hlw.symm⟩) (g3.keep _ _ hl2 (by simp)) (by show 0 + _ ≤ _; omega) (g1.trans ((g2.trans g3).mono (by simp)))
   ·refine (exA rfl (exA rfl ⟨sz,fun t1 ht1=>⟨sz,fun r hr=>?_⟩⟩))
    rw [if_pos (by rw [← hemp]; simpa using z)] at hlw
    have hg2:=hgs.mono fun b xs h=>g2.tups _ _ (g1.tups _ _ h)
    have g12:=g1.trans (g2.mono (S':=[lf]) (by simp))
    have g3:Gro [] (upd H1 c (.lst [])) (upd (upd (upd H1 c (.lst [])) t1 (.tup [.int i,gv])) r (.lst [.ref t1])):=(Gro.new ht1 _).tup hr
    refine q r [.ref t1] [(i,g)] N _ Z3 (.cons ⟨t1,gv,rfl,?_,hg2.mono g3.tups⟩ .nil) (fun w hw=>by rw [List.mem_singleton.mp hw]; exact me) (fun h0=>⟨us,hR h0,hlw.symm⟩) (g3.keep _ _ hl2 (by simp)) (by show 1 + _ ≤ _; omega) (g12.trans (g3.mono (by simp)))
    rw [Zl (Z7 Z3 hr)]
    exact Z3
 refine Zbx ?_
 intro Ez Az1 Az2 Az3 Az4 Az5 Az6 Az7 Az8 Az9 Az10 Az11 Az12 Az13 Az14 Az15 Az16
 obtain ⟨a0,kv,rfl,lay,hk⟩:=id hp
 obtain ⟨r0,ea⟩:=lay.head
 refine (ixT ea at0 (?_))
 have hnm':=nm_node.mp hnm
 have hlf1:H lf = some (.lst [.int (f0 + 1 - ((1:Nat):Int))]):=by rw [hlf,show f0 + 1 - ((1:Nat):Int) = f0 by omega]
 cases h with
 | again x =>
  obtain ⟨hx,_,ea'⟩:=lay
  obtain ⟨hx1,hx2⟩:1 ≤ x∧x ≤ n:=hnm'.1
  obtain ⟨ga,es,en,rfl,hge,hel,hat,hen⟩:=hgs.ent hx1 (by rw [hgo.len]; exact hx2)
  refine (exA rfl ⟨rfl,exA rfl (Zg (show isw "again" "again" = true by decide +kernel) ?_)⟩)
  refine Za9 (Q:=Q) (fun D hD=>?_)
  subst hD
  refine (exA rfl (ixT ea' rfl ⟨_,_,rfl,rfl,ga,es,_,_,rfl,rfl,SqT.of hge,hat,?_⟩))
  refine (exA rfl (exA rfl (?_)))
  have wy:∀ ws,agW t i g x = ws→0 ≤ f0 + 1 - ((1:Nat):Int)→Wy t (d + 1) (.node (.again x) ks) i g ws 1:=fun ws h _=>⟨h.symm,rfl⟩
  cases he:ent g x with
  | none =>
   rw [he] at hen
   have hen':en = .non:=hen
   exact Zg (decide_eq_true hen') ⟨sz,fun r hr=>q.nil hr Gro.refl hlf1 (wy [] (by unfold agW; rw [he]))⟩
  | some pp =>
   rw [he] at hen
   obtain ⟨pa,rfl,hpa⟩:=hen
   obtain ⟨p1,p2⟩:=Z2x hgo he
   refine Zd (by intro z; have z':=of_decide_eq_true z; cases z') ?_
   refine (exA rfl (ixT hpa at0 ⟨_,rfl,ixT hpa rfl ⟨_,rfl,t,rfl,Xa (by omega),?_⟩⟩))
   have hsl:Txt.slice t (some (pp.1:Int)) (some (pp.2:Int)) = sub t pp.1 pp.2:=Xo (by omega) (by omega)
   rw [hsl]
   have hs1:=Z4f (t:=t) p1 p2
   refine (exA rfl (exA rfl (exA rfl (exA rfl (exA rfl (exA rfl ⟨Xa (by omega),exB rfl rfl (exA rfl ⟨t,rfl,Xa (by omega),exA rfl ⟨rfl,exA rfl (?_)⟩⟩)⟩))))))
   have hend:(i:Int) + ((sub t pp.1 pp.2).length:Int) = ((i + (pp.2 - pp.1):Nat):Int):=by rw [hs1]; omega
   have hs2:Txt.slice t (some (i:Int)) (some ((i:Int) + ((sub t pp.1 pp.2).length:Int))) = sub t i (i + (pp.2 - pp.1)):=by
    rw [hend,Xo (by omega) (by omega)]
    rfl
   show if decide (V.str (Txt.slice t (some (i:Int)) (some ((i:Int) + ((sub t pp.1 pp.2).length:Int)))) = V.str (sub t pp.1 pp.2)) = true then _ else _
   rw [hs2]
   have hag:agW t i g x = if sub t i (i + (pp.2 - pp.1)) = sub t pp.1 pp.2 then [(i + (pp.2 - pp.1),g)] else []:=by unfold agW; rw [he]
   by_cases hz:sub t i (i + (pp.2 - pp.1)) = sub t pp.1 pp.2
   ·rw [if_pos hz] at hag
    refine Zg (decide_eq_true (by rw [hz])) ?_
    refine (exA rfl (exA rfl (exA rfl ⟨Xa (by omega),exB rfl rfl (exA rfl ⟨sz,fun t1 ht1=>⟨sz,fun r hr=>?_⟩⟩)⟩)))
    have gw:=Wy.good (t:=t) (n:=n) (d + 1) (.node (.again x) ks) i g _ 1 hnm hi1 hgo ⟨rfl,rfl⟩
    have e1:V.int ((i:Int) + ((sub t pp.1 pp.2).length:Int)) = V.int ((i + (pp.2 - pp.1):Nat):Int):=by rw [hend]
    have:=q.one (N:=1) (i:=i + (pp.2 - pp.1)) (gs:=g) (t:=t1) (r:=r) (gv:=.ref ga) ht1 (by rw [← e1]; exact hr) Gro.refl hlf1 (Nat.le_refl _) (by omega) hgs (gw.all _ (by rw [hag]; simp)) (wy _ hag)
    rw [← e1] at this
    exact this
   ·rw [if_neg hz] at hag
    refine Zd (fun z=>hz ?_) ⟨sz,fun r hr=>q.nil hr Gro.refl hlf1 (wy [] hag)⟩
    have z':=of_decide_eq_true z
    injection z'
 | hav x =>
  obtain ⟨hx,y,z,rfl,ea'⟩:=lay
  obtain ⟨hx1,hx2⟩:1 ≤ x∧x ≤ n:=hnm'.1
  obtain ⟨ga,es,en,rfl,hge,hel,hat,hen⟩:=hgs.ent hx1 (by rw [hgo.len]; exact hx2)
  cases hk with
  | cons hp1 hk2 =>
  cases hk2 with
  | cons hp2 hk3 =>
  cases hk3
  rename_i p1 p2
  refine (exA rfl ⟨rfl,exA rfl (Zd (show ¬ isw "have" "again" = true by decide +kernel) ?_)⟩)
  refine (exA rfl ⟨rfl,exA rfl (Zg (show isw "have" "have" = true by decide +kernel) ?_)⟩)
  refine (exA rfl (exA rfl (ixT ea' rfl ⟨_,_,rfl,rfl,ga,es,_,_,rfl,rfl,SqT.of hge,hat,.inr (exA rfl (exB rfl rfl (?_)))⟩)))
  have fin:∀ (pp:Pat),pp = (if (ent g x).isSome = true then p1 else p2)→WX lf (Gd t n i) (Wy t d pp i g) f0 Q H:=fun pp hpp r vs ws N H' h1 h2 h3 h4 h5 h6 h7 =>
   q r vs ws (N + 1) H' h1 h2 h3 (fun h0=>⟨p1,p2,N,rfl,by rw [← hpp]; exact h4 (by omega),rfl⟩) (by rw [h5,show f0 - (N:Int) = f0 + 1 - ((N + 1:Nat):Int) by omega]) (by omega) h7
  cases he:ent g x with
  | none =>
   rw [he] at hen
   have hen':en = .non:=hen
   rw [decide_eq_true hen']
   exact ⟨a0,_,_,_,rfl,rfl,SqT.of ea',rfl,exA rfl (exA rfl (exA rfl (exA rfl ⟨z,_,p2,t,i,n,g,f0,lf,rfl,hp2,hnm'.2 p2 (by simp),ht,hi1,hn,hgs,hgo,hlf,by omega,fin p2 (by rw [he]; rfl)⟩)))⟩
  | some pp =>
   rw [he] at hen
   obtain ⟨pa,rfl,hpa⟩:=hen
   rw [decide_eq_false (by intro z; cases z)]
   exact ⟨a0,_,_,_,rfl,rfl,SqT.of ea',rfl,exA rfl (exA rfl (exA rfl (exA rfl ⟨y,_,p1,t,i,n,g,f0,lf,rfl,hp1,hnm'.2 p1 (by simp),ht,hi1,hn,hgs,hgo,hlf,by omega,fin p1 (by rw [he]; rfl)⟩)))⟩
 | look lk =>
  obtain ⟨k0,rfl,ea'⟩:=lay
  cases hk with
  | cons hp1 hk2 =>
  cases hk2
  rename_i p1
  have hnm1:=hnm'.2 p1 (by simp)
  have q0:∀ (r:Addr) (vs:List V) (ws:List Way) (N:Nat) (H':Hp),H' r = some (.lst vs)→Paired (WyA H') vs ws→(∀ w ∈ ws,Gd t n i w)→(0 ≤ f0 - N→∃ us,(∃ p l,Hd.look lk = .look l∧[p1] = [p]∧(if l.leans = true then Bx (Wy t d) p i g i us N else Wy t d p i g us N))∧ws = Z5l lk i g us)→H' lf = some (.lst [.int (f0 - N)])→ws.length + (f0 - N).toNat ≤ f0.toNat + 1→Gro [lf] H H'→Q (.ref r) H':=fun r vs ws N H' h1 h2 h3 h4 h5 h6 h7 =>
   q r vs ws (N + 1) H' h1 h2 h3 (fun h0=>by
    obtain ⟨us,⟨p,l,e1,e2,h⟩,e3⟩:=h4 (by omega)
    cases e1
    cases e2
    exact ⟨p1,us,N,rfl,h,rfl,e3⟩) (by rw [h5,show f0 - (N:Int) = f0 + 1 - ((N + 1:Nat):Int) by omega]) (by omega) h7
  cases lk with
  | once =>
   refine (exA rfl ⟨rfl,exA rfl (Zd (show ¬ isw "once" "again" = true by decide +kernel) ?_)⟩)
   refine (exA rfl ⟨rfl,exA rfl (Zd (show ¬ isw "once" "have" = true by decide +kernel) ?_)⟩)
   refine (exA rfl ⟨rfl,exA rfl (Zg (show isw "once" "once" = true by decide +kernel) ?_)⟩)
   refine Za9 (Q:=Q) (fun D hD=>?_)
   subst hD
   refine (ixT ea' rfl ⟨_,rfl,_,rfl,_,rfl,_,rfl,k0,gv,p1,t,i,n,g,f0,lf,rfl,hp1,hnm1,ht,hi1,hn,hgs,hgo,hlf,by omega,fun r vs ws N H1 hr1 hv1 hs1 hR1 hl1 hlen1 g1=>?_⟩)
   refine (exA rfl ⟨r,vs,rfl,SqL.of hr1,fun c hc=>?_⟩)
   rw [Z1q]
   have g2:=Gro.new (S:=[lf]) hc (.lst (vs.take 1))
   exact q0 c (vs.take 1) (ws.take 1) N _ Z3 (Y5 g2.tups (Ye 1 hv1)) (fun w hw=>hs1 w (List.mem_of_mem_take hw)) (fun h0=>⟨ws,⟨p1,.once,rfl,rfl,hR1 h0⟩,rfl⟩) (by rw [Zl (Z7 hl1 hc)]; exact hl1) (by rw [List.length_take]; omega) (g1.trans g2)
  | ahead =>
   refine (exA rfl ⟨rfl,exA rfl (Zd (show ¬ isw "ahead" "again" = true by decide +kernel) ?_)⟩)
   refine (exA rfl ⟨rfl,exA rfl (Zd (show ¬ isw "ahead" "have" = true by decide +kernel) ?_)⟩)
   refine (exA rfl ⟨rfl,exA rfl (Zd (show ¬ isw "ahead" "once" = true by decide +kernel) ?_)⟩)
   refine (exA rfl ⟨rfl,exA rfl (Zg (show isw "ahead" "ahead" = true by decide +kernel) (Z0k ?_))⟩)
   exact (ixT ea' rfl ⟨_,rfl,_,rfl,_,rfl,_,rfl,k0,gv,p1,t,i,n,g,f0,lf,rfl,hp1,hnm1,ht,hi1,hn,hgs,hgo,hlf,by omega,fun r vs ws N H1 hr1 hv1 hs1 hR1 hl1 hlen1 g1=>⟨r,vs,ws,N,rfl,hr1,hv1,fun w hw=>⟨(hs1 w hw).hi,(hs1 w hw).g⟩,hl1,hlen1,g1,fun h0=>⟨p1,.ahead,rfl,rfl,hR1 h0⟩,.ahead,rfl,(by decide),q0⟩⟩)
  | notahead =>
   refine (exA rfl ⟨rfl,exA rfl (Zd (show ¬ isw "notahead" "again" = true by decide +kernel) ?_)⟩)
   refine (exA rfl ⟨rfl,exA rfl (Zd (show ¬ isw "notahead" "have" = true by decide +kernel) ?_)⟩)
   refine (exA rfl ⟨rfl,exA rfl (Zd (show ¬ isw "notahead" "once" = true by decide +kernel) ?_)⟩)
   refine (exA rfl ⟨rfl,exA rfl (Zd (show ¬ isw "notahead" "ahead" = true by decide +kernel) (exA rfl ⟨rfl,exA rfl (Zg (show isw "notahead" "notahead" = true by decide +kernel) ?_)⟩))⟩)
   exact (ixT ea' rfl ⟨_,rfl,_,rfl,_,rfl,_,rfl,k0,gv,p1,t,i,n,g,f0,lf,rfl,hp1,hnm1,ht,hi1,hn,hgs,hgo,hlf,by omega,fun r vs ws N H1 hr1 hv1 hs1 hR1 hl1 hlen1 g1=>⟨r,vs,ws,N,rfl,hr1,hv1,fun w hw=>⟨(hs1 w hw).hi,(hs1 w hw).g⟩,hl1,hlen1,g1,fun h0=>⟨p1,.notahead,rfl,rfl,hR1 h0⟩,.notahead,rfl,(by decide),q0⟩⟩)
  | behind =>
   refine (exA rfl ⟨rfl,exA rfl (Zd (show ¬ isw "behind" "again" = true by decide +kernel) ?_)⟩)
   refine (exA rfl ⟨rfl,exA rfl (Zd (show ¬ isw "behind" "have" = true by decide +kernel) ?_)⟩)
   refine (exA rfl ⟨rfl,exA rfl (Zd (show ¬ isw "behind" "once" = true by decide +kernel) ?_)⟩)
   refine (exA rfl ⟨rfl,exA rfl (Zd (show ¬ isw "behind" "ahead" = true by decide +kernel) (exA rfl ⟨rfl,exA rfl (Zd (show ¬ isw "behind" "notahead" = true by decide +kernel) ?_)⟩))⟩)
   exact (ixT ea' rfl ⟨_,rfl,_,rfl,_,rfl,_,rfl,k0,gv,p1,t,i,n,g,f0,lf,rfl,hp1,hnm1,ht,hi1,hn,hgs,hgo,hlf,by omega,fun r vs ws N H1 hr1 hv1 hs1 hR1 hl1 hlen1 g1=>⟨r,vs,ws,N,rfl,hr1,hv1,fun w hw=>⟨(hs1 w hw).hi,(hs1 w hw).g⟩,hl1,hlen1,g1,fun h0=>⟨p1,.behind,rfl,rfl,hR1 h0⟩,.behind,rfl,(by decide),q0⟩⟩)
  | notbehind =>
   refine (exA rfl ⟨rfl,exA rfl (Zd (show ¬ isw "notbehind" "again" = true by decide +kernel) ?_)⟩)
   refine (exA rfl ⟨rfl,exA rfl (Zd (show ¬ isw "notbehind" "have" = true by decide +kernel) ?_)⟩)
   refine (exA rfl ⟨rfl,exA rfl (Zd (show ¬ isw "notbehind" "once" = true by decide +kernel) ?_)⟩)
   refine (exA rfl ⟨rfl,exA rfl (Zd (show ¬ isw "notbehind" "ahead" = true by decide +kernel) (exA rfl ⟨rfl,exA rfl (Zd (show ¬ isw "notbehind" "notahead" = true by decide +kernel) ?_)⟩))⟩)
   exact (ixT ea' rfl ⟨_,rfl,_,rfl,_,rfl,_,rfl,k0,gv,p1,t,i,n,g,f0,lf,rfl,hp1,hnm1,ht,hi1,hn,hgs,hgo,hlf,by omega,fun r vs ws N H1 hr1 hv1 hs1 hR1 hl1 hlen1 g1=>⟨r,vs,ws,N,rfl,hr1,hv1,fun w hw=>⟨(hs1 w hw).hi,(hs1 w hw).g⟩,hl1,hlen1,g1,fun h0=>⟨p1,.notbehind,rfl,rfl,hR1 h0⟩,.notbehind,rfl,(by decide),q0⟩⟩)
 | _=>cases hkd
end
theorem Z8i {h:Hd} (e:h.wd.kd = .one):h.one = true:=by
 cases h with
 | look lk=>cases lk <;> cases e
 | _=>first | cases e; done | rfl
theorem Z5t {h:Hd} (e:h.wd.kd = .edge):h = .beg ∨ h = .fin:=by
 cases h with
 | look lk=>cases lk <;> cases e
 | beg=>exact .inl rfl
 | fin=>exact .inr rfl
 | _=>cases e
theorem Zcm {h:Hd} (e:h.wd.kd = .row):h = .row:=by
 cases h with
 | look lk=>cases lk <;> cases e
 | row=>rfl
 | _=>cases e
theorem Zco {h:Hd} (e:h.wd.kd = .alt):h = .alt:=by
 cases h with
 | look lk=>cases lk <;> cases e
 | alt=>rfl
 | _=>cases e
theorem Zcn {h:Hd} (e:h.wd.kd = .grp):∃ k,h = .grp k:=by
 cases h with
 | look lk=>cases lk <;> cases e
 | grp k=>exact ⟨k,rfl⟩
 | _=>cases e
theorem Z7o {h:Hd} (e:h.wd.kd = .times):∃ lo hi how,h = .times lo hi how:=by
 cases h with
 | look lk=>cases lk <;> cases e
 | times lo hi how=>exact ⟨lo,hi,how,rfl⟩
 | _=>cases e
theorem Rx.snoc {W:Wk}:∀ {ks:List Pat} {p:Pat} {vs ws us:List Way} {N N':Nat},Rx W ks vs ws N→Ew W p ws us N'→Rx W (ks ++ [p]) vs us (N + N')
 | _,_,_,_,_,_,_,.nil,h=>by
  have:=Rx.cons h (Rx.nil (W:=W))
  simpa using this
 | _,_,_,_,_,_,_,.cons h r,h'=>by
  have:=Rx.cons h (Rx.snoc r h')
  rw [Nat.add_assoc]
  exact this
theorem Ax.snoc {W:Wk} {i:Nat} {g:Gs}:∀ {ks:List Pat} {p:Pat} {ws us:List Way} {N N':Nat},Ax W i g ks ws N→W p i g us N'→Ax W i g (ks ++ [p]) (ws ++ us) (N + N')
 | _,_,_,_,_,_,.nil,h=>by
  have:=Ax.cons h (Ax.nil (W:=W) (i:=i) (g:=g))
  rw [List.append_nil] at this
  simpa using this
 | _,_,_,_,_,_,.cons h r,h'=>by
  have:=Ax.cons h (Ax.snoc r h')
  rw [List.append_assoc,Nat.add_assoc]
  exact this
section
variable {P:Program} {w:World} {K:PySem.W.Frag} {mg:Str→Option Value} {base:Heap} {f:Addr} {fd:FuncData}
abbrev s_l_ways:Stmt:=top 53
theorem sc_l_ways:FnScope ["_law_p", "_law_text_here", "_law_i", "_law_g", "_law_left", "_law_word", "_law_ways_here", "_law_part"] ["_law_p", "_law_text_here", "_law_i", "_law_g", "_law_left"] (Zb s_l_ways):=fsc
theorem Z9o {d k:Nat} (T:Blt mg) (O_l_takes:Own P w K mg base k "_law_takes" ["_law_p", "_law_sign_here"] Zal) (O_l_each:Own P w K mg base k "_law_each" ["_law_part", "_law_text_here", "_law_ways_here", "_law_left"] (Z4m d)) (O_l_turns:Own P w K mg base k "_law_turns" ["_law_p", "_law_text_here", "_law_n", "_law_j", "_law_g", "_law_left"] (J0 d 29)) (O_l_memory:Own P w K mg base k "_law_memory" ["_law_p", "_law_text_here", "_law_i", "_law_g", "_law_left"] (Z8w d)) (O_l_ways:Own P w K mg base k "_law_ways" ["_law_p", "_law_text_here", "_law_i", "_law_g", "_law_left"] (Wa d)) (F:Fun K "_law_ways" "_law_ways" s_l_ways f fd) :
  FnOk P w K mg base CX0 (k + 1) f fd ["_law_p", "_law_text_here", "_law_i", "_law_g", "_law_left"] (Wa (d + 1)):=by
 refine F.ok sc_l_ways (fun vs H Q E h=>?_) (fun cdv A outer s H vs Q E hr h=>?_)
 ·obtain ⟨v0,gv,p,t,i,n,g,f,lf,rfl,_⟩:=h
  rfl
 obtain ⟨v0,gv,p,t,i,n,g,f0,lf,rfl,hp,hnm,ht,hi1,hn,hgs,hgo,hlf,hf,q⟩:=h
 refine ltX ?_
 intro Xz
 refine ⟨_,(Z1 (W0 (Zu Yh (Z8 Zz (pv 4) Z2 (fun _ _=>rfl)) Z2) (W1 (pv 4) Z2 Yu))
  (Z1 (Zo (Z9 Wh (Z8 Zz (pv 4) Z2 (fun _ _=>rfl)) Z2 (Zc _)) (Z5 (Zh (Zv Z4))) Zf)
  (Z1 (pS 5 sc_l_ways.nd (Z8 Z6 (pv 0) Z2 (fun _ _=>rfl)))
  (Z1 (Zo (Z9 Xh (pv 5) (Zj (Z0 Ze (Z0 Ze (Z0 Ze (Z0 Ze Z4))))) (by with_unfolding_all rfl)) (Z1 (Zo (PW.pt (Xp (Z9 Wh (pv 2) (Zp Y6 rfl T.b_len PyProof.Rows.Boot.«len» (Z0 (pv 1) Z4)) (Zc _)) (X2 (Yy (Zk (O_l_takes.mono (by omega)) hr rfl (Z0 (pv 0) (Z0 (Z8 Z0j (pv 1) (pv 2) (fun _ _=>rfl)) Z4))))))) (Z5 (Zh (Zv (Z0 (Zj (Z0 (Zu Ya (pv 2) Z2) (Z0 (pv 3) Z4))) Z4)))) Zf)
  (Z5 (Zh (Zv Z4)))) Zf)
  (Z1 (Zo (PW.pt (Ws (Z9 Zs (pv 5) Ze (Zc _)) (Xe (Z9 Zs (pv 5) Ze (Zc _))))) (Z1 (Zo (Z9 Zs (pv 2) (Z8 Zz (Zv (Z0 Z2 (Z0 (Zp Y6 rfl T.b_len PyProof.Rows.Boot.«len» (Z0 (pv 1) Z4)) Z4))) (Ys Wl rfl T.b_int PyProof.Rows.Boot.«int» (Z0 (Yp Zs (pv 5) Ze (Zc _)) Z4)) (fun _ _=>rfl)) (Zc _)) (Z5 (Zh (Zv (Z0 (Zj (Z0 (pv 2) (Z0 (pv 3) Z4))) Z4)))) Zf)
  (Z5 (Zh (Zv Z4)))) Zf)
  (Z1 (Zo (Z9 Zs (pv 5) Ze (Zc _)) (Z1 (pS 6 sc_l_ways.nd (Zv (Z0 (Zj (Z0 (pv 2) (Z0 (pv 3) Z4))) Z4)))
  (Z1 (Xl PassesOwn.never rfl (Vg (Z8 Z6 (pv 0) Z2 (fun _ _=>rfl))) (pN 7 sc_l_ways.nd) (Z5 (pS 6 sc_l_ways.nd (Zk (O_l_each.mono (by omega)) hr rfl (Z0 (pv 7) (Z0 (pv 1) (Z0 (pv 6) (Z0 (pv 4) Z4))))))))
  (Z5 (Zh (pv 6))))) Zf)
  (Z1 (Zo (Z9 Zs (pv 5) Ze (Zc _)) (Z1 (pS 6 sc_l_ways.nd (Zv Z4))
  (Z1 (Xl PassesOwn.never rfl (Vg (Z8 Z6 (pv 0) Z2 (fun _ _=>rfl))) (pN 7 sc_l_ways.nd) (Z5 (pS 6 sc_l_ways.nd (Zu Tj (pv 6) (Zk (O_l_ways.mono (by omega)) hr rfl (Z0 (pv 7) (Z0 (pv 1) (Z0 (pv 2) (Z0 (pv 3) (Z0 (pv 4) Z4))))))))))
  (Z5 (Zh (pv 6))))) Zf)
  (Z1 (Zo (Z9 Zs (pv 5) Ze (Zc _)) (Z1 (pS 6 sc_l_ways.nd (Zk (O_l_turns.mono (by omega)) hr rfl (Z0 (pv 0) (Z0 (pv 1) (Z0 Z2 (Z0 (pv 2) (Z0 (pv 3) (Z0 (pv 4) Z4))))))))
  (Z1 (Zo (Z9 Zs (Z8 Z6 (pv 0) Z2 (fun _ _=>rfl)) Ze (Zc _)) (Z5 (Zh (Y1 Vp (pv 6) Yf (Y3 Z2)))) Zf)
  (Z5 (Zh (pv 6))))) Zf)
  (Z1 (Zo (Z9 Zs (pv 5) Ze (Zc _)) (Z1 (pS 6 sc_l_ways.nd (Zk (O_l_ways.mono (by omega)) hr rfl (Z0 (Z8 Z6 (pv 0) Z2 (fun _ _=>rfl)) (Z0 (pv 1) (Z0 (pv 2) (Z0 (pv 3) (Z0 (pv 4) Z4)))))))
  (Z5 (Zh (Xm rfl (show CScope _ ["_law_p", "_law_text_here", "_law_i", "_law_g", "_law_left", "_law_word", "_law_ways_here", "_law_part"] (Zb s_l_ways) _ from ⟨rfl,by decide +kernel,rfl,by decide +kernel,by decide +kernel,by decide +kernel,by decide +kernel⟩) (We (pv 6)) (fun _ _ _ _=>V0) (fun _ _ _ _=>(Zj (Z0 (Z8 (r:=U0 K) Z6 (pv 0) Z2 (fun _ _=>rfl)) (Z0 (Zu (r:=T2 K) X4 (Zu (r:=T2 K) X4 (Y1 (r:=Zap K) Xk (Z8 (r:=U0 K) Z6 (pv 0) Z2 (fun _ _=>rfl)) Yf (Y3 (Zu Yh (Z8 (r:=U0 K) Z6 (pv 1) Z2 (fun _ _=>rfl)) Z2))) (Zj (Z0 (Zj (Z0 (pv 3) (Z0 (Z8 (r:=U0 K) Z6 (pv 0) Z2 (fun _ _=>rfl)) Z4))) Z4))) (Y1 (r:=Zap K) Xk (Z8 (r:=U0 K) Z6 (pv 0) Z2 (fun _ _=>rfl)) (Y3 (Z8 (r:=U0 K) Z6 (pv 1) Z2 (fun _ _=>rfl))) Yf)) Z4)))))))) Zf)
  (Z5 (Zh (Zk (O_l_memory.mono (by omega)) hr rfl (Z0 (pv 0) (Z0 (pv 1) (Z0 (pv 2) (Z0 (pv 3) (Z0 (pv 4) Z4))))))))))))))))),?_⟩
 refine Z87 ?_
 intro Ez Az1 Az2 Az3 Az4 Az5 Az6 Az7 Az8 Az9 Az10 Az11 Az12 Az13 Az14 Az15 Az16 Az17 Az18 Az19 Az20 Az21 Az22 Az23 Az24 Az25 Az26 Az27 Az28 Az29 Az30
 refine (ixL hlf rfl (exB rfl rfl (exA rfl ⟨lf,_,_,0,rfl,rfl,hlf,rfl,?_⟩)))
 have g1:Gro [lf] H (upd H lf (.lst [.int (f0 - 1)])):=Gro.set (by simp) hlf _
 have hl1:(upd H lf (.lst [.int (f0 - 1)])) lf = some (.lst [.int (f0 - ((1:Nat):Int))]):=Z3
 refine (ixL hl1 rfl (exB rfl rfl (exA rfl (X7 (fun z=>?_) (fun z=>?_)))))
 ·have hz:f0 - 1 < 0:=of_decide_eq_true z
  exact ⟨sz,fun r hr=>q.nil hr g1 hl1 (fun h0=>by exfalso; have:f0 - ((1:Nat):Int) = f0 - 1:=rfl; omega)⟩
 have hf0:0 ≤ f0 - 1:=by
  have:¬ f0 - 1 < 0:=fun z'=>z (decide_eq_true z')
  omega
 obtain ⟨h,ks⟩:=p
 obtain ⟨a0,kv,rfl,lay,hk⟩:=id hp
 obtain ⟨r0,ea⟩:=lay.head
 refine (ixT (g1.tups _ _ ea) at0 (?_))
 refine (exA rfl ⟨sz,fun tp htp=>?_⟩)
 have g2:Gro [lf] H (upd (upd H lf (.lst [.int (f0 - 1)])) tp (.tup Yq)):=g1.trans (Gro.new htp _)
 have hl2:(upd (upd H lf (.lst [.int (f0 - 1)])) tp (.tup Yq)) lf = some (.lst [.int (f0 - ((1:Nat):Int))]):=by rw [Zl (Z7 hl1 htp)]; exact hl1
 refine ⟨tp,Yq,rfl,.inr (SqT.of Z3),rfl,rfl,exA rfl (?_)⟩
 show if inV (.str h.word) Yq = true then _ else _
 rw [Zcp]
 have hp2:=hp.mono g2.tups
 have lay2:=lay.mono g2.tups
 have hk2:Paired (PatAt (upd (upd H lf (.lst [.int (f0 - 1)])) tp (.tup Yq)) d) kv ks:=Paired.mapP hk fun _ _ h=>h.mono g2.tups
 have hg2:=hgs.mono g2.tups
 have hnm':=nm_node.mp hnm
 have me:Gd t n i (i,g):=⟨Nat.le_refl _,hi1,hgo⟩
 have q2:WX lf (Gd t n i) (Wy t (d + 1) (.node h ks) i g) f0 Q (upd (upd H lf (.lst [.int (f0 - 1)])) tp (.tup Yq)):=fun r vs ws N H' h1 h2 h3 h4 h5 h6 h7=>q r vs ws N H' h1 h2 h3 h4 h5 h6 (g2.trans h7)
 have no_:∀ {A B:Prop} (x:Kd),h.wd.kd ≠ x→B→if decide (h.wd.kd = x) = true then A else B:=fun x hx b=>Zd (fun z=>hx (of_decide_eq_true z)) b
 have yes_:∀ {A B:Prop} (x:Kd),h.wd.kd = x→A→if decide (h.wd.kd = x) = true then A else B:=fun x hx a=>Zg (decide_eq_true hx) a
 have hl2':(upd (upd H lf (.lst [.int (f0 - 1)])) tp (.tup Yq)) lf = some (.lst [.int (f0 - 1)]):=hl2
 have sub1:∀ N:Nat,f0 - 1 - (N:Int) = f0 - ((N + 1:Nat):Int):=fun N=>by omega
 by_cases c1:h.wd.kd = .one
 ·refine yes_ _ c1 ?_
  refine Za9 (Q:=Q) (fun D hD=>?_)
  subst hD
  have hone:=Z8i c1
  have hsg:∀ ws,ws = (if Y8 h t i = true then [(i + 1,g)] else [])→Wy t (d + 1) (.node h ks) i g ws 1:=fun ws hws=>by
   cases h <;> first | exact ⟨hws,rfl⟩ | cases hone
  have htk:Y8 h t i = if (i:Int) < t.length then h.eats (chr t (i:Int).toNat) else false:=rfl
  refine (exA rfl (exA rfl ⟨t,rfl,Xa (by omega),exB rfl rfl (exA rfl (?_))⟩))
  by_cases hlt:(i:Int) < t.length
  ·rw [if_pos hlt] at htk
   refine Zg (decide_eq_true hlt) ?_
   refine (exA rfl (exA rfl (exA rfl ⟨t,i,exA rfl ⟨rfl,Xa (by omega),Z6d (by omega) hlt,d + 1,_,h,ks,_,rfl,hp2,hone,rfl,fun H3 g3=>(exA rfl (?_))⟩⟩)))
   have hl3:=g3.keep _ _ hl2 (by simp)
   show if h.eats (chr t (i:Int).toNat) = true then _ else _
   rw [← htk]
   by_cases htr:Y8 h t i = true
   ·refine Zg htr ?_
    refine (exA rfl (exB rfl rfl (exA rfl ⟨sz,fun t1 ht1=>⟨sz,fun r hr=>?_⟩⟩)))
    have e1:V.int ((i:Int) + 1) = V.int ((i + 1:Nat):Int):=rfl
    exact q2.one (N:=1) (i:=i + 1) (gs:=g) ht1 hr (g3.mono (by simp)) hl3 (Nat.le_refl _) (by omega) (hg2.mono g3.tups) ⟨by show i ≤ i + 1; omega,by show i + 1 ≤ _; omega,hgo⟩ (fun _=>hsg _ (by rw [if_pos htr]))
   ·exact Zd htr ⟨sz,fun r hr=>q2.nil hr (g3.mono (by simp)) hl3 (fun _=>hsg _ (by rw [if_neg htr]))⟩
  ·rw [if_neg hlt] at htk
   exact Zd (fun z=>hlt (of_decide_eq_true z)) (Z0l ⟨sz,fun r hr=>q2.nil hr Gro.refl hl2 (fun _=>hsg _ (by rw [htk]; rfl))⟩)
 refine no_ _ c1 ?_
 by_cases c2:h.wd.kd = .edge
 ·have hor:isw h.word "begin" = true ∨ isw h.word "end" = true:=by
   have:=Z5u h
   rw [decide_eq_true c2] at this
   simpa using this
  obtain ⟨b,hw,hwy⟩:∃ b:Bool,decide (V.str h.word = V.str "end") = b∧∀ ws,ws = (if i = (if b = true then t.length else 0) then [(i,g)] else [])→Wy t (d + 1) (.node h ks) i g ws 1:=by
   rcases Z5t c2 with rfl | rfl
   ·exact ⟨false,by decide +kernel,fun ws h=>⟨h,rfl⟩⟩
   ·exact ⟨true,by decide +kernel,fun ws h=>⟨h,rfl⟩⟩
  refine (exA rfl ⟨rfl,exA rfl (?_)⟩)
  refine (fun key=>X7 (fun z=>Z0k key) (fun z=>⟨_,rfl,rfl,_,rfl,Zg (by rcases hor with hor | hor <;> first | exact hor | exact absurd hor z) key⟩)) ?_
  refine (exA rfl (exA rfl ⟨t,rfl,Xa (by omega),sz,fun l hl=>?_⟩))
  refine (exA rfl ⟨rfl,.inr (exA rfl (?_))⟩)
  have g3:=Gro.new (S:=[lf]) hl (.lst [.int 0,.int t.length])
  have hl3:=(Gro.new (S:=[]) hl (.lst [.int 0,.int t.length])).keep _ _ hl2 (by simp)
  rw [hw]
  cases b
  all_goals
   refine ⟨l,_,_,_,rfl,rfl,SqL.of Z3,rfl,rfl,exA rfl (X7 (fun z=>?_) (fun z=>⟨sz,fun r hr=>q2.nil hr g3 hl3 (fun _=>hwy _ ?_)⟩))⟩
   ·refine (exA rfl (exA rfl ⟨sz,fun t1 ht1=>⟨sz,fun r hr=>q2.one ht1 hr g3 hl3 (Nat.le_refl _) (by omega) (hg2.mono g3.tups) me (fun _=>hwy _ ?_)⟩⟩))
    have z':=of_decide_eq_true z
    injection z' with z'
    first | rw [if_pos (by simp; omega)] | rw [if_pos (by simpa using z')]
   ·rw [if_neg ?_]
    intro e
    refine z (decide_eq_true ?_)
    simp at e
    rw [e]
    try rfl
 have hno:isw h.word "begin" = false∧isw h.word "end" = false:=by
  have:=Z5u h
  rw [decide_eq_false c2] at this
  exact Bool.or_eq_false_iff.mp this
 refine (exA rfl ⟨rfl,exA rfl (Zd (fun z=>by rw [show isw h.word "begin" = true from z] at hno; cases hno.1) (exA rfl ⟨rfl,exA rfl (Zd (fun z=>by rw [show isw h.word "end" = true from z] at hno; cases hno.2) ?_)⟩))⟩)
 refine (exA rfl ⟨rfl,exA rfl (?_)⟩)
 show if isw h.word "row" = true then _ else _
 rw [Ze2]
 by_cases c3:h.wd.kd = .row
 ·refine yes_ _ c3 ?_
  refine Za9 (Q:=Q) (fun D hD=>?_)
  subst hD
  obtain rfl:=Zcm c3
  obtain ⟨hkv,r,ea',er⟩:=lay2
  refine (exA rfl (exA rfl ⟨sz,fun t1 ht1=>⟨sz,fun l1 hl1'=>?_⟩⟩))
  have g3:Gro [] (upd (upd H lf (.lst [.int (f0 - 1)])) tp (.tup Yq)) (upd (upd (upd (upd H lf (.lst [.int (f0 - 1)])) tp (.tup Yq)) t1 (.tup [.int i,gv])) l1 (.lst [.ref t1])):=(Gro.new ht1 _).tup hl1'
  have et:(upd (upd (upd (upd H lf (.lst [.int (f0 - 1)])) tp (.tup Yq)) t1 (.tup [.int i,gv])) l1 (.lst [.ref t1])) t1 = some (.tup [.int i,gv]):=by rw [Zl (Z7 Z3 hl1')]; exact Z3
  refine (ixT (g3.tups _ _ ea') rfl ⟨r,rfl,⟨kv,SqT.of (g3.tups _ _ er)⟩,?_⟩)
  have hkl:=Paired.length hk
  refine Uv (xs:=kv) (fun x σ H'=>∃ (wr:Addr) (vs:List V) (ws:List Way) (N:Nat) (pt:Option V),σ = [some (.ref a0),some (.str t),some (.int i),some gv,some (.ref lf),some (.str (Hd.word .row)),some (.ref wr),pt]∧H' wr = some (.lst vs)∧Paired (WyA H') vs ws∧(∀ w ∈ ws,Gd t n i w)∧(0 ≤ f0 - 1 - N→Rx (Wy t d) (ks.take x) [(i,g)] ws N)∧H' lf = some (.lst [.int (f0 - 1 - N)])∧ws.length + (f0 - 1 - N).toNat ≤ f0.toNat∧Gro [lf] (upd (upd H lf (.lst [.int (f0 - 1)])) tp (.tup Yq)) H')
   ⟨l1,[.ref t1],[(i,g)],0,none,rfl,Z3,.cons ⟨t1,gv,rfl,et,hg2.mono g3.tups⟩ .nil,(fun w hw=>by rw [List.mem_singleton.mp hw]; exact me),(fun _=>.nil),by have:=g3.keep _ _ hl2' (by simp); simpa using this,by show 1 + (f0 - 1 - ((0:Nat):Int)).toNat ≤ f0.toNat; omega,g3.mono (by simp)⟩ (fun x σ H' _ hh=>by obtain ⟨_,_,_,_,_,_,_,_,_,_,_,_,g⟩:=hh; exact SqT.of (g.tups _ _ er)) ?_ ?_
  ·rintro x v σ H4 hv ⟨wr,vs,ws,N,pt,rfl,hwr,hvs,hws,hR,hl4,hlen4,g4⟩
   obtain ⟨pp,hpp,hpv⟩:=Y2 hk2 hv
   have hmem:=List.mem_of_getElem? hpp
   refine (exA rfl (exA rfl (exA rfl (exA rfl ⟨v,pp,t,i,n,f0 - 1 - N,wr,lf,vs,ws,rfl,hpv.mono g4.tups,hnm'.2 pp hmem,ht,hn,hwr,hvs,by rw [Paired.length hvs]; omega,hws,hl4,by omega,fun r5 vs5 ws5 N5 H5 hr5 hv5 hs5 hR5 hl5 hlen5 g5=>?_⟩))))
   have hN:f0 - 1 - (N:Int) - (N5:Int) = f0 - 1 - ((N + N5:Nat):Int):=by omega
   refine ⟨r5,vs5,ws5,N + N5,exA rfl ⟨hr5,hv5,hs5,fun h0=>?_,by rw [hl5,hN],by omega,g4.trans g5⟩⟩
   rw [Y9 hpp]
   exact (hR (by omega)).snoc (hR5 (by omega))
  ·rintro σ H4 ⟨wr,vs,ws,N,pt,rfl,hwr,hvs,hws,hR,hl4,hlen4,g4⟩
   rw [List.take_of_length_le (by omega)] at hR
   exact (exA rfl (q2 wr vs ws (N + 1) H4 hwr hvs hws (fun h0=>⟨N,hR (by omega),rfl⟩) (by rw [hl4,sub1]) (by rw [← sub1]; exact hlen4) g4))
 refine no_ _ c3 ?_
 refine (exA rfl ⟨rfl,exA rfl (?_)⟩)
 show if isw h.word "or" = true then _ else _
 rw [Ze4]
 by_cases c4:h.wd.kd = .alt
 ·refine yes_ _ c4 ?_
  refine Za9 (Q:=Q) (fun D hD=>?_)
  subst hD
  obtain rfl:=Zco c4
  obtain ⟨hkv1,hkv,r,ea',er⟩:=lay2
  have hkl:=Paired.length hk
  refine ⟨sz,fun l1 hl1'=>?_⟩
  have g3:=Gro.new (S:=[]) hl1' (.lst [])
  refine (ixT (g3.tups _ _ ea') rfl ⟨r,rfl,⟨kv,SqT.of (g3.tups _ _ er)⟩,?_⟩)
  refine Uv (xs:=kv) (fun x σ H'=>∃ (wr:Addr) (vs:List V) (ws:List Way) (N:Nat) (pt:Option V),σ = [some (.ref a0),some (.str t),some (.int i),some gv,some (.ref lf),some (.str (Hd.word .alt)),some (.ref wr),pt]∧H' wr = some (.lst vs)∧Paired (WyA H') vs ws∧(∀ w ∈ ws,Gd t n i w)∧(0 ≤ f0 - 1 - N→Ax (Wy t d) i g (ks.take x) ws N)∧H' lf = some (.lst [.int (f0 - 1 - N)])∧ws.length + (f0 - 1 - N).toNat ≤ f0.toNat∧Gro [lf] (upd (upd H lf (.lst [.int (f0 - 1)])) tp (.tup Yq)) H')
   ⟨l1,[],[],0,none,rfl,Z3,.nil,(fun w hw=>by simp at hw),(fun _=>.nil),by have:=g3.keep _ _ hl2' (by simp); simpa using this,by show 0 + (f0 - 1 - ((0:Nat):Int)).toNat ≤ f0.toNat; omega,g3.mono (by simp)⟩ (fun x σ H' _ hh=>by obtain ⟨_,_,_,_,_,_,_,_,_,_,_,_,g⟩:=hh; exact SqT.of (g.tups _ _ er)) ?_ ?_
  ·rintro x v σ H4 hv ⟨wr,vs,ws,N,pt,rfl,hwr,hvs,hws,hR,hl4,hlen4,g4⟩
   obtain ⟨pp,hpp,hpv⟩:=Y2 hk2 hv
   have hmem:=List.mem_of_getElem? hpp
   have nwr:=Wx hvs hwr hl4
   refine (exA rfl (exA rfl (exA rfl (exA rfl (exA rfl (exA rfl ⟨v,gv,pp,t,i,n,g,f0 - 1 - N,lf,rfl,hpv.mono g4.tups,hnm'.2 pp hmem,ht,hi1,hn,hg2.mono g4.tups,hgo,hl4,by omega,fun r5 vs5 ws5 N5 H5 hr5 hv5 hs5 hR5 hl5 hlen5 g5=>?_⟩))))))
   have e4:=Paired.length hvs
   have e5:=Paired.length hv5
   refine ⟨wr,r5,vs,vs5,rfl,rfl,g5.keep _ _ hwr (by simpa using nwr),hr5,Nat.le_of_lt (big (n:=vs.length + vs5.length) (by omega)),fun c hc=>?_⟩
   have g6:=Gro.new (S:=[lf]) hc (.lst (vs ++ vs5))
   have hN:f0 - 1 - (N:Int) - (N5:Int) = f0 - 1 - ((N + N5:Nat):Int):=by omega
   refine ⟨c,vs ++ vs5,ws ++ ws5,N + N5,exA rfl ⟨Z3,Zr (Y5 (fun b xs h=>g6.tups _ _ (g5.tups _ _ h)) hvs) (Y5 g6.tups hv5),fun y hy=>?_,fun h0=>?_,by rw [Zl (Z7 hl5 hc),hl5,hN],by rw [List.length_append]; omega,(g4.trans g5).trans g6⟩⟩
   ·rcases List.mem_append.mp hy with hy | hy
    ·exact hws y hy
    ·exact hs5 y hy
   ·rw [Y9 hpp]
    exact (hR (by omega)).snoc (hR5 (by omega))
  ·rintro σ H4 ⟨wr,vs,ws,N,pt,rfl,hwr,hvs,hws,hR,hl4,hlen4,g4⟩
   rw [List.take_of_length_le (by omega)] at hR
   exact (exA rfl (q2 wr vs ws (N + 1) H4 hwr hvs hws (fun h0=>⟨by intro e; rw [e] at hkl; rw [hkl] at hkv1; simp at hkv1,N,hR (by omega),rfl⟩) (by rw [hl4,sub1]) (by rw [← sub1]; exact hlen4) g4))
 refine no_ _ c4 ?_
 refine (exA rfl ⟨rfl,exA rfl (?_)⟩)
 show if isw h.word "times" = true then _ else _
 rw [Za4]
 by_cases c5:h.wd.kd = .times
 ·refine yes_ _ c5 ?_
  refine Za9 (Q:=Q) (fun D hD=>?_)
  subst hD
  obtain ⟨lo,hi,how,rfl⟩:=Z7o c5
  obtain ⟨⟨hlo0,hlo1,hhi⟩,k0,rfl,ea'⟩:=lay2
  cases hk2 with
  | cons hp1 hk3 =>
  cases hk3
  rename_i p1
  refine (exA rfl (exA rfl (exA rfl (exA rfl (exA rfl ⟨.ref a0,gv,p1,lo,hi,how,t,0,i,n,g,f0 - 1,lf,rfl,hp2,hnm'.2 p1 (by simp),ht,hi1,hn,hg2,hgo,hl2',by omega,by omega,fun r vs us N H3 hr1 hv1 hs1 hR1 hl3 hlen1 g3=>?_⟩)))))
  have wy:∀ ws,ws = (if how = .keep then us.take 1 else us)→0 ≤ f0 - ((N + 1:Nat):Int)→Wy t (d + 1) (.node (.times lo hi how) [p1]) i g ws (N + 1):=fun ws hws h0=>⟨p1,29,us,N,rfl,hR1 (by omega),rfl,hws⟩
  refine (ixT (g3.tups _ _ ea') rfl ⟨rfl,exA rfl (?_)⟩)
  by_cases hkeep:how = .keep
  ·refine Zg (show isw how.text "keep" = true by rw [hkeep]; decide +kernel) ?_
   refine (exA rfl (exA rfl ⟨r,vs,rfl,SqL.of hr1,fun c hc=>?_⟩))
   rw [Z1q]
   have g4:=Gro.new (S:=[lf]) hc (.lst (vs.take 1))
   exact q2 c (vs.take 1) (us.take 1) (N + 1) _ Z3 (Y5 g4.tups (Ye 1 hv1)) (fun w hw=>hs1 w (List.mem_of_mem_take hw)) (wy _ (by rw [if_pos hkeep])) (by rw [Zl (Z7 hl3 hc),hl3,sub1]) (by rw [List.length_take]; omega) (g3.trans g4)
  ·have hn':¬ isw how.text "keep" = true:=by
    cases how with
    | keep=>exact absurd rfl hkeep
    | much=>decide +kernel
    | little=>decide +kernel
   exact Zd hn' (exA rfl (q2 r vs us (N + 1) H3 hr1 hv1 hs1 (wy _ (by rw [if_neg hkeep])) (by rw [hl3,sub1]) (by omega) g3))
 refine no_ _ c5 ?_
 refine (exA rfl ⟨rfl,exA rfl (?_)⟩)
 show if isw h.word "group" = true then _ else _
 rw [Ze3]
 by_cases c6:h.wd.kd = .grp
 ·refine yes_ _ c6 ?_
  refine Za9 (Q:=Q) (fun D hD=>?_)
  subst hD
  obtain ⟨x,rfl⟩:=Zcn c6
  obtain ⟨_,k0,rfl,ea'⟩:=lay2
  obtain ⟨hx1,hx2⟩:1 ≤ x∧x ≤ n:=hnm'.1
  cases hk2 with
  | cons hp1 hk3 =>
  cases hk3
  rename_i p1
  refine (ixT ea' rfl (exA rfl (exA rfl (exA rfl (exA rfl ⟨k0,gv,p1,t,i,n,g,f0 - 1,lf,rfl,hp1,hnm'.2 p1 (by simp),ht,hi1,hn,hg2,hgo,hl2',by omega,fun r vs us N H3 hr1 hv1 hs1 hR1 hl3 hlen1 g3=>?_⟩)))))
  have el:=Paired.length hv1
  refine (exA rfl ⟨r,rfl,⟨vs,SqL.of hr1⟩,?_⟩)
  refine Z5q (xs:=vs) (fun y ys H'=>Paired (WyA H') ys ((us.take y).map fun w=>(w.1,put w.2 x i w.1))∧ys.length = y∧Gro [] H3 H') ⟨.nil,rfl,Gro.refl⟩ (big (by omega)) (fun y ys H' ⟨_,e,_⟩=>by omega) (fun y ys H' ⟨_,_,g⟩=>SqL.of (g.keep _ _ hr1 (by simp))) ?_ ?_
  ·rintro y ys H4 v hv ⟨hys,hyl,g4⟩
   obtain ⟨w0,hj,hw⟩:=Y2 hv1 hv
   have gd:=hs1 w0 (List.mem_of_getElem? hj)
   obtain ⟨b,gv2,rfl,hb,hga⟩:=hw.mono g4.tups
   obtain ⟨ga,es,rfl,hge,hel,hen⟩:=hga.len
   have hgl:=gd.g.len
   obtain ⟨m,rfl⟩:∃ m:Nat,x = ((m + 1:Nat):Int):=⟨(x - 1).toNat,by omega⟩
   have ea4:=g4.tups _ _ (g3.tups _ _ ea')
   refine (ixT hb at0 (?_))
   refine (ixT hb rfl (ixT ea4 rfl (exB rfl rfl (exA rfl ⟨ga,es,rfl,SqT.of hge,?nw1,fun p1' hp1'=>?_⟩))))
   case nw1 =>
    rw [show ((m + 1:Nat):Int) - 1 = (m:Nat) by omega,HT.sIx_nat]
    omega
   rw [show ((m + 1:Nat):Int) - 1 = (m:Nat) by omega,Z8m (by omega)]
   have g5:=Gro.new (S:=[]) hp1' (.tup (es.take m))
   have e5:(upd H4 p1' (.tup (es.take m))) p1' = some (.tup (es.take m)):=Z3
   generalize upd H4 p1' (.tup (es.take m)) = H5 at *
   refine (exA rfl (ixT (g5.tups _ _ hb) at0 ⟨sz,fun p2 hp2'=>⟨sz,fun p3 hp3=>?_⟩⟩))
   have g6:Gro [] H5 (upd (upd H5 p2 (.tup [.int i,.int w0.1])) p3 (.tup [.ref p2])):=(Gro.new hp2' _).tup hp3
   have e6:(upd (upd H5 p2 (.tup [.int i,.int w0.1])) p3 (.tup [.ref p2])) p3 = some (.tup [.ref p2]):=Z3
   have e7:(upd (upd H5 p2 (.tup [.int i,.int w0.1])) p3 (.tup [.ref p2])) p2 = some (.tup [.int i,.int w0.1]):=by rw [Zl (Z7 Z3 hp3)]; exact Z3
   generalize upd (upd H5 p2 (.tup [.int i,.int w0.1])) p3 (.tup [.ref p2]) = H6 at *
   refine Jk (g6.tups _ _ e5) e6 (by rw [List.length_take,List.length_singleton]; omega) fun r7 H7 hr7 g7=>?_
   have t47:∀ b xs,H4 b = some (.tup xs)→H7 b = some (.tup xs):=fun b xs h=>g7.tups _ _ (g6.tups _ _ (g5.tups _ _ h))
   refine (ixT (t47 _ _ hb) rfl (ixT (t47 _ _ ea4) rfl (exA rfl ⟨ga,es,rfl,SqT.of (t47 _ _ hge),?nw2,fun p8 hp8=>?_⟩)))
   case nw2 =>
    rw [HT.sIx_nat]
    omega
   rw [Z2z (by omega)]
   have g8:=Gro.new (S:=[]) hp8 (.tup (es.drop (m + 1)))
   refine Jk (g8.tups _ _ hr7) Z3 (by simp only [List.length_append,List.length_take,List.length_drop,List.length_singleton]; omega) fun r9 H9 hr9 g9=>⟨sz,fun t1 ht1=>?_⟩
   have g10:=Gro.new (S:=[]) ht1 (.tup [.int w0.1,.ref r9])
   have gg:Gro [] H4 (upd H9 t1 (.tup [.int w0.1,.ref r9])):=((((g5.trans g6).trans g7).trans g8).trans g9).trans g10
   refine ⟨?_,by simp [hyl],g4.trans gg⟩
   rw [Y9 hj,List.map_append]
   refine (Y5 gg.tups hys).snoc ⟨t1,.ref r9,rfl,Z3,?_⟩
   refine GsAt.put (k:=((m + 1:Nat):Int)) (Paired.mapP hen fun _ _ h=>h.mono gg.tups) (g10.tups _ _ (g9.tups _ _ (g8.tups _ _ (g7.tups _ _ e7)))) ?_
   rw [show (((m + 1:Nat):Int) - 1).toNat = m by omega,show ((m + 1:Nat):Int).toNat = m + 1 from rfl]
   exact g10.tups _ _ hr9
  ·rintro ys H4 ⟨hys,hyl,g4⟩ c hc
   rw [List.take_of_length_le (by omega)] at hys
   have g5:=Gro.new (S:=[]) hc (.lst ys)
   refine q2 c ys _ (N + 1) _ Z3 (Y5 g5.tups hys) (fun w hw=>?_) (fun h0=>⟨p1,us,N,rfl,hR1 (by omega),rfl,rfl⟩) (by rw [(g4.trans g5).keep _ _ hl3 (by simp),sub1]) (by rw [List.length_map]; omega) (g3.trans ((g4.trans g5).mono (by simp)))
   obtain ⟨v,hv,rfl⟩:=List.mem_map.mp hw
   have gd:=hs1 v hv
   exact ⟨gd.lo,gd.hi,Z8a gd.g hx1 hx2 gd.lo gd.hi⟩
 refine no_ _ c6 ?_
 have hkd:h.wd.kd = .mem:=by
  cases hh:h.wd.kd <;> first | rfl | exact absurd hh c1 | exact absurd hh c2 | exact absurd hh c3 | exact absurd hh c4 | exact absurd hh c5 | exact absurd hh c6
 exact (exA rfl (exA rfl (exA rfl (exA rfl (exA rfl ⟨.ref a0,gv,h,ks,t,i,n,g,f0 - 1,lf,rfl,hp2,hkd,hnm,ht,hi1,hn,hg2,hgo,hl2',hf0,by omega,by rw [show f0 - 1 + 1 = f0 by omega]; exact q2⟩)))))
theorem Z2g (T:Blt mg) (O_l_takes:Own P w K mg base 1 "_law_takes" ["_law_p", "_law_sign_here"] Zal) (D1:Def K mg "_law_each" s_l_each ["_law_part", "_law_text_here", "_law_ways_here", "_law_left"]) (D2:Def K mg "_law_turns" s_l_turns ["_law_p", "_law_text_here", "_law_n", "_law_j", "_law_g", "_law_left"]) (D3:Def K mg "_law_behind" s_l_behind ["_law_p", "_law_text_here", "_law_i", "_law_g", "_law_left"]) (D4:Def K mg "_law_memory" s_l_memory ["_law_p", "_law_text_here", "_law_i", "_law_g", "_law_left"]) (D5:Def K mg "_law_ways" s_l_ways ["_law_p", "_law_text_here", "_law_i", "_law_g", "_law_left"]) :
  ∀ d,Own P w K mg base (2 + 30 * d) "_law_ways" ["_law_p", "_law_text_here", "_law_i", "_law_g", "_law_left"] (Wa d)
 | 0=>D5.own fun f fd F=>FnOk.never fun vs H Q E h=>by
  obtain ⟨_,_,_,_,_,_,_,_,_,_,h,_⟩:=h
  exact h.elim
 | d + 1=>by
  have ih:=Z2g T O_l_takes D1 D2 D3 D4 D5 d
  have ea:Own P w K mg base (2 + 30 * d + 1) "_law_each" ["_law_part", "_law_text_here", "_law_ways_here", "_law_left"] (Z4m d):=D1.own fun f fd F=>Z9w ih F
  have be:Own P w K mg base (2 + 30 * d + 1) "_law_behind" ["_law_p", "_law_text_here", "_law_i", "_law_g", "_law_left"] (Z8x d):=D3.own fun f fd F=>Zcd T ih F
  have me:Own P w K mg base (2 + 30 * d + 1 + 1) "_law_memory" ["_law_p", "_law_text_here", "_law_i", "_law_g", "_law_left"] (Z8w d):=D4.own fun f fd F=>Zcb T (ih.mono (by omega)) be F
  have tu:=Z08 ih D2 29
  have:=D5.own (P:=P) (w:=w) (base:=base) (sp:=Wa (d + 1)) fun f fd F=>Z9o (k:=2 + 30 * d + 29) T (O_l_takes.mono (by omega)) (ea.mono (by omega)) tu (me.mono (by omega)) (ih.mono (by omega)) F
  exact this
end
def PrA (H:Hp) (v:V) (p:Nat × Nat):Prop:=∃ a,v = .ref a∧H a = some (.tup [.int p.1,.int p.2])
def HtA (H:Hp) (v:V) (h:Hl):Prop:=∃ (a:Addr) (es:List V),v = .ref a∧H a = some (.tup es)∧Paired (PrA H) es h.reverse
def StA (H:Hp) (v:V) (q:Ch):Prop:=∃ (a:Addr) (gv hv:V),v = .ref a∧H a = some (.tup [.int q.1,.int q.2.1,gv,hv])∧GsAt H gv q.2.2.1∧HtA H hv q.2.2.2
def KpA (H:Hp) (kl:Addr) (cs:List Ch):Prop:=∃ us,H kl = some (.lst us)∧Paired (StA H) us cs
def RsA (H:Hp) (kl:Addr) (v:V):Cf→Prop
 | .ended=>v = .non∧KpA H kl []
 | .run c=>StA H v (c.r,c.i,c.g,c.h)∧KpA H kl c.cs
theorem PrA.mono {H H':Hp} (tm:Tm H H') {v:V} {p:Nat × Nat} (h:PrA H v p):PrA H' v p:=by
 obtain ⟨a,e,h⟩:=h
 exact ⟨a,e,tm _ _ h⟩
theorem HtA.mono {H H':Hp} (tm:Tm H H') {v:V} {h:Hl} (x:HtA H v h):HtA H' v h:=by
 obtain ⟨a,es,e,h,p⟩:=x
 exact ⟨a,es,e,tm _ _ h,Paired.mapP p fun _ _ q=>q.mono tm⟩
theorem StA.mono {H H':Hp} (tm:Tm H H') {v:V} {q:Ch} (x:StA H v q):StA H' v q:=by
 obtain ⟨a,gv,hv,e,h,g,t⟩:=x
 exact ⟨a,gv,hv,e,tm _ _ h,g.mono tm,t.mono tm⟩
theorem KpA.gro {H H':Hp} {S:List Addr} {kl:Addr} {cs:List Ch} (x:KpA H kl cs) (g:Gro S H H') (h:kl ∉ S):KpA H' kl cs:=by
 obtain ⟨us,e,p⟩:=x
 exact ⟨us,g.keep _ _ e h,Paired.mapP p fun _ _ q=>q.mono g.tups⟩
theorem Paired.snoc' {α β:Type} {F:α→β→Prop} {a:α} {b:β} (h:F a b):∀ {xs:List α} {ys:List β},Paired F xs ys→Paired F (xs ++ [a]) (ys ++ [b])
 | [],_,.nil=>.cons h .nil
 | _ :: _,_,.cons h' r=>.cons h' (Paired.snoc' h r)
theorem Paired.last {α β:Type} {F:α→β→Prop} {y:β}:∀ {ys:List β} {xs:List α},Paired F xs (ys ++ [y])→∃ xs' x,xs = xs' ++ [x]∧Paired F xs' ys∧F x y
 | [],_,h=>by
  cases h with
  | cons h r =>
   cases r
   exact ⟨[],_,rfl,.nil,h⟩
 | _ :: ys,_,h=>by
  cases h with
  | cons h r =>
   obtain ⟨xs',x',e,p,q⟩:=Paired.last (ys:=ys) r
   exact ⟨_ :: xs',x',by rw [e]; rfl,.cons h p,q⟩
theorem Paired.append' {α β:Type} {F:α→β→Prop}:∀ {xs:List α} {ys:List β} {zs:List α} {ws:List β},Paired F xs ys→Paired F zs ws→Paired F (xs ++ zs) (ys ++ ws)
 | [],_,_,_,.nil,h=>h
 | _ :: _,_,_,_,.cons h' r,h=>.cons h' (Paired.append' r h)
theorem Paired.dropP {α β:Type} {F:α→β→Prop}:∀ {xs:List α} {ys:List β} (k:Nat),Paired F xs ys→Paired F (xs.drop k) (ys.drop k)
 | _,_,0,h=>h
 | [],_,_ + 1,.nil=>.nil
 | _ :: _,_,k + 1,.cons _ r=>Paired.dropP k r
theorem Vn {xs:List V} {y:V}:atI (xs ++ [y]) (-1) = some y:=by
 unfold atI ixN
 rw [if_neg (by decide)]
 simp
 rw [if_pos (by omega),show (-1 + ((xs.length:Int) + 1)).toNat = xs.length by omega]
 simp
theorem Xw {xs:List V} {y:V}:T4 (xs ++ [y]) none (some (-1)) = xs:=by
 unfold T4 HT.sIx
 simp
 rw [show (-1 + ((xs.length:Int) + 1)).toNat = xs.length by omega]
 simp
theorem V6 {xs:List V} {y:V}:¬ (HT.sIx (xs ++ [y]).length 0 none = 0∧HT.sIx (xs ++ [y]).length (xs ++ [y]).length (some (-1)) = (xs ++ [y]).length):=by
 unfold HT.sIx
 simp
 omega
theorem Zd5 {K:PySem.W.Frag} {H:Hp} {a b:Addr} {xs ys:List V} {Q:VK} (ha:H a = some (.tup xs)) (hb:H b = some (.tup ys)) (hz:xs.length + ys.length ≤ 1000000) (q:∀ (c:Addr) (H':Hp),H' c = some (.tup (xs ++ ys))→Gro [] H H'→Q (.ref c) H'):T2 K (.ref a) (.ref b) H Q :=
 ⟨a,b,xs,ys,rfl,rfl,SqT.of ha,SqT.of hb,Nat.le_of_lt (big hz),fun z=>q b H (by rw [z]; exact hb) Gro.refl,fun _ z=>q a H (by rw [z,List.append_nil]; exact ha) Gro.refl,fun _ _ c hc=>q c _ Z3 (Gro.new hc _)⟩
theorem slT {K:PySem.W.Frag} {H:Hp} {a:Addr} {xs:List V} {lo hi:Option Int} {Q:VK} (ha:H a = some (.tup xs)) (hn:¬ (HT.sIx xs.length 0 lo = 0∧HT.sIx xs.length xs.length hi = xs.length)) (q:∀ (c:Addr) (H':Hp),H' c = some (.tup (T4 xs lo hi))→Gro [] H H'→Q (.ref c) H'):Zap K (.ref a) lo hi H Q :=
 ⟨a,xs,rfl,SqT.of ha,hn,fun c hc=>q c _ Z3 (Gro.new hc _)⟩
theorem X0 {H:Hp} {a:Addr} {gv hv:V} {r i:Nat} {g:Gs} {h:Hl} (hg:GsAt H gv g) (hh:HtA H hv h) (ha:H a = none):StA (upd H a (.tup [.int r,.int i,gv,hv])) (.ref a) (r,i,g,h):=by
 have g1:=Gro.new (S:=[]) ha (.tup [.int r,.int i,gv,hv])
 exact ⟨a,gv,hv,rfl,Z3,hg.mono g1.tups,hh.mono g1.tups⟩
theorem W5 {S:List Addr} {H H':Hp} (g:Gro [] H H'):Gro S H H':=g.mono (by simp)
section
variable {P:Program} {w:World} {K:PySem.W.Frag} {mg:Str→Option Value} {base:Heap} {f C:Addr} {fd:FuncData}
inductive spLBI (vs:List V) (H:Hp) (Q:VK):Prop
 | mk (v:V) (kl:Addr) (cs:List Ch) (_:vs = [v,.ref kl]) (_:KpA H kl cs) (_:cs.length ≤ 1000000) (_:∀ (v':V) (H':Hp),RsA H' kl v' (bk cs)→Gro [kl] H H'→Q v' H')
def Zan:Sp:=fun vs H Q _=>spLBI vs H Q
abbrev s_l_back:Stmt:=top 54
theorem Z4p:FnScope ["_law_state", "_law_kept"] ["_law_state", "_law_kept"] (Zb s_l_back):=fsc
theorem Zdz (F:Fun K "_law_back" "_law_back" s_l_back f fd):FnOk P w K mg base CX0 1 f fd ["_law_state", "_law_kept"] Zan:=by
 refine F.ok Z4p (fun vs H Q E h=>?_) (fun cdv A outer s H vs Q E hr h=>?_)
 ·obtain ⟨v,kl,cs,rfl,_⟩:=h
  rfl
 obtain ⟨v,kl,cs,rfl,⟨us,hk,hp⟩,hz,q⟩:=h
 refine ltX ?_
 intro Xz
 refine ⟨_,(Z1 (Zo (Z9 (U3 hr.units0) (pv 1) (Zv Z4) (Zc _)) (Z5 (Zh Uk)) Zf)
  (Z5 (Zh (Z2f PySem.F.plainAttrs_list PySem.F.slot_list_pop PySem.F.type_list_pop Z2p (pv 1))))),?_⟩
 refine Zb0 ?_
 intro Ez Az1 Az2
 refine (exA rfl ⟨sz,fun z hz'=>?_⟩)
 have g1:=Gro.new (S:=[]) hz' (.lst [])
 have hk1:=g1.keep _ _ hk (by simp)
 have hp1:Paired (StA (upd H z (.lst []))) us cs:=Paired.mapP hp fun _ _ q=>q.mono g1.tups
 refine ⟨kl,z,us,rfl,rfl,SqL.of hk1,SqL.of Z3,exA rfl ?_⟩
 generalize upd H z (.lst []) = H1 at *
 rcases List.eq_nil_or_concat cs with rfl | ⟨cs',c,rfl⟩
 ·cases hp1
  refine Zg rfl ?_
  exact q .non H1 ⟨rfl,[],hk1,.nil⟩ (W5 g1)
 ·rw [List.concat_eq_append] at *
  obtain ⟨us',u,rfl,hp2,hu⟩:=Paired.last hp1
  refine Zd (by simp) ?_
  refine (exA rfl ⟨.inl ⟨rfl,_,SqL.of hk1⟩,kl,_,u,rfl,rfl,hk1,by simp,?_⟩)
  rw [List.dropLast_concat]
  have g2:Gro [kl] H1 (upd H1 kl (.lst us')):=Gro.set (by simp) hk1 _
  refine q u _ ?_ ((W5 g1).trans g2)
  rw [Xx]
  exact ⟨hu.mono g2.tups,us',Z3,Paired.mapP hp2 fun _ _ q=>q.mono g2.tups⟩
inductive spOnI (vs:List V) (H:Hp) (Q:VK):Prop
 | mk (v:V) (r i:Nat) (g:Gs) (h:Hl) (_:vs = [v]) (_:StA H v (r,i,g,h)) (_:∀ (v':V) (H':Hp),StA H' v' (r + 1,i,g,h)→Gro [] H H'→Q v' H')
def Zd1:Sp:=fun vs H Q _=>spOnI vs H Q
abbrev s_l_on:Stmt:=top 55
theorem Z90:FnScope ["_law_state"] ["_law_state"] (Zb s_l_on):=fsc
theorem Zdu (F:Fun K "_law_on" "_law_on" s_l_on f fd):FnOk P w K mg base CX0 1 f fd ["_law_state"] Zd1:=by
 refine F.ok Z90 (fun vs H Q E h=>?_) (fun cdv A outer s H vs Q E hr h=>?_)
 ·obtain ⟨v,r,i,g,h,rfl,_⟩:=h
  rfl
 obtain ⟨v,r,i,g,h,rfl,⟨a,gv,hv,rfl,ha,hg,hh⟩,q⟩:=h
 refine ltX ?_
 intro Xz
 refine ⟨_,(Z5 (Zh (Zj (Z0 (Zu Ya (Z8 Z6 (pv 0) Z2 (fun _ _=>rfl)) Z2) (Z0 (Z8 Z6 (pv 0) Z2 (fun _ _=>rfl)) (Z0 (Z8 Z6 (pv 0) Z2 (fun _ _=>rfl)) (Z0 (Z8 Z6 (pv 0) Z2 (fun _ _=>rfl)) Z4))))))),?_⟩
 refine (ixT ha at0 (exB rfl rfl (ixT ha rfl (ixT ha rfl (ixT ha rfl ⟨sz,fun b hb=>?_⟩)))))
 exact q _ _ (X0 (r:=r + 1) hg hh hb) (Gro.new hb _)
inductive spTrI (vs:List V) (H:Hp) (Q:VK):Prop
 | mk (ra:Addr) (v:V) (kl:Addr) (lo:Int) (hi:Option Int) (how:How) (z r i:Nat) (g:Gs) (p:Nat × Nat) (h:Hl) (cs:List Ch) (t:Str) (_:vs = [.ref ra,v,.ref kl]) (_:H ra = some (.tup [.str "turn",.int lo,Z3k hi,.str how.text,.int z])) (_:∀ m,hi = some m→lo ≤ m) (_:StA H v (r,i,g,p :: h)) (_:h.length ≤ 100000) (_:KpA H kl cs) (_:cs.length ≤ 100000)
  (_:∀ (v':V) (H':Hp),RsA H' kl v' (Op.act t (.turn lo hi how z) ⟨r + 1,i,g,p :: h,cs⟩)→Gro [kl] H H'→Q v' H')
def Zdi:Sp:=fun vs H Q _=>spTrI vs H Q
abbrev s_l_turn_row:Stmt:=top 56
theorem sc_l_turn_row:FnScope ["_law_row", "_law_state", "_law_kept", "_law_many", "_law_leave", "_law_goes"] ["_law_row", "_law_state", "_law_kept"] (Zb s_l_turn_row):=fsc
theorem Zdt (F:Fun K "_law_turn_row" "_law_turn_row" s_l_turn_row f fd):FnOk P w K mg base CX0 1 f fd ["_law_row", "_law_state", "_law_kept"] Zdi:=by
 refine F.ok sc_l_turn_row (fun vs H Q E h=>?_) (fun cdv A outer s H vs Q E hr h=>?_)
 ·obtain ⟨ra,v,kl,lo,hi,how,z,r,i,g,p,h,cs,t,rfl,_⟩:=h
  rfl
 obtain ⟨ra,v,kl,lo,hi,how,z,r,i,g,p,h,cs,t,rfl,hra,hlh,⟨a,gv,hv,rfl,ha,hg,b,es0,rfl,hb,hes⟩,hhl,hk,hcl,q⟩:=h
 refine ltX ?_
 intro Xz
 refine ⟨_,(Z1 (pS 3 sc_l_turn_row.nd (Z8 Z6 (Z8 Z6 (Z8 Z6 (pv 1) Z2 (fun _ _=>rfl)) (Uj W9 Z2) (fun _ _=>rfl)) Z2 (fun _ _=>rfl)))
  (Z1 (pS 4 sc_l_turn_row.nd (Zj (Z0 (Z8 Z6 (pv 0) Z2 (fun _ _=>rfl)) (Z0 (Z8 Z6 (pv 1) Z2 (fun _ _=>rfl)) (Z0 (Z8 Z6 (pv 1) Z2 (fun _ _=>rfl)) (Z0 (Y1 Xk (Z8 Z6 (pv 1) Z2 (fun _ _=>rfl)) Yf (Y3 (Uj W9 Z2))) Z4))))))
  (Z1 (pS 5 sc_l_turn_row.nd (Zj (Z0 (Zu Ya (Z8 Z6 (pv 1) Z2 (fun _ _=>rfl)) Z2) (Z0 (Z8 Z6 (pv 1) Z2 (fun _ _=>rfl)) (Z0 (Z8 Z6 (pv 1) Z2 (fun _ _=>rfl)) (Z0 (Zu X4 (Y1 Xk (Z8 Z6 (pv 1) Z2 (fun _ _=>rfl)) Yf (Y3 (Uj W9 Z2))) (Zj (Z0 (Zj (Z0 (pv 3) (Z0 (Z8 Z6 (pv 1) Z2 (fun _ _=>rfl)) Z4))) Z4))) Z4))))))
  (Z1 (Zo (Z9 Wh (pv 3) (Z8 Z6 (pv 0) Z2 (fun _ _=>rfl)) (Zc _)) (Z5 (Zh (pv 5))) Zf)
  (Z1 (Zo (PW.pt (Xp (Ve (Z53 (Z8 Z6 (pv 0) Z2 (fun _ _=>rfl)))) (X2 (Z9 Z5b (pv 3) (Z8 Z6 (pv 0) Z2 (fun _ _=>rfl)) (Zc _))))) (Z5 (Zh (pv 4))) Zf)
  (Z1 (Zo (Z9 Zs (Z8 Z6 (pv 0) Z2 (fun _ _=>rfl)) Ze (Zc _)) (Z1 (Zm (X3 PySem.F.plainAttrs_list PySem.F.slot_list_append PySem.F.type_list_append Zy (pv 2) (Z0 (pv 5) Z4)))
  (Z5 (Zh (pv 4)))) Zf)
  (Z1 (Zm (X3 PySem.F.plainAttrs_list PySem.F.slot_list_append PySem.F.type_list_append Zy (pv 2) (Z0 (pv 4) Z4)))
  (Z5 (Zh (pv 5)))))))))),?_⟩
 refine Zbm ?_
 intro Ez Az1 Az2 Az3 Az4 Az5 Az6 Az7 Az8 Az9 Az10 Az11
 rw [List.reverse_cons] at hes
 obtain ⟨es,la,rfl,hes',hla⟩:=Paired.last hes
 obtain ⟨c,rfl,hc⟩:=hla
 have hel:=Paired.length hes'
 rw [List.length_reverse] at hel
 refine (ixT ha rfl (exA rfl ⟨b,_,_,_,rfl,rfl,SqT.of hb,Vn,c,_,_,_,rfl,rfl,SqT.of hc,at0,?_⟩))
 refine (ixT hra rfl (ixT ha rfl (ixT ha rfl (ixT ha rfl (exA rfl (exA rfl (slT hb V6 fun s1 H1 hs1 g1=>?_)))))))
 rw [Xw] at hs1
 refine ⟨sz,fun lv hlv=>?_⟩
 have ht1:HtA H1 (.ref s1) h:=⟨s1,es,rfl,hs1,Paired.mapP hes' fun _ _ q=>q.mono g1.tups⟩
 have hst1:=X0 (r:=z) (i:=i) (hg.mono g1.tups) ht1 hlv
 have g2:=g1.trans (Gro.new hlv (.tup [.int z,.int i,gv,.ref s1]))
 generalize upd H1 lv (.tup [.int z,.int i,gv,.ref s1]) = H2 at *
 have ha2:=g2.tups _ _ ha
 have hb2:=g2.tups _ _ hb
 refine (ixT ha2 at0 (exB rfl rfl (ixT ha2 rfl (ixT ha2 rfl (ixT ha2 rfl (exA rfl (exA rfl (slT hb2 V6 fun s2 H3 hs2 g3=>?_))))))))
 rw [Xw] at hs2
 have ha3:=g3.tups _ _ ha2
 refine (exA rfl (ixT ha3 rfl ⟨sz,fun pr hpr=>⟨sz,fun sg hsg=>?_⟩⟩))
 have g4:Gro [] H3 (upd (upd H3 pr (.tup [.int p.1,.int i])) sg (.tup [.ref pr])):=(Gro.new hpr _).trans (Gro.new hsg _)
 have hpr4:(upd (upd H3 pr (.tup [.int p.1,.int i])) sg (.tup [.ref pr])) pr = some (.tup [.int p.1,.int i]):=(Gro.new (S:=[]) hsg _).tups _ _ Z3
 have hsg4:(upd (upd H3 pr (.tup [.int p.1,.int i])) sg (.tup [.ref pr])) sg = some (.tup [.ref pr]):=Z3
 generalize upd (upd H3 pr (.tup [.int p.1,.int i])) sg (.tup [.ref pr]) = H4 at *
 refine Zd5 (g4.tups _ _ hs2) hsg4 (by simp; omega) fun s3 H5 hs3 g5=>⟨sz,fun go hgo=>?_⟩
 have g25:=(g3.trans g4).trans g5
 have ht5:HtA H5 (.ref s3) ((p.1,i) :: h):=⟨s3,_,rfl,hs3,by
  rw [List.reverse_cons]
  exact Paired.snoc' ⟨pr,rfl,g5.tups _ _ hpr4⟩ (Paired.mapP hes' fun _ _ q=>q.mono (g2.trans g25).tups)⟩
 have hst5:=X0 (r:=r + 1) (i:=i) ((hg.mono g2.tups).mono g25.tups) ht5 hgo
 have g26:Gro [] H2 (upd H5 go (.tup [.int ((r + 1:Nat):Int),.int i,gv,.ref s3])):=g25.trans (Gro.new hgo _)
 have hlv6:=hst1.mono g26.tups
 generalize hH6:upd H5 go (.tup [.int ((r + 1:Nat):Int),.int i,gv,.ref s3]) = H6 at *
 have g6:=g2.trans g26
 have hk6:=hk.gro g6 (by simp)
 have hra6:=g6.tups _ _ hra
 show (Za _ _) _ _ (upd H5 go (.tup [.int ((r + 1:Nat):Int),.int i,gv,.ref s3]))
 rw [hH6]
 obtain ⟨us,hku,hkp⟩:=id hk6
 have hul:=Paired.length hkp
 have put:∀ (x:Addr) (q':Ch),StA H6 (.ref x) q'→KpA (upd H6 kl (.lst (us ++ [.ref x]))) kl (cs ++ [q'])∧Gro [kl] H6 (upd H6 kl (.lst (us ++ [.ref x]))):=fun x q' hx=>by
  have gk:Gro [kl] H6 (upd H6 kl (.lst (us ++ [.ref x]))):=Gro.set (by simp) hku _
  exact ⟨⟨_,Z3,Paired.snoc' (hx.mono gk.tups) (Paired.mapP hkp fun _ _ q=>q.mono gk.tups)⟩,gk⟩
 refine (exA rfl (ixT hra6 rfl (exB rfl rfl (exA rfl ?_))))
 by_cases hlo:(p.1:Int) < lo
 ·refine Zg (decide_eq_true hlo) (exA rfl (q _ H6 ?_ (W5 g6)))
  show RsA H6 kl _ (if Xq hi p.1 = true then _ else _)
  have hm:Xq hi p.1 = true:=by
   cases hi with
   | none=>rfl
   | some m=>exact decide_eq_true (by have:=hlh m rfl; omega)
  rw [if_pos hm,if_neg (by omega)]
  exact ⟨hst5,hk6⟩
 refine Zd (fun z=>hlo (of_decide_eq_true z)) ?_
 refine (ixT hra6 rfl (exA rfl ?_))
 by_cases hm:Xq hi p.1 = true
 ·have hact:Op.act t (.turn lo hi how z) ⟨r + 1,i,g,p :: h,cs⟩ = (match how with
    | .little=>.run ⟨z,i,g,h,cs ++ [(r + 1,i,g,(p.1,i) :: h)]⟩
    | _=>.run ⟨r + 1,i,g,(p.1,i) :: h,cs ++ [(z,i,g,h)]⟩):=by
   show (if Xq hi p.1 = true then _ else _) = _
   rw [if_pos hm,if_pos (by omega)]
   cases how <;> rfl
  rw [hact] at q
  obtain (rfl | ⟨m,rfl⟩):hi = none ∨ ∃ m,hi = some m:=by
   cases hi with
   | none=>exact .inl rfl
   | some m=>exact .inr ⟨m,rfl⟩
  ·refine Zd (by decide) (Z0l ?_)
   refine (ixT hra6 rfl ⟨rfl,exA rfl ?_⟩)
   cases how with
   | little =>
    refine Zg (by decide +kernel) ?_
    refine (exA rfl ⟨.inl ⟨rfl,_,SqL.of hku⟩,exA rfl ⟨kl,us,_,rfl,rfl,hku,big (by omega),?_⟩⟩)
    obtain ⟨k1,k2⟩:=put go _ hst5
    exact exA rfl (q _ _ ⟨hlv6.mono k2.tups,k1⟩ ((W5 g6).trans k2))
   | _ =>
    refine Zd (by decide +kernel) ?_
    refine (exA rfl ⟨.inl ⟨rfl,_,SqL.of hku⟩,exA rfl ⟨kl,us,_,rfl,rfl,hku,big (by omega),?_⟩⟩)
    obtain ⟨k1,k2⟩:=put lv _ hlv6
    exact exA rfl (q _ _ ⟨hst5.mono k2.tups,k1⟩ ((W5 g6).trans k2))
  ·have hm':(p.1:Int) < m:=of_decide_eq_true hm
   refine Zg (by simp [Z3k]) (exA rfl (ixT hra6 rfl (exB rfl rfl (exA rfl (Zd (fun z=>by have:=of_decide_eq_true z; omega) ?_)))))
   refine (ixT hra6 rfl ⟨rfl,exA rfl ?_⟩)
   cases how with
   | little =>
    refine Zg (by decide +kernel) ?_
    refine (exA rfl ⟨.inl ⟨rfl,_,SqL.of hku⟩,exA rfl ⟨kl,us,_,rfl,rfl,hku,big (by omega),?_⟩⟩)
    obtain ⟨k1,k2⟩:=put go _ hst5
    exact exA rfl (q _ _ ⟨hlv6.mono k2.tups,k1⟩ ((W5 g6).trans k2))
   | _ =>
    refine Zd (by decide +kernel) ?_
    refine (exA rfl ⟨.inl ⟨rfl,_,SqL.of hku⟩,exA rfl ⟨kl,us,_,rfl,rfl,hku,big (by omega),?_⟩⟩)
    obtain ⟨k1,k2⟩:=put lv _ hlv6
    exact exA rfl (q _ _ ⟨hst5.mono k2.tups,k1⟩ ((W5 g6).trans k2))
 ·cases hi with
  | none=>exact absurd rfl hm
  | some m =>
   have hm':¬ (p.1:Int) < m:=fun z=>hm (decide_eq_true z)
   refine Zg (by simp [Z3k]) (exA rfl (ixT hra6 rfl (exB rfl rfl (exA rfl (Zg (decide_eq_true (by omega)) ?_)))))
   refine exA rfl (q _ H6 ?_ (W5 g6))
   show RsA H6 kl _ (if Xq (some m) p.1 = true then _ else _)
   rw [if_neg hm,if_pos (by omega)]
   exact ⟨hlv6,hk6⟩
end
theorem Z98 {K:PySem.W.Frag} {H:Hp} {b pr sg:Addr} {es:List V} {x i:Nat} {h:Hl} {Q:VK} (hb:H b = some (.tup es)) (hes:Paired (PrA H) es h.reverse) (hl:h.length ≤ 100000) (hpr:H pr = some (.tup [.int x,.int i])) (hsg:H sg = none) (q:∀ (c:Addr) (H':Hp),HtA H' (.ref c) ((x,i) :: h)→Gro [] H H'→Q (.ref c) H') :
  T2 K (.ref b) (.ref sg) (upd H sg (.tup [.ref pr])) Q:=by
 have g1:=Gro.new (S:=[]) hsg (.tup [.ref pr])
 have hel:=Paired.length hes
 rw [List.length_reverse] at hel
 refine Zd5 (g1.tups _ _ hb) Z3 (by simp; omega) fun c H' hc g'=>q c H' ⟨c,_,rfl,hc,?_⟩ (g1.trans g')
 rw [List.reverse_cons]
 exact Paired.snoc' ⟨pr,rfl,(g1.trans g').tups _ _ hpr⟩ (Paired.mapP hes fun _ _ q=>q.mono (g1.trans g').tups)
theorem Z99 {K:PySem.W.Frag} {H:Hp} {b pr sg:Addr} {es:List V} {x i:Nat} {h:Hl} {Q:VK} (hb:H b = some (.tup es)) (hes:Paired (PrA H) es h.reverse) (hl:h.length ≤ 100000) (hpr:H pr = none) (hsg:(upd H pr (.tup [.int x,.int i])) sg = none) (q:∀ (c:Addr) (H':Hp),HtA H' (.ref c) ((x,i) :: h)→Gro [] H H'→Q (.ref c) H') :
  T2 K (.ref b) (.ref sg) (upd (upd H pr (.tup [.int x,.int i])) sg (.tup [.ref pr])) Q:=by
 have g1:=Gro.new (S:=[]) hpr (.tup [.int x,.int i])
 exact Z98 (g1.tups _ _ hb) (Paired.mapP hes fun _ _ q=>q.mono g1.tups) hl Z3 hsg fun c H' h1 h2=>q c H' h1 (g1.trans h2)
theorem HtA.top {H:Hp} {b:Addr} {es:List V} {p:Nat × Nat} {h:Hl} (hes:Paired (PrA H) es (p :: h).reverse):∃ (es':List V) (c:Addr),es = es' ++ [.ref c]∧Paired (PrA H) es' h.reverse∧H c = some (.tup [.int p.1,.int p.2])∧es'.length = h.length:=by
 rw [List.reverse_cons] at hes
 obtain ⟨es',la,e,hes',c,e',hc⟩:=Paired.last hes
 have hel:=Paired.length hes'
 rw [List.length_reverse] at hel
 exact ⟨es',c,by rw [e,e'],hes',hc,hel⟩
theorem Zab {es:List V} {k:Int} (h1:1 ≤ k) (h2:k ≤ es.length):T4 es none (some (k - 1)) = es.take (k - 1).toNat∧¬ (HT.sIx es.length 0 none = 0∧HT.sIx es.length es.length (some (k - 1)) = es.length):=by
 have e:HT.sIx es.length es.length (some (k - 1)) = (k - 1).toNat:=by
  simp only [HT.sIx]
  rw [if_neg (by omega)]
  omega
 have e2:HT.sIx es.length 0 none = 0:=rfl
 constructor
 ·unfold T4
  rw [e,e2]
  rfl
 ·rw [e]
  omega
theorem Z69 {es:List V} {k:Int} (h1:1 ≤ k) (h2:k ≤ es.length):T4 es (some k) none = es.drop k.toNat∧¬ (HT.sIx es.length 0 (some k) = 0∧HT.sIx es.length es.length none = es.length):=by
 have e:HT.sIx es.length 0 (some k) = k.toNat:=by
  simp only [HT.sIx]
  rw [if_neg (by omega)]
  omega
 have e2:HT.sIx es.length es.length none = es.length:=rfl
 constructor
 ·unfold T4
  rw [e,e2,List.take_of_length_le (by simp)]
 ·rw [e]
  omega
section
variable {P:Program} {w:World} {K:PySem.W.Frag} {mg:Str→Option Value} {base:Heap} {f C:Addr} {fd:FuncData}
inductive spHrI (vs:List V) (H:Hp) (Q:VK):Prop
 | mk (ra:Addr) (v:V) (kl:Addr) (o:Op) (xs:List V) (n r i:Nat) (g:Gs) (h:Hl) (cs:List Ch) (t:Str) (_:vs = [.ref ra,v,.ref kl]) (_:o.rw = .tup xs) (_:H ra = some (.tup xs)) (_:o = .turns ∨ o = .open_ ∨ (∃ k,o = .close k∧1 ≤ k∧k ≤ n∧h ≠ []) ∨ ∃ lo z,o = .next lo z∧h ≠ []) (_:StA H v (r,i,g,h)) (_:g.length = n) (_:n ≤ 900) (_:h.length ≤ 100000) (_:KpA H kl cs) (_:cs.length ≤ 100000)
  (_:∀ (v':V) (H':Hp),RsA H' kl v' (Op.act t o ⟨r + 1,i,g,h,cs⟩)→Gro [kl] H H'→Q v' H')
def Zdn:Sp:=fun vs H Q _=>spHrI vs H Q
abbrev s_l_held_row:Stmt:=top 58
theorem sc_l_held_row:FnScope ["_law_row", "_law_state", "_law_kept", "_law_word", "_law_last", "_law_groups"] ["_law_row", "_law_state", "_law_kept"] (Zb s_l_held_row):=fsc
theorem Ze0 (O_l_back:Own P w K mg base 1 "_law_back" ["_law_state", "_law_kept"] Zan) (F:Fun K "_law_held_row" "_law_held_row" s_l_held_row f fd):FnOk P w K mg base CX0 2 f fd ["_law_row", "_law_state", "_law_kept"] Zdn:=by
 refine F.ok sc_l_held_row (fun vs H Q E h=>?_) (fun cdv A outer s H vs Q E hr h=>?_)
 ·obtain ⟨ra,v,kl,o,xs,n,r,i,g,h,cs,t,rfl,_⟩:=h
  rfl
 obtain ⟨ra,v,kl,o,xs,n,r,i,g,h,cs,t,rfl,ho,hra,hcase,hst,hgn,hn,hhl,hk,hcl,q⟩:=h
 obtain ⟨a,gv,hv,rfl,ha,hg,b,es,rfl,hb,hes⟩:=id hst
 refine ltX ?_
 intro Xz
 refine ⟨_,(Z1 (pS 3 sc_l_held_row.nd (Z8 Z6 (pv 0) Z2 (fun _ _=>rfl)))
  (Z1 (Zo (PW.pt (Ws (Z9 Zs (pv 3) Ze (Zc _)) (Xe (Z9 Zs (pv 3) Ze (Zc _))))) (Z5 (Zh (Zj (Z0 (Zu Ya (Z8 Z6 (pv 1) Z2 (fun _ _=>rfl)) Z2) (Z0 (Z8 Z6 (pv 1) Z2 (fun _ _=>rfl)) (Z0 (Z8 Z6 (pv 1) Z2 (fun _ _=>rfl)) (Z0 (Zu X4 (Z8 Z6 (pv 1) Z2 (fun _ _=>rfl)) (Zj (Z0 (Zj (Z0 Z2 (Z0 (Z8 Z6 (pv 1) Z2 (fun _ _=>rfl)) Z4))) Z4))) Z4))))))) Zf)
  (Z1 (pS 4 sc_l_held_row.nd (Z8 Z6 (Z8 Z6 (pv 1) Z2 (fun _ _=>rfl)) (Uj W9 Z2) (fun _ _=>rfl)))
  (Z1 (Zo (Z9 Zs (pv 3) Ze (Zc _)) (Z1 (pS 5 sc_l_held_row.nd (Zu X4 (Zu X4 (Y1 Xk (Z8 Z6 (pv 1) Z2 (fun _ _=>rfl)) Yf (Y3 (Zu Yh (Z8 Z6 (pv 0) Z2 (fun _ _=>rfl)) Z2))) (Zj (Z0 (Zj (Z0 (Z8 Z6 (pv 4) Z2 (fun _ _=>rfl)) (Z0 (Z8 Z6 (pv 1) Z2 (fun _ _=>rfl)) Z4))) Z4))) (Y1 Xk (Z8 Z6 (pv 1) Z2 (fun _ _=>rfl)) (Y3 (Z8 Z6 (pv 0) Z2 (fun _ _=>rfl))) Yf)))
  (Z5 (Zh (Zj (Z0 (Zu Ya (Z8 Z6 (pv 1) Z2 (fun _ _=>rfl)) Z2) (Z0 (Z8 Z6 (pv 1) Z2 (fun _ _=>rfl)) (Z0 (pv 5) (Z0 (Y1 Xk (Z8 Z6 (pv 1) Z2 (fun _ _=>rfl)) Yf (Y3 (Uj W9 Z2))) Z4)))))))) Zf)
  (Z1 (Zo (PW.pt (Xp (Z9 Z5b (Z8 Z6 (pv 4) Z2 (fun _ _=>rfl)) (Z8 Z6 (pv 0) Z2 (fun _ _=>rfl)) (Zc _)) (X2 (Z9 Zs (Z8 Z6 (pv 4) Z2 (fun _ _=>rfl)) (Z8 Z6 (pv 1) Z2 (fun _ _=>rfl)) (Zc _))))) (Z5 (Zh (Zk (O_l_back.mono (by omega)) hr rfl (Z0 (pv 1) (Z0 (pv 2) Z4))))) Zf)
  (Z5 (Zh (Zj (Z0 (Z8 Z6 (pv 0) Z2 (fun _ _=>rfl)) (Z0 (Z8 Z6 (pv 1) Z2 (fun _ _=>rfl)) (Z0 (Z8 Z6 (pv 1) Z2 (fun _ _=>rfl)) (Z0 (Zu X4 (Y1 Xk (Z8 Z6 (pv 1) Z2 (fun _ _=>rfl)) Yf (Y3 (Uj W9 Z2))) (Zj (Z0 (Zj (Z0 (Zu Ya (Z8 Z6 (pv 4) Z2 (fun _ _=>rfl)) Z2) (Z0 (Z8 Z6 (pv 4) Z2 (fun _ _=>rfl)) Z4))) Z4))) Z4)))))))))))),?_⟩
 refine Zbh ?_
 intro Ez Az1 Az2 Az3 Az4 Az5 Az6 Az7 Az8 Az9
 have push0:∀ {Q':VK},(∀ (c:Addr) (H':Hp),HtA H' (.ref c) ((0,i) :: h)→Gro [] H H'→Q' (.ref c) H')→∀ pr,H pr = none→∀ sg,(upd H pr (.tup [.int 0,.int i])) sg = none→T2 K (.ref b) (.ref sg) (upd (upd H pr (.tup [.int 0,.int i])) sg (.tup [.ref pr])) Q' :=
  fun q' pr hpr sg hsg=>Z99 (x:=0) hb hes hhl hpr hsg q'
 rcases hcase with rfl | rfl | ⟨k,rfl,hk1,hk2,hne⟩ | ⟨lo,z,rfl,hne⟩
 ·cases ho
  refine (ixT hra at0 (exA rfl ⟨rfl,exA rfl (Zg (by decide +kernel) (Zg rfl ?_))⟩))
  refine (ixT ha at0 (exB rfl rfl (ixT ha rfl (ixT ha rfl (ixT ha rfl (ixT ha rfl ⟨sz,fun pr hpr=>⟨sz,fun sg hsg=>push0 (fun c H1 hc g1=>⟨sz,fun d hd=>?_⟩) pr hpr sg hsg⟩⟩))))))
  exact q _ _ ⟨X0 (r:=r + 1) (hg.mono g1.tups) hc hd,hk.gro (g1.trans (Gro.new hd _)) (by simp)⟩ (W5 (g1.trans (Gro.new hd _)))
 ·cases ho
  refine (ixT hra at0 (exA rfl ⟨rfl,exA rfl (Zd (by decide +kernel) (exA rfl ⟨rfl,exA rfl (Zg (by decide +kernel) ?_)⟩))⟩))
  refine (ixT ha at0 (exB rfl rfl (ixT ha rfl (ixT ha rfl (ixT ha rfl (ixT ha rfl ⟨sz,fun pr hpr=>⟨sz,fun sg hsg=>push0 (fun c H1 hc g1=>⟨sz,fun d hd=>?_⟩) pr hpr sg hsg⟩⟩))))))
  exact q _ _ ⟨X0 (r:=r + 1) (hg.mono g1.tups) hc hd,hk.gro (g1.trans (Gro.new hd _)) (by simp)⟩ (W5 (g1.trans (Gro.new hd _)))
 ·cases ho
  cases h with
  | nil=>exact absurd rfl hne
  | cons p h =>
  obtain ⟨es',c,rfl,hes',hc,hel⟩:=HtA.top (b:=b) hes
  obtain ⟨ga,gs,rfl,hga,hgs⟩:=id hg
  have hgl:=Paired.length hgs
  refine (ixT hra at0 (exA rfl ⟨rfl,exA rfl (Zd (by decide +kernel) (exA rfl ⟨rfl,exA rfl (Zd (by decide +kernel) ?_)⟩))⟩))
  refine (ixT ha rfl (exA rfl ⟨b,_,_,_,rfl,rfl,SqT.of hb,Vn,?_⟩))
  refine (exA rfl ⟨rfl,exA rfl (Zg (by decide +kernel) ?_)⟩)
  have hgn':gs.length ≤ 900:=by rw [hgl]; show List.length g ≤ 900; omega
  have hgl':k ≤ gs.length:=by rw [hgl]; show k ≤ ((List.length g:Nat):Int); omega
  have c1:=Zab (es:=gs) hk1 hgl'
  have c2:=Z69 (es:=gs) hk1 hgl'
  refine (ixT ha rfl (ixT hra rfl (exB rfl rfl (exA rfl (slT hga c1.2 fun s1 H1 hs1 g1=>?_)))))
  rw [c1.1] at hs1
  have ha1:=g1.tups _ _ ha
  refine (ixT (g1.tups _ _ hc) rfl (ixT ha1 rfl ⟨sz,fun pr hpr=>⟨sz,fun sg hsg=>?_⟩⟩))
  have g2:Gro [] H1 (upd (upd H1 pr (.tup [.int p.2,.int i])) sg (.tup [.ref pr])):=(Gro.new hpr _).trans (Gro.new hsg _)
  have hpr2:(upd (upd H1 pr (.tup [.int p.2,.int i])) sg (.tup [.ref pr])) pr = some (.tup [.int p.2,.int i]):=(Gro.new (S:=[]) hsg _).tups _ _ Z3
  have hsg2:(upd (upd H1 pr (.tup [.int p.2,.int i])) sg (.tup [.ref pr])) sg = some (.tup [.ref pr]):=Z3
  generalize upd (upd H1 pr (.tup [.int p.2,.int i])) sg (.tup [.ref pr]) = H2 at *
  refine Zd5 (g2.tups _ _ hs1) hsg2 (by simp; omega) fun s2 H3 hs2 g3=>?_
  have g13:=(g1.trans g2).trans g3
  refine (ixT (g13.tups _ _ ha) rfl (ixT (g13.tups _ _ hra) rfl (exA rfl ?_)))
  dsimp only [Z4e]
  refine slT (g13.tups _ _ hga) c2.2 fun s3 H4 hs3 g4=>?_
  rw [c2.1] at hs3
  refine Zd5 (g4.tups _ _ hs2) hs3 (by simp; omega) fun s4 H5 hs4 g5=>?_
  have g15:=(g13.trans g4).trans g5
  have ha5:=g15.tups _ _ ha
  have hgs5:GsAt H5 (.ref s4) (put g k p.2 i):=by
   refine ⟨s4,_,rfl,hs4,?_⟩
   have hgs':Paired (EnA H5) gs g:=Paired.mapP hgs fun _ _ q=>EnA.mono g15.tups q
   exact Paired.append' (Paired.append' (Ye _ hgs') (.cons ⟨pr,rfl,(g3.trans (g4.trans g5)).tups _ _ hpr2⟩ .nil)) (Paired.dropP _ hgs')
  refine (ixT ha5 at0 (exB rfl rfl (ixT ha5 rfl (exA rfl (ixT ha5 rfl (exA rfl (exA rfl (slT (g15.tups _ _ hb) V6 fun s6 H6 hs6 g6=>⟨sz,fun d hd=>?_⟩))))))))
  rw [Xw] at hs6
  have g16:=g15.trans g6
  have ht6:HtA H6 (.ref s6) h:=⟨s6,es',rfl,hs6,Paired.mapP hes' fun _ _ q=>q.mono g16.tups⟩
  exact q _ _ ⟨X0 (r:=r + 1) (hgs5.mono g6.tups) ht6 hd,hk.gro (g16.trans (Gro.new hd _)) (by simp)⟩ (W5 (g16.trans (Gro.new hd _)))
 ·cases ho
  cases h with
  | nil=>exact absurd rfl hne
  | cons p h =>
  obtain ⟨es',c,rfl,hes',hc,hel⟩:=HtA.top (b:=b) hes
  refine (ixT hra at0 (exA rfl ⟨rfl,exA rfl (Zd (by decide +kernel) (exA rfl ⟨rfl,exA rfl (Zd (by decide +kernel) ?_)⟩))⟩))
  refine (ixT ha rfl (exA rfl ⟨b,_,_,_,rfl,rfl,SqT.of hb,Vn,?_⟩))
  refine (exA rfl ⟨rfl,exA rfl (Zd (by decide +kernel) ?_)⟩)
  have hact:Op.act t (.next lo z) ⟨r + 1,i,g,p :: h,cs⟩ = if lo ≤ p.1∧i = p.2 then bk cs else .run ⟨z,i,g,(p.1 + 1,p.2) :: h,cs⟩:=rfl
  rw [hact] at q
  have tail:¬ (lo ≤ p.1∧i = p.2)→∀ (v':V) (H':Hp),StA H' v' (z,i,g,(p.1 + 1,p.2) :: h)→Gro [] H H'→Q v' H':=fun hn v' H' hv g'=>q v' H' (by rw [if_neg hn]; exact ⟨hv,hk.gro g' (by simp)⟩) (W5 g')
  refine (ixT hc at0 (ixT hra rfl (exB rfl rfl (exA rfl ?_))))
  by_cases h1:lo ≤ p.1
  ·refine Zg (decide_eq_true h1) (ixT hc rfl (ixT ha rfl ⟨rfl,exA rfl ?_⟩))
   by_cases h2:i = p.2
   ·refine Zg (decide_eq_true (by rw [h2])) (exA rfl (exA rfl ⟨.ref a,kl,cs,rfl,hk,by omega,fun v' H' hR g'=>q v' H' (by rw [if_pos ⟨h1,h2⟩]; exact hR) g'⟩))
   ·refine Zd (fun z=>h2 (by have z':=of_decide_eq_true z; injection z' with z'; have z2:(p.2:Int) = (i:Int):=z'; omega)) ?_
    refine (ixT hra rfl (ixT ha rfl (ixT ha rfl (ixT ha rfl (exA rfl (exA rfl (slT hb V6 fun s1 H1 hs1 g1=>?_)))))))
    rw [Xw] at hs1
    have hc1:=g1.tups _ _ hc
    refine (ixT hc1 at0 (exB rfl rfl (ixT hc1 rfl ⟨sz,fun pr hpr=>⟨sz,fun sg hsg=>?_⟩⟩)))
    refine Z99 (x:=p.1 + 1) (i:=p.2) hs1 (Paired.mapP hes' fun _ _ q=>q.mono g1.tups) (by simp at hhl; omega) hpr hsg fun c2 H2 hc2 g2=>⟨sz,fun d hd=>?_⟩
    have g12:=g1.trans g2
    exact tail (fun z=>h2 z.2) _ _ (X0 (r:=z) (hg.mono g12.tups) hc2 hd) (g12.trans (Gro.new hd _))
  ·refine Zd (fun z=>h1 (of_decide_eq_true z)) (Z0l ?_)
   refine (ixT hra rfl (ixT ha rfl (ixT ha rfl (ixT ha rfl (exA rfl (exA rfl (slT hb V6 fun s1 H1 hs1 g1=>?_)))))))
   rw [Xw] at hs1
   have hc1:=g1.tups _ _ hc
   refine (ixT hc1 at0 (exB rfl rfl (ixT hc1 rfl ⟨sz,fun pr hpr=>⟨sz,fun sg hsg=>?_⟩⟩)))
   refine Z99 (x:=p.1 + 1) (i:=p.2) hs1 (Paired.mapP hes' fun _ _ q=>q.mono g1.tups) (by simp at hhl; omega) hpr hsg fun c2 H2 hc2 g2=>⟨sz,fun d hd=>?_⟩
   have g12:=g1.trans g2
   exact tail (fun z=>h1 z.1) _ _ (X0 (r:=z) (hg.mono g12.tups) hc2 hd) (g12.trans (Gro.new hd _))
inductive spLrI (vs:List V) (H:Hp) (Q:VK):Prop
 | mk (ra:Addr) (v:V) (kl:Addr) (o:Op) (xs:List V) (r i:Nat) (g:Gs) (h:Hl) (cs:List Ch) (t:Str) (_:vs = [.ref ra,v,.ref kl]) (_:o.rw = .tup xs) (_:H ra = some (.tup xs)) (_:o = .once ∨ (∃ z,o = .bar z) ∨ o = .lean ∨ (h ≠ []∧(o = .here ∨ o = .kept ∨ o = .peeked ∨ o = .barred))) (_:StA H v (r,i,g,h)) (_:h.length ≤ 100000) (_:KpA H kl cs) (_:cs.length ≤ 100000)
  (_:∀ (v':V) (H':Hp),RsA H' kl v' (Op.act t o ⟨r + 1,i,g,h,cs⟩)→Gro [kl] H H'→Q v' H')
def Zdl:Sp:=fun vs H Q _=>spLrI vs H Q
abbrev s_l_look_row:Stmt:=top 57
theorem sc_l_look_row:FnScope ["_law_row", "_law_state", "_law_kept", "_law_word", "_law_pair", "_law_last", "_law_at"] ["_law_row", "_law_state", "_law_kept"] (Zb s_l_look_row):=fsc
theorem Zdx (T:Blt mg) (O_l_back:Own P w K mg base 1 "_law_back" ["_law_state", "_law_kept"] Zan) (O_l_on:Own P w K mg base 1 "_law_on" ["_law_state"] Zd1) (F:Fun K "_law_look_row" "_law_look_row" s_l_look_row f fd):FnOk P w K mg base CX0 2 f fd ["_law_row", "_law_state", "_law_kept"] Zdl:=by
 refine F.ok sc_l_look_row (fun vs H Q E h=>?_) (fun cdv A outer s H vs Q E hr h=>?_)
 ·obtain ⟨ra,v,kl,o,xs,r,i,g,h,cs,t,rfl,_⟩:=h
  rfl
 obtain ⟨ra,v,kl,o,xs,r,i,g,h,cs,t,rfl,ho,hra,hcase,hst,hhl,hk,hcl,q⟩:=h
 refine ltX ?_
 intro Xz
 refine ⟨_,(Z1 (pS 3 sc_l_look_row.nd (Z8 Z6 (pv 0) Z2 (fun _ _=>rfl)))
  (Z1 (pS 4 sc_l_look_row.nd (Zj (Z0 (Zp Zx rfl T.b_len PyProof.Rows.Boot.«len» (Z0 (pv 2) Z4)) (Z0 (Z8 Z6 (pv 1) Z2 (fun _ _=>rfl)) Z4))))
  (Z1 (Zo (Z9 Zs (pv 3) Ze (Zc _)) (Z5 (Zh (Zj (Z0 (Zu Ya (Z8 Z6 (pv 1) Z2 (fun _ _=>rfl)) Z2) (Z0 (Z8 Z6 (pv 1) Z2 (fun _ _=>rfl)) (Z0 (Z8 Z6 (pv 1) Z2 (fun _ _=>rfl)) (Z0 (Zu X4 (Z8 Z6 (pv 1) Z2 (fun _ _=>rfl)) (Zj (Z0 (pv 4) Z4))) Z4))))))) Zf)
  (Z1 (Zo (Z9 Zs (pv 3) Ze (Zc _)) (Z1 (Zm (X3 PySem.F.plainAttrs_list PySem.F.slot_list_append PySem.F.type_list_append Zy (pv 2) (Z0 (Zj (Z0 (Z8 Z6 (pv 0) Z2 (fun _ _=>rfl)) (Z0 (Z8 Z6 (pv 1) Z2 (fun _ _=>rfl)) (Z0 (Z8 Z6 (pv 1) Z2 (fun _ _=>rfl)) (Z0 (Z8 Z6 (pv 1) Z2 (fun _ _=>rfl)) Z4))))) Z4)))
  (Z5 (Zh (Zj (Z0 (Zu Ya (Z8 Z6 (pv 1) Z2 (fun _ _=>rfl)) Z2) (Z0 (Z8 Z6 (pv 1) Z2 (fun _ _=>rfl)) (Z0 (Z8 Z6 (pv 1) Z2 (fun _ _=>rfl)) (Z0 (Zu X4 (Z8 Z6 (pv 1) Z2 (fun _ _=>rfl)) (Zj (Z0 (pv 4) Z4))) Z4)))))))) Zf)
  (Z1 (Zo (Z9 Zs (pv 3) Ze (Zc _)) (Z1 (Zo (Z9 Z0c (Z8 Z6 (pv 1) Z2 (fun _ _=>rfl)) Z2 (Zc _)) (Z5 (Zm (X3 PySem.F.plainAttrs_list PySem.F.slot_list_append PySem.F.type_list_append Zy (pv 2) (Z0 (Zj (Z0 (Z8 Z6 (pv 1) Z2 (fun _ _=>rfl)) (Z0 (Zu Yh (Z8 Z6 (pv 1) Z2 (fun _ _=>rfl)) Z2) (Z0 (Z8 Z6 (pv 1) Z2 (fun _ _=>rfl)) (Z0 (Z8 Z6 (pv 1) Z2 (fun _ _=>rfl)) Z4))))) Z4)))) Zf)
  (Z5 (Zh (Zk (O_l_on.mono (by omega)) hr rfl (Z0 (pv 1) Z4))))) Zf)
  (Z1 (pS 5 sc_l_look_row.nd (Z8 Z6 (Z8 Z6 (pv 1) Z2 (fun _ _=>rfl)) (Uj W9 Z2) (fun _ _=>rfl)))
  (Z1 (Zo (Z9 Zs (pv 3) Ze (Zc _)) (Z1 (Zo (Z9 Zs (Z8 Z6 (pv 1) Z2 (fun _ _=>rfl)) (Z8 Z6 (pv 5) Z2 (fun _ _=>rfl)) (Zc _)) (Z5 (Zh (Zk (O_l_on.mono (by omega)) hr rfl (Z0 (pv 1) Z4)))) Zf)
  (Z5 (Zh (Zk (O_l_back.mono (by omega)) hr rfl (Z0 (pv 1) (Z0 (pv 2) Z4)))))) Zf)
  (Z1 (U2 PassesOwn.never (Z9 Z0c (Zp Zx rfl T.b_len PyProof.Rows.Boot.«len» (Z0 (pv 2) Z4)) (Z8 Z6 (pv 5) Z2 (fun _ _=>rfl)) (Zc _)) (Z5 (Zm (Z2f PySem.F.plainAttrs_list PySem.F.slot_list_pop PySem.F.type_list_pop Z2p (pv 2)))))
  (Z1 (Zo (Z9 Zs (pv 3) Ze (Zc _)) (Z5 (Zh (Zk (O_l_back.mono (by omega)) hr rfl (Z0 (pv 1) (Z0 (pv 2) Z4))))) Zf)
  (Z1 (pS 6 sc_l_look_row.nd (Z8 Z6 (pv 1) Z2 (fun _ _=>rfl)))
  (Z1 (Zo (Z9 Zs (pv 3) Ze (Zc _)) (Z5 (pS 6 sc_l_look_row.nd (Z8 Z6 (pv 5) Z2 (fun _ _=>rfl)))) Zf)
  (Z5 (Zh (Zj (Z0 (Zu Ya (Z8 Z6 (pv 1) Z2 (fun _ _=>rfl)) Z2) (Z0 (pv 6) (Z0 (Z8 Z6 (pv 1) Z2 (fun _ _=>rfl)) (Z0 (Y1 Xk (Z8 Z6 (pv 1) Z2 (fun _ _=>rfl)) Yf (Y3 (Uj W9 Z2))) Z4)))))))))))))))))),?_⟩
 refine Zb5 ?_
 intro Ez Az1 Az2 Az3 Az4 Az5 Az6 Az7 Az8 Az9 Az10 Az11 Az12 Az13 Az14 Az15 Az16 Az17 Az18 Az19 Az20 Az21 Az22 Az23
 obtain ⟨us,hku,hkp⟩:=id hk
 have hul:=Paired.length hkp
 obtain ⟨wd,xr,rfl⟩:∃ (wd:Str) (xr:List V),xs = .str wd :: xr:=by
  rcases hcase with rfl | ⟨z,rfl⟩ | rfl | ⟨_,rfl | rfl | rfl | rfl⟩ <;> cases ho <;> exact ⟨_,_,rfl⟩
 obtain ⟨a,gv,hv,rfl,ha,hg,b,es,rfl,hb,hes⟩:=id hst
 refine (ixT hra at0 ?_)
 refine (exA rfl ⟨kl,us,rfl,.inl (SqL.of hku),ixT ha rfl ⟨sz,fun pr hpr=>?_⟩⟩)
 rw [hul]
 have g1:=Gro.new (S:=[]) hpr (.tup [.int (cs.length:Int),.int i])
 have hpr1:(upd H pr (.tup [.int (cs.length:Int),.int i])) pr = some (.tup [.int (cs.length:Int),.int i]):=Z3
 have hra1:=g1.tups _ _ hra
 have ha1:=g1.tups _ _ ha
 have hb1:=g1.tups _ _ hb
 have hk1:=hk.gro g1 (by simp)
 have hst1:=hst.mono g1.tups
 have hes1:Paired (PrA (upd H pr (.tup [.int (cs.length:Int),.int i]))) es h.reverse:=Paired.mapP hes fun _ _ q=>q.mono g1.tups
 have hg1:=hg.mono g1.tups
 have q1:∀ (v':V) (H':Hp),RsA H' kl v' (Op.act t o ⟨r + 1,i,g,h,cs⟩)→Gro [kl] (upd H pr (.tup [.int (cs.length:Int),.int i])) H'→Q v' H':=fun v' H' hR g'=>q v' H' hR ((W5 g1).trans g')
 generalize upd H pr (.tup [.int (cs.length:Int),.int i]) = H1 at *
 obtain ⟨us1,hku1,hkp1⟩:=id hk1
 have hul1:=Paired.length hkp1
 have add:∀ (x:Addr) (q':Ch) (H2:Hp),StA H2 (.ref x) q'→Gro [] H1 H2→KpA (upd H2 kl (.lst (us1 ++ [.ref x]))) kl (cs ++ [q'])∧Gro [kl] H2 (upd H2 kl (.lst (us1 ++ [.ref x])))∧H2 kl = some (.lst us1):=fun x q' H2 hx g'=>by
  have hku2:=g'.keep _ _ hku1 (by simp)
  have gk:Gro [kl] H2 (upd H2 kl (.lst (us1 ++ [.ref x]))):=Gro.set (by simp) hku2 _
  exact ⟨⟨_,Z3,Paired.snoc' (hx.mono gk.tups) (Paired.mapP hkp1 fun _ _ q=>(q.mono g'.tups).mono gk.tups)⟩,gk,hku2⟩
 rcases hcase with rfl | ⟨z,rfl⟩ | rfl | ⟨hne,hcase⟩
 ·cases ho
  refine (exA rfl ⟨rfl,exA rfl (Zg (by decide +kernel) ?_)⟩)
  refine (ixT ha1 at0 (exB rfl rfl (ixT ha1 rfl (ixT ha1 rfl (ixT ha1 rfl (exA rfl ⟨sz,fun sg hsg=>Z98 hb1 hes1 hhl hpr1 hsg fun c H2 hc g2=>⟨sz,fun d hd=>?_⟩⟩))))))
  exact q1 _ _ ⟨X0 (r:=r + 1) (hg1.mono g2.tups) hc hd,hk1.gro (g2.trans (Gro.new hd _)) (by simp)⟩ (W5 (g2.trans (Gro.new hd _)))
 ·cases ho
  refine (exA rfl ⟨rfl,exA rfl (Zd (by decide +kernel) (exA rfl ⟨rfl,exA rfl (Zg (by decide +kernel) ?_)⟩))⟩)
  refine (exA rfl ⟨.inl ⟨rfl,_,SqL.of hku1⟩,ixT hra1 rfl (ixT ha1 rfl (ixT ha1 rfl (ixT ha1 rfl ⟨sz,fun st hst'=>?_⟩)))⟩)
  have hs2:=X0 (r:=z) (i:=i) hg1 ⟨b,es,rfl,hb1,hes1⟩ hst'
  have g2:=Gro.new (S:=[]) hst' (.tup [.int z,.int i,gv,.ref b])
  generalize upd H1 st (.tup [.int z,.int i,gv,.ref b]) = H2 at *
  obtain ⟨k1,k2,k3⟩:=add st _ H2 hs2 g2
  refine ⟨kl,us1,_,rfl,rfl,k3,big (by omega),?_⟩
  generalize upd H2 kl (.lst (us1 ++ [.ref st])) = H3 at *
  have tm:Tm H1 H3:=fun x y h=>k2.tups _ _ (g2.tups _ _ h)
  have ha3:=tm _ _ ha1
  refine (ixT ha3 at0 (exB rfl rfl (ixT ha3 rfl (ixT ha3 rfl (ixT ha3 rfl (exA rfl ⟨sz,fun sg hsg=>Z98 (tm _ _ hb1) (Paired.mapP hes1 fun _ _ q=>q.mono tm) hhl (tm _ _ hpr1) hsg fun c H4 hc g4=>⟨sz,fun d hd=>?_⟩⟩))))))
  exact q1 _ _ ⟨X0 (r:=r + 1) ((hg1.mono tm).mono g4.tups) hc hd,k1.gro (g4.trans (Gro.new hd _)) (by simp)⟩ ((W5 g2).trans (k2.trans (W5 (g4.trans (Gro.new hd _)))))
 ·cases ho
  refine (exA rfl ⟨rfl,exA rfl (Zd (by decide +kernel) (exA rfl ⟨rfl,exA rfl (Zd (by decide +kernel) (exA rfl ⟨rfl,exA rfl (Zg (by decide +kernel) ?_)⟩))⟩))⟩)
  refine (ixT ha1 rfl (exB rfl rfl (exA rfl ?_)))
  have hact:Op.act t .lean ⟨r + 1,i,g,h,cs⟩ = if 0 < i then .run ⟨r + 1,i,g,h,cs ++ [(r + 1 - 1,i - 1,g,h)]⟩ else .run ⟨r + 1,i,g,h,cs⟩:=rfl
  rw [hact] at q1
  by_cases hi:0 < i
  ·rw [if_pos hi] at q1
   refine Zg (decide_eq_true (show (i:Int) > 0 by omega)) ?_
   refine (exA rfl ⟨.inl ⟨rfl,_,SqL.of hku1⟩,ixT ha1 at0 (ixT ha1 rfl (exB rfl rfl (ixT ha1 rfl (ixT ha1 rfl ⟨sz,fun st hst'=>?_⟩))))⟩)
   have g2:=Gro.new (S:=[]) hst' (.tup [.int r,.int ((i:Int) - 1),gv,.ref b])
   have ei:(i:Int) - 1 = ((i - 1:Nat):Int):=by omega
   have hs2:StA (upd H1 st (.tup [.int r,.int ((i:Int) - 1),gv,.ref b])) (.ref st) (r,i - 1,g,h):=by
    have:=X0 (r:=r) (i:=i - 1) hg1 ⟨b,es,rfl,hb1,hes1⟩ hst'
    rw [ei]
    exact this
   obtain ⟨k1,k2,k3⟩:=add st _ _ hs2 g2
   refine ⟨kl,us1,_,rfl,rfl,k3,big (by omega),?_⟩
   have tm:Tm H1 _:=fun x y h=>k2.tups _ _ (g2.tups _ _ h)
   refine (exA rfl ⟨.ref a,r,i,g,h,rfl,hst1.mono tm,fun v' H' hv g'=>?_⟩)
   exact q1 _ _ ⟨hv,k1.gro g' (by simp)⟩ ((W5 g2).trans (k2.trans (W5 g')))
  ·rw [if_neg hi] at q1
   refine Zd (fun z=>hi (by have z':=of_decide_eq_true z; have z2:(i:Int) > 0:=z'; omega)) ?_
   refine (exA rfl ⟨.ref a,r,i,g,h,rfl,hst1,fun v' H' hv g'=>?_⟩)
   exact q1 _ _ ⟨hv,hk1.gro g' (by simp)⟩ (W5 g')
 cases h with
 | nil=>exact absurd rfl hne
 | cons p h =>
 obtain ⟨es',c,rfl,hes',hc,hel⟩:=HtA.top (b:=b) hes1
 have n123:decide (V.str wd = V.str "once") = false∧decide (V.str wd = V.str "bar") = false∧decide (V.str wd = V.str "lean") = false:=by
  rcases hcase with rfl | rfl | rfl | rfl <;> cases ho <;> decide +kernel
 refine (exA rfl ⟨rfl,exA rfl (Zd (by rw [n123.1]; decide) (exA rfl ⟨rfl,exA rfl (Zd (by rw [n123.2.1]; decide) (exA rfl ⟨rfl,exA rfl (Zd (by rw [n123.2.2]; decide) ?_)⟩))⟩))⟩)
 refine (ixT ha1 rfl (exA rfl ⟨b,_,_,_,rfl,rfl,SqT.of hb1,Vn,?_⟩))
 by_cases hw:o = .here
 ·subst hw
  cases ho
  refine (exA rfl ⟨rfl,exA rfl (Zg (by decide +kernel) (ixT ha1 rfl (ixT hc rfl ⟨rfl,exA rfl ?_⟩)))⟩)
  have hact:Op.act t .here ⟨r + 1,i,g,p :: h,cs⟩ = if i = p.2 then .run ⟨r + 1,i,g,p :: h,cs⟩ else bk cs:=rfl
  rw [hact] at q1
  by_cases hi:i = p.2
  ·rw [if_pos hi] at q1
   refine Zg (decide_eq_true (by rw [← hi])) (exA rfl ⟨.ref a,r,i,g,p :: h,rfl,hst1,fun v' H' hv g'=>?_⟩)
   exact q1 _ _ ⟨hv,hk1.gro g' (by simp)⟩ (W5 g')
  ·rw [if_neg hi] at q1
   refine Zd (fun z=>hi (by have z':=of_decide_eq_true z; injection z' with z'; have z2:(i:Int) = (p.2:Int):=z'; omega)) (exA rfl (exA rfl ⟨.ref a,kl,cs,rfl,hk1,by omega,fun v' H' hR g'=>q1 v' H' hR g'⟩))
 have nh:decide (V.str wd = V.str "here") = false:=by
  rcases hcase with rfl | rfl | rfl | rfl
  ·exact absurd rfl hw
  all_goals (cases ho; decide +kernel)
 refine (exA rfl ⟨rfl,exA rfl (Zd (by rw [nh]; decide) ?_)⟩)
 refine ⟨fun μ σ H'=>∃ m:Nat,μ = m∧m ≤ us1.length∧min p.1 us1.length ≤ m∧σ = [some (.ref ra),some (.ref a),some (.ref kl),some (.str wd),some (.ref pr),some (.ref c),none]∧H' kl = some (.lst (us1.take m))∧Gro [kl] H1 H',⟨us1.length,us1.length,rfl,Nat.le_refl _,Nat.min_le_right _ _,rfl,by rw [List.take_length]; exact hku1,Gro.refl⟩,?_⟩
 rintro m σ H2 ⟨_,rfl,hm1,hm2,rfl,hku2,g2⟩
 have ha2:=g2.tups _ _ ha1
 have hc2:=g2.tups _ _ hc
 have hlt:(us1.take m).length = m:=by rw [List.length_take]; omega
 refine (exA rfl ⟨kl,_,rfl,.inl (SqL.of hku2),ixT hc2 at0 (exB rfl rfl (exA rfl ?_))⟩)
 rw [hlt]
 by_cases hgt:p.1 < m
 ·refine Zg (decide_eq_true (show (m:Int) > p.1 by omega)) ⟨fun σ' H'=>∃ m':Nat,m' < m∧m' ≤ us1.length∧min p.1 us1.length ≤ m'∧σ' = [some (.ref ra),some (.ref a),some (.ref kl),some (.str wd),some (.ref pr),some (.ref c),none]∧H' kl = some (.lst (us1.take m'))∧Gro [kl] H1 H',fun σ' H' hh=>?_,?_⟩
  ·obtain ⟨m',h1,h2,h3,h4,h5,h6⟩:=hh
   exact ⟨m',h1,m',rfl,h2,h3,h4,h5,h6⟩
  obtain ⟨y,hy⟩:∃ y,(us1.take m)[(us1.take m).length - 1]? = some y:=⟨_,List.getElem?_eq_getElem (by rw [hlt]; omega)⟩
  refine (exA rfl ⟨.inl ⟨rfl,_,SqL.of hku2⟩,kl,_,y,rfl,rfl,hku2,hy,?_⟩)
  refine ⟨m - 1,by omega,by omega,by omega,rfl,?_,g2.trans (Gro.set (by simp) hku2 _)⟩
  rw [Z3,List.dropLast_eq_take,hlt,List.take_take,Nat.min_eq_left (by omega)]
 refine Zd (fun z=>hgt (by have z':=of_decide_eq_true z; have z2:(m:Int) > p.1:=z'; omega)) ?_
 have etk:us1.take m = us1.take p.1:=by
  by_cases h9:p.1 ≤ us1.length
  ·rw [show m = p.1 by omega]
  ·rw [List.take_of_length_le (by omega),List.take_of_length_le (by omega)]
 have hk2:KpA H2 kl (cs.take p.1):=⟨_,hku2,by rw [etk]; exact Ye _ (Paired.mapP hkp1 fun _ _ q=>q.mono g2.tups)⟩
 have hb2:=g2.tups _ _ hb1
 have hes2:Paired (PrA H2) es' h.reverse:=Paired.mapP hes' fun _ _ q=>q.mono g2.tups
 have q2:∀ (v':V) (H':Hp),RsA H' kl v' (Op.act t o ⟨r + 1,i,g,p :: h,cs⟩)→Gro [kl] H2 H'→Q v' H':=fun v' H' hR g'=>q1 v' H' hR (g2.trans g')
 have ctl:(cs.take p.1).length ≤ 1000000:=by rw [List.length_take]; omega
 rcases hcase with rfl | rfl | rfl | rfl
 ·exact absurd rfl hw
 ·cases ho
  refine (exA rfl ⟨rfl,exA rfl (Zd (by decide +kernel) (ixT ha2 rfl (exA rfl ⟨rfl,exA rfl (Zd (by decide +kernel) ?_)⟩)))⟩)
  refine (ixT ha2 at0 (exB rfl rfl (exA rfl (ixT ha2 rfl (ixT ha2 rfl (exA rfl (exA rfl (slT hb2 V6 fun s6 H6 hs6 g6=>⟨sz,fun d hd=>?_⟩))))))))
  rw [Xw] at hs6
  exact q2 _ _ ⟨X0 (r:=r + 1) ((hg1.mono g2.tups).mono g6.tups) ⟨s6,es',rfl,hs6,Paired.mapP hes2 fun _ _ q=>q.mono g6.tups⟩ hd,hk2.gro (g6.trans (Gro.new hd _)) (by simp)⟩ (W5 (g6.trans (Gro.new hd _)))
 ·cases ho
  refine (exA rfl ⟨rfl,exA rfl (Zd (by decide +kernel) (ixT ha2 rfl (exA rfl ⟨rfl,exA rfl (Zg (by decide +kernel) (ixT hc2 rfl ?_))⟩)))⟩)
  refine (ixT ha2 at0 (exB rfl rfl (exA rfl (ixT ha2 rfl (ixT ha2 rfl (exA rfl (exA rfl (slT hb2 V6 fun s6 H6 hs6 g6=>⟨sz,fun d hd=>?_⟩))))))))
  rw [Xw] at hs6
  exact q2 _ _ ⟨X0 (r:=r + 1) ((hg1.mono g2.tups).mono g6.tups) ⟨s6,es',rfl,hs6,Paired.mapP hes2 fun _ _ q=>q.mono g6.tups⟩ hd,hk2.gro (g6.trans (Gro.new hd _)) (by simp)⟩ (W5 (g6.trans (Gro.new hd _)))
 ·cases ho
  refine (exA rfl ⟨rfl,exA rfl (Zg (by decide +kernel) (exA rfl (exA rfl ⟨.ref a,kl,_,rfl,hk2,ctl,fun v' H' hR g'=>q2 v' H' hR g'⟩)))⟩)
end
def WL (lf:Addr) (ws:List Way) (Q:VK) (H:Hp):Prop:=∀ (r:Addr) (vs:List V) (H':Hp),H' r = some (.lst vs)→Paired (WyA H') vs ws→Gro [lf] H H'→Q (.ref r) H'
theorem WL.nil {lf:Addr} {Q:VK} {H0 H:Hp} {r:Addr} (q:WL lf [] Q H0) (hr:H r = none) (g:Gro [lf] H0 H):Q (.ref r) (upd H r (.lst [])):=q r [] _ Z3 .nil (g.trans (Gro.new hr _))
theorem WL.one {lf:Addr} {i:Nat} {gs:Gs} {Q:VK} {H0 H:Hp} {t r:Addr} {gv:V} (q:WL lf [(i,gs)] Q H0) (ht:H t = none) (hr:(upd H t (.tup [.int i,gv])) r = none) (g:Gro [lf] H0 H) (hgs:GsAt H gv gs):Q (.ref r) (upd (upd H t (.tup [.int i,gv])) r (.lst [.ref t])):=by
 have g1:Gro [] H (upd (upd H t (.tup [.int i,gv])) r (.lst [.ref t])):=(Gro.new ht _).trans (Gro.new hr _)
 exact q r _ _ Z3 (.cons ⟨t,gv,rfl,(Gro.new (S:=[]) hr _).tups _ _ Z3,hgs.mono g1.tups⟩ .nil) (g.trans (W5 g1))
def lw (h:Hd) (t:Str) (i:Nat) (g:Gs):List Way:=match h with
 | .again k=>agW t i g k
 | .beg=>if i = 0 then [(i,g)] else []
 | .fin=>if i = t.length then [(i,g)] else []
 | h=>if Y8 h t i = true then [(i + 1,g)] else []
section
variable {P:Program} {w:World} {K:PySem.W.Frag} {mg:Str→Option Value} {base:Heap} {f C:Addr} {fd:FuncData}
def Zam:Sp:=fun _ _ _ _=>False
theorem Z09 {x:Str} {st:Stmt} {ps:List Str} (D:Def K mg x st ps):Own P w K mg base 1 x ps Zam:=D.own fun _ _ _=>FnOk.never fun _ _ _ _ h=>h
inductive spLmI (vs:List V) (H:Hp) (Q:VK):Prop
 | mk (v0 gv:V) (x:Int) (t:Str) (i n:Nat) (g:Gs) (lf:Addr) (_:vs = [v0,.str t,.int i,gv,.ref lf]) (_:PatAt H 1 v0 (.node (.again x) [])) (_:1 ≤ x) (_:x ≤ n) (_:t.length ≤ 8) (_:i ≤ t.length) (_:GsAt H gv g) (_:GOk t n g) (_:WL lf (agW t i g x) Q H)
def Zdm:Sp:=fun vs H Q _=>spLmI vs H Q
theorem Zdy (T:Blt mg) (O_l_ways:Own P w K mg base 1 "_law_ways" ["_law_p", "_law_text_here", "_law_i", "_law_g", "_law_left"] Zam) (O_l_behind:Own P w K mg base 1 "_law_behind" ["_law_p", "_law_text_here", "_law_i", "_law_g", "_law_left"] Zam) (F:Fun K "_law_memory" "_law_memory" s_l_memory f fd):FnOk P w K mg base CX0 2 f fd ["_law_p", "_law_text_here", "_law_i", "_law_g", "_law_left"] Zdm:=by
 refine F.ok sc_l_memory (fun vs H Q E h=>?_) (fun cdv A outer s H vs Q E hr h=>?_)
 ·obtain ⟨v0,gv,x,t,i,n,g,lf,rfl,_⟩:=h
  rfl
 obtain ⟨v0,gv,x,t,i,n,g,lf,rfl,hp,hx1,hx2,ht,hi1,hgs,hgo,q⟩:=h
 refine ltX ?_
 intro Xz
 refine ⟨_,(Z1 (pS 5 sc_l_memory.nd (Z8 Z6 (pv 0) Z2 (fun _ _=>rfl)))
  (Z1 (Zo (Z9 Zs (pv 5) Ze (Zc _)) (Z1 (pS 6 sc_l_memory.nd (Z8 Z6 (pv 3) (Zu Yh (Z8 Z6 (pv 0) Z2 (fun _ _=>rfl)) Z2) (fun _ _=>rfl)))
  (Z1 (Zo (Ve (Wf (pv 6))) (Z5 (Zh (Zv Z4))) Zf)
  (Z1 (pS 7 sc_l_memory.nd (Y1 Ta (pv 1) (Y3 (Z8 Z6 (pv 6) Z2 (fun _ _=>rfl))) (Y3 (Z8 Z6 (pv 6) Z2 (fun _ _=>rfl)))))
  (Z1 (Zo (Z9 Zs (Y1 Ta (pv 1) (Y3 (pv 2)) (Y3 (Zu Ya (pv 2) (Zp Y6 rfl T.b_len PyProof.Rows.Boot.«len» (Z0 (pv 7) Z4))))) (pv 7) (Zc _)) (Z5 (Zh (Zv (Z0 (Zj (Z0 (Zu Ya (pv 2) (Zp Y6 rfl T.b_len PyProof.Rows.Boot.«len» (Z0 (pv 7) Z4))) (Z0 (pv 3) Z4))) Z4)))) Zf)
  (Z5 (Zh (Zv Z4))))))) Zf)
  (Z1 (Zo (Z9 Zs (pv 5) Ze (Zc _)) (Z5 (Zh (Zk (O_l_ways.mono (by omega)) hr rfl (Z0 (Z8 Z6 (pv 0) (Zu Ya Z2 (Ys Wl rfl T.b_int PyProof.Rows.Boot.«int» (Z0 (Z2e (Wf (Z8 Z6 (pv 3) (Zu Yh (Z8 Z6 (pv 0) Z2 (fun _ _=>rfl)) Z2) (fun _ _=>rfl)))) Z4))) (fun _ _=>rfl)) (Z0 (pv 1) (Z0 (pv 2) (Z0 (pv 3) (Z0 (pv 4) Z4)))))))) Zf)
  (Z1 (Zo (Z9 Zs (pv 5) Ze (Zc _)) (Z5 (Zh (Y1 Vp (Zk (O_l_ways.mono (by omega)) hr rfl (Z0 (Z8 Z6 (pv 0) Z2 (fun _ _=>rfl)) (Z0 (pv 1) (Z0 (pv 2) (Z0 (pv 3) (Z0 (pv 4) Z4)))))) Yf (Y3 Z2)))) Zf)
  (Z1 (Zo (PW.pt (Ws (Z9 Zs (pv 5) Ze (Zc _)) (Xe (Z9 Zs (pv 5) Ze (Zc _))))) (Z5 (pS 8 sc_l_memory.nd (Zk (O_l_ways.mono (by omega)) hr rfl (Z0 (Z8 Z6 (pv 0) Z2 (fun _ _=>rfl)) (Z0 (pv 1) (Z0 (pv 2) (Z0 (pv 3) (Z0 (pv 4) Z4)))))))) (Z5 (pS 8 sc_l_memory.nd (Zk (O_l_behind.mono (by omega)) hr rfl (Z0 (Z8 Z6 (pv 0) Z2 (fun _ _=>rfl)) (Z0 (pv 1) (Z0 (pv 2) (Z0 (pv 3) (Z0 (pv 4) Z4)))))))))
  (Z1 (Zo (PW.pt (Ws (Z9 Zs (pv 5) Ze (Zc _)) (Xe (Z9 Zs (pv 5) Ze (Zc _))))) (Z5 (Zh (Xm rfl (show CScope _ ["_law_p", "_law_text_here", "_law_i", "_law_g", "_law_left", "_law_word", "_law_pair", "_law_told", "_law_ways_here"] (Zb s_l_memory) _ from ⟨rfl,by decide +kernel,rfl,by decide +kernel,by decide +kernel,by decide +kernel,by decide +kernel⟩) (We (Y1 Vp (pv 8) Yf (Y3 Z2))) (fun _ _ _ _=>V0) (fun _ _ _ _=>(Zj (Z0 (pv 3) (Z0 (Z8 (r:=U0 K) Z6 (pv 0) Z2 (fun _ _=>rfl)) Z4))))))) Zf)
  (Z1 (Zo (Z9 (J7 hr.units0) (pv 8) (Zv Z4) (Zc _)) (Z5 (Zh (Zv Z4))) Zf)
  (Z5 (Zh (Zv (Z0 (Zj (Z0 (pv 2) (Z0 (pv 3) Z4))) Z4))))))))))),?_⟩
 refine Zb7 ?_
 intro Ez Az1 Az2 Az3 Az4 Az5 Az6 Az7 Az8 Az9 Az10 Az11 Az12 Az13 Az14 Az15 Az16 Az17 Az18 Az19 Az20
 obtain ⟨a0,kv,rfl,lay,hk⟩:=id hp
 obtain ⟨r0,ea⟩:=lay.head
 refine (ixT ea at0 (?_))
 obtain ⟨hx,_,ea'⟩:=lay
 obtain ⟨ga,es,en,rfl,hge,hel,hat,hen⟩:=hgs.ent hx1 (by rw [hgo.len]; exact hx2)
 refine (exA rfl ⟨rfl,exA rfl (Zg (show isw "again" "again" = true by decide +kernel) ?_)⟩)
 refine (exA rfl (ixT ea' rfl ⟨_,_,rfl,rfl,ga,es,_,_,rfl,rfl,SqT.of hge,hat,?_⟩))
 refine (exA rfl (exA rfl (?_)))
 cases he:ent g x with
 | none =>
  rw [he] at hen
  have hen':en = .non:=hen
  have hag:agW t i g x = []:=by unfold agW; rw [he]
  rw [hag] at q
  exact Zg (decide_eq_true hen') ⟨sz,fun r hr=>q.nil hr Gro.refl⟩
 | some pp =>
  rw [he] at hen
  obtain ⟨pa,rfl,hpa⟩:=hen
  obtain ⟨p1,p2⟩:=Z2x hgo he
  refine Zd (by intro z; have z':=of_decide_eq_true z; cases z') ?_
  refine (exA rfl (ixT hpa at0 ⟨_,rfl,ixT hpa rfl ⟨_,rfl,t,rfl,Xa (by omega),?_⟩⟩))
  have hsl:Txt.slice t (some (pp.1:Int)) (some (pp.2:Int)) = sub t pp.1 pp.2:=Xo (by omega) (by omega)
  rw [hsl]
  have hs1:=Z4f (t:=t) p1 p2
  refine (exA rfl (exA rfl (exA rfl (exA rfl (exA rfl (exA rfl ⟨Xa (by omega),exB rfl rfl (exA rfl ⟨t,rfl,Xa (by omega),exA rfl ⟨rfl,exA rfl (?_)⟩⟩)⟩))))))
  have hend:(i:Int) + ((sub t pp.1 pp.2).length:Int) = ((i + (pp.2 - pp.1):Nat):Int):=by rw [hs1]; omega
  have hs2:Txt.slice t (some (i:Int)) (some ((i:Int) + ((sub t pp.1 pp.2).length:Int))) = sub t i (i + (pp.2 - pp.1)):=by
   rw [hend,Xo (by omega) (by omega)]
   rfl
  show if decide (V.str (Txt.slice t (some (i:Int)) (some ((i:Int) + ((sub t pp.1 pp.2).length:Int)))) = V.str (sub t pp.1 pp.2)) = true then _ else _
  rw [hs2]
  have hag:agW t i g x = if sub t i (i + (pp.2 - pp.1)) = sub t pp.1 pp.2 then [(i + (pp.2 - pp.1),g)] else []:=by unfold agW; rw [he]
  by_cases hz:sub t i (i + (pp.2 - pp.1)) = sub t pp.1 pp.2
  ·rw [if_pos hz] at hag
   rw [hag] at q
   refine Zg (decide_eq_true (by rw [hz])) ?_
   refine (exA rfl (exA rfl (exA rfl ⟨Xa (by omega),exB rfl rfl (exA rfl ⟨sz,fun t1 ht1=>⟨sz,fun r hr=>?_⟩⟩)⟩)))
   have e1:V.int ((i:Int) + ((sub t pp.1 pp.2).length:Int)) = V.int ((i + (pp.2 - pp.1):Nat):Int):=by rw [hend]
   have:=q.one (t:=t1) (r:=r) (gv:=.ref ga) ht1 (by rw [← e1]; exact hr) Gro.refl hgs
   rw [← e1] at this
   exact this
  ·rw [if_neg hz] at hag
   rw [hag] at q
   refine Zd (fun z=>hz ?_) ⟨sz,fun r hr=>q.nil hr Gro.refl⟩
   have z':=of_decide_eq_true z
   injection z'
inductive spLwI (vs:List V) (H:Hp) (Q:VK):Prop
 | mk (v0 gv:V) (h:Hd) (t:Str) (i n:Nat) (g:Gs) (lf:Addr) (_:vs = [v0,.str t,.int i,gv,.ref lf]) (_:PatAt H 1 v0 (.node h [])) (_:h.act = true) (_:∀ k,h = .again k→1 ≤ k∧k ≤ n) (_:t.length ≤ 8) (_:i ≤ t.length) (_:GsAt H gv g) (_:GOk t n g) (_:H lf = some (.lst [.int 9])) (_:WL lf (lw h t i g) Q H)
def Zdk:Sp:=fun vs H Q _=>spLwI vs H Q
theorem Zdw (T:Blt mg) (O_l_takes:Own P w K mg base 1 "_law_takes" ["_law_p", "_law_sign_here"] Zal) (O_l_each:Own P w K mg base 1 "_law_each" ["_law_part", "_law_text_here", "_law_ways_here", "_law_left"] Zam) (O_l_turns:Own P w K mg base 1 "_law_turns" ["_law_p", "_law_text_here", "_law_n", "_law_j", "_law_g", "_law_left"] Zam) (O_l_ways:Own P w K mg base 1 "_law_ways" ["_law_p", "_law_text_here", "_law_i", "_law_g", "_law_left"] Zam) (O_l_memory:Own P w K mg base 2 "_law_memory" ["_law_p", "_law_text_here", "_law_i", "_law_g", "_law_left"] Zdm) (F:Fun K "_law_ways" "_law_ways" s_l_ways f fd):FnOk P w K mg base CX0 3 f fd ["_law_p", "_law_text_here", "_law_i", "_law_g", "_law_left"] Zdk:=by
 refine F.ok sc_l_ways (fun vs H Q E h=>?_) (fun cdv A outer s H vs Q E hr h=>?_)
 ·obtain ⟨v0,gv,h,t,i,n,g,lf,rfl,_⟩:=h
  rfl
 obtain ⟨v0,gv,h,t,i,n,g,lf,rfl,hp,hact,hag,ht,hi1,hgs,hgo,hlf,q⟩:=h
 refine ltX ?_
 intro Xz
 refine ⟨_,(Z1 (W0 (Zu Yh (Z8 Zz (pv 4) Z2 (fun _ _=>rfl)) Z2) (W1 (pv 4) Z2 Yu))
  (Z1 (Zo (Z9 Wh (Z8 Zz (pv 4) Z2 (fun _ _=>rfl)) Z2 (Zc _)) (Z5 (Zh (Zv Z4))) Zf)
  (Z1 (pS 5 sc_l_ways.nd (Z8 Z6 (pv 0) Z2 (fun _ _=>rfl)))
  (Z1 (Zo (Z9 Xh (pv 5) (Zj (Z0 Ze (Z0 Ze (Z0 Ze (Z0 Ze Z4))))) (by with_unfolding_all rfl)) (Z1 (Zo (PW.pt (Xp (Z9 Wh (pv 2) (Zp Y6 rfl T.b_len PyProof.Rows.Boot.«len» (Z0 (pv 1) Z4)) (Zc _)) (X2 (Yy (Zk (O_l_takes.mono (by omega)) hr rfl (Z0 (pv 0) (Z0 (Z8 Z0j (pv 1) (pv 2) (fun _ _=>rfl)) Z4))))))) (Z5 (Zh (Zv (Z0 (Zj (Z0 (Zu Ya (pv 2) Z2) (Z0 (pv 3) Z4))) Z4)))) Zf)
  (Z5 (Zh (Zv Z4)))) Zf)
  (Z1 (Zo (PW.pt (Ws (Z9 Zs (pv 5) Ze (Zc _)) (Xe (Z9 Zs (pv 5) Ze (Zc _))))) (Z1 (Zo (Z9 Zs (pv 2) (Z8 Zz (Zv (Z0 Z2 (Z0 (Zp Y6 rfl T.b_len PyProof.Rows.Boot.«len» (Z0 (pv 1) Z4)) Z4))) (Ys Wl rfl T.b_int PyProof.Rows.Boot.«int» (Z0 (Yp Zs (pv 5) Ze (Zc _)) Z4)) (fun _ _=>rfl)) (Zc _)) (Z5 (Zh (Zv (Z0 (Zj (Z0 (pv 2) (Z0 (pv 3) Z4))) Z4)))) Zf)
  (Z5 (Zh (Zv Z4)))) Zf)
  (Z1 (Zo (Z9 Zs (pv 5) Ze (Zc _)) (Z1 (pS 6 sc_l_ways.nd (Zv (Z0 (Zj (Z0 (pv 2) (Z0 (pv 3) Z4))) Z4)))
  (Z1 (Xl PassesOwn.never rfl (Vg (Z8 Z6 (pv 0) Z2 (fun _ _=>rfl))) (pN 7 sc_l_ways.nd) (Z5 (pS 6 sc_l_ways.nd (Zk (O_l_each.mono (by omega)) hr rfl (Z0 (pv 7) (Z0 (pv 1) (Z0 (pv 6) (Z0 (pv 4) Z4))))))))
  (Z5 (Zh (pv 6))))) Zf)
  (Z1 (Zo (Z9 Zs (pv 5) Ze (Zc _)) (Z1 (pS 6 sc_l_ways.nd (Zv Z4))
  (Z1 (Xl PassesOwn.never rfl (Vg (Z8 Z6 (pv 0) Z2 (fun _ _=>rfl))) (pN 7 sc_l_ways.nd) (Z5 (pS 6 sc_l_ways.nd (Zu Tj (pv 6) (Zk (O_l_ways.mono (by omega)) hr rfl (Z0 (pv 7) (Z0 (pv 1) (Z0 (pv 2) (Z0 (pv 3) (Z0 (pv 4) Z4))))))))))
  (Z5 (Zh (pv 6))))) Zf)
  (Z1 (Zo (Z9 Zs (pv 5) Ze (Zc _)) (Z1 (pS 6 sc_l_ways.nd (Zk (O_l_turns.mono (by omega)) hr rfl (Z0 (pv 0) (Z0 (pv 1) (Z0 Z2 (Z0 (pv 2) (Z0 (pv 3) (Z0 (pv 4) Z4))))))))
  (Z1 (Zo (Z9 Zs (Z8 Z6 (pv 0) Z2 (fun _ _=>rfl)) Ze (Zc _)) (Z5 (Zh (Y1 Vp (pv 6) Yf (Y3 Z2)))) Zf)
  (Z5 (Zh (pv 6))))) Zf)
  (Z1 (Zo (Z9 Zs (pv 5) Ze (Zc _)) (Z1 (pS 6 sc_l_ways.nd (Zk (O_l_ways.mono (by omega)) hr rfl (Z0 (Z8 Z6 (pv 0) Z2 (fun _ _=>rfl)) (Z0 (pv 1) (Z0 (pv 2) (Z0 (pv 3) (Z0 (pv 4) Z4)))))))
  (Z5 (Zh (Xm rfl (show CScope _ ["_law_p", "_law_text_here", "_law_i", "_law_g", "_law_left", "_law_word", "_law_ways_here", "_law_part"] (Zb s_l_ways) _ from ⟨rfl,by decide +kernel,rfl,by decide +kernel,by decide +kernel,by decide +kernel,by decide +kernel⟩) (We (pv 6)) (fun _ _ _ _=>V0) (fun _ _ _ _=>(Zj (Z0 (Z8 (r:=U0 K) Z6 (pv 0) Z2 (fun _ _=>rfl)) (Z0 (Zu (r:=T2 K) X4 (Zu (r:=T2 K) X4 (Y1 (r:=Zap K) Xk (Z8 (r:=U0 K) Z6 (pv 0) Z2 (fun _ _=>rfl)) Yf (Y3 (Zu Yh (Z8 (r:=U0 K) Z6 (pv 1) Z2 (fun _ _=>rfl)) Z2))) (Zj (Z0 (Zj (Z0 (pv 3) (Z0 (Z8 (r:=U0 K) Z6 (pv 0) Z2 (fun _ _=>rfl)) Z4))) Z4))) (Y1 (r:=Zap K) Xk (Z8 (r:=U0 K) Z6 (pv 0) Z2 (fun _ _=>rfl)) (Y3 (Z8 (r:=U0 K) Z6 (pv 1) Z2 (fun _ _=>rfl))) Yf)) Z4)))))))) Zf)
  (Z5 (Zh (Zk (O_l_memory.mono (by omega)) hr rfl (Z0 (pv 0) (Z0 (pv 1) (Z0 (pv 2) (Z0 (pv 3) (Z0 (pv 4) Z4))))))))))))))))),?_⟩
 refine Z87 ?_
 intro Ez Az1 Az2 Az3 Az4 Az5 Az6 Az7 Az8 Az9 Az10 Az11 Az12 Az13 Az14 Az15 Az16 Az17 Az18 Az19 Az20 Az21 Az22 Az23 Az24 Az25 Az26 Az27 Az28 Az29 Az30
 refine (ixL hlf rfl (exB rfl rfl (exA rfl ⟨lf,_,_,0,rfl,rfl,hlf,rfl,?_⟩)))
 have g1:Gro [lf] H (upd H lf (.lst [.int (9 - 1)])):=Gro.set (by simp) hlf _
 have hl1:(upd H lf (.lst [.int (9 - 1)])) lf = some (.lst [.int (9 - 1)]):=Z3
 refine (ixL hl1 rfl (exB rfl rfl (exA rfl (Zd (by decide) ?_))))
 obtain ⟨a0,kv,rfl,lay,hk⟩:=id hp
 obtain ⟨r0,ea⟩:=lay.head
 refine (ixT (g1.tups _ _ ea) at0 (?_))
 refine (exA rfl ⟨sz,fun tp htp=>?_⟩)
 have g2:Gro [lf] H (upd (upd H lf (.lst [.int (9 - 1)])) tp (.tup Yq)):=g1.trans (Gro.new htp _)
 refine ⟨tp,Yq,rfl,.inr (SqT.of Z3),rfl,rfl,exA rfl (?_)⟩
 show if inV (.str h.word) Yq = true then _ else _
 rw [Zcp]
 have hp2:=hp.mono g2.tups
 have hg2:=hgs.mono g2.tups
 have q2:WL lf (lw h t i g) Q (upd (upd H lf (.lst [.int (9 - 1)])) tp (.tup Yq)):=fun r vs H' h1 h2 h3=>q r vs H' h1 h2 (g2.trans h3)
 have no_:∀ {A B:Prop} (x:Kd),h.wd.kd ≠ x→B→if decide (h.wd.kd = x) = true then A else B:=fun x hx b=>Zd (fun z=>hx (of_decide_eq_true z)) b
 have yes_:∀ {A B:Prop} (x:Kd),h.wd.kd = x→A→if decide (h.wd.kd = x) = true then A else B:=fun x hx a=>Zg (decide_eq_true hx) a
 by_cases c1:h.wd.kd = .one
 ·refine yes_ _ c1 ?_
  have hone:=Z8i c1
  have hlw:lw h t i g = if Y8 h t i = true then [(i + 1,g)] else []:=by
   cases h <;> first | rfl | cases hone
  have htk:Y8 h t i = if (i:Int) < t.length then h.eats (chr t (i:Int).toNat) else false:=rfl
  refine (exA rfl (exA rfl ⟨t,rfl,Xa (by omega),exB rfl rfl (exA rfl (?_))⟩))
  by_cases hlt:(i:Int) < t.length
  ·rw [if_pos hlt] at htk
   refine Zg (decide_eq_true hlt) ?_
   refine (exA rfl (exA rfl (exA rfl ⟨t,i,exA rfl ⟨rfl,Xa (by omega),Z6d (by omega) hlt,1,_,h,[],_,rfl,hp2,hone,rfl,fun H3 g3=>(exA rfl (?_))⟩⟩)))
   show if h.eats (chr t (i:Int).toNat) = true then _ else _
   rw [← htk]
   by_cases htr:Y8 h t i = true
   ·rw [hlw,if_pos htr] at q2
    refine Zg htr ?_
    refine (exA rfl (exB rfl rfl (exA rfl ⟨sz,fun t1 ht1=>⟨sz,fun r hr=>?_⟩⟩)))
    exact q2.one ht1 hr (W5 g3) (hg2.mono g3.tups)
   ·rw [hlw,if_neg htr] at q2
    exact Zd htr ⟨sz,fun r hr=>q2.nil hr (W5 g3)⟩
  ·rw [if_neg hlt] at htk
   rw [hlw,htk] at q2
   exact Zd (fun z=>hlt (of_decide_eq_true z)) (Z0l ⟨sz,fun r hr=>q2.nil hr Gro.refl⟩)
 refine no_ _ c1 ?_
 by_cases c2:h.wd.kd = .edge
 ·have hor:isw h.word "begin" = true ∨ isw h.word "end" = true:=by
   have:=Z5u h
   rw [decide_eq_true c2] at this
   simpa using this
  obtain ⟨b,hw,hlw⟩:∃ b:Bool,decide (V.str h.word = V.str "end") = b∧lw h t i g = (if i = (if b = true then t.length else 0) then [(i,g)] else []):=by
   rcases Z5t c2 with rfl | rfl
   ·exact ⟨false,by decide +kernel,rfl⟩
   ·exact ⟨true,by decide +kernel,rfl⟩
  refine (exA rfl ⟨rfl,exA rfl (?_)⟩)
  refine (fun key=>X7 (fun z=>Z0k key) (fun z=>⟨_,rfl,rfl,_,rfl,Zg (by rcases hor with hor | hor <;> first | exact hor | exact absurd hor z) key⟩)) ?_
  refine (exA rfl (exA rfl ⟨t,rfl,Xa (by omega),sz,fun l hl=>?_⟩))
  refine (exA rfl ⟨rfl,.inr (exA rfl (?_))⟩)
  have g3:=Gro.new (S:=[]) hl (.lst [.int 0,.int t.length])
  rw [hw]
  rw [hlw] at q2
  cases b
  all_goals
   refine ⟨l,_,_,_,rfl,rfl,SqL.of Z3,rfl,rfl,exA rfl (X7 (fun z=>?_) (fun z=>?_))⟩
   ·rw [if_pos (by have z':=of_decide_eq_true z; injection z' with z'; simp; omega)] at q2
    exact (exA rfl (exA rfl ⟨sz,fun t1 ht1=>⟨sz,fun r hr=>q2.one ht1 hr (W5 g3) (hg2.mono g3.tups)⟩⟩))
   ·rw [if_neg (by intro e; refine z (decide_eq_true ?_); simp at e; rw [e]; try rfl)] at q2
    exact ⟨sz,fun r hr=>q2.nil hr (W5 g3)⟩
 obtain ⟨x,rfl⟩:∃ x,h = .again x:=by
  cases h with
  | again x=>exact ⟨x,rfl⟩
  | look lk=>cases hact
  | _=>first | exact absurd rfl c1 | exact absurd rfl c2 | cases hact
 obtain ⟨hx1,hx2⟩:=hag x rfl
 refine (exA rfl ⟨rfl,exA rfl (Zd (show ¬ isw "again" "begin" = true by decide +kernel) (exA rfl ⟨rfl,exA rfl (Zd (show ¬ isw "again" "end" = true by decide +kernel) ?_)⟩))⟩)
 refine (exA rfl ⟨rfl,exA rfl (Zd (show ¬ isw "again" "row" = true by decide +kernel) ?_)⟩)
 refine (exA rfl ⟨rfl,exA rfl (Zd (show ¬ isw "again" "or" = true by decide +kernel) ?_)⟩)
 refine (exA rfl ⟨rfl,exA rfl (Zd (show ¬ isw "again" "times" = true by decide +kernel) ?_)⟩)
 refine (exA rfl ⟨rfl,exA rfl (Zd (show ¬ isw "again" "group" = true by decide +kernel) ?_)⟩)
 exact (exA rfl (exA rfl (exA rfl (exA rfl (exA rfl ⟨_,gv,x,t,i,n,g,lf,rfl,hp2,hx1,hx2,ht,hi1,hg2,hgo,q2⟩)))))
end
abbrev V3:List V:=[.str "sign",.str "any",.str "in",.str "out",.str "begin",.str "end",.str "again"]
abbrev Z7t:List V:=[.str "turns",.str "open",.str "close",.str "next"]
theorem Z81 {h:Hd} (e:h.act = true):inV (.str h.word) V3 = true:=by
 cases h with
 | sign s=>show inV (.str "sign") V3 = true; decide +kernel
 | any=>show inV (.str "any") V3 = true; decide +kernel
 | inn s=>show inV (.str "in") V3 = true; decide +kernel
 | out s=>show inV (.str "out") V3 = true; decide +kernel
 | beg=>show inV (.str "begin") V3 = true; decide +kernel
 | fin=>show inV (.str "end") V3 = true; decide +kernel
 | again k=>show inV (.str "again") V3 = true; decide +kernel
 | _=>cases e
theorem Z9i {t:Str} {h:Hd} (e:h.act = true) (c:Cg):Op.act t (.pat h) c = match lw h t c.i c.g with
  | []=>bk c.cs
  | w :: _=>.run { c with i:=w.1 }:=by
 cases h with
 | beg =>
  show (if c.i = 0 then Cf.run c else bk c.cs) = _
  by_cases hi:c.i = 0
  ·simp [lw,hi]
   cases c; simp_all
  ·simp [lw,hi]
 | fin =>
  show (if c.i = t.length then Cf.run c else bk c.cs) = _
  by_cases hi:c.i = t.length
  ·simp [lw,hi]
   cases c; simp_all
  ·simp [lw,hi]
 | again k =>
  show (match ent c.g k with | none=>bk c.cs | some p=>if sub t c.i (c.i + (p.2 - p.1)) = sub t p.1 p.2 then Cf.run { c with i:=c.i + (p.2 - p.1) } else bk c.cs) = _
  cases he:ent c.g k with
  | none=>simp [lw,agW,he]
  | some p =>
   by_cases hi:sub t c.i (c.i + (p.2 - p.1)) = sub t p.1 p.2
   ·simp [lw,agW,he,hi]
   ·simp [lw,agW,he,hi]
 | sign s =>
  show (if Y8 (.sign s) t c.i = true then Cf.run { c with i:=c.i + 1 } else bk c.cs) = _
  by_cases hi:Y8 (.sign s) t c.i = true <;> simp [lw,hi]
 | any =>
  show (if Y8 .any t c.i = true then Cf.run { c with i:=c.i + 1 } else bk c.cs) = _
  by_cases hi:Y8 .any t c.i = true <;> simp [lw,hi]
 | inn s =>
  show (if Y8 (.inn s) t c.i = true then Cf.run { c with i:=c.i + 1 } else bk c.cs) = _
  by_cases hi:Y8 (.inn s) t c.i = true <;> simp [lw,hi]
 | out s =>
  show (if Y8 (.out s) t c.i = true then Cf.run { c with i:=c.i + 1 } else bk c.cs) = _
  by_cases hi:Y8 (.out s) t c.i = true <;> simp [lw,hi]
 | _=>cases e
theorem Z64 {H H':Hp} {l:Addr} (g:Gro [] H H') (h:H' l = none):H l = none:=by
 cases e:H l with
 | none=>rfl
 | some o=>rw [g.keep _ _ e (by simp)] at h; cases h
section
variable {P:Program} {w:World} {K:PySem.W.Frag} {mg:Str→Option Value} {base:Heap} {f C:Addr} {fd:FuncData}
inductive spMvI (vs:List V) (H:Hp) (Q:VK):Prop
 | mk (rv v:V) (kl:Addr) (o:Op) (n r i:Nat) (g:Gs) (h:Hl) (cs:List Ch) (t:Str) (_:vs = [rv,v,.ref kl,.str t]) (_:RowAt H rv o.rw) (_:o.ok) (_:o.need n ⟨r,i,g,h,cs⟩) (_:∀ lo hi how z,o = .turn lo hi how z→∀ m,hi = some m→lo ≤ m) (_:StA H v (r,i,g,h)) (_:GOk t n g) (_:n ≤ 900) (_:t.length ≤ 8) (_:i ≤ t.length) (_:h.length ≤ 100000) (_:KpA H kl cs) (_:cs.length ≤ 100000)
  (_:∀ (v':V) (H':Hp),RsA H' kl v' (Op.act t o ⟨r + 1,i,g,h,cs⟩)→Gro [kl] H H'→Q v' H')
def Zdj:Sp:=fun vs H Q _=>spMvI vs H Q
abbrev s_l_move:Stmt:=top 59
theorem sc_l_move:FnScope ["_law_row", "_law_state", "_law_kept", "_law_text_here", "_law_word", "_law_ways_here"] ["_law_row", "_law_state", "_law_kept", "_law_text_here"] (Zb s_l_move):=fsc
theorem Zdv (O_l_back:Own P w K mg base 1 "_law_back" ["_law_state", "_law_kept"] Zan) (O_l_on:Own P w K mg base 1 "_law_on" ["_law_state"] Zd1) (O_l_turn_row:Own P w K mg base 1 "_law_turn_row" ["_law_row", "_law_state", "_law_kept"] Zdi) (O_l_held_row:Own P w K mg base 2 "_law_held_row" ["_law_row", "_law_state", "_law_kept"] Zdn) (O_l_look_row:Own P w K mg base 2 "_law_look_row" ["_law_row", "_law_state", "_law_kept"] Zdl) (O_l_ways:Own P w K mg base 3 "_law_ways" ["_law_p", "_law_text_here", "_law_i", "_law_g", "_law_left"] Zdk)
  (F:Fun K "_law_move" "_law_move" s_l_move f fd):FnOk P w K mg base CX0 4 f fd ["_law_row", "_law_state", "_law_kept", "_law_text_here"] Zdj:=by
 refine F.ok sc_l_move (fun vs H Q E h=>?_) (fun cdv A outer s H vs Q E hr h=>?_)
 ·obtain ⟨rv,v,kl,o,n,r,i,g,h,cs,t,rfl,_⟩:=h
  rfl
 obtain ⟨rv,v,kl,o,n,r,i,g,h,cs,t,rfl,hrow,hok,hneed,htl,hst,hgo,hn,ht,hi,hhl,hk,hcl,q⟩:=h
 refine ltX ?_
 intro Xz
 refine ⟨_,(Z1 (pS 4 sc_l_move.nd (Z8 Z6 (pv 0) Z2 (fun _ _=>rfl)))
  (Z1 (Zo (Z9 Xh (pv 4) (Zj (Z0 Ze (Z0 Ze (Z0 Ze (Z0 Ze (Z0 Ze (Z0 Ze (Z0 Ze Z4)))))))) (by with_unfolding_all rfl)) (Z1 (pS 5 sc_l_move.nd (Zk (O_l_ways.mono (by omega)) hr rfl (Z0 (pv 0) (Z0 (pv 3) (Z0 (Z8 Z6 (pv 1) Z2 (fun _ _=>rfl)) (Z0 (Z8 Z6 (pv 1) Z2 (fun _ _=>rfl)) (Z0 (Zv (Z0 Z2 Z4)) Z4)))))))
  (Z1 (Zo (Z9 (U3 hr.units0) (pv 5) (Zv Z4) (Zc _)) (Z5 (Zh (Zk (O_l_back.mono (by omega)) hr rfl (Z0 (pv 1) (Z0 (pv 2) Z4))))) Zf)
  (Z5 (Zh (Zj (Z0 (Zu Ya (Z8 Z6 (pv 1) Z2 (fun _ _=>rfl)) Z2) (Z0 (Z8 Z6 (Z8 Zz (pv 5) Z2 (fun _ _=>rfl)) Z2 (fun _ _=>rfl)) (Z0 (Z8 Z6 (pv 1) Z2 (fun _ _=>rfl)) (Z0 (Z8 Z6 (pv 1) Z2 (fun _ _=>rfl)) Z4))))))))) Zf)
  (Z1 (Zo (Z9 Zs (pv 4) Ze (Zc _)) (Z1 (Zm (X3 PySem.F.plainAttrs_list PySem.F.slot_list_append PySem.F.type_list_append Zy (pv 2) (Z0 (Zj (Z0 (Z8 Z6 (pv 0) Z2 (fun _ _=>rfl)) (Z0 (Z8 Z6 (pv 1) Z2 (fun _ _=>rfl)) (Z0 (Z8 Z6 (pv 1) Z2 (fun _ _=>rfl)) (Z0 (Z8 Z6 (pv 1) Z2 (fun _ _=>rfl)) Z4))))) Z4)))
  (Z5 (Zh (Zk (O_l_on.mono (by omega)) hr rfl (Z0 (pv 1) Z4))))) Zf)
  (Z1 (Zo (Z9 Zs (pv 4) Ze (Zc _)) (Z5 (Zh (Zj (Z0 (Z8 Z6 (pv 0) Z2 (fun _ _=>rfl)) (Z0 (Z8 Z6 (pv 1) Z2 (fun _ _=>rfl)) (Z0 (Z8 Z6 (pv 1) Z2 (fun _ _=>rfl)) (Z0 (Z8 Z6 (pv 1) Z2 (fun _ _=>rfl)) Z4))))))) Zf)
  (Z1 (Zo (Z9 Zs (pv 4) Ze (Zc _)) (Z1 (Zo (Ve (Wf (Z8 Z6 (Z8 Z6 (pv 1) Z2 (fun _ _=>rfl)) (Zu Yh (Z8 Z6 (pv 0) Z2 (fun _ _=>rfl)) Z2) (fun _ _=>rfl)))) (Z5 (Zh (Zj (Z0 (Z8 Z6 (pv 0) Z2 (fun _ _=>rfl)) (Z0 (Z8 Z6 (pv 1) Z2 (fun _ _=>rfl)) (Z0 (Z8 Z6 (pv 1) Z2 (fun _ _=>rfl)) (Z0 (Z8 Z6 (pv 1) Z2 (fun _ _=>rfl)) Z4))))))) Zf)
  (Z5 (Zh (Zk (O_l_on.mono (by omega)) hr rfl (Z0 (pv 1) Z4))))) Zf)
  (Z1 (Zo (Z9 Zs (pv 4) Ze (Zc _)) (Z5 (Zh (Zk (O_l_turn_row.mono (by omega)) hr rfl (Z0 (pv 0) (Z0 (pv 1) (Z0 (pv 2) Z4)))))) Zf)
  (Z1 (Zo (Z9 Xh (pv 4) (Zj (Z0 Ze (Z0 Ze (Z0 Ze (Z0 Ze Z4))))) (by with_unfolding_all rfl)) (Z5 (Zh (Zk (O_l_held_row.mono (by omega)) hr rfl (Z0 (pv 0) (Z0 (pv 1) (Z0 (pv 2) Z4)))))) Zf)
  (Z5 (Zh (Zk (O_l_look_row.mono (by omega)) hr rfl (Z0 (pv 0) (Z0 (pv 1) (Z0 (pv 2) Z4))))))))))))),?_⟩
 refine Zbp ?_
 intro Ez Az1 Az2 Az3 Az4 Az5 Az6 Az7 Az8 Az9 Az10 Az11 Az12 Az13 Az14 Az15 Az16 Az17 Az18 Az19
 obtain ⟨a,gv,hv,rfl,ha,hg,hh⟩:=id hst
 by_cases hpat:∃ hd,o = .pat hd
 ·obtain ⟨hd,rfl⟩:=hpat
  have hp:PatAt H 1 rv (.node hd []):=hrow
  obtain ⟨a0,kv,rfl,lay,hkk⟩:=id hp
  obtain ⟨r0,ea⟩:=lay.head
  refine (ixT ea at0 (exA rfl ⟨sz,fun tp htp=>⟨tp,V3,rfl,.inr (SqT.of Z3),rfl,rfl,exA rfl (Zg (Z81 hok) ?_)⟩⟩))
  have g1:=Gro.new (S:=[]) htp (.tup V3)
  have ha1:=g1.tups _ _ ha
  refine (exA rfl (exA rfl (ixT ha1 rfl (ixT ha1 rfl ⟨sz,fun lf hlf=>?_⟩))))
  have g2:=g1.trans (Gro.new (S:=[]) hlf (.lst [.int 9]))
  refine ⟨.ref a0,gv,hd,t,i,n,g,lf,rfl,hp.mono g2.tups,hok,fun k e=>by subst e; exact hneed,ht,hi,hg.mono g2.tups,hgo,Z3,fun rl vs H3 hrl hvs g3=>?_⟩
  have gk:Gro [lf] H H3:=(W5 g2).trans g3
  have nlf:H lf = none:=Z64 g1 hlf
  have g13:Gro [] H H3:=⟨fun x o h _=>gk.keep x o h (by simpa using Z7 h nlf),gk.tups⟩
  refine (exA rfl ⟨sz,fun z hz=>?_⟩)
  have g4:=g13.trans (Gro.new (S:=[]) hz (.lst []))
  have hrl4:=(Gro.new (S:=[]) hz (.lst [])).keep _ _ hrl (by simp)
  have hvs4:=Y5 (Gro.new (S:=[]) hz (.lst [])).tups hvs
  refine ⟨rl,z,vs,rfl,rfl,SqL.of hrl4,SqL.of Z3,exA rfl ?_⟩
  have hk4:=hk.gro g4 (by simp)
  have ha4:=g4.tups _ _ ha
  have hpa:=Z9i (t:=t) hok ⟨r + 1,i,g,h,cs⟩
  rw [hpa] at q
  have q':∀ (v':V) (H':Hp),RsA H' kl v' (match lw hd t i g with | []=>bk cs | w :: _=>.run ⟨r + 1,w.1,g,h,cs⟩)→Gro [kl] H H'→Q v' H':=q
  cases hlw:lw hd t i g with
  | nil =>
   rw [hlw] at hvs4 q'
   cases hvs4
   refine Zg rfl (exA rfl (exA rfl ⟨.ref a,kl,cs,rfl,hk4,by omega,fun v' H' hR g'=>q' v' H' hR ((W5 g4).trans g')⟩))
  | cons w0 ws0 =>
   rw [hlw] at hvs4 q'
   cases hvs4 with
   | cons hw _ =>
   obtain ⟨a9,gv9,rfl,hb9,hg9⟩:=hw
   refine Zd (by simp) ?_
   refine (ixT ha4 at0 (exB rfl rfl (ixL hrl4 at0 ⟨a9,_,_,_,rfl,rfl,SqT.of hb9,at0,ixT ha4 rfl (ixT ha4 rfl ⟨sz,fun d hd'=>?_⟩)⟩)))
   exact q' _ _ ⟨X0 (r:=r + 1) (hg.mono g4.tups) (hh.mono g4.tups) hd',hk4.gro (Gro.new (S:=[]) hd' _) (by simp)⟩ (W5 (g4.trans (Gro.new hd' _)))
 obtain ⟨wd,xr,hrw,n7⟩:∃ (wd:Str) (xr:List V),o.rw = .tup (.str wd :: xr)∧inV (.str wd) V3 = false:=by
  cases o with
  | pat hd=>exact absurd ⟨hd,rfl⟩ hpat
  | _=>exact ⟨_,_,rfl,by decide +kernel⟩
 rw [hrw] at hrow
 obtain ⟨ra,rfl,hra⟩:=hrow
 refine (ixT hra at0 (exA rfl ⟨sz,fun tp htp=>⟨tp,V3,rfl,.inr (SqT.of Z3),rfl,rfl,exA rfl (Zd (by rw [n7]; decide) ?_)⟩⟩))
 have g1:=Gro.new (S:=[]) htp (.tup V3)
 have hra1:=g1.tups _ _ hra
 have ha1:=g1.tups _ _ ha
 have hst1:=hst.mono g1.tups
 have hg1:=hg.mono g1.tups
 have hh1:=hh.mono g1.tups
 have hk1:=hk.gro g1 (by simp)
 have q1:∀ (v':V) (H':Hp),RsA H' kl v' (Op.act t o ⟨r + 1,i,g,h,cs⟩)→Gro [kl] (upd H tp (.tup V3)) H'→Q v' H':=fun v' H' hR g'=>q v' H' hR ((W5 g1).trans g')
 generalize upd H tp (.tup V3) = H1 at *
 obtain ⟨us1,hku1,hkp1⟩:=id hk1
 have hul1:=Paired.length hkp1
 by_cases c1:∃ z,o = .try_ z
 ·obtain ⟨z,rfl⟩:=c1
  cases hrw
  refine (exA rfl ⟨rfl,exA rfl (Zg (by decide +kernel) ?_)⟩)
  refine (exA rfl ⟨.inl ⟨rfl,_,SqL.of hku1⟩,ixT hra1 rfl (ixT ha1 rfl (ixT ha1 rfl (ixT ha1 rfl ⟨sz,fun st hst'=>?_⟩)))⟩)
  have hs2:=X0 (r:=z) (i:=i) hg1 hh1 hst'
  have g2:=Gro.new (S:=[]) hst' (.tup [.int z,.int i,gv,hv])
  have hku2:=g2.keep _ _ hku1 (by simp)
  have hst2:=hst1.mono g2.tups
  have hkp2:Paired (StA (upd H1 st (.tup [.int z,.int i,gv,hv]))) us1 cs:=Paired.mapP hkp1 fun _ _ q=>q.mono g2.tups
  generalize upd H1 st (.tup [.int z,.int i,gv,hv]) = H2 at *
  have gk:Gro [kl] H2 (upd H2 kl (.lst (us1 ++ [.ref st]))):=Gro.set (by simp) hku2 _
  refine ⟨kl,us1,_,rfl,rfl,hku2,big (by omega),?_⟩
  refine (exA rfl ⟨.ref a,r,i,g,h,rfl,hst2.mono gk.tups,fun v' H' hv' g'=>?_⟩)
  have kk:KpA (upd H2 kl (.lst (us1 ++ [.ref st]))) kl (cs ++ [(z,i,g,h)]):=⟨_,Z3,Paired.snoc' (hs2.mono gk.tups) (Paired.mapP hkp2 fun _ _ q=>q.mono gk.tups)⟩
  exact q1 _ _ ⟨hv',kk.gro g' (by simp)⟩ ((W5 g2).trans (gk.trans (W5 g')))
 by_cases c2:∃ z,o = .go z
 ·obtain ⟨z,rfl⟩:=c2
  cases hrw
  refine (exA rfl ⟨rfl,exA rfl (Zd (by decide +kernel) (exA rfl ⟨rfl,exA rfl (Zg (by decide +kernel) ?_)⟩))⟩)
  refine (ixT hra1 rfl (ixT ha1 rfl (ixT ha1 rfl (ixT ha1 rfl ⟨sz,fun d hd=>?_⟩))))
  exact q1 _ _ ⟨X0 (r:=z) hg1 hh1 hd,hk1.gro (Gro.new (S:=[]) hd _) (by simp)⟩ (W5 (Gro.new hd _))
 by_cases c3:∃ k z,o = .have_ k z
 ·obtain ⟨k,z,rfl⟩:=c3
  cases hrw
  obtain ⟨hk1',hk2'⟩:1 ≤ k∧k ≤ n:=hneed
  obtain ⟨ga,es,en,rfl,hge,hel,hat,hen⟩:=hg1.ent hk1' (by rw [show (r,i,g,h).2.2.1 = g from rfl,hgo.len]; exact hk2')
  refine (exA rfl ⟨rfl,exA rfl (Zd (by decide +kernel) (exA rfl ⟨rfl,exA rfl (Zd (by decide +kernel) (exA rfl ⟨rfl,exA rfl (Zg (by decide +kernel) ?_)⟩))⟩))⟩)
  refine (ixT ha1 rfl (ixT hra1 rfl (exB rfl rfl ⟨ga,es,_,en,rfl,rfl,SqT.of hge,hat,exA rfl ?_⟩)))
  have hact:Op.act t (.have_ k z) ⟨r + 1,i,g,h,cs⟩ = match ent g k with | none=>.run ⟨z,i,g,h,cs⟩ | some _=>.run ⟨r + 1,i,g,h,cs⟩:=rfl
  rw [hact] at q1
  have hen':EnA H1 en (ent g k):=hen
  cases he:ent g k with
  | none =>
   rw [he] at hen' q1
   have e9:en = .non:=hen'
   refine Zg (decide_eq_true e9) ?_
   refine (ixT hra1 rfl (ixT ha1 rfl (ixT ha1 rfl (ixT ha1 rfl ⟨sz,fun d hd=>?_⟩))))
   exact q1 _ _ ⟨X0 (r:=z) hg1 hh1 hd,hk1.gro (Gro.new (S:=[]) hd _) (by simp)⟩ (W5 (Gro.new hd _))
  | some pp =>
   rw [he] at hen' q1
   obtain ⟨pa,rfl,_⟩:=hen'
   refine Zd (by intro z; have z':=of_decide_eq_true z; cases z') ?_
   refine (exA rfl ⟨.ref a,r,i,g,h,rfl,hst1,fun v' H' hv' g'=>?_⟩)
   exact q1 _ _ ⟨hv',hk1.gro g' (by simp)⟩ (W5 g')
 have nn:decide (V.str wd = V.str "try") = false∧decide (V.str wd = V.str "go") = false∧decide (V.str wd = V.str "have") = false:=by
  cases o with
  | pat hd=>exact absurd ⟨hd,rfl⟩ hpat
  | try_ z=>exact absurd ⟨z,rfl⟩ c1
  | go z=>exact absurd ⟨z,rfl⟩ c2
  | have_ k z=>exact absurd ⟨k,z,rfl⟩ c3
  | _=>cases hrw; decide +kernel
 refine (exA rfl ⟨rfl,exA rfl (Zd (by rw [nn.1]; decide) (exA rfl ⟨rfl,exA rfl (Zd (by rw [nn.2.1]; decide) (exA rfl ⟨rfl,exA rfl (Zd (by rw [nn.2.2]; decide) ?_)⟩))⟩))⟩)
 by_cases c4:∃ lo hi how z,o = .turn lo hi how z
 ·obtain ⟨lo,hi',how,z,rfl⟩:=c4
  cases hrw
  refine (exA rfl ⟨rfl,exA rfl (Zg (by decide +kernel) ?_)⟩)
  cases h with
  | nil=>exact absurd rfl hneed
  | cons p h =>
  exact (exA rfl (exA rfl (exA rfl ⟨ra,.ref a,kl,lo,hi',how,z,r,i,g,p,h,cs,t,rfl,hra1,htl lo hi' how z rfl,hst1,by simp at hhl; omega,hk1,hcl,q1⟩)))
 have n4:decide (V.str wd = V.str "turn") = false:=by
  cases o with
  | pat hd=>exact absurd ⟨hd,rfl⟩ hpat
  | turn lo hi how z=>exact absurd ⟨lo,hi,how,z,rfl⟩ c4
  | _=>cases hrw; decide +kernel
 refine (exA rfl ⟨rfl,exA rfl (Zd (by rw [n4]; decide) ?_)⟩)
 refine (exA rfl ⟨sz,fun tp2 htp2=>⟨tp2,Z7t,rfl,.inr (SqT.of Z3),rfl,rfl,exA rfl ?_⟩⟩)
 have g2:=Gro.new (S:=[]) htp2 (.tup Z7t)
 have hra2:=g2.tups _ _ hra1
 have hst2:=hst1.mono g2.tups
 have hk2:=hk1.gro g2 (by simp)
 have q2:∀ (v':V) (H':Hp),RsA H' kl v' (Op.act t o ⟨r + 1,i,g,h,cs⟩)→Gro [kl] (upd H1 tp2 (.tup Z7t)) H'→Q v' H':=fun v' H' hR g'=>q1 v' H' hR ((W5 g2).trans g')
 by_cases c5:o = .turns ∨ o = .open_ ∨ (∃ k,o = .close k) ∨ ∃ lo z,o = .next lo z
 ·refine Zg (by rcases c5 with rfl | rfl | ⟨k,rfl⟩ | ⟨lo,z,rfl⟩ <;> cases hrw <;> decide +kernel) ?_
  refine (exA rfl (exA rfl (exA rfl ⟨ra,.ref a,kl,o,_,n,r,i,g,h,cs,t,rfl,hrw,hra2,?_,hst2,hgo.len,hn,hhl,hk2,hcl,q2⟩)))
  rcases c5 with rfl | rfl | ⟨k,rfl⟩ | ⟨lo,z,rfl⟩
  ·exact .inl rfl
  ·exact .inr (.inl rfl)
  ·obtain ⟨h1,h2⟩:=hneed
   exact .inr (.inr (.inl ⟨k,rfl,h1.1,h1.2,h2⟩))
  ·exact .inr (.inr (.inr ⟨lo,z,rfl,hneed⟩))
 ·have nin:inV (.str wd) Z7t = false:=by
   cases o with
   | pat hd=>exact absurd ⟨hd,rfl⟩ hpat
   | turns=>exact absurd (.inl rfl) c5
   | open_=>exact absurd (.inr (.inl rfl)) c5
   | close k=>exact absurd (.inr (.inr (.inl ⟨k,rfl⟩))) c5
   | next lo z=>exact absurd (.inr (.inr (.inr ⟨lo,z,rfl⟩))) c5
   | _=>cases hrw; decide +kernel
  refine Zd (by rw [nin]; decide) ?_
  refine (exA rfl (exA rfl (exA rfl ⟨ra,.ref a,kl,o,_,r,i,g,h,cs,t,rfl,hrw,hra2,?_,hst2,hhl,hk2,hcl,q2⟩)))
  cases o with
  | pat hd=>exact absurd ⟨hd,rfl⟩ hpat
  | try_ z=>exact absurd ⟨z,rfl⟩ c1
  | go z=>exact absurd ⟨z,rfl⟩ c2
  | have_ k z=>exact absurd ⟨k,z,rfl⟩ c3
  | turn lo hi how z=>exact absurd ⟨lo,hi,how,z,rfl⟩ c4
  | turns=>exact absurd (.inl rfl) c5
  | open_=>exact absurd (.inr (.inl rfl)) c5
  | close k=>exact absurd (.inr (.inr (.inl ⟨k,rfl⟩))) c5
  | next lo z=>exact absurd (.inr (.inr (.inr ⟨lo,z,rfl⟩))) c5
  | once=>exact .inl rfl
  | bar z=>exact .inr (.inl ⟨z,rfl⟩)
  | lean=>exact .inr (.inr (.inl rfl))
  | here=>exact .inr (.inr (.inr ⟨hneed,.inl rfl⟩))
  | kept=>exact .inr (.inr (.inr ⟨hneed,.inr (.inl rfl)⟩))
  | peeked=>exact .inr (.inr (.inr ⟨hneed,.inr (.inr (.inl rfl))⟩))
  | barred=>exact .inr (.inr (.inr ⟨hneed,.inr (.inr (.inr rfl))⟩))
  | found=>exact absurd hneed id
end
structure FreeT (Pr:Op→Prop):Prop where
 f1:∀ z,Pr (.try_ z)
 f2:∀ z,Pr (.go z)
 f3:∀ k z,Pr (.have_ k z)
 f4:Pr .turns
 f5:Pr .open_
 f7:∀ lo z,Pr (.next lo z)
 f8:Pr .once
 f9:Pr .kept
 f10:Pr .peeked
 f11:∀ z,Pr (.bar z)
 f12:Pr .barred
 f13:Pr .lean
 f14:Pr .here
theorem Z0x {Pr:Op→Prop} (F:FreeT Pr) {lo:Int} {hi:Option Int} {how:How} {c:Co} (f6:∀ how z,Pr (.turn lo hi how z)) (h:∀ b,∀ o ∈ c b,Pr o) (b:Nat):∀ o ∈ W4 lo hi how c b,Pr o:=by
 intro o ho
 unfold W4 at ho
 rcases List.mem_cons.mp ho with rfl | ho
 ·exact F.f4
 ·rcases List.mem_cons.mp ho with rfl | ho
  ·exact f6 _ _
  ·rcases List.mem_append.mp ho with ho | ho
   ·exact h _ o ho
   ·rw [List.mem_singleton.mp ho]; exact F.f7 _ _
theorem Z9z {Pr:Op→Prop} (F:FreeT Pr) {h:Hd} {cs:List Co} (hl:h.act = true→Pr (.pat h)) (ht:∀ lo hi how,h = .times lo hi how→∀ how' z,Pr (.turn lo hi how' z)) (hc:∀ k,h = .grp k→Pr (.close k)) (ih:∀ c ∈ cs,∀ b,∀ o ∈ c b,Pr o) (b:Nat):∀ o ∈ h.ops cs b,Pr o:=by
 intro o ho
 have hh:=Z2q ih
 cases h with
 | row=>exact Z15 ih b o ho
 | alt=>exact Z1u F.f1 F.f2 ih b o ho
 | times lo hi how =>
  cases how with
  | keep =>
   have ho':o ∈ Op.once :: (W4 lo hi .much (hdO cs) (b + 1) ++ [.kept]):=ho
   rcases List.mem_cons.mp ho' with rfl | ho
   ·exact F.f8
   ·rcases List.mem_append.mp ho with ho | ho
    ·exact Z0x F (ht lo hi _ rfl) hh _ o ho
    ·rw [List.mem_singleton.mp ho]; exact F.f9
  | much=>exact Z0x F (ht lo hi _ rfl) hh b o ho
  | little=>exact Z0x F (ht lo hi _ rfl) hh b o ho
 | grp k =>
  have ho':o ∈ Op.open_ :: (hdO cs (b + 1) ++ [.close k]):=ho
  rcases List.mem_cons.mp ho' with rfl | ho
  ·exact F.f5
  ·rcases List.mem_append.mp ho with ho | ho
   ·exact hh _ o ho
   ·rw [List.mem_singleton.mp ho]; exact hc k rfl
 | hav k =>
  have ht:∀ b,∀ o ∈ hdO cs.tail b,Pr o:=fun b=>Z2q (fun c hc'=>ih c (List.mem_of_mem_tail hc')) b
  have ho':o ∈ Z47 k (hdO cs) (hdO cs.tail) b:=ho
  unfold Z47 at ho'
  rcases List.mem_cons.mp ho' with rfl | ho
  ·exact F.f3 _ _
  ·rcases List.mem_append.mp ho with ho | ho
   ·exact hh _ o ho
   ·rcases List.mem_cons.mp ho with rfl | ho
    ·exact F.f2 _
    ·exact ht _ o ho
 | look l =>
  have hin:∀ o ∈ Z6h l (hdO cs) b,Pr o:=by
   intro o ho
   unfold Z6h at ho
   split at ho
   ·rcases List.mem_cons.mp ho with rfl | ho
    ·exact F.f13
    ·rcases List.mem_append.mp ho with ho | ho
     ·exact hh _ o ho
     ·rw [List.mem_singleton.mp ho]; exact F.f14
   ·exact hh _ o ho
  have ho':o ∈ Wu l (hdO cs) b:=ho
  unfold Wu at ho'
  rcases List.mem_cons.mp ho' with e | ho
  ·rw [e]
   split
   ·exact F.f11 _
   ·exact F.f8
  ·rcases List.mem_append.mp ho with ho | ho
   ·exact hin o ho
   ·rw [List.mem_singleton.mp ho]
    cases l with
    | once=>exact F.f9
    | ahead=>exact F.f10
    | behind=>exact F.f10
    | notahead=>exact F.f12
    | notbehind=>exact F.f12
 | _ =>
  rw [List.mem_singleton.mp ho]
  exact hl rfl
def TmO (o:Op):Prop:=∀ lo hi how z,o = .turn lo hi how z→∀ m,hi = some m→lo ≤ m
theorem Z8b {H:Hp}:∀ {d:Nat} {v:V} {p:Pat},PatAt H d v p→∀ b,∀ o ∈ p.ops b,TmO o
 | 0,_,_,h=>h.elim
 | d + 1,v,.node h ks,⟨a,kv,e,l,pk⟩=>fun b=>by
  rw [Wp]
  refine Z9z ⟨fun _ _ _ _ _ e=>(by cases e),fun _ _ _ _ _ e=>(by cases e),fun _ _ _ _ _ _ e=>(by cases e),fun _ _ _ _ e=>(by cases e),fun _ _ _ _ e=>(by cases e),fun _ _ _ _ _ _ e=>(by cases e),fun _ _ _ _ e=>(by cases e),fun _ _ _ _ e=>(by cases e),fun _ _ _ _ e=>(by cases e),fun _ _ _ _ _ e=>(by cases e),fun _ _ _ _ e=>(by cases e),fun _ _ _ _ e=>(by cases e),fun _ _ _ _ e=>(by cases e)⟩ (fun _ _ _ _ _ e=>by cases e) (fun lo hi how e how' z lo' hi' how2 z2 e2 m hm=>?_) (fun _ _ _ _ _ _ e=>by cases e) (fun c hc=>?_) b
  ·subst e
   cases e2
   obtain ⟨⟨_,_,h3⟩,_⟩:=l
   exact (h3 m hm).2.2
  ·obtain ⟨p,hp,rfl⟩:=List.mem_map.mp hc
   obtain ⟨x,_,hx⟩:=Wo pk p hp
   exact Z8b hx
def Sz (m:Nat):Cf→Prop
 | .ended=>True
 | .run c=>c.h.length ≤ m∧c.cs.length ≤ m∧∀ q ∈ c.cs,q.2.2.2.length ≤ m
theorem Z8t {m:Nat} {cs:List Ch} (h1:cs.length ≤ m) (h2:∀ q ∈ cs,q.2.2.2.length ≤ m):Sz m (bk cs):=by
 rcases List.eq_nil_or_concat cs with rfl | ⟨cs',c,rfl⟩
 ·trivial
 ·rw [List.concat_eq_append] at *
  rw [Xx]
  rw [List.length_append] at h1
  exact ⟨h2 c (by simp),by show cs'.length ≤ m; omega,fun q hq=>h2 q (by simp [hq])⟩
theorem Tz {m m':Nat} (h:m ≤ m'):∀ {cf:Cf},Sz m cf→Sz m' cf
 | .ended,_=>trivial
 | .run _,⟨h1,h2,h3⟩=>⟨by omega,by omega,fun q hq=>Nat.le_trans (h3 q hq) h⟩
theorem Zax {m:Nat} {t:Str} {c:Cg} (o:Op) (h:Sz m (.run c)):Sz (m + 1) (o.act t c):=by
 obtain ⟨h1,h2,h3⟩:=h
 have hb:Sz (m + 1) (bk c.cs):=Z8t (by omega) fun q hq=>Nat.le_succ_of_le (h3 q hq)
 have hr:∀ {r i:Nat} {g:Gs} {h:Hl},h.length ≤ m + 1→Sz (m + 1) (.run ⟨r,i,g,h,c.cs⟩):=fun hh=>⟨hh,by show c.cs.length ≤ _; omega,fun q hq=>Nat.le_succ_of_le (h3 q hq)⟩
 have hp:∀ {r i:Nat} {g:Gs} {h:Hl} {q':Ch},h.length ≤ m + 1→q'.2.2.2.length ≤ m + 1→Sz (m + 1) (.run ⟨r,i,g,h,c.cs ++ [q']⟩):=fun hh hq'=>⟨hh,by show (c.cs ++ [_]).length ≤ _; rw [List.length_append]; show c.cs.length + 1 ≤ _; omega,fun q hq=>by
  rcases List.mem_append.mp hq with hq | hq
  ·exact Nat.le_succ_of_le (h3 q hq)
  ·rw [List.mem_singleton.mp hq]; exact hq'⟩
 have ht:∀ {r i:Nat} {g:Gs} {h:Hl} {k:Nat},h.length ≤ m + 1→Sz (m + 1) (.run ⟨r,i,g,h,c.cs.take k⟩):=fun hh=>⟨hh,by show (c.cs.take _).length ≤ _; rw [List.length_take]; omega,fun q hq=>Nat.le_succ_of_le (h3 q (List.mem_of_mem_take hq))⟩
 have h1':c.h.length ≤ m + 1:=by omega
 cases o with
 | pat hd =>
  have hh:Sz (m + 1) (.run c):=Tz (Nat.le_succ m) ⟨h1,h2,h3⟩
  cases hd with
  | beg=>show Sz _ (if _ then _ else _); split; exact hh; exact hb
  | fin=>show Sz _ (if _ then _ else _); split; exact hh; exact hb
  | again k =>
   show Sz _ (match ent c.g k with | none=>bk c.cs | some p=>if sub t c.i (c.i + (p.2 - p.1)) = sub t p.1 p.2 then Cf.run { c with i:=c.i + (p.2 - p.1) } else bk c.cs)
   split
   ·exact hb
   ·split
    ·exact hr h1'
    ·exact hb
  | _=>show Sz _ (if _ then _ else _); split; exact hr h1'; exact hb
 | try_ z=>exact hp h1' h1'
 | go z=>exact hr h1'
 | have_ k z =>
  show Sz _ (match ent c.g k with | none=>_ | some _=>_)
  split
  ·exact hr h1'
  ·exact hr h1'
 | turns=>exact hr (by show c.h.length + 1 ≤ _; omega)
 | open_=>exact hr (by show c.h.length + 1 ≤ _; omega)
 | close k =>
  show Sz _ (match c.h with | []=>_ | p :: h=>_)
  split
  ·trivial
  ·rename_i p h e; rw [e] at h1; exact hr (by simp at h1; omega)
 | turn lo hi how z =>
  show Sz _ (match c.h with | []=>_ | p :: h=>_)
  split
  ·trivial
  ·rename_i p h e
   rw [e] at h1
   have h1a:h.length + 1 ≤ m:=by simpa using h1
   split
   ·split
    ·split
     ·exact hp (by omega) (by show h.length + 1 ≤ _; omega)
     ·exact hp (by show h.length + 1 ≤ _; omega) (by show h.length ≤ _; omega)
    ·exact hr (by show h.length + 1 ≤ _; omega)
   ·split
    ·exact hr (by omega)
    ·exact hb
 | next lo z =>
  show Sz _ (match c.h with | []=>_ | p :: h=>_)
  split
  ·trivial
  ·rename_i p h e
   rw [e] at h1
   have h1a:h.length + 1 ≤ m:=by simpa using h1
   split
   ·exact hb
   ·exact hr (by show h.length + 1 ≤ _; omega)
 | once=>exact hr (by show c.h.length + 1 ≤ _; omega)
 | kept =>
  show Sz _ (match c.h with | []=>_ | p :: h=>_)
  split
  ·trivial
  ·rename_i p h e; rw [e] at h1; exact ht (by simp at h1; omega)
 | peeked =>
  show Sz _ (match c.h with | []=>_ | p :: h=>_)
  split
  ·trivial
  ·rename_i p h e; rw [e] at h1; exact ht (by simp at h1; omega)
 | bar z=>exact hp (by show c.h.length + 1 ≤ _; omega) h1'
 | barred =>
  show Sz _ (match c.h with | []=>_ | p :: _=>_)
  split
  ·trivial
  ·exact Z8t (by rw [List.length_take]; omega) fun q hq=>Nat.le_succ_of_le (h3 q (List.mem_of_mem_take hq))
 | lean=>show Sz _ (if _ then _ else _); split; exact hp h1' h1'; exact Tz (Nat.le_succ m) ⟨h1,h2,h3⟩
 | here =>
  show Sz _ (match c.h with | []=>_ | p :: _=>_)
  split
  ·trivial
  ·split
   ·exact Tz (Nat.le_succ m) ⟨h1,h2,h3⟩
   ·exact hb
 | found=>exact Tz (Nat.le_succ m) ⟨h1,h2,h3⟩
theorem Z8s {m:Nat} {t:Str} {es:List Op} {c:Cg} (h:Sz m (.run c)):Sz (m + 1) (step es t (.run c)):=Zax _ ⟨h.1,h.2.1,h.2.2⟩
theorem Hd.nm_le {n m:Int} (h:n ≤ m):∀ {x:Hd},x.nm n→x.nm m
 | .grp k,q=>⟨q.1,Int.le_trans q.2 h⟩ | .again k,q=>⟨q.1,Int.le_trans q.2 h⟩ | .hav k,q=>⟨q.1,Int.le_trans q.2 h⟩
 | .sign _,_=>trivial | .any,_=>trivial | .inn _,_=>trivial | .out _,_=>trivial | .beg,_=>trivial | .fin,_=>trivial | .row,_=>trivial | .alt,_=>trivial | .times _ _ _,_=>trivial | .look _,_=>trivial
mutual
theorem Pat.nm_le {n m:Int} (h:n ≤ m):∀ (p:Pat),p.nm n→p.nm m
 | .node x ks,q=>by
  rw [Pat.nm] at q ⊢
  exact ⟨Hd.nm_le h q.1,Z8g h ks q.2⟩
theorem Z8g {n m:Int} (h:n ≤ m):∀ (ks:List Pat),nmL n ks→nmL m ks
 | [],_=>by rw [nmL]; trivial
 | k :: ks,q=>by
  rw [nmL] at q ⊢
  exact ⟨Pat.nm_le h k q.1,Z8g h ks q.2⟩
end
theorem nm0 {n:Int} {h:Hd} (e:h.nm n):(Pat.node h []).nm n:=nm_node.mpr ⟨e,fun k hk=>by simp at hk⟩
theorem nm1 {n:Int} {h:Hd} {p:Pat} (e:h.nm n) (q:p.nm n):(Pat.node h [p]).nm n:=nm_node.mpr ⟨e,fun k hk=>by rw [List.mem_singleton.mp hk]; exact q⟩
theorem nm2 {n:Int} {h:Hd} {p p':Pat} (e:h.nm n) (q:p.nm n) (q':p'.nm n):(Pat.node h [p,p']).nm n:=nm_node.mpr ⟨e,fun k hk=>by
 rcases List.mem_cons.mp hk with rfl | hk
 ·exact q
 ·rw [List.mem_singleton.mp hk]; exact q'⟩
def CntN (H:Hp) (c:Addr) (n:Int):Prop:=∃ p:Int,H c = some (.lst [.int n,.int p])∧0 ≤ n∧n ≤ 9
theorem CntN.at_ {H:Hp} {c:Addr} {n:Int} (h:CntN H c n):CntAt H c:=by
 obtain ⟨p,e,r⟩:=h
 exact ⟨n,p,e,r⟩
theorem CntN.ne_let {H:Hp} {b l:Addr} {n:Int} (h:CntN H b n) (h':LetAt H l):b ≠ l:=h.at_.ne_let h'
theorem CntN.gro {S:List Addr} {H H':Hp} {l:Addr} {n:Int} (h:CntN H l n) (g:Gro S H H') (hl:l ∉ S):CntN H' l n:=by
 obtain ⟨y,e,r⟩:=h
 exact ⟨y,g.keep _ _ e hl,r⟩
theorem CntN.new {H:Hp} {l p:Addr} {o:HO} {n:Int} (h:CntN H l n) (hp:H p = none):CntN (upd H p o) l n:=h.gro (S:=[]) (Gro.new hp o) (by simp)
section
variable {P:Program} {w:World} {K:PySem.W.Frag} {mg:Str→Option Value} {base:Heap} {f:Addr} {fd:FuncData}
inductive spRunsI (vs:List V) (H:Hp) (Q:VK):Prop
 | mk (b l:Addr) (_:vs = [.ref b,.ref l]) (_:BoxAt H b) (_:LetAt H l) (_:∀ (r:Addr) (rs:List (Str × Str)) (H':Hp),BoxAt H' b→RunsAt H' r rs→1 ≤ rs.length→rs.length ≤ 2→Gro [b] H H'→Q (.ref r) H')
def Jq:Sp:=fun vs H Q _=>spRunsI vs H Q
abbrev s_l_runs:Stmt:=top 42
theorem sc_l_runs:FnScope ["_law_box", "_law_letters_here", "_law_runs_here", "_law_k", "_law_one", "_law_two"] ["_law_box", "_law_letters_here"] (Zb s_l_runs):=fsc
theorem Z9s (T:Blt mg) (O_l_take:Own P w K mg base 1 "_law_take" ["_law_box", "_law_many"] Xd) (F:Fun K "_law_runs" "_law_runs" s_l_runs f fd) :
  FnOk P w K mg base CX0 2 f fd ["_law_box", "_law_letters_here"] Jq:=by
 refine F.ok sc_l_runs (fun vs H Q E h=>?_) (fun cdv A outer s H vs Q E hr h=>?_)
 ·obtain ⟨b,l,rfl,_⟩:=h
  rfl
 obtain ⟨b,l,rfl,hb,hl,q⟩:=h
 refine ltX ?_
 intro Xz
 refine ⟨_,(Z1 (pS 2 sc_l_runs.nd (Zv Z4))
  (Z1 (Xl PassesOwn.never rfl (Xf rfl T.b_range (Z0 (Zu Ya Z2 (Zk (O_l_take.mono (by omega)) hr rfl (Z0 (pv 0) (Z0 Z2 Z4)))) Z4)) (pN 3 sc_l_runs.nd) (Z1 (pS 4 sc_l_runs.nd (Z8 Zz (pv 1) (Zk (O_l_take.mono (by omega)) hr rfl (Z0 (pv 0) (Z0 Z2 Z4))) (fun _ _=>rfl)))
  (Z1 (pS 5 sc_l_runs.nd (Z8 Zz (pv 1) (Zk (O_l_take.mono (by omega)) hr rfl (Z0 (pv 0) (Z0 Z2 Z4))) (fun _ _=>rfl)))
  (Z5 (Zo (Z9 Z0c (Zp Wr rfl T.b_ord PyProof.Rows.Boot.«ord» (Z0 (pv 4) Z4)) (Zp Wr rfl T.b_ord PyProof.Rows.Boot.«ord» (Z0 (pv 5) Z4)) (Zc _)) (Z5 (Zm (X3 PySem.F.plainAttrs_list PySem.F.slot_list_append PySem.F.type_list_append Zy (pv 2) (Z0 (Zj (Z0 (pv 5) (Z0 (pv 4) Z4))) Z4)))) (Z5 (Zm (X3 PySem.F.plainAttrs_list PySem.F.slot_list_append PySem.F.type_list_append Zy (pv 2) (Z0 (Zj (Z0 (pv 4) (Z0 (pv 5) Z4))) Z4)))))))))
  (Z5 (Zh (Ys Xb rfl T.b_tuple PyProof.Rows.Boot.«tuple» (Z0 (pv 2) Z4)))))),?_⟩
 refine Zbn ?_
 intro Ez Az1 Az2 Az3 Az4 Az5 Az6 Az7
 have bl:b ≠ l:=hb.ne_let hl
 refine ⟨sz,fun a ha=>?_⟩
 refine (exA rfl ⟨b,2,rfl,hb.new ha,by decide,by decide,fun r H1 h0 h1 hb1 g1=>?_⟩)
 refine (exB rfl rfl (exA rfl ⟨by omega,by omega,?_⟩))
 have g1':Gro [b] H H1:=(Gro.new ha _).trans g1
 have ha1:H1 a = some (.lst []):=g1.keep a _ Z3 (by rw [List.mem_singleton]; exact Ne.symm (Z7 hb.choose_spec.1 ha))
 refine Vk (fun i σ H'=>∃ (vs:List V) (rs:List (Str × Str)) (k o t:Option V),σ = [some (.ref b),some (.ref l),some (.ref a),k,o,t]∧H' a = some (.lst vs)∧Paired (RunP H') vs rs∧rs.length = i∧BoxAt H' b∧Gro [b] H H')
  ⟨[],[],none,none,none,rfl,ha1,.nil,rfl,hb1,g1'⟩ ?_ ?_
 ·rintro i σ H2 hi ⟨vs,rs,k,o,t,rfl,ha2,hp2,hl2,hb2,g2⟩
  have ba:b ≠ a:=Z7 hb.choose_spec.1 ha
  have l2:LetAt H2 l:=hl.gro g2 (by simpa using Ne.symm bl)
  refine (exA rfl (exA rfl ⟨b,3,rfl,hb2,by decide,by decide,fun r3 H3 h30 h31 hb3 g3=>?_⟩))
  have l3:LetAt H3 l:=l2.gro g3 (by simpa using Ne.symm bl)
  refine Zch l3 h30 h31 fun s1 hs1=>?_
  refine (exA rfl (exA rfl ⟨b,3,rfl,hb3,by decide,by decide,fun r4 H4 h40 h41 hb4 g4=>?_⟩))
  have l4:LetAt H4 l:=l3.gro g4 (by simpa using Ne.symm bl)
  refine Zch l4 h40 h41 fun s2 hs2=>?_
  have g24:=g3.trans g4
  have ha4:H4 a = some (.lst vs):=g24.keep a _ ha2 (by simpa using Ne.symm ba)
  have hp4:Paired (RunP H4) vs rs:=V1 g24.tups hp2
  have hvl:vs.length ≤ 2:=by have:=Paired.length hp2; omega
  refine (exA rfl ⟨s1,rfl,hs1,exA rfl ⟨s2,rfl,hs2,exB rfl rfl (exA rfl (?_))⟩⟩)
  have fin:∀ (x y:Str),x.length = 1→y.length = 1→∀ p,H4 p = none→∃ (vs':List V) (rs':List (Str × Str)) (k o t:Option V),
    [some (V.ref b),some (.ref l),some (.ref a),some (.int (0 + (i:Int))),some (.str s1),some (.str s2)] = [some (.ref b),some (.ref l),some (.ref a),k,o,t]∧(upd (upd H4 p (.tup [.str x,.str y])) a (.lst (vs ++ [.ref p]))) a = some (.lst vs') ∧
    Paired (RunP (upd (upd H4 p (.tup [.str x,.str y])) a (.lst (vs ++ [.ref p])))) vs' rs'∧rs'.length = i + 1∧BoxAt (upd (upd H4 p (.tup [.str x,.str y])) a (.lst (vs ++ [.ref p]))) b∧Gro [b] H (upd (upd H4 p (.tup [.str x,.str y])) a (.lst (vs ++ [.ref p]))):=by
   intro x y hx hy p hp
   have hpa:p ≠ a:=Ne.symm (Z7 ha4 hp)
   have ha5:(upd H4 p (.tup [.str x,.str y])) a = some (.lst vs):=by rw [Zl (Ne.symm hpa)]; exact ha4
   have t5:Gro [a] H4 (upd (upd H4 p (.tup [.str x,.str y])) a (.lst (vs ++ [.ref p]))):=(Gro.new hp _).trans (Gro.set (by simp) ha5 _)
   refine ⟨vs ++ [.ref p],rs ++ [(x,y)],_,_,_,rfl,Z3,?_,by simp [hl2],?_,?_⟩
   ·exact (V1 t5.tups hp4).snoc ⟨hx,hy,p,rfl,by rw [Zl hpa]; exact Z3⟩
   ·exact (hb4.new hp).gro (S:=[a]) (Gro.set (by simp) ha5 _) (by simpa using ba)
   ·exact ((g2.trans g24).tup hp).fresh ha _
  refine X7 (fun c=>?_) (fun c=>?_)
  ·refine (exA rfl ⟨.inl ⟨rfl,_,SqL.of ha4⟩,exA rfl (exA rfl ⟨sz,fun p hp=>?_⟩)⟩)
   refine ⟨a,vs,exA rfl ⟨rfl,by rw [Zl (Z7 ha4 hp)]; exact ha4,Yo (by omega),?_⟩⟩
   exact fin s2 s1 hs2 hs1 p hp
  ·refine (exA rfl ⟨.inl ⟨rfl,_,SqL.of ha4⟩,exA rfl (exA rfl ⟨sz,fun p hp=>?_⟩)⟩)
   refine ⟨a,vs,exA rfl ⟨rfl,by rw [Zl (Z7 ha4 hp)]; exact ha4,Yo (by omega),?_⟩⟩
   exact fin s1 s2 hs1 hs2 p hp
 ·rintro σ H2 ⟨vs,rs,k,o,t,rfl,ha2,hp2,hl2,hb2,g2⟩
  refine (exA rfl ⟨a,exA rfl (.inl ⟨SqL.of ha2,fun r hr=>?_⟩)⟩)
  exact q r rs _ (hb2.new hr) ⟨vs,Z3,V1 (Gro.new (S:=[]) hr _).tups hp2,by omega⟩ (by omega) (by omega) (g2.tup hr)
inductive spLeafI (vs:List V) (H:Hp) (Q:VK):Prop
 | mk (b l c:Addr) (cn:Int) (_:vs = [.ref b,.ref l,.ref c]) (_:BoxAt H b) (_:LetAt H l) (_:CntN H c cn) (_:b ≠ c) (_:∀ (v:V) (p:Pat) (H':Hp),BoxAt H' b→PatAt H' 1 v p→p.nm cn→Gro [b] H H'→Q v H')
def Ju:Sp:=fun vs H Q _=>spLeafI vs H Q
abbrev s_l_leaf:Stmt:=top 43
theorem sc_l_leaf:FnScope ["_law_box", "_law_letters_here", "_law_count", "_law_kind"] ["_law_box", "_law_letters_here", "_law_count"] (Zb s_l_leaf):=fsc
theorem Z9t (T:Blt mg) (O_l_take:Own P w K mg base 1 "_law_take" ["_law_box", "_law_many"] Xd) (O_l_runs:Own P w K mg base 2 "_law_runs" ["_law_box", "_law_letters_here"] Jq) (F:Fun K "_law_leaf" "_law_leaf" s_l_leaf f fd) :
  FnOk P w K mg base CX0 3 f fd ["_law_box", "_law_letters_here", "_law_count"] Ju:=by
 refine F.ok sc_l_leaf (fun vs H Q E h=>?_) (fun cdv A outer s H vs Q E hr h=>?_)
 ·obtain ⟨b,l,c,cn,rfl,_⟩:=h
  rfl
 obtain ⟨b,l,c,cn,rfl,hb,hl,hc,bc,q⟩:=h
 refine ltX ?_
 intro Xz
 refine ⟨_,(Z1 (pS 3 sc_l_leaf.nd (Zk (O_l_take.mono (by omega)) hr rfl (Z0 (pv 0) (Z0 Z2 Z4))))
  (Z1 (Zo (Z9 Wh (pv 3) Z2 (Zc _)) (Z5 (Zh (Zj (Z0 Ze (Z0 (Z8 Zz (pv 1) (Zk (O_l_take.mono (by omega)) hr rfl (Z0 (pv 0) (Z0 Z2 Z4))) (fun _ _=>rfl)) Z4))))) Zf)
  (Z1 (Zo (Z9 Zs (pv 3) Z2 (Zc _)) (Z5 (Zh (Zj (Z0 Ze Z4)))) Zf)
  (Z1 (Zo (Z9 Wh (pv 3) Z2 (Zc _)) (Z5 (Zh (Zj (Z0 (Z8 Zz (Zv (Z0 Ze (Z0 Ze Z4))) (Zu Yh (pv 3) Z2) (fun _ _=>rfl)) (Z0 (Zk (O_l_runs.mono (by omega)) hr rfl (Z0 (pv 0) (Z0 (pv 1) Z4))) Z4))))) Zf)
  (Z1 (Zo (PW.pt (Ws (Z9 Zs (pv 3) Z2 (Zc _)) (Ws (Z9 Zs (Z8 Zz (pv 2) Z2 (fun _ _=>rfl)) Z2 (Zc _)) (Xe (Z9 Zs (Z8 Zz (pv 2) Z2 (fun _ _=>rfl)) Z2 (Zc _)))))) (Z5 (Zh (Zj (Z0 (Z8 Zz (Zv (Z0 Ze (Z0 Ze Z4))) (Zk (O_l_take.mono (by omega)) hr rfl (Z0 (pv 0) (Z0 Z2 Z4))) (fun _ _=>rfl)) Z4)))) Zf)
  (Z5 (Zh (Zj (Z0 Ze (Z0 (Zu Ya Z2 (Zk (O_l_take.mono (by omega)) hr rfl (Z0 (pv 0) (Z0 (Z8 Zz (pv 2) Z2 (fun _ _=>rfl)) Z4)))) Z4)))))))))),?_⟩
 refine Zbe ?_
 intro Ez Az1 Az2 Az3 Az4 Az5 Az6 Az7 Az8 Az9
 have bl:b ≠ l:=hb.ne_let hl
 have lS:l ∉ [b]:=by simpa using Ne.symm bl
 have cS:c ∉ [b]:=by simpa using Ne.symm bc
 refine (exA rfl ⟨b,8,rfl,hb,by decide,by decide,fun k H1 h0 h1 hb1 g1=>?_⟩)
 have l1:=hl.gro g1 lS
 have c1:=hc.gro g1 cS
 refine (exA rfl (exB rfl rfl (exA rfl (X7 (fun _=>?_) (fun k3=>?_)))))
 ·refine (exA rfl (exA rfl ⟨b,3,rfl,hb1,by decide,by decide,fun r H2 h20 h21 hb2 g2=>?_⟩))
  refine Zch (l1.gro g2 lS) h20 h21 fun s hs=>⟨sz,fun p hp=>?_⟩
  exact q _ (.node (.sign s) []) _ (hb2.new hp) ⟨p,[],rfl,⟨rfl,hs,Z3⟩,.nil⟩ (nm0 trivial) ((g1.trans g2).tup hp)
 refine (exA rfl ⟨rfl,exA rfl (X7 (fun _=>?_) (fun k4=>?_))⟩)
 ·exact ⟨sz,fun p hp=>q _ (.node .any []) _ (hb1.new hp) ⟨p,[],rfl,⟨rfl,Z3⟩,.nil⟩ (nm0 trivial) (g1.tup hp)⟩
 refine (exA rfl (exB rfl rfl (exA rfl (X7 (fun k6=>?_) (fun k6=>?_)))))
 ·refine ⟨sz,fun a ha=>(exA rfl (exB rfl rfl (?_)))⟩
  have hk3:¬ k < 3:=fun z=>k3 (decide_eq_true z)
  have hk4:¬ k = 3:=fun z=>k4 (decide_eq_true (by rw [z]))
  have hk6:k < 6:=of_decide_eq_true k6
  have e45:k = 4 ∨ k = 5:=by omega
  have run:∀ (word:Str) (hd:List (Str × Str)→Hd),(∀ rs,(hd rs).nm cn)→(∀ H' p r rs,H' p = some (.tup [.str word,.ref r])→RunsAt H' r rs→Lay H' p (hd rs) [])→∀ H2:Hp,H2 = upd H1 a (.lst [.str "in",.str "out"]) →
    (Z0y Jq [] E0 (Yv (V9 0) (Yv (V9 1) T1))) [some (.ref b),some (.ref l),some (.ref c),some (.int k)] H2 (fun x H3=>(T1) [some (.ref b),some (.ref l),some (.ref c),some (.int k)] H3 fun xs H4=>(V.str word :: x :: xs).length ≤ sizeLine∧∀ p,H4 p = none→Q (.ref p) (upd H4 p (.tup (V.str word :: x :: xs)))):=by
   rintro word hd hnm lay H2 rfl
   refine (exA rfl (exA rfl ⟨b,l,rfl,hb1.new ha,l1.new ha,fun r rs H3 hb3 hr3 _ _ g3=>⟨sz,fun p hp=>?_⟩⟩))
   exact q _ (.node (hd rs) []) _ (hb3.new hp) ⟨p,[],rfl,lay _ _ _ _ Z3 (hr3.mono (Gro.new (S:=[]) hp _).tups),.nil⟩ (nm0 (hnm rs)) (((g1.tup ha).trans g3).tup hp)
  rcases e45 with rfl | rfl
  ·exact ⟨a,_,_,_,rfl,rfl,SqL.of Z3,rfl,run "in" .inn (fun _=>trivial) (fun H' p r rs e h=>⟨rfl,r,e,h⟩) _ rfl⟩
  ·exact ⟨a,_,_,_,rfl,rfl,SqL.of Z3,rfl,run "out" .out (fun _=>trivial) (fun H' p r rs e h=>⟨rfl,r,e,h⟩) _ rfl⟩
 obtain ⟨cp,hcl,hcn⟩:=c1
 have bare:(Zav (Yv (tOp (Zaq K) (Zd0 (Yv (tC (.str "begin")) (Yv (tC (.str "end")) T1))) (Z0y Xd [] E0 (Yv (V9 0) (Yv (tC (.int 2)) T1)))) T1)) [some (.ref b),some (.ref l),some (.ref c),some (.int k)] H1 Q:=by
  refine ⟨sz,fun a ha=>(exA rfl ⟨b,2,rfl,hb1.new ha,by decide,by decide,fun r H2 h20 h21 hb2 g2=>?_⟩)⟩
  have ha2:H2 a = some (.lst [.str "begin",.str "end"]):=g2.keep a _ Z3 (by simpa using Ne.symm (Z7 hb1.choose_spec.1 ha))
  have e01:r = 0 ∨ r = 1:=by omega
  rcases e01 with rfl | rfl
  ·exact ⟨a,_,_,_,rfl,rfl,SqL.of ha2,rfl,sz,fun p hp=>q _ (.node .beg []) _ (hb2.new hp) ⟨p,[],rfl,⟨rfl,Z3⟩,.nil⟩ (nm0 trivial) (((g1.tup ha).trans g2).tup hp)⟩
  ·exact ⟨a,_,_,_,rfl,rfl,SqL.of ha2,rfl,sz,fun p hp=>q _ (.node .fin []) _ (hb2.new hp) ⟨p,[],rfl,⟨rfl,Z3⟩,.nil⟩ (nm0 trivial) (((g1.tup ha).trans g2).tup hp)⟩
 refine (exA rfl ⟨rfl,exA rfl (X7 (fun _=>Z0k bare) (fun _=>?_))⟩)
 refine (ixL hcl rfl ⟨rfl,_,rfl,X7 (fun _=>Z0k bare) (fun c0=>?_)⟩)
 refine (ixL hcl rfl ⟨rfl,_,rfl,X7 (fun _=>bare) (fun _=>?_)⟩)
 have cn0:¬ cn = 0:=fun z=>c0 (decide_eq_true (by rw [z]))
 refine (exA rfl (ixL hcl rfl ⟨b,cn,rfl,hb1,by omega,by omega,fun r H2 h20 h21 hb2 g2=>?_⟩))
 refine (exB rfl rfl ⟨sz,fun p hp=>?_⟩)
 exact q _ (.node (.again (1 + r)) []) _ (hb2.new hp) ⟨p,[],rfl,⟨⟨by omega,by omega⟩,rfl,Z3⟩,.nil⟩ (nm0 ⟨by omega,by omega⟩) ((g1.trans g2).tup hp)
end
section
variable {P:Program} {w:World} {K:PySem.W.Frag} {mg:Str→Option Value} {base:Heap} {f:Addr} {fd:FuncData}
inductive spPatI (n:Nat) (vs:List V) (H:Hp) (Q:VK):Prop
 | mk (b l c:Addr) (cn:Int) (d:Nat) (_:d < n) (_:vs = [.ref b,.ref l,.ref c,.int d]) (_:BoxAt H b) (_:LetAt H l) (_:CntN H c cn) (_:b ≠ c) (_:∀ (v:V) (p:Pat) (H':Hp) (cm:Int),BoxAt H' b→CntN H' c cm→cn ≤ cm→p.nm cm→(cm = cn ∨ p.has cm)→PatS H' (2 * d + 1) v p→Gro [b,c] H H'→Q v H')
def Z11 (n:Nat):Sp:=fun vs H Q _=>spPatI n vs H Q
inductive spPartsI (n:Nat) (vs:List V) (H:Hp) (Q:VK):Prop
 | mk (b l c:Addr) (cn:Int) (d:Nat) (wd:Str) (_:d < n) (_:vs = [.ref b,.ref l,.ref c,.int ((d:Int) + 1),.str wd]) (_:(wd = "row" ∨ wd = "or")) (_:BoxAt H b) (_:LetAt H l) (_:CntN H c cn) (_:b ≠ c) (_:∀ (v:V) (p:Pat) (H':Hp) (cm:Int),BoxAt H' b→CntN H' c cm→cn ≤ cm→p.nm cm→(cm = cn ∨ p.has cm)→PatS H' (2 * d + 3) v p→Gro [b,c] H H'→Q v H')
def Z12 (n:Nat):Sp:=fun vs H Q _=>spPartsI n vs H Q
inductive spTimesI (n:Nat) (vs:List V) (H:Hp) (Q:VK):Prop
 | mk (b l c:Addr) (cn:Int) (d:Nat) (_:d < n) (_:vs = [.ref b,.ref l,.ref c,.int ((d:Int) + 1)]) (_:BoxAt H b) (_:LetAt H l) (_:CntN H c cn) (_:b ≠ c) (_:∀ (v:V) (p:Pat) (H':Hp) (cm:Int),BoxAt H' b→CntN H' c cm→cn ≤ cm→p.nm cm→(cm = cn ∨ p.has cm)→PatS H' (2 * d + 3) v p→Gro [b,c] H H'→Q v H')
def Z4i (n:Nat):Sp:=fun vs H Q _=>spTimesI n vs H Q
abbrev s_l_parts:Stmt:=top 44
theorem sc_l_parts:FnScope ["_law_box", "_law_letters_here", "_law_count", "_law_deep", "_law_word", "_law_parts_here", "_law_k", "_law_part"] ["_law_box", "_law_letters_here", "_law_count", "_law_deep", "_law_word"] (Zb s_l_parts):=fsc
theorem Z77 {n:Nat} (T:Blt mg) (O_l_take:Own P w K mg base 1 "_law_take" ["_law_box", "_law_many"] Xd) (O_l_pattern:Own P w K mg base (4 + 2 * n) "_law_pattern" ["_law_box", "_law_letters_here", "_law_count", "_law_deep"] (Z11 n)) (F:Fun K "_law_parts" "_law_parts" s_l_parts f fd) :
  FnOk P w K mg base CX0 (4 + 2 * n + 1) f fd ["_law_box", "_law_letters_here", "_law_count", "_law_deep", "_law_word"] (Z12 n):=by
 refine F.ok sc_l_parts (fun vs H Q E h=>?_) (fun cdv A outer s H vs Q E hr h=>?_)
 ·obtain ⟨b,l,c,cn,d,wd,_,rfl,_⟩:=h
  rfl
 obtain ⟨b,l,c,cn,d,wd,hd,rfl,hwd,hb,hl,hc,bc,q⟩:=h
 refine ltX ?_
 intro Xz
 refine ⟨_,(Z1 (pS 5 sc_l_parts.nd (Zv Z4))
  (Z1 (Xl PassesOwn.never rfl (Xf rfl T.b_range (Z0 (Zu Ya Z2 (Zu Zc8 (Ys Wl rfl T.b_int PyProof.Rows.Boot.«int» (Z0 (Yp Z0c (pv 3) Z2 (Zc _)) Z4)) (Zk (O_l_take.mono (by omega)) hr rfl (Z0 (pv 0) (Z0 Z2 Z4))))) Z4)) (pN 6 sc_l_parts.nd) (Z1 (pS 7 sc_l_parts.nd (Zk (O_l_pattern.mono (by omega)) hr rfl (Z0 (pv 0) (Z0 (pv 1) (Z0 (pv 2) (Z0 (Zu Yh (pv 3) Z2) Z4))))))
  (Z1 (Zo (Z9 Zs (Z8 Z6 (pv 7) Z2 (fun _ _=>rfl)) (pv 4) (Zc _)) (Z5 (pS 7 sc_l_parts.nd (Zj (Z0 Ze (Z0 Z2 (Z0 Z2 (Z0 Ze (Z0 (pv 7) Z4)))))))) Zf)
  (Z5 (Zm (X3 PySem.F.plainAttrs_list PySem.F.slot_list_append PySem.F.type_list_append Zy (pv 5) (Z0 (pv 7) Z4)))))))
  (Z5 (Zh (Zj (Z0 (pv 4) (Z0 (Ys Xb rfl T.b_tuple PyProof.Rows.Boot.«tuple» (Z0 (pv 5) Z4)) Z4))))))),?_⟩
 refine Zbs ?_
 intro Ez Az1 Az2 Az3 Az4 Az5 Az6
 have bl:b ≠ l:=hb.ne_let hl
 have cl:c ≠ l:=hc.ne_let hl
 have lS:l ∉ [b,c]:=by simp only [List.mem_cons,List.not_mem_nil,or_false,not_or]; exact ⟨Ne.symm bl,Ne.symm cl⟩
 have hd1:(d:Int) + 1 - 1 = d:=by omega
 refine ⟨sz,fun a ha=>?_⟩
 have ba:b ≠ a:=Z7 hb.choose_spec.1 ha
 have ca:c ≠ a:=by obtain ⟨_,e,_⟩:=hc; exact Z7 e ha
 have aS:a ∉ [b,c]:=by simp only [List.mem_cons,List.not_mem_nil,or_false,not_or]; exact ⟨Ne.symm ba,Ne.symm ca⟩
 refine (exA rfl (exB rfl rfl (.inr (exA rfl (exA rfl ⟨b,2,rfl,hb.new ha,by decide,by decide,fun r H1 h0 h1 hb1 g1=>?_⟩)))))
 have g1':Gro [b,c] H H1:=(Gro.new ha _).trans (g1.mono (by simp))
 have ha1:H1 a = some (.lst []):=g1.keep a _ Z3 (by simpa using Ne.symm ba)
 have hc1:CntN H1 c cn:=(hc.new ha).gro g1 (by simpa using Ne.symm bc)
 generalize hj:(if decide ((2:Int) < (d:Int) + 1) = true then (1:Int) else 0) = jj
 have hjj:jj = 0 ∨ jj = 1:=by rw [← hj]; split <;> simp
 refine (exB rfl rfl ⟨.inl (by rcases hjj with z | z <;> rw [z] <;> constructor <;> decide),exB rfl rfl (?_)⟩)
 have hm:0 ≤ jj * r∧jj * r ≤ 1:=by rcases hjj with z | z <;> rw [z] <;> omega
 generalize hmm:jj * r = mm at hm
 refine (exA rfl ⟨by omega,by omega,?_⟩)
 refine Vk (fun i σ H'=>∃ (vs:List V) (ps:List Pat) (cx:Int) (k pt:Option V),σ = [some (.ref b),some (.ref l),some (.ref c),some (.int ((d:Int) + 1)),some (.str wd),some (.ref a),k,pt]∧H' a = some (.lst vs) ∧
   Paired (PatAt H' (2 * d + 2)) vs ps∧Y7 ps ≤ i * (B (2 * d + 1) + 1)∧vs.length = i∧BoxAt H' b∧CntN H' c cx∧cn ≤ cx∧(∀ z ∈ ps,z.nm cx)∧(cx = cn ∨ ∃ z ∈ ps,z.has cx)∧Gro [b,c] H H')
  ⟨[],[],cn,none,none,rfl,ha1,.nil,by simp [Y7],rfl,hb1,hc1,Int.le_refl _,(fun z hz=>by simp at hz),.inl rfl,g1'⟩ ?_ ?_
 ·rintro i σ H2 hi ⟨vs,ps,cx,k,pt,rfl,ha2,hp2,hsz,hl2,hb2,hc2,hcx,hnx,hhx,g2⟩
  have l2:LetAt H2 l:=hl.gro g2 lS
  refine (exA rfl (exA rfl (exA rfl (exA rfl (exB rfl rfl ⟨b,l,c,_,d,hd,congrArg (fun z=>[V.ref b,V.ref l,V.ref c,V.int z]) hd1,hb2,l2,hc2,bc,fun v p H3 cm hb3 hc3 hcm hnm hhas hp3 g3=>?_⟩)))))
  have g23:=g2.trans g3
  have ha3:H3 a = some (.lst vs):=g3.keep a _ ha2 aS
  have hps3:=Wg g3.tups hp2
  obtain ⟨hp3,hs3⟩:=hp3
  obtain ⟨av,x,r',rfl,hv⟩:=hp3.head
  have fin:∀ (v':V) (p':Pat) (H4:Hp),p'.nm cm→(cm = cx ∨ p'.has cm)→H4 a = some (.lst vs)→Gro [b,c] H H4→BoxAt H4 b→CntN H4 c cm→(∀ b xs,H3 b = some (.tup xs)→H4 b = some (.tup xs))→PatAt H4 (2 * d + 2) v' p'→p'.size ≤ B (2 * d + 1) + 1 →
    ∃ (vs':List V) (ps':List Pat) (cx':Int) (k' pt':Option V),[some (V.ref b),some (.ref l),some (.ref c),some (.int ((d:Int) + 1)),some (.str wd),some (.ref a),some (.int (0 + (i:Int))),some v'] = [some (V.ref b),some (.ref l),some (.ref c),some (.int ((d:Int) + 1)),some (.str wd),some (.ref a),k',pt'] ∧
     (upd H4 a (.lst (vs ++ [v']))) a = some (.lst vs')∧Paired (PatAt (upd H4 a (.lst (vs ++ [v']))) (2 * d + 2)) vs' ps'∧Y7 ps' ≤ (i + 1) * (B (2 * d + 1) + 1)∧vs'.length = i + 1∧BoxAt (upd H4 a (.lst (vs ++ [v']))) b∧CntN (upd H4 a (.lst (vs ++ [v']))) c cx'∧cn ≤ cx'∧(∀ z ∈ ps',z.nm cx')∧(cx' = cn ∨ ∃ z ∈ ps',z.has cx')∧Gro [b,c] H (upd H4 a (.lst (vs ++ [v']))):=by
   intro v' p' H4 hn4 hh4 ha4 g4 hb4 hc4 t4 hp4 hs4
   have t5:Gro [a] H4 (upd H4 a (.lst (vs ++ [v']))):=Gro.set (by simp) ha4 _
   refine ⟨vs ++ [v'],ps ++ [p'],cm,_,_,rfl,Z3,(Wg t5.tups (Wg t4 hps3)).snoc (hp4.mono t5.tups),by rw [Wc,Yx,Nat.add_mul]; omega,by simp [hl2],hb4.gro t5 (by simpa using ba),hc4.gro t5 (by simpa using ca),by omega,?_,?_,g4.fresh ha _⟩
   ·intro z hz
    rcases List.mem_append.mp hz with hz | hz
    ·exact Pat.nm_le hcm z (hnx z hz)
    ·rw [List.mem_singleton.mp hz]; exact hn4
   ·rcases hh4 with e | e
    ·rcases hhx with e' | ⟨z,hz,hz'⟩
     ·exact .inl (by omega)
     ·exact .inr ⟨z,by simp [hz],by rw [e]; exact hz'⟩
    ·exact .inr ⟨p',by simp,e⟩
  refine (ixT hv at0 ⟨_,rfl,rfl,_,rfl,X7 (fun _=>?_) (fun _=>?_)⟩)
  ·refine (exA rfl ⟨sz,fun p1 hp1=>?_⟩)
   have ha4:(upd H3 p1 (.tup [.str "times",.int 1,.int 1,.str "much",.ref av])) a = some (.lst vs):=by rw [Zl (Z7 ha3 hp1)]; exact ha3
   refine (exA rfl ⟨.inl ⟨rfl,_,SqL.of ha4⟩,exA rfl ⟨a,vs,exA rfl ⟨rfl,ha4,Yo (by omega),?_⟩⟩⟩)
   refine fin _ (.node (.times 1 (some 1) .much) [p]) _ (nm1 trivial hnm) (hhas.imp id fun h=>has_node.mpr (.inr ⟨p,by simp,h⟩)) ha4 (g23.tup hp1) (hb3.new hp1) (hc3.new hp1) (Gro.new (S:=[]) hp1 _).tups ⟨p1,[.ref av],rfl,⟨⟨by decide,by decide,fun h e=>by cases e; decide⟩,exA rfl Z3⟩,.cons (hp3.mono (Gro.new (S:=[]) hp1 _).tups) .nil⟩ (by rw [Yr,Yx]; omega)
  ·refine (exA rfl ⟨.inl ⟨rfl,_,SqL.of ha3⟩,exA rfl ⟨a,vs,exA rfl ⟨rfl,ha3,Yo (by omega),?_⟩⟩⟩)
   exact fin _ p _ hnm hhas ha3 g23 hb3 hc3 (fun _ _ e=>e) (hp3.deep (by omega)) (by omega)
 ·rintro σ H2 ⟨vs,ps,cx,k,pt,rfl,ha2,hp2,hsz,hl2,hb2,hc2,hcx,hnx,hhx,g2⟩
  refine (exA rfl (exA rfl ⟨a,exA rfl (.inl ⟨SqL.of ha2,fun r2 hr2=>⟨sz,fun p1 hp1=>?_⟩⟩)⟩))
  have g3:Gro [] H2 (upd (upd H2 r2 (.tup vs)) p1 (.tup [.str wd,.ref r2])):=(Gro.new hr2 _).tup hp1
  have e1:(upd (upd H2 r2 (.tup vs)) p1 (.tup [.str wd,.ref r2])) r2 = some (.tup vs):=by rw [Zl (Z7 Z3 hp1)]; exact Z3
  have hps:1 + Y7 ps ≤ B (2 * d + 3):=by
   have h1:=Z82 (2 * d + 1)
   rw [show 2 * d + 3 = 2 * d + 1 + 1 + 1 from rfl,Tu,Tu]
   have h3:Y7 ps ≤ 3 * (B (2 * d + 1) + 1):=Nat.le_trans hsz (Nat.mul_le_mul_right _ (by omega))
   omega
  rcases hwd with rfl | rfl
  ·exact q _ (.node .row ps) _ cx (hb2.gro g3 (by simp)) (hc2.gro g3 (by simp)) hcx (nm_node.mpr ⟨trivial,hnx⟩) (hhx.imp id fun ⟨z,hz,h⟩=>has_node.mpr (.inr ⟨z,hz,h⟩)) ⟨⟨p1,vs,rfl,⟨by omega,r2,Z3,e1⟩,Wg g3.tups hp2⟩,by rw [Yr]; exact hps⟩ ((g2.tup hr2).tup hp1)
  ·exact q _ (.node .alt ps) _ cx (hb2.gro g3 (by simp)) (hc2.gro g3 (by simp)) hcx (nm_node.mpr ⟨trivial,hnx⟩) (hhx.imp id fun ⟨z,hz,h⟩=>has_node.mpr (.inr ⟨z,hz,h⟩)) ⟨⟨p1,vs,rfl,⟨by omega,by omega,r2,Z3,e1⟩,Wg g3.tups hp2⟩,by rw [Yr]; exact hps⟩ ((g2.tup hr2).tup hp1)
def Z7x (b l c:Addr) (cn:Int) (d:Nat) (H:Hp):TS:=fun D σ H1=>∃ (lo:Int) (hi:Option Int) (how:How),σ = [some (.ref b),some (.ref l),some (.ref c),some (.int ((d:Int) + 1)),some (.int lo),some (Z3k hi),some (.str how.text)] ∧
 0 ≤ lo∧lo ≤ 2∧(∀ h,hi = some h→1 ≤ h∧h ≤ 4∧lo ≤ h)∧BoxAt H1 b∧LetAt H1 l∧CntN H1 c cn∧Gro [b] H H1∧∀ (v:V) (p:Pat) (H':Hp) (cm:Int),BoxAt H' b→CntN H' c cm→cn ≤ cm→p.nm cm→(cm = cn ∨ p.has cm)→PatS H' (2 * d + 3) v p→Gro [b,c] H H'→D.rt v H'
abbrev s_l_times:Stmt:=top 45
theorem sc_l_times:FnScope ["_law_box", "_law_letters_here", "_law_count", "_law_deep", "_law_low", "_law_high", "_law_how"] ["_law_box", "_law_letters_here", "_law_count", "_law_deep"] (Zb s_l_times):=fsc
theorem Z76 {n:Nat} (T:Blt mg) (O_l_take:Own P w K mg base 1 "_law_take" ["_law_box", "_law_many"] Xd) (O_l_pattern:Own P w K mg base (4 + 2 * n) "_law_pattern" ["_law_box", "_law_letters_here", "_law_count", "_law_deep"] (Z11 n)) (F:Fun K "_law_times" "_law_times" s_l_times f fd) :
  FnOk P w K mg base CX0 (4 + 2 * n + 1) f fd ["_law_box", "_law_letters_here", "_law_count", "_law_deep"] (Z4i n):=by
 refine F.ok sc_l_times (fun vs H Q E h=>?_) (fun cdv A outer s H vs Q E hr h=>?_)
 ·obtain ⟨b,l,c,cn,d,_,rfl,_⟩:=h
  rfl
 obtain ⟨b,l,c,cn,d,hd,rfl,hb,hl,hc,bc,q⟩:=h
 have bl:b ≠ l:=hb.ne_let hl
 have lS:l ∉ [b]:=by simpa using Ne.symm bl
 have cS:c ∉ [b]:=by simpa using Ne.symm bc
 have hd1:(d:Int) + 1 - 1 = d:=by omega
 refine ltX ?_
 intro Xz
 refine ⟨_,(Z1 (pS 4 sc_l_times.nd (Zk (O_l_take.mono (by omega)) hr rfl (Z0 (pv 0) (Z0 Z2 Z4))))
  (Z1 (pS 5 sc_l_times.nd (Z8 Zz (Zv (Z0 Uk (Z0 (Zu Ya (pv 4) Z2) (Z0 (Zu Ya (pv 4) Z2) (Z0 (Zp (Z6e rfl) rfl T.b_max PyProof.Rows.Boot.«max» (Z0 (pv 4) (Z0 Z2 Z4))) Z4))))) (Zk (O_l_take.mono (by omega)) hr rfl (Z0 (pv 0) (Z0 Z2 Z4))) (fun _ _=>rfl)))
  (Z1 (pS 6 sc_l_times.nd (Z8 Zz (Zv (Z0 Ze (Z0 Ze (Z0 Ze Z4)))) (Zk (O_l_take.mono (by omega)) hr rfl (Z0 (pv 0) (Z0 Z2 Z4))) (fun _ _=>rfl)))
  (Z1 (Zo (PW.pt (Xp (Z9 Zs (pv 6) Ze (Zc _)) (X2 (Z9 Zs (Z8 Zz (pv 2) Z2 (fun _ _=>rfl)) Z2 (Zc _))))) (Z5 (pS 6 sc_l_times.nd Ze)) Zf)
  (Xu (Z7x b l c cn d H) (Z5 (Zh (Zj (Z0 Ze (Z0 (pv 4) (Z0 (pv 5) (Z0 (pv 6) (Z0 (Zk (O_l_pattern.mono (by omega)) hr rfl (Z0 (pv 0) (Z0 (pv 1) (Z0 (pv 2) (Z0 (Zu Yh (pv 3) Z2) Z4))))) Z4)))))))) (fun D1 σ1 H1 hcut=>?cut4)))))),?_⟩
 case cut4 =>
  obtain ⟨lo,hi,how,rfl,h0,h1,hh,hb1,hl1,hc1,g1,q⟩:=hcut
  refine (exA rfl (exA rfl (exA rfl (exA rfl (exA rfl (exA rfl (exA rfl (exB rfl rfl ⟨b,l,c,_,d,hd,congrArg (fun z=>[V.ref b,V.ref l,V.ref c,V.int z]) hd1,hb1,hl1,hc1,bc,fun v p H3 cm hb3 hc3 hcm hnm hhas hp3 g3=>⟨sz,fun p1 hp1=>?_⟩⟩))))))))
  refine q _ (.node (.times lo hi how) [p]) _ cm (hb3.new hp1) (hc3.new hp1) hcm (nm1 trivial hnm) (hhas.imp id fun h=>has_node.mpr (.inr ⟨p,by simp,h⟩)) ⟨⟨p1,[v],rfl,⟨⟨h0,by omega,fun h e=>by have:=hh h e; omega⟩,v,rfl,Z3⟩,.cons ((hp3.1.mono (Gro.new (S:=[]) hp1 _).tups).deep (by omega)) .nil⟩,J8 hp3.2 (by omega)⟩ (((g1.mono (by simp)).trans g3).tup hp1)
 refine Zbq ?_
 intro Ez Az1 Az2 Az3 Az4 Az5
 refine (exA rfl ⟨b,3,rfl,hb,by decide,by decide,fun lo H1 h0 h1 hb1 g1=>?_⟩)
 refine (exA rfl (exB rfl rfl (exA rfl (exB rfl rfl (exA rfl ⟨_,_,rfl,sz,fun a ha=>?_⟩)))))
 have ba:b ≠ a:=Z7 hb1.choose_spec.1 ha
 refine (exA rfl ⟨b,4,rfl,hb1.new ha,by decide,by decide,fun r H2 h20 h21 hb2 g2=>?_⟩)
 have ha2:=g2.keep a _ (Z3 (H:=H1)) (by simpa using Ne.symm ba)
 have high:∃ hi:Option Int,(∀ h,hi = some h→1 ≤ h∧h ≤ 4∧lo ≤ h)∧atI [V.non,V.int (lo + 1),V.int (lo + 2),V.int (if (1:Int) > lo then 1 else lo)] r = some (Z3k hi):=by
  have:r = 0 ∨ r = 1 ∨ r = 2 ∨ r = 3:=by omega
  rcases this with rfl | rfl | rfl | rfl
  ·exact ⟨none,(fun h e=>by cases e),rfl⟩
  ·exact ⟨some (lo + 1),(fun h e=>by cases e; omega),rfl⟩
  ·exact ⟨some (lo + 2),(fun h e=>by cases e; omega),rfl⟩
  ·exact ⟨some (if (1:Int) > lo then 1 else lo),(fun h e=>by cases e; split <;> omega),rfl⟩
 obtain ⟨hi,hhi,ehi⟩:=high
 refine ⟨a,_,_,_,rfl,rfl,SqL.of ha2,ehi,sz,fun a2 ha2n=>?_⟩
 have ba2:b ≠ a2:=Z7 hb2.choose_spec.1 ha2n
 refine (exA rfl ⟨b,3,rfl,hb2.new ha2n,by decide,by decide,fun r2 H3 h30 h31 hb3 g3=>?_⟩)
 have ha3:=g3.keep a2 _ (Z3 (H:=H2)) (by simpa using Ne.symm ba2)
 have g13:Gro [b] H H3:=((g1.tup ha).trans (g2.tup ha2n)).trans g3
 have hl3:=hl.gro g13 lS
 have hc3:=hc.gro g13 cS
 obtain ⟨cp,hcl,hcn⟩:=id hc3
 have howE:∃ how:How,atI [V.str "much",V.str "little",V.str "keep"] r2 = some (.str how.text):=by
  have:r2 = 0 ∨ r2 = 1 ∨ r2 = 2:=by omega
  rcases this with rfl | rfl | rfl
  ·exact ⟨.much,rfl⟩
  ·exact ⟨.little,rfl⟩
  ·exact ⟨.keep,rfl⟩
 obtain ⟨how,ehow⟩:=howE
 refine ⟨a2,_,_,_,rfl,rfl,SqL.of ha3,ehow,?_⟩
 have q':∀ (v:V) (p:Pat) (H':Hp) (cm:Int),BoxAt H' b→CntN H' c cm→cn ≤ cm→p.nm cm→(cm = cn ∨ p.has cm)→PatS H' (2 * d + 3) v p→Gro [b,c] H H'→Q v H':=q
 refine (exA rfl ⟨rfl,exA rfl (X7 (fun _=>?_) (fun _=>Z0l ⟨lo,hi,how,rfl,h0,by omega,hhi,hb3,hl3,hc3,g13,q'⟩))⟩)
 refine (ixL hcl rfl ⟨rfl,_,rfl,X7 (fun _=>?_) (fun _=>⟨lo,hi,how,rfl,h0,by omega,hhi,hb3,hl3,hc3,g13,q'⟩)⟩)
 exact ⟨lo,hi,.much,rfl,h0,by omega,hhi,hb3,hl3,hc3,g13,q'⟩
end
section
variable {P:Program} {w:World} {K:PySem.W.Frag} {mg:Str→Option Value} {base:Heap} {f:Addr} {fd:FuncData}
def Zcs (b l c:Addr) (cn:Int) (d:Nat) (H:Hp):TS:=fun D σ H1=>∃ k:Int,σ = [some (.ref b),some (.ref l),some (.ref c),some (.int d),some (.int k),none,none,none]∧2 ≤ k∧k < 12∧1 ≤ d∧BoxAt H1 b∧LetAt H1 l∧CntN H1 c cn∧Gro [b] H H1 ∧
 ∀ (v:V) (p:Pat) (H':Hp) (cm:Int),BoxAt H' b→CntN H' c cm→cn ≤ cm→p.nm cm→(cm = cn ∨ p.has cm)→PatS H' (2 * d + 1) v p→Gro [b,c] H H'→D.rt v H'
abbrev s_l_pattern:Stmt:=top 46
theorem sc_l_pattern:FnScope ["_law_box", "_law_letters_here", "_law_count", "_law_deep", "_law_kind", "_law_number", "_law_yes", "_law_word"] ["_law_box", "_law_letters_here", "_law_count", "_law_deep"] (Zb s_l_pattern):=fsc
theorem Z3n {n:Nat} (T:Blt mg) (O_l_take:Own P w K mg base 1 "_law_take" ["_law_box", "_law_many"] Xd) (O_l_leaf:Own P w K mg base 3 "_law_leaf" ["_law_box", "_law_letters_here", "_law_count"] Ju) (O_l_parts:Own P w K mg base (4 + 2 * n + 1) "_law_parts" ["_law_box", "_law_letters_here", "_law_count", "_law_deep", "_law_word"] (Z12 n))
  (O_l_times:Own P w K mg base (4 + 2 * n + 1) "_law_times" ["_law_box", "_law_letters_here", "_law_count", "_law_deep"] (Z4i n)) (O_l_pattern:Own P w K mg base (4 + 2 * n) "_law_pattern" ["_law_box", "_law_letters_here", "_law_count", "_law_deep"] (Z11 n)) (F:Fun K "_law_pattern" "_law_pattern" s_l_pattern f fd) :
  FnOk P w K mg base CX0 (4 + 2 * n + 1 + 1) f fd ["_law_box", "_law_letters_here", "_law_count", "_law_deep"] (Z11 (n + 1)):=by
 refine F.ok sc_l_pattern (fun vs H Q E h=>?_) (fun cdv A outer s H vs Q E hr h=>?_)
 ·obtain ⟨b,l,c,cn,d,_,rfl,_⟩:=h
  rfl
 obtain ⟨b,l,c,cn,d,hd,rfl,hb,hl,hc,bc,q⟩:=h
 have bl:b ≠ l:=hb.ne_let hl
 have cl:c ≠ l:=hc.ne_let hl
 have lS:l ∉ [b]:=by simpa using Ne.symm bl
 have cS:c ∉ [b]:=by simpa using Ne.symm bc
 have lS2:l ∉ [b,c]:=by simp only [List.mem_cons,List.not_mem_nil,or_false,not_or]; exact ⟨Ne.symm bl,Ne.symm cl⟩
 refine ltX ?_
 intro Xz
 refine ⟨_,(Z1 (pS 4 sc_l_pattern.nd (Zk (O_l_take.mono (by omega)) hr rfl (Z0 (pv 0) (Z0 Z2 Z4))))
  (Z1 (Zo (PW.pt (Ws (Z9 Zs (pv 3) Z2 (Zc _)) (Xe (Z9 Wh (pv 4) Z2 (Zc _))))) (Z5 (Zh (Zk (O_l_leaf.mono (by omega)) hr rfl (Z0 (pv 0) (Z0 (pv 1) (Z0 (pv 2) Z4)))))) Zf)
  (Z1 (Zo (PW.pt (Xp (Z9 Zs (pv 4) Z2 (Zc _)) (X2 (Z9 Zs (Zk (O_l_take.mono (by omega)) hr rfl (Z0 (pv 0) (Z0 Z2 Z4))) Z2 (Zc _))))) (Z5 (Zh (Zj (Z0 Ze (Z0 (Zj Z4) Z4))))) Zf)
  (Xu (Zcs b l c cn d H) (Z1 (Zo (Z9 Wh (pv 4) Z2 (Zc _)) (Z5 (Zh (Zk (O_l_parts.mono (by omega)) hr rfl (Z0 (pv 0) (Z0 (pv 1) (Z0 (pv 2) (Z0 (pv 3) (Z0 (Z8 Zz (Zv (Z0 Ze (Z0 Ze Z4))) (Zu Z5c (pv 4) Z2) (fun _ _=>rfl)) Z4)))))))) Zf)
  (Z1 (Zo (Z9 Wh (pv 4) Z2 (Zc _)) (Z5 (Zh (Zk (O_l_times.mono (by omega)) hr rfl (Z0 (pv 0) (Z0 (pv 1) (Z0 (pv 2) (Z0 (pv 3) Z4))))))) Zf)
  (Z1 (Zo (PW.pt (Ws (Z9 Zs (pv 4) Z2 (Zc _)) (Xe (Z9 Zs (Z8 Zz (pv 2) Z2 (fun _ _=>rfl)) Z2 (Zc _))))) (Z1 (Zo (Z9 Zs (Z8 Zz (pv 2) Z2 (fun _ _=>rfl)) Z2 (Zc _)) (Z5 (Zh (Zj (Z0 Ze Z4)))) Zf)
  (Z1 (W0 (Zu Ya (Z8 Zz (pv 2) Z2 (fun _ _=>rfl)) Z2) (W1 (pv 2) Z2 Yu))
  (Z1 (pS 5 sc_l_pattern.nd (Z8 Zz (pv 2) Z2 (fun _ _=>rfl)))
  (Z5 (Zh (Zj (Z0 Ze (Z0 (pv 5) (Z0 (Zk (O_l_pattern.mono (by omega)) hr rfl (Z0 (pv 0) (Z0 (pv 1) (Z0 (pv 2) (Z0 (Zu Yh (pv 3) Z2) Z4))))) Z4))))))))) Zf)
  (Z1 (Zo (PW.pt (Xp (Z9 Zs (pv 4) Z2 (Zc _)) (X2 (Z9 Z0c (Z8 Zz (pv 2) Z2 (fun _ _=>rfl)) Z2 (Zc _))))) (Z1 (pS 5 sc_l_pattern.nd (Zu Ya Z2 (Zk (O_l_take.mono (by omega)) hr rfl (Z0 (pv 0) (Z0 (Z8 Zz (pv 2) Z2 (fun _ _=>rfl)) Z4)))))
  (Z1 (pS 6 sc_l_pattern.nd (Zk (O_l_pattern.mono (by omega)) hr rfl (Z0 (pv 0) (Z0 (pv 1) (Z0 (pv 2) (Z0 (Zu Yh (pv 3) Z2) Z4))))))
  (Z5 (Zh (Zj (Z0 Ze (Z0 (pv 5) (Z0 (pv 6) (Z0 (Zk (O_l_pattern.mono (by omega)) hr rfl (Z0 (pv 0) (Z0 (pv 1) (Z0 (pv 2) (Z0 (Zu Yh (pv 3) Z2) Z4))))) Z4))))))))) Zf)
  (Z1 (pS 7 sc_l_pattern.nd (Z8 Zz (Zv (Z0 Ze (Z0 Ze (Z0 Ze (Z0 Ze (Z0 Ze Z4)))))) (Zk (O_l_take.mono (by omega)) hr rfl (Z0 (pv 0) (Z0 Z2 Z4))) (fun _ _=>rfl)))
  (Z5 (Zh (Zj (Z0 (pv 7) (Z0 (Zk (O_l_pattern.mono (by omega)) hr rfl (Z0 (pv 0) (Z0 (pv 1) (Z0 (pv 2) (Z0 (Zu Yh (pv 3) Z2) Z4))))) Z4)))))))))) (fun D1 σ1 H1 hcut=>?cut3))))),?_⟩
 case cut3 =>
  refine Zb4 ?_
  intro Ez Az1 Az2 Az3 Az4 Az5 Az6 Az7 Az8 Az9 Az10 Az11 Az12 Az13 Az14 Az15
  obtain ⟨k,rfl,hk2,hk12,hd1,hb1,hl1,hc1,g1,q⟩:=hcut
  obtain ⟨e,rfl⟩:∃ e,d = e + 1:=⟨d - 1,by omega⟩
  have he:e < n:=by omega
  have ea:((e + 1:Nat):Int) - 1 = e:=by omega
  have g1c:Gro [b,c] H H1:=g1.mono (by simp)
  obtain ⟨cp,hcl,hcn⟩:=id hc1
  refine (exA rfl (exB rfl rfl (exA rfl (X7 (fun k6=>?_) (fun k6=>?_)))))
  ·have hk6:k < 6:=of_decide_eq_true k6
   refine (exA rfl (exA rfl (exA rfl (exA rfl ⟨sz,fun a ha=>(exA rfl (exB rfl rfl ⟨⟨by decide,by decide⟩,?_⟩))⟩))))
   have e01:k / 4 = 0 ∨ k / 4 = 1:=by omega
   have go:∀ wd:Str,(wd = "row" ∨ wd = "or")→Z12 n ([V.ref b,V.ref l,V.ref c,V.int ((e + 1:Nat):Int),V.str wd] ++ []) (upd H1 a (.lst [.str "row",.str "or"])) D1.rt E0:=fun wd hwd =>
    ⟨b,l,c,cn,e,wd,he,rfl,hwd,hb1.new ha,hl1.new ha,hc1.new ha,bc,fun v p H' cm hb' hc' hcm hnm hhas hp' g'=>q v p H' cm hb' hc' hcm hnm hhas (hp'.deep (by omega)) ((g1c.tup ha).trans g')⟩
   rcases e01 with z | z
   ·exact ⟨a,_,_,_,rfl,rfl,SqL.of Z3,(by rw [z]; rfl),go "row" (.inl rfl)⟩
   ·exact ⟨a,_,_,_,rfl,rfl,SqL.of Z3,(by rw [z]; rfl),go "or" (.inr rfl)⟩
  refine (exA rfl (exB rfl rfl (exA rfl (X7 (fun _=>?_) (fun _=>?_)))))
  ·exact (exA rfl (exA rfl (exA rfl (exA rfl ⟨b,l,c,cn,e,he,rfl,hb1,hl1,hc1,bc,fun v p H' cm hb' hc' hcm hnm hhas hp' g'=>q v p H' cm hb' hc' hcm hnm hhas (hp'.deep (by omega)) (g1c.trans g')⟩))))
  dsimp only [Zi,Za,Zq]
  refine Zc7 (fun R h1 h2=>(exA rfl ⟨rfl,exA rfl (Zct h1 h2)⟩)) (fun R h1 h2=>(ixL hcl rfl ⟨rfl,_,rfl,Zct h1 h2⟩)) (Z0k ?_) (Z0l ?_)
  ·refine (ixL hcl rfl ⟨rfl,_,rfl,X7 (fun _=>?_) (fun c9=>?_)⟩)
   ·exact ⟨sz,fun p hp=>q _ (.node .any []) _ cn (hb1.new hp) (hc1.new hp) (Int.le_refl _) (nm0 trivial) (.inl rfl) ⟨⟨p,[],rfl,⟨rfl,Z3⟩,.nil⟩,Z2o⟩ (g1c.tup hp)⟩
   have hcn9:¬ cn = 9:=fun z=>c9 (decide_eq_true (by rw [z]))
   refine (ixL hcl rfl ⟨_,_,rfl,rfl,_,rfl,c,_,_,0,rfl,rfl,hcl,rfl,?_⟩)
   have gs:Gro [c] H1 (upd H1 c (.lst [.int (cn + 1),.int cp])):=Gro.set (by simp) hcl _
   have hc2:CntN (upd H1 c (.lst [.int (cn + 1),.int cp])) c (cn + 1):=⟨cp,Z3,by omega,by omega⟩
   have hb2:BoxAt (upd H1 c (.lst [.int (cn + 1),.int cp])) b:=hb1.gro gs (by simpa using bc)
   have hl2:LetAt (upd H1 c (.lst [.int (cn + 1),.int cp])) l:=hl1.gro gs (by simpa using Ne.symm cl)
   refine (ixL Z3 rfl (?_))
   refine (exA rfl (exA rfl (exA rfl (exA rfl (exA rfl (exB rfl rfl ⟨b,l,c,_,e,he,congrArg (fun z=>[V.ref b,V.ref l,V.ref c,V.int z]) ea,hb2,hl2,hc2,bc,fun v p H' cm hb' hc' hcm hnm hhas hp' g'=>⟨sz,fun p1 hp1=>?_⟩⟩))))))
   exact q _ (.node (.grp (cn + 1)) [p]) _ cm (hb'.new hp1) (hc'.new hp1) (by omega) (nm1 ⟨by omega,hcm⟩ hnm) (.inr (hhas.elim (fun e=>has_node.mpr (.inl (by rw [e]))) fun h=>has_node.mpr (.inr ⟨p,by simp,h⟩))) ⟨⟨p1,[v],rfl,⟨⟨by omega,by omega⟩,v,rfl,Z3⟩,.cons ((hp'.1.mono (Gro.new (S:=[]) hp1 _).tups).deep (by omega)) .nil⟩,J8 hp'.2 (by omega)⟩ (((g1c.trans (gs.mono (by simp))).trans g').tup hp1)
  have looks:∀ (H2:Hp),BoxAt H2 b→LetAt H2 l→CntN H2 c cn→Gro [b] H H2→∀ kk:Option V,(Za (Zak (tOp (Zaq K) (Zd0 (Yv (tC (.str "once")) (Yv (tC (.str "ahead")) (Yv (tC (.str "notahead")) (Yv (tC (.str "behind")) (Yv (tC (.str "notbehind")) T1)))))) (Z0y Xd [] E0 (Yv (V9 0) (Yv (tC (.int 5)) T1)))) (Z1p 7))
    (Zda (Zav (Yv (V9 7) (Yv (Z0y (Z11 n) [] E0 (Yv (V9 0) (Yv (V9 1) (Yv (V9 2) (Yv (tOp (rI0 fun i j=>.int (i - j)) (V9 3) (tC (.int 1))) T1))))) T1))))) D1 [some (.ref b),some (.ref l),some (.ref c),some (.int ((e + 1:Nat):Int)),kk,none,none,none] H2:=by
   intro H2 hb2 hl2 hc2 g2 kk
   refine ⟨sz,fun a ha=>(exA rfl ⟨b,5,rfl,hb2.new ha,by decide,by decide,fun r H3 h30 h31 hb3 g3=>?_⟩)⟩
   have ba:b ≠ a:=Z7 hb2.choose_spec.1 ha
   have ha3:=g3.keep a _ (Z3 (H:=H2)) (by simpa using Ne.symm ba)
   have lw:∃ lk:Lk,atI [V.str "once",V.str "ahead",V.str "notahead",V.str "behind",V.str "notbehind"] r = some (.str lk.text):=by
    have:r = 0 ∨ r = 1 ∨ r = 2 ∨ r = 3 ∨ r = 4:=by omega
    rcases this with rfl | rfl | rfl | rfl | rfl
    ·exact ⟨.once,rfl⟩
    ·exact ⟨.ahead,rfl⟩
    ·exact ⟨.notahead,rfl⟩
    ·exact ⟨.behind,rfl⟩
    ·exact ⟨.notbehind,rfl⟩
   obtain ⟨lk,elk⟩:=lw
   have g23:Gro [b] H H3:=(g2.tup ha).trans g3
   refine ⟨a,_,_,_,rfl,rfl,SqL.of ha3,elk,exA rfl (exA rfl (exA rfl (exA rfl (exA rfl (exB rfl rfl ⟨b,l,c,_,e,he,congrArg (fun z=>[V.ref b,V.ref l,V.ref c,V.int z]) ea,hb3,hl.gro g23 lS,hc.gro g23 cS,bc,fun v p H' cm hb' hc' hcm hnm hhas hp' g'=>⟨sz,fun p1 hp1=>?_⟩⟩)))))⟩
   exact q _ (.node (.look lk) [p]) _ cm (hb'.new hp1) (hc'.new hp1) hcm (nm1 trivial hnm) (hhas.imp id fun h=>has_node.mpr (.inr ⟨p,by simp,h⟩)) ⟨⟨p1,[v],rfl,⟨v,rfl,Z3⟩,.cons ((hp'.1.mono (Gro.new (S:=[]) hp1 _).tups).deep (by omega)) .nil⟩,J8 hp'.2 (by omega)⟩ (((g23.mono (by simp)).trans g').tup hp1)
  refine (exA rfl ⟨rfl,exA rfl (X7 (fun _=>?_) (fun _=>Z0l (looks H1 hb1 hl1 hc1 g1 _)))⟩)
  refine (ixL hcl rfl ⟨_,_,rfl,rfl,_,rfl,X7 (fun c0=>?_) (fun _=>looks H1 hb1 hl1 hc1 g1 _)⟩)
  have hc0:0 < cn:=of_decide_eq_true c0
  refine (exA rfl (ixL hcl rfl ⟨b,cn,rfl,hb1,hc0,by omega,fun r H2 h20 h21 hb2 g2=>(exB rfl rfl (?_))⟩))
  have g12:=g1.trans g2
  refine (exA rfl (exA rfl (exA rfl (exA rfl (exB rfl rfl ⟨b,l,c,_,e,he,congrArg (fun z=>[V.ref b,V.ref l,V.ref c,V.int z]) ea,hb2,hl.gro g12 lS,hc.gro g12 cS,bc,fun v1 p1 H3 cm3 hb3 hc3 hcm3 hnm3 hhas3 hp3 g3=>?_⟩)))))
  have g13:Gro [b,c] H H3:=(g12.mono (by simp)).trans g3
  refine (exA rfl (exA rfl (exA rfl (exA rfl (exA rfl (exA rfl (exB rfl rfl ⟨b,l,c,_,e,he,congrArg (fun z=>[V.ref b,V.ref l,V.ref c,V.int z]) ea,hb3,hl.gro g13 lS2,hc3,bc,fun v2 p2 H4 cm4 hb4 hc4 hcm4 hnm4 hhas4 hp4 g4=>⟨sz,fun p5 hp5=>?_⟩⟩)))))))
  have t5:=(Gro.new (S:=[]) hp5 (.tup [.str "have",.int (1 + r),v1,v2])).tups
  exact q _ (.node (.hav (1 + r)) [p1,p2]) _ cm4 (hb4.new hp5) (hc4.new hp5) (by omega) (nm2 ⟨by omega,by omega⟩ (Pat.nm_le hcm4 _ hnm3) hnm4) (hhas4.elim (fun e=>hhas3.elim (fun e3=>.inl (by omega)) fun h=>.inr (has_node.mpr (.inr ⟨p1,by simp,by rw [e]; exact h⟩))) fun h=>.inr (has_node.mpr (.inr ⟨p2,by simp,h⟩))) ⟨⟨p5,[v1,v2],rfl,⟨⟨by omega,by omega⟩,v1,v2,rfl,Z3⟩,.cons (((hp3.1.mono g4.tups).mono t5).deep (by omega)) (.cons ((hp4.1.mono t5).deep (by omega)) .nil)⟩,Z6o hp3.2 hp4.2 (by omega)⟩ ((g13.trans g4).tup hp5)
 refine Zbw ?_
 intro Ez Az1 Az2 Az3 Az4 Az5
 refine (exA rfl ⟨b,12,rfl,hb,by decide,by decide,fun k H1 h0 h1 hb1 g1=>?_⟩)
 have l1:=hl.gro g1 lS
 have c1:=hc.gro g1 cS
 have lf:(Z0y Ju [] E0 (Yv (V9 0) (Yv (V9 1) (Yv (V9 2) T1)))) [some (.ref b),some (.ref l),some (.ref c),some (.int d),some (.int k),none,none,none] H1 Q :=
  (exA rfl (exA rfl (exA rfl ⟨b,l,c,cn,rfl,hb1,l1,c1,bc,fun v p H' hb' hp hnm g=>q v p H' cn hb' (c1.gro g cS) (Int.le_refl _) hnm (.inl rfl) (hp.leafS.deep (by omega)) ((g1.trans g).mono (by simp))⟩)))
 refine (exA rfl ⟨rfl,exA rfl (X7 (fun _=>Z0k lf) (fun d0=>(exA rfl (exB rfl rfl (exA rfl (X7 (fun _=>lf) (fun k2=>?_)))))))⟩)
 have hd1:1 ≤ d:=by
  cases d with
  | zero=>exact absurd (decide_eq_true rfl) d0
  | succ e=>omega
 have hk2:2 ≤ k:=by
  have:¬ k < 2:=fun z=>k2 (decide_eq_true z)
  omega
 refine (exA rfl ⟨rfl,exA rfl (X7 (fun _=>?_) (fun _=>Z0l ⟨k,rfl,hk2,h1,hd1,hb1,l1,c1,g1,q⟩))⟩)
 refine (exA rfl ⟨b,5,rfl,hb1,by decide,by decide,fun r H2 h20 h21 hb2 g2=>⟨rfl,exA rfl (X7 (fun _=>?_) (fun _=>⟨k,rfl,hk2,h1,hd1,hb2,l1.gro g2 lS,c1.gro g2 cS,g1.trans g2,q⟩))⟩⟩)
 refine ⟨sz,fun r1 hr1=>⟨sz,fun p1 hp1=>?_⟩⟩
 have g3:Gro [b,c] H2 (upd (upd H2 r1 (.tup [])) p1 (.tup [.str "row",.ref r1])):=(Gro.new hr1 _).tup hp1
 refine q _ (.node .row []) _ cn ((hb2.new hr1).new hp1) (((c1.gro g2 cS).new hr1).new hp1) (Int.le_refl _) (nm0 trivial) (.inl rfl) ⟨⟨p1,[],rfl,⟨by simp,r1,Z3,by rw [Zl (Z7 Z3 hp1)]; exact Z3⟩,.nil⟩,Z2o⟩ (((g1.trans g2).mono (by simp)).trans g3)
theorem Uo (T:Blt mg) (O_l_take:Own P w K mg base 1 "_law_take" ["_law_box", "_law_many"] Xd) (O_l_leaf:Own P w K mg base 3 "_law_leaf" ["_law_box", "_law_letters_here", "_law_count"] Ju) (D1:Def K mg "_law_parts" s_l_parts ["_law_box", "_law_letters_here", "_law_count", "_law_deep", "_law_word"]) (D2:Def K mg "_law_times" s_l_times ["_law_box", "_law_letters_here", "_law_count", "_law_deep"]) (D3:Def K mg "_law_pattern" s_l_pattern ["_law_box", "_law_letters_here", "_law_count", "_law_deep"]) :
  ∀ n,Own P w K mg base (4 + 2 * n) "_law_pattern" ["_law_box", "_law_letters_here", "_law_count", "_law_deep"] (Z11 n)
 | 0=>D3.own fun f fd F=>FnOk.never fun vs H Q E h=>by
  obtain ⟨_,_,_,_,d,hd,_⟩:=h
  omega
 | n + 1=>by
  have ih:=Uo T O_l_take O_l_leaf D1 D2 D3 n
  exact D3.own fun f fd F=>Z3n T O_l_take O_l_leaf (D1.own fun f fd F=>Z77 T O_l_take ih F) (D2.own fun f fd F=>Z76 T O_l_take ih F) ih F
end
section
variable {P:Program} {w:World} {K:PySem.W.Frag} {mg:Str→Option Value} {base:Heap} {f:Addr} {fd:FuncData}
inductive spDrawnI (vs:List V) (H:Hp) (Q:VK):Prop
 | mk (b l:Addr) (pl:Int) (_:vs = [.ref b,.ref l,.int pl]) (_:BoxAt H b) (_:LetAt H l) (_:∀ (t g:Addr) (v:V) (p:Pat) (n:Nat) (H':Hp),BoxAt H' b→H' t = some (.tup [v,.ref g])→H' g = some (.tup (List.replicate n .non))→n ≤ 9→p.nm n→(n = 0 ∨ p.has n)→PatS H' 7 v p→Gro [b] H H'→Q (.ref t) H')
def J2:Sp:=fun vs H Q _=>spDrawnI vs H Q
def Z30 (b l c:Addr) (pl:Int) (H:Hp):TS:=fun D σ H1=>∃ (v:V) (p:Pat) (cn:Int) (one two:Option V),σ = [some (.ref b),some (.ref l),some (.int pl),some (.ref c),some v,one,two]∧PatS H1 7 v p∧p.nm cn∧(cn = 0 ∨ p.has cn)∧BoxAt H1 b∧CntN H1 c cn∧Gro [b] H H1 ∧
 ∀ (t g:Addr) (v:V) (p:Pat) (n:Nat) (H':Hp),BoxAt H' b→H' t = some (.tup [v,.ref g])→H' g = some (.tup (List.replicate n .non))→n ≤ 9→p.nm n→(n = 0 ∨ p.has n)→PatS H' 7 v p→Gro [b] H H'→D.rt (.ref t) H'
abbrev s_l_drawn:Stmt:=top 47
theorem sc_l_drawn:FnScope ["_law_box", "_law_letters_here", "_law_plain", "_law_count", "_law_p", "_law_one", "_law_two"] ["_law_box", "_law_letters_here", "_law_plain"] (Zb s_l_drawn):=fsc
theorem Z7a (T:Blt mg) (O_l_take:Own P w K mg base 1 "_law_take" ["_law_box", "_law_many"] Xd) (O_l_runs:Own P w K mg base 2 "_law_runs" ["_law_box", "_law_letters_here"] Jq) (O_l_pattern:Own P w K mg base 12 "_law_pattern" ["_law_box", "_law_letters_here", "_law_count", "_law_deep"] (Z11 4)) (F:Fun K "_law_drawn" "_law_drawn" s_l_drawn f fd) :
  FnOk P w K mg base CX0 13 f fd ["_law_box", "_law_letters_here", "_law_plain"] J2:=by
 refine F.ok sc_l_drawn (fun vs H Q E h=>?_) (fun cdv A outer s H vs Q E hr h=>?_)
 ·obtain ⟨b,l,pl,rfl,_⟩:=h
  rfl
 obtain ⟨b,l,pl,rfl,hb,hl,q⟩:=h
 have bl:b ≠ l:=hb.ne_let hl
 have lS:l ∉ [b]:=by simpa using Ne.symm bl
 refine ltX ?_
 intro Xz
 refine ⟨_,(Z1 (pS 3 sc_l_drawn.nd (Zv (Z0 Z2 (Z0 (pv 2) Z4))))
  (Z1 (pS 4 sc_l_drawn.nd (Zk (O_l_pattern.mono (by omega)) hr rfl (Z0 (pv 0) (Z0 (pv 1) (Z0 (pv 3) (Z0 Z2 Z4))))))
  (Z1 (Zo (PW.pt (Xp (Z9 Zs (Zk (O_l_take.mono (by omega)) hr rfl (Z0 (pv 0) (Z0 Z2 Z4))) Z2 (Zc _)) (X2 (Z9 Zs (pv 2) Z2 (Zc _))))) (Z1 (pS 5 sc_l_drawn.nd (Zj (Z0 Ze (Z0 (Zj (Z0 (Zj (Z0 Ze (Z0 Z2 Z4))) (Z0 (Zj (Z0 Ze (Z0 (Z8 Zz (pv 1) (Zk (O_l_take.mono (by omega)) hr rfl (Z0 (pv 0) (Z0 Z2 Z4))) (fun _ _=>rfl)) Z4))) Z4))) Z4))))
  (Z1 (pS 6 sc_l_drawn.nd (Zj (Z0 Ze (Z0 Z2 (Z0 (Zj (Z0 Ze (Z0 (Zk (O_l_runs.mono (by omega)) hr rfl (Z0 (pv 0) (Z0 (pv 1) Z4))) Z4))) Z4)))))
  (Z1 (pS 4 sc_l_drawn.nd (Zj (Z0 Ze (Z0 Z2 (Z0 Uk (Z0 (Z8 Zz (Zv (Z0 Ze (Z0 Ze Z4))) (Zk (O_l_take.mono (by omega)) hr rfl (Z0 (pv 0) (Z0 Z2 Z4))) (fun _ _=>rfl)) (Z0 (Zj (Z0 Ze (Z0 (Zj (Z0 (pv 5) (Z0 (pv 6) Z4))) Z4))) Z4)))))))
  (Z5 (W0 Z2 (W1 (pv 3) Z2 Yu)))))) Zf)
  (Xu (fun D σ H1=>∃ c,Z30 b l c pl H D σ H1) (Z5 (Zh (Zj (Z0 (pv 4) (Z0 (Ys Xb rfl T.b_tuple PyProof.Rows.Boot.«tuple» (Z0 (Xm rfl (show CScope _ ["_law_box", "_law_letters_here", "_law_plain", "_law_count", "_law_p", "_law_one", "_law_two"] (Zb s_l_drawn) _ from ⟨rfl,by decide +kernel,rfl,by decide +kernel,by decide +kernel,by decide +kernel,by decide +kernel⟩) (Xf rfl T.b_range (Z0 (Z8 Zz (pv 3) Z2 (fun _ _=>rfl)) Z4)) (fun _ _ _ _=>V0) (fun _ _ _ _=>Uk)) Z4)) Z4))))) (fun D1 σ1 H1 hcut=>?cut3))))),?_⟩
 case cut3 =>
  obtain ⟨c,v,p,cn,one,two,rfl,hp,hnm,hhas,hb1,⟨cp,hcl,hcn⟩,g1,q⟩:=hcut
  refine ⟨_,rfl,_,rfl,c,_,_,_,rfl,rfl,SqL.of hcl,rfl,_,rfl,by omega,by omega,?_⟩
  refine Jd (n:=cn.toNat) (fun i ys H'=>ys = List.replicate i V.non∧H' = H1) ⟨rfl,rfl⟩ (Yo (by omega)) (fun i ys H' ⟨e,_⟩=>by rw [e,List.length_replicate]; exact Nat.le_refl _) ?_ ?_
  ·rintro i ys H2 hi ⟨rfl,rfl⟩
   exact ⟨by rw [List.replicate_succ'],rfl⟩
  ·rintro ys H2 ⟨rfl,rfl⟩ a ha
   refine ⟨a,_,rfl,.inl ⟨SqL.of Z3,fun g hg=>⟨sz,fun t ht=>?_⟩⟩⟩
   have gg:Gro [b] H2 (upd (upd (upd H2 a (.lst (List.replicate cn.toNat .non))) g (.tup (List.replicate cn.toNat .non))) t (.tup [v,.ref g])):=((Gro.new ha _).tup hg).tup ht
   exact q t g v p cn.toNat _ (((hb1.new ha).new hg).new ht) Z3 (by rw [Zl (Z7 Z3 ht)]; exact Z3) (by omega) (by rw [show ((cn.toNat:Nat):Int) = cn by omega]; exact hnm) (hhas.imp (fun e=>by omega) fun h=>by rw [show ((cn.toNat:Nat):Int) = cn by omega]; exact h) (hp.mono gg.tups) (g1.trans gg)
 refine Zbd ?_
 intro Ez Az1 Az2 Az3 Az4 Az5 Az6 Az7
 refine ⟨_,rfl,sz,fun c hc=>?_⟩
 have bc:b ≠ c:=Z7 hb.choose_spec.1 hc
 have cS:c ∉ [b]:=by simpa using Ne.symm bc
 refine ⟨_,rfl,_,rfl,_,rfl,b,l,c,0,3,by decide,rfl,hb.new hc,hl.new hc,⟨pl,Z3,by decide,by decide⟩,bc,fun v p H1 cm hb1 hc1 hcm hnm hhas hp1 g1=>?_⟩
 have g1':Gro [b] H H1:=g1.drop hc
 refine ⟨_,rfl,b,8,rfl,hb1,by decide,by decide,fun r H2 h20 h21 hb2 g2=>⟨rfl,_,rfl,?_⟩⟩
 have base2:Z30 b l c pl H { nx:=fun _ H'=>Q .non H',rt:=Q } [some (.ref b),some (.ref l),some (.int pl),some (.ref c),some v,none,none] H2:=⟨v,p,cm,none,none,rfl,hp1.mono g2.tups,hnm,hhas,hb2,hc1.gro g2 cS,g1'.trans g2,q⟩
 refine X7 (fun _=>⟨_,rfl,rfl,_,rfl,X7 (fun _=>?_) (fun _=>⟨c,base2⟩)⟩) (fun _=>Z0l ⟨c,base2⟩)
 have l2:LetAt H2 l:=(hl.gro g1' lS).gro g2 lS
 refine ⟨sz,fun p1 hp1n=>⟨_,rfl,_,rfl,b,3,rfl,hb2.new hp1n,by decide,by decide,fun r3 H3 h30 h31 hb3 g3=>?_⟩⟩
 refine Zch ((l2.new hp1n).gro g3 lS) h30 h31 fun s hs=>⟨sz,fun p2 hp2=>⟨sz,fun p3 hp3=>⟨sz,fun p4 hp4=>?_⟩⟩⟩
 have e1:H3 p1 = some (.tup [.str "again",.int 1]):=g3.tups _ _ Z3
 generalize hH4:upd (upd (upd H3 p2 (.tup [.str "sign",.str s])) p3 (.tup [.ref p1,.ref p2])) p4 (.tup [.str "row",.ref p3]) = H4
 have g34:Gro [b] H3 H4:=by rw [← hH4]; exact ((Gro.new hp2 _).tup hp3).tup hp4
 have e4:H4 p4 = some (.tup [.str "row",.ref p3]):=by rw [← hH4]; exact Z3
 have e3:H4 p3 = some (.tup [.ref p1,.ref p2]):=by rw [← hH4,Zl (Z7 Z3 hp4)]; exact Z3
 have e2:H4 p2 = some (.tup [.str "sign",.str s]):=by rw [← hH4,Zl (Z7 (by rw [Zl (Z7 Z3 hp3)]; exact Z3) hp4),Zl (Z7 Z3 hp3)]; exact Z3
 have g24:Gro [b] H2 H4:=((Gro.new hp1n _).trans g3).trans g34
 have hb4:BoxAt H4 b:=by rw [← hH4]; exact ((hb3.new hp2).new hp3).new hp4
 have l4:=l2.gro g24 lS
 have P1:PatAt H4 4 (.ref p4) (.node .row [.node (.again 1) [],.node (.sign s) []]) :=
  ⟨p4,[.ref p1,.ref p2],rfl,⟨by simp,p3,e4,e3⟩,.cons ⟨p1,[],rfl,⟨⟨by decide,by decide⟩,rfl,g34.tups _ _ e1⟩,.nil⟩ (.cons ⟨p2,[],rfl,⟨rfl,hs,e2⟩,.nil⟩ .nil)⟩
 refine ⟨_,rfl,_,rfl,b,l,rfl,hb4,l4,fun rr rs H5 hb5 hr5 _ _ g5=>⟨sz,fun p5 hp5=>⟨sz,fun p6 hp6=>?_⟩⟩⟩
 generalize hH6:upd (upd H5 p5 (.tup [.str "in",.ref rr])) p6 (.tup [.str "group",.int 1,.ref p5]) = H6
 have g56:Gro [b] H5 H6:=by rw [← hH6]; exact (Gro.new hp5 _).tup hp6
 have e6:H6 p6 = some (.tup [.str "group",.int 1,.ref p5]):=by rw [← hH6]; exact Z3
 have e5:H6 p5 = some (.tup [.str "in",.ref rr]):=by rw [← hH6,Zl (Z7 Z3 hp6)]; exact Z3
 have hb6:BoxAt H6 b:=by rw [← hH6]; exact (hb5.new hp5).new hp6
 have P2:PatAt H6 4 (.ref p6) (.node (.grp 1) [.node (.inn rs) []]):=⟨p6,[.ref p5],rfl,⟨⟨by decide,by decide⟩,_,rfl,e6⟩,.cons ⟨p5,[],rfl,⟨rfl,rr,e5,hr5.mono g56.tups⟩,.nil⟩ .nil⟩
 refine ⟨sz,fun a ha=>⟨_,rfl,b,2,rfl,hb6.new ha,by decide,by decide,fun r7 H7 h70 h71 hb7 g7=>?_⟩⟩
 have ba:b ≠ a:=Z7 hb6.choose_spec.1 ha
 have ha7:=g7.keep a _ (Z3 (H:=H6)) (by simpa using Ne.symm ba)
 have howE:∃ how:How,atI [V.str "much",V.str "little"] r7 = some (.str how.text):=by
  have:r7 = 0 ∨ r7 = 1:=by omega
  rcases this with rfl | rfl
  ·exact ⟨.much,rfl⟩
  ·exact ⟨.little,rfl⟩
 obtain ⟨how,ehow⟩:=howE
 refine ⟨a,_,_,_,rfl,rfl,SqL.of ha7,ehow,_,rfl,_,rfl,sz,fun p8 hp8=>⟨sz,fun p9 hp9=>⟨sz,fun p10 hp10=>?_⟩⟩⟩
 generalize hH10:upd (upd (upd H7 p8 (.tup [.ref p4,.ref p6])) p9 (.tup [.str "or",.ref p8])) p10 (.tup [.str "times",.int 0,.non,.str how.text,.ref p9]) = H10
 have g710:Gro [b] H7 H10:=by rw [← hH10]; exact ((Gro.new hp8 _).tup hp9).tup hp10
 have e10:H10 p10 = some (.tup [.str "times",.int 0,.non,.str how.text,.ref p9]):=by rw [← hH10]; exact Z3
 have e9:H10 p9 = some (.tup [.str "or",.ref p8]):=by rw [← hH10,Zl (Z7 Z3 hp10)]; exact Z3
 have e8:H10 p8 = some (.tup [.ref p4,.ref p6]):=by rw [← hH10,Zl (Z7 (by rw [Zl (Z7 Z3 hp9)]; exact Z3) hp10),Zl (Z7 Z3 hp9)]; exact Z3
 have g67:Gro [b] H6 H7:=(Gro.new ha _).trans g7
 have g410:Gro [b] H4 H10:=((g5.trans g56).trans g67).trans g710
 have g610:Gro [b] H6 H10:=g67.trans g710
 have hb10:BoxAt H10 b:=by rw [← hH10]; exact ((hb7.new hp8).new hp9).new hp10
 have P3:PatAt H10 7 (.ref p10) (.node (.times 0 none how) [.node .alt [.node .row [.node (.again 1) [],.node (.sign s) []],.node (.grp 1) [.node (.inn rs) []]]]) :=
  ⟨p10,[.ref p9],rfl,⟨⟨by decide,by decide,fun h e=>by cases e⟩,_,rfl,e10⟩,.cons ⟨p9,[.ref p4,.ref p6],rfl,⟨by simp,by simp,p8,e9,e8⟩,.cons ((P1.mono g410.tups).deep (by decide)) (.cons ((P2.mono g610.tups).deep (by decide)) .nil)⟩ .nil⟩
 have hc10:CntN H10 c cm:=hc1.gro ((g2.trans g24).trans g410) cS
 obtain ⟨cp,hcl,hcn⟩:=id hc10
 refine ⟨_,rfl,c,_,_,0,rfl,rfl,hcl,rfl,?_⟩
 have gs:Gro [c] H10 (upd H10 c (.lst [.int 1,.int cp])):=Gro.set (by simp) hcl _
 refine ⟨c,_,_,1,_,_,rfl,⟨P3.mono gs.tups,by simp [Yr,Y7,B]⟩,nm1 trivial (nm2 trivial (nm2 trivial (nm0 ⟨by decide,by decide⟩) (nm0 trivial)) (nm1 ⟨by decide,by decide⟩ (nm0 trivial))),.inr (has_node.mpr (.inr ⟨_,List.mem_singleton.mpr rfl,has_node.mpr (.inr ⟨_,List.mem_cons_of_mem _ (List.mem_singleton.mpr rfl),has_node.mpr (.inl rfl)⟩)⟩)),hb10.gro gs (by simpa using bc),⟨cp,Z3,by decide,by decide⟩,?_,q⟩
 exact (((g1'.trans g2).trans g24).trans g410).fresh hc _
end
theorem close_rw {o:Op} {k:Int}:(o.rw).close = some k ↔ o = .close k:=by
 cases o with
 | close j =>
  constructor
  ·intro h
   have h':(if ("close":Str) = "close" then some j else none) = some k:=h
   rw [if_pos rfl] at h'
   injection h' with h'
   rw [h']
  ·intro h
   cases h
   show (if ("close":Str) = "close" then some k else none) = some k
   rw [if_pos rfl]
 | try_ z =>
  refine ⟨fun h=>?_,fun h=>by cases h⟩
  have h':(if ("try":Str) = "close" then some (z:Int) else none) = some k:=h
  rw [if_neg (by decide +kernel)] at h'
  cases h'
 | go z =>
  refine ⟨fun h=>?_,fun h=>by cases h⟩
  have h':(if ("go":Str) = "close" then some (z:Int) else none) = some k:=h
  rw [if_neg (by decide +kernel)] at h'
  cases h'
 | bar z =>
  refine ⟨fun h=>?_,fun h=>by cases h⟩
  have h':(if ("bar":Str) = "close" then some (z:Int) else none) = some k:=h
  rw [if_neg (by decide +kernel)] at h'
  cases h'
 | _=>exact ⟨fun h=>(by cases h),fun h=>(by cases h)⟩
theorem Z8q (o:Op):(o.rw).tame:=by
 cases o with
 | pat h=>trivial
 | close k=>exact ⟨_,_,rfl,fun _=>⟨k,rfl⟩⟩
 | _=>exact ⟨_,_,rfl,fun z=>absurd z (by decide +kernel)⟩
theorem mem_closes {es:List Op} {k:Int}:k ∈ X1 (es.map Op.rw) ↔ Op.close k ∈ es:=by
 unfold X1
 rw [List.mem_filterMap]
 constructor
 ·rintro ⟨r,hr,h⟩
  obtain ⟨o,ho,rfl⟩:=List.mem_map.mp hr
  rw [close_rw.mp h] at ho
  exact ho
 ·intro h
  exact ⟨_,List.mem_map.mpr ⟨_,h,rfl⟩,close_rw.mpr rfl⟩
theorem Zcf {ns:List Int} (h:ns ≠ []):mxL ns ∈ ns:=by
 unfold mxL
 have:=(argBest_gt (fun i=>ns.getD i 0) (ns.length - 1)).1
 have hl:0 < ns.length:=List.length_pos_iff.mpr h
 rw [List.getD_eq_getElem?_getD]
 have hlt:argBest (fun i j=>decide (ns.getD i 0 > ns.getD j 0)) (ns.length - 1) < ns.length:=by omega
 rw [List.getElem?_eq_getElem hlt]
 exact List.getElem_mem hlt
theorem Ze1 {ns:List Int} {x:Int} (h:x ∈ ns):x ≤ mxL ns:=by
 obtain ⟨j,hj,e⟩:=List.mem_iff_getElem.mp h
 have h1:=(argBest_gt (fun i=>ns.getD i 0) (ns.length - 1)).2 j (by omega)
 have h2:ns.getD j 0 = x:=by rw [List.getD_eq_getElem?_getD,List.getElem?_eq_getElem hj,e]; rfl
 rw [← h2]
 exact h1
def Y0 (p:Pat):List Op:=p.ops 0 ++ [.found]
theorem Jz (p:Pat):(Y0 p).map Op.rw = p.code 0 ++ [.tup [.str "found"]]:=by
 unfold Y0
 rw [List.map_append,Pat.ops_rw p 0]
 rfl
theorem Z4v (p:Pat):∀ o ∈ Y0 p,o.ok:=fun o ho=>by
 rcases List.mem_append.mp ho with ho | ho
 ·exact Z8c p 0 o ho
 ·rw [List.mem_singleton.mp ho]; trivial
theorem Z7z {p:Pat} {n:Nat} (hw:p.wf) (hn:p.nm n) (hh:n = 0 ∨ p.has n):Z6i ((Y0 p).map Op.rw) = n:=by
 have bd:∀ k ∈ X1 ((Y0 p).map Op.rw),1 ≤ k∧k ≤ n:=fun k hk=>by
  rcases List.mem_append.mp (mem_closes.mp hk) with h | h
  ·exact Z8j p hn (Z0a p 0 _ h k rfl)
  ·cases List.mem_singleton.mp h
 unfold Z6i
 by_cases e:X1 ((Y0 p).map Op.rw) = []
 ·rw [if_pos e]
  rcases hh with h | h
  ·rw [h]; rfl
  ·have:(n:Int) ∈ X1 ((Y0 p).map Op.rw):=mem_closes.mpr (List.mem_append.mpr (.inl (Z1o p hw h 0)))
   rw [e] at this
   simp at this
 ·rw [if_neg e]
  have h1:=bd _ (Zcf e)
  rcases hh with h | h
  ·omega
  ·have:=Ze1 (mem_closes.mpr (List.mem_append.mpr (.inl (Z1o p hw h 0))):(n:Int) ∈ X1 ((Y0 p).map Op.rw))
   omega
theorem Wm {H:Hp}:∀ n,Paired (EnA H) (List.replicate n V.non) (List.replicate n (none:En))
 | 0=>.nil
 | n + 1=>.cons rfl (Wm n)
theorem Z65 (t:Str) (n:Nat):GOk t n (List.replicate n none):=⟨List.length_replicate,fun x y h=>by have:=List.eq_of_mem_replicate h; cases this⟩
structure MSt (C m ra ch:Addr) (t:Str) (n:Nat) (es:List Op) (H:Hp) (M:MM) (cf:Cf):Prop where
 at_:MAt C H m M
 am:AM H ra t ch M cf
 cs:M.cs.length ≤ 40000
 ro:∃ ys,H ra = some (.tup ys)∧Paired (RowAt H) ys (es.map Op.rw)
 ok:∀ o ∈ es,o.ok
 en:es[es.length - 1]? = some .found
 tx:t.length ≤ 1000
 nn:n ≤ 900
theorem MSt.gro {C m ra ch:Addr} {t:Str} {n:Nat} {es:List Op} {H H':Hp} {M:MM} {cf:Cf} {S:List Addr} (h:MSt C m ra ch t n es H M cf) (g:Gro S H H') (h1:m ∉ S) (h2:ch ∉ S):MSt C m ra ch t n es H' M cf:=by
 obtain ⟨ys,e1,e2⟩:=h.ro
 exact ⟨h.at_.gro g h1 (by rw [h.am.fresh.2.2.2]; exact h2),h.am.mono g.tups,h.cs,⟨ys,g.tups _ _ e1,Y4 g.tups e2⟩,h.ok,h.en,h.tx,h.nn⟩
theorem Z22 {H:Hp} {n:Nat} {i:Str}:Vo H (n + 1) (.str i) (.str i):=.inl ⟨rfl,rfl⟩
theorem Vd {H:Hp} {n:Nat} {i:Int}:Vo H (n + 1) (.int i) (.int i):=.inl ⟨rfl,rfl⟩
theorem Z93 {H:Hp} {n:Nat}:∀ {x:En} {v v':V},EnA H v x→EnA H v' x→Vo H (n + 2) v v'
 | none,_,_,h,h'=>by
  have e:_ = V.non:=h
  have e':_ = V.non:=h'
  rw [e,e']
  exact .inl ⟨rfl,rfl⟩
 | some p,_,_,⟨a,e,h⟩,⟨a',e',h'⟩=>.inr ⟨a,a',_,_,e,e',h,h',by simp,.cons Vd (.cons Vd .nil)⟩
theorem Z23 {H:Hp} {n:Nat}:∀ {g:Gs} {es es':List V},Paired (EnA H) es g→Paired (EnA H) es' g→Paired (Vo H (n + 2)) es es'
 | [],_,_,.nil,.nil=>.nil
 | _ :: _,_,_,.cons h t,.cons h' t'=>.cons (Z93 h h') (Z23 t t')
theorem Z92 {H:Hp} {n:Nat} {g:Gs} {v v':V} (h:GsAt H v g) (h':GsAt H v' g) (hl:g.length ≤ 1000000):Vo H (n + 3) v v':=by
 obtain ⟨a,es,e1,e2,e3⟩:=h
 obtain ⟨a',es',e1',e2',e3'⟩:=h'
 exact .inr ⟨a,a',es,es',e1,e1',e2,e2',by rw [Paired.length e3]; exact hl,Z23 e3 e3'⟩
theorem Z6s {H:Hp} {n i:Nat} {a b:Addr} {g:Gs} {v v':V} (ha:H a = some (.tup [.str "way",.int i,v])) (hb:H b = some (.tup [.str "way",.int i,v'])) (h:GsAt H v g) (h':GsAt H v' g) (hl:g.length ≤ 1000000):Vo H (n + 4) (.ref a) (.ref b) :=
 .inr ⟨a,b,_,_,rfl,rfl,ha,hb,by simp,.cons Z22 (.cons Vd (.cons (Z92 h h' hl) .nil))⟩
theorem Z4s {H:Hp} {n:Nat} {a b:Addr} (ha:H a = some (.tup [.str "none"])) (hb:H b = some (.tup [.str "none"])):Vo H (n + 2) (.ref a) (.ref b):=.inr ⟨a,b,_,_,rfl,rfl,ha,hb,by simp,.cons Z22 .nil⟩
structure PDefs (K:PySem.W.Frag) (mg:Str→Option Value):Prop where
 coded:Def K mg "coded" s_coded ["pattern"]
 put:Def K mg "put" s_put ["rows", "pattern"]
 hold_place:Def K mg "hold_place" s_hold_place ["rows"]
 put_or:Def K mg "put_or" s_put_or ["rows", "branches"]
 put_times:Def K mg "put_times" s_put_times ["rows", "low", "high", "how", "part"]
 put_have:Def K mg "put_have" s_put_have ["rows", "number", "yes", "no"]
 put_look:Def K mg "put_look" s_put_look ["rows", "kind", "part"]
 takes_sign:Def K mg "takes_sign" s_takes_sign ["row", "text", "at"]
 lies_in:Def K mg "lies_in" s_lies_in ["runs", "sign"]
 with_entry:Def K mg "with_entry" s_with_entry ["groups", "number", "begin", "end"]
structure QDefs (K:PySem.W.Frag) (mg:Str→Option Value):Prop where
 l_take:Def K mg "_law_take" s_l_take ["_law_box", "_law_many"]
 l_sign:Def K mg "_law_sign" s_l_sign ["_law_cell"]
 l_letters:Def K mg "_law_letters" s_l_letters ["_law_box"]
 l_runs:Def K mg "_law_runs" s_l_runs ["_law_box", "_law_letters_here"]
 l_leaf:Def K mg "_law_leaf" s_l_leaf ["_law_box", "_law_letters_here", "_law_count"]
 l_parts:Def K mg "_law_parts" s_l_parts ["_law_box", "_law_letters_here", "_law_count", "_law_deep", "_law_word"]
 l_times:Def K mg "_law_times" s_l_times ["_law_box", "_law_letters_here", "_law_count", "_law_deep"]
 l_pattern:Def K mg "_law_pattern" s_l_pattern ["_law_box", "_law_letters_here", "_law_count", "_law_deep"]
 l_drawn:Def K mg "_law_drawn" s_l_drawn ["_law_box", "_law_letters_here", "_law_plain"]
 l_text:Def K mg "_law_text" s_l_text ["_law_box", "_law_letters_here", "_law_size"]
 l_takes:Def K mg "_law_takes" s_l_takes ["_law_p", "_law_sign_here"]
 l_each:Def K mg "_law_each" s_l_each ["_law_part", "_law_text_here", "_law_ways_here", "_law_left"]
 l_turns:Def K mg "_law_turns" s_l_turns ["_law_p", "_law_text_here", "_law_n", "_law_j", "_law_g", "_law_left"]
 l_behind:Def K mg "_law_behind" s_l_behind ["_law_p", "_law_text_here", "_law_i", "_law_g", "_law_left"]
 l_memory:Def K mg "_law_memory" s_l_memory ["_law_p", "_law_text_here", "_law_i", "_law_g", "_law_left"]
 l_ways:Def K mg "_law_ways" s_l_ways ["_law_p", "_law_text_here", "_law_i", "_law_g", "_law_left"]
 l_alike:Def K mg "_law_alike" s_l_alike ["_law_found", "_law_due"]
structure Fx (P:Program) (w:World) (K:PySem.W.Frag) (mg:Str→Option Value) (base:Heap) (C:Addr):Prop where
 letters:Own P w K mg base 2 "_law_letters" ["_law_box"] Va
 take:Own P w K mg base 1 "_law_take" ["_law_box", "_law_many"] Xd
 text:Own P w K mg base 2 "_law_text" ["_law_box", "_law_letters_here", "_law_size"] Z1y
 drawn:Own P w K mg base 13 "_law_drawn" ["_law_box", "_law_letters_here", "_law_plain"] J2
 ways:Own P w K mg base 212 "_law_ways" ["_law_p", "_law_text_here", "_law_i", "_law_g", "_law_left"] (Wa 7)
 alike:Own P w K mg base 7 "_law_alike" ["_law_found", "_law_due"] (Z39 5)
 coded:Own P w K mg base 27 "coded" ["pattern"] J3
 init:OwnC P w K mg base 1 C "Machine" ["self", "rows", "text", "at"] (Z1z C)
 way:OwnM P w K mg base 6 C "way" ["self", "most"] (Z4h C)
 moves:OwnM P w K mg base 1 C "moves" ["self"] (J1 C)
section
variable {K:PySem.W.Frag} {mg:Str→Option Value}
theorem Z56 {P:Program} {w:World} {base:Heap} {x:Str} {st:Stmt} {ps:List Str} {sp:Nat→Sp} (D:Def K mg x st ps) (no:∀ vs H Q E,¬ sp 0 vs H Q E) (step:∀ n f fd,Own P w K mg base (2 + n) x ps (sp n)→Fun K x x st f fd→FnOk P w K mg base CX0 (2 + n + 1) f fd ps (sp (n + 1))) :
  ∀ n,Own P w K mg base (2 + n) x ps (sp n)
 | 0=>D.own fun f fd F=>FnOk.never no
 | n + 1=>D.own fun f fd F=>step n f fd (Z56 D no step n) F
theorem fx_of {P:Program} {w:World} {base:Heap} {it le ls dn C:Addr} {ds:List (Key × V)} (T:Blt mg) (c_ITSELF:mg "ITSELF" = some (.ref it)) (hIT:∀ H,SqT K H it itself) (c_LEANING:mg "LEANING" = some (.ref le)) (hLE:∀ H,SqT K H le leaning) (c_LAST_ROWS:mg "LAST_ROWS" = some (.ref ls)) (hLS:DcK K w ls lastRows)
  (c_DOINGS:mg "DOINGS" = some (.ref dn)) (hDN:DcK K w dn ds) (DD:DoingsA K ds) (MA:MachDefsA K mg C) (PD:PDefs K mg) (QD:QDefs K mg):Fx P w K mg base C:=by
 have noA:∀ vs H Q E,¬ Z39 0 vs H Q E:=fun vs H Q E ⟨x,y,_,hp,_⟩=>hp.elim
 have al:=Z56 (P:=P) (w:=w) (base:=base) (sp:=Z39) QD.l_alike noA (fun n f fd O F=>Zce T O F) 5
 have pu:=Z57 (P:=P) (w:=w) (base:=base) T c_ITSELF hIT c_LEANING hLE c_LAST_ROWS hLS PD.put PD.hold_place PD.put_or PD.put_times PD.put_have PD.put_look 8
 have co:Own P w K mg base 27 "coded" ["pattern"] J3:=PD.coded.own fun _ _ F=>Z7c T pu F
 have ta:Own P w K mg base 1 "_law_take" ["_law_box", "_law_many"] Xd:=QD.l_take.own fun _ _ F=>Z9q F
 have si:Own P w K mg base 1 "_law_sign" ["_law_cell"] Z4j:=QD.l_sign.own fun _ _ F=>Z9r F
 have le:Own P w K mg base 2 "_law_letters" ["_law_box"] Va:=QD.l_letters.own fun _ _ F=>Z3p T ta si F
 have ru:Own P w K mg base 2 "_law_runs" ["_law_box", "_law_letters_here"] Jq:=QD.l_runs.own fun _ _ F=>Z9s T ta F
 have lf:Own P w K mg base 3 "_law_leaf" ["_law_box", "_law_letters_here", "_law_count"] Ju:=QD.l_leaf.own fun _ _ F=>Z9t T ta ru F
 have pa:=Uo (P:=P) (w:=w) (base:=base) T ta lf QD.l_parts QD.l_times QD.l_pattern 4
 have dr:Own P w K mg base 13 "_law_drawn" ["_law_box", "_law_letters_here", "_law_plain"] J2:=QD.l_drawn.own fun _ _ F=>Z7a T ta ru pa F
 have tx:Own P w K mg base 2 "_law_text" ["_law_box", "_law_letters_here", "_law_size"] Z1y:=QD.l_text.own fun _ _ F=>Z9p T ta F
 have tk:Own P w K mg base 1 "_law_takes" ["_law_p", "_law_sign_here"] Zal:=QD.l_takes.own fun _ _ F=>Zc9 T F
 have wy:=Z2g (P:=P) (w:=w) (base:=base) T tk QD.l_each QD.l_turns QD.l_behind QD.l_memory QD.l_ways 7
 exact ⟨le,ta,tx,dr,wy,al,co,Z73 T MA.base_,Z72 T MA c_DOINGS hDN DD PD.takes_sign PD.lies_in PD.with_entry,Z58 MA.base_⟩
end
def MK (C m ra ch:Addr) (t:Str) (n:Nat) (es:List Op) (H:Hp) (cf:Cf) (made:Int):Prop:=∃ M:MM,MSt C m ra ch t n es H M cf∧M.s.made = made
theorem MK.gro {C m ra ch:Addr} {t:Str} {n:Nat} {es:List Op} {H H':Hp} {cf:Cf} {made:Int} {S:List Addr} (h:MK C m ra ch t n es H cf made) (g:Gro S H H') (h1:m ∉ S) (h2:ch ∉ S):MK C m ra ch t n es H' cf made:=by
 obtain ⟨M,h3,h4⟩:=h
 exact ⟨M,h3.gro g h1 h2,h4⟩
theorem MK.ob {C m ra ch:Addr} {t:Str} {n:Nat} {es:List Op} {H:Hp} {cf:Cf} {made:Int} (h:MK C m ra ch t n es H cf made):(∃ dx s,H m = some (.ins C dx (MS.fs s)))∧∃ l,H ch = some (.lst l):=by
 obtain ⟨M,h3,_⟩:=h
 have e0:=h3.am.fresh.2.2.2
 obtain ⟨⟨dx,e⟩,l,e',_⟩:=id h3.at_
 rw [e0] at e'
 exact ⟨⟨dx,_,e⟩,l,e'⟩
def Tl (es:List Op) (t:Str) (n:Nat) (cf:Cf):Option Way→Nat→Cf→Prop
 | some w,j,cf'=>∃ xs,Rc es t n cf j (.run ⟨es.length - 1,w.1,w.2,[],xs⟩)∧cf' = bk xs
 | none,j,cf'=>Rc es t n cf j .ended∧cf' = .ended
def AnsAt (H:Hp) (tt:Addr):Option Way→Prop
 | some w=>∃ gv,H tt = some (.tup [.str "way",.int w.1,gv])∧GsAt H gv w.2
 | none=>H tt = some (.tup [.str "none"])
theorem AnsAt.mono {H H':Hp} (tm:Tm H H') {tt:Addr}:∀ {w:Option Way},AnsAt H tt w→AnsAt H' tt w
 | some _,⟨gv,h1,h2⟩=>⟨gv,tm _ _ h1,h2.mono tm⟩
 | none,h=>tm _ _ h
def Z8n:Option Way→Nat→Nat
 | some _,j=>j + 1
 | none,j=>j
theorem Z84 {es:List Op} {t:Str} {n:Nat} {cf cf':Cf} {j k:Nat} (r:Rc es t n cf j cf') (h:k ≤ j):Rc es t n cf k (run es t k cf)∧Rc es t n (run es t k cf) (j - k) cf':=by
 refine ⟨⟨fun i hi=>r.live i (by omega),rfl⟩,fun i hi=>?_,?_⟩
 ·have:=r.live (k + i) (by omega)
  rw [Ud] at this
  exact this
 ·rw [← Ud,show k + (j - k) = j by omega]
  exact r.eq
theorem ask {C m ra ch:Addr} {t:Str} {n:Nat} {es:List Op} {H:Hp} {cf cf':Cf} {made most:Int} {w:Option Way} {j:Nat} {Q:VK} {E:XK} (h:MK C m ra ch t n es H cf made) (hT:Tl es t n cf w j cf') (hw:∀ x,w = some x→x.1 ≤ t.length∧GOk t n x.2) (hB:cf.csl + j ≤ 40000) (hm:1 ≤ most)
  (q1:(Z8n w j:Int) ≤ most→∀ (H':Hp) (tt:Addr),MK C m ra ch t n es H' cf' (made + Z8n w j)→AnsAt H' tt w→Gro [m,ch] H H'→Q (.ref tt) H')
  (q2:most < (Z8n w j:Int)→∀ (H':Hp) (tt:Addr) (cf2:Cf) (j2:Nat),(j2:Int) + most = j→MK C m ra ch t n es H' cf2 (made + most)→Tl es t n cf2 w j2 cf'→cf2.csl + j2 ≤ 40000→H' tt = some (.tup [.str "over"])→Gro [m,ch] H H'→Q (.ref tt) H'):Z1x C [.ref m,.int most] H Q E:=by
 obtain ⟨M,st,hmd⟩:=h
 obtain ⟨ys,hra,hys⟩:=id st.ro
 have hcs:=st.cs
 have mk:∀ (H':Hp) (M':MM) (cf2:Cf),MAt C H' m M'→AM H' ra t ch M' cf2→M'.cs.length ≤ 40000→Gro [m,ch] H H'→MSt C m ra ch t n es H' M' cf2:=fun H' M' cf2 h1 h2 h3 g=>⟨h1,h2,h3,⟨ys,g.tups _ _ hra,Y4 g.tups hys⟩,st.ok,st.en,st.tx,st.nn⟩
 refine ⟨m,ra,ch,most,t,n,es,ys,M,cf,rfl,hm,st.at_,st.am,by omega,hra,hys,st.ok,st.tx,st.nn,?_⟩
 by_cases hc:(Z8n w j:Int) ≤ most
 ·cases w with
  | some x =>
   obtain ⟨xs,r,rfl⟩:=hT
   have hx:=hw x rfl
   have hc':((j + 1:Nat):Int) ≤ most:=hc
   refine .inl ⟨j,_,r,st.en,hx.1,hx.2,by omega,by omega,fun H' tt gv M' hM' hAM' hl' hmd' htt hgs g'=>?_⟩
   have hcl:=Xt es t cf j
   rw [r.eq] at hcl
   have hcl':xs.length ≤ cf.csl + j:=hcl
   have hl2:M'.cs.length = xs.length:=hl'
   exact q1 hc H' tt ⟨M',mk H' M' _ hM' hAM' (by omega) g',by rw [hmd',hmd]; show made + j + 1 = made + ((j + 1:Nat):Int); omega⟩ ⟨gv,htt,hgs⟩ g'
  | none =>
   obtain ⟨r,rfl⟩:=hT
   have hc':(j:Int) ≤ most:=hc
   exact .inr (.inl ⟨j,r,hc',by omega,fun H' tt M' hM' hAM' hl' hmd' htt g'=>q1 hc H' tt ⟨M',mk H' M' _ hM' hAM' (by omega) g',by rw [hmd',hmd]; rfl⟩ htt g'⟩)
 ·have hc':most < (Z8n w j:Int):=by omega
  obtain ⟨k,rfl⟩:∃ k:Nat,most = k:=⟨most.toNat,by omega⟩
  have fin:∀ c:Cg,Rc es t n cf k (.run c)→k ≤ j→Tl es t n (.run c) w (j - k) cf'→Zeo C Q H m ra ch t n es k cf M.s.made:=fun c r hkj hT2=>by
   have hcl:=Xt es t cf k
   rw [r.eq] at hcl
   have hcl':c.cs.length ≤ cf.csl + k:=hcl
   refine .inr (.inr ⟨k,c,r,rfl,by omega,fun H' tt M' hM' hAM' hl' hmd' htt g'=>?_⟩)
   exact q2 hc' H' tt (.run c) (j - k) (by omega) ⟨M',mk H' M' _ hM' hAM' (by omega) g',by rw [hmd',hmd]⟩ hT2 (by show c.cs.length + (j - k) ≤ _; omega) htt g'
  cases w with
  | some x =>
   obtain ⟨xs,r,rfl⟩:=hT
   have hc2:(k:Int) < ((j + 1:Nat):Int):=hc'
   have hkj:k ≤ j:=by omega
   obtain ⟨r1,r2⟩:=Z84 r hkj
   by_cases hlt:k < j
   ·obtain ⟨c,e,_⟩:=r.live k hlt
    rw [e] at r1 r2
    exact fin c r1 hkj ⟨xs,r2,rfl⟩
   ·have ekj:k = j:=by omega
    subst ekj
    rw [r.eq] at r1 r2
    exact fin _ r1 hkj ⟨xs,r2,rfl⟩
  | none =>
   obtain ⟨r,rfl⟩:=hT
   have hc2:(k:Int) < (j:Int):=hc'
   obtain ⟨r1,r2⟩:=Z84 r (show k ≤ j by omega)
   obtain ⟨c,e,_⟩:=r.live k (by omega)
   rw [e] at r1 r2
   exact fin c r1 (by omega) ⟨r2,rfl⟩
theorem Z7j {C m ra ch gd:Addr} {t:Str} {i n:Nat} {p:Pat} {H:Hp} {ys:List V} (hM:MAt C H m (ms0 ra t i (.ref gd) ch)) (hg:H gd = some (.tup (List.replicate n .non))) (hra:H ra = some (.tup ys)) (hys:Paired (RowAt H) ys ((Y0 p).map Op.rw))
  (ht:t.length ≤ 1000) (hn:n ≤ 900):MK C m ra ch t n (Y0 p) H (.run ⟨0,i,List.replicate n none,[],[]⟩) 0:=by
 have hl:(Y0 p).length - 1 = (p.ops 0).length:=by unfold Y0; rw [List.length_append]; rfl
 refine ⟨ms0 ra t i (.ref gd) ch,⟨hM,.inl ⟨rfl,rfl,rfl,rfl,rfl,rfl,rfl,⟨gd,_,rfl,hg,Wm n⟩,rfl,.nil⟩,Nat.zero_le _,⟨ys,hra,hys⟩,Z4v p,?_,ht,hn⟩,rfl⟩
 rw [hl]
 unfold Y0
 rw [List.getElem?_append_right (Nat.le_refl _),Nat.sub_self]
 rfl
theorem Z6j {t:Str} {i n d N:Nat} {p:Pat} {ws:List Way} (hnm:p.nm n) (hi:i ≤ t.length) (hw:Wy t d p i (List.replicate n none) ws N) (hc:3 * d * N ≤ 40000):Yl (Y0 p) t n ((Y0 p).length - 1) [] [] (.run ⟨0,i,List.replicate n none,[],[]⟩) ws 40000∧∀ w ∈ ws,w.1 ≤ t.length∧GOk t n w.2:=by
 have hgo:=Z65 t n
 have gd':=Wy.good (t:=t) (n:=n) d p i _ ws N hnm hi hgo hw
 have hl:(Y0 p).length - 1 = (p.ops 0).length:=by unfold Y0; rw [List.length_append]; rfl
 have hs:Sits (Y0 p) 0 (p.ops 0):=⟨[.found],rfl⟩
 have y:=Wy.yl (es:=Y0 p) (t:=t) (n:=n) d p i _ ws N hnm hi hgo hw 0 [] [] hs
 exact ⟨(y.to (by rw [hl]; omega)).mono hc,fun w hw'=>⟨(gd'.all w hw').hi,(gd'.all w hw').g⟩⟩
def Ok3 (t:Str) (n:Nat) (w:Way):Prop:=w.1 ≤ t.length∧GOk t n w.2
def Sg (es:List Op) (t:Str) (n:Nat) (cf:Cf) (j i μ:Nat):Prop :=
 (Rc es t n cf j .ended∧μ = j - i) ∨ ∃ (w:Way) (xs:List Ch) (ws:List Way) (B:Nat),Rc es t n cf j (.run ⟨es.length - 1,w.1,w.2,[],xs⟩)∧Ok3 t n w∧Yl es t n (es.length - 1) [] [] (bk xs) ws B∧(bk xs).csl + B ≤ 40000∧(∀ w ∈ ws,Ok3 t n w)∧μ = j - i + 1 + (B + ws.length)
theorem Zay {es:List Op} {t:Str} {n:Nat} {cf:Cf}:∀ {ws:List Way} {B:Nat},Yl es t n (es.length - 1) [] [] cf ws B→cf.csl + B ≤ 40000→(∀ w ∈ ws,Ok3 t n w)→∃ j μ,cf.csl + j ≤ 40000∧Sg es t n cf j 0 μ∧μ ≤ B + ws.length
 | [],B,y,hB,hg=>by
  cases y with
  | nil r hk=>exact ⟨_,_,by omega,.inl ⟨r,rfl⟩,by simp; omega⟩
 | w :: ws,B,y,hB,hg=>by
  cases y with
  | cons r y hk =>
   rename_i j k' xs
   have hcl:=Xt es t cf j
   rw [r.eq] at hcl
   have hcl':([] ++ xs).length ≤ cf.csl + j:=hcl
   have hbl:=Z6f ([] ++ xs)
   exact ⟨j,_,by omega,.inr ⟨w,_,ws,k',r,hg w (by simp),y,by omega,fun v hv=>hg v (by simp [hv]),rfl⟩,by simp; omega⟩
theorem Z26 {H:Hp} {v:V} {o:Op} (h:RowAt H v o.rw):∃ (a:Addr) (wd:Str) (xs:List V),v = .ref a∧H a = some (.tup (.str wd :: xs))∧(o = .found→decide (V.str wd = V.str "found") = true)∧(o ≠ .found→decide (V.str wd = V.str "found") = false):=by
 cases o with
 | pat hd =>
  obtain ⟨a,kv,rfl,l,_⟩:=h
  obtain ⟨xs,e⟩:=l.head
  refine ⟨a,_,xs,rfl,e,fun z=>(by cases z),fun _=>?_⟩
  rw [hd.word_wd]
  cases hd.wd <;> decide +kernel
 | found =>
  obtain ⟨a,rfl,e⟩:=h
  exact ⟨a,_,_,rfl,e,fun _=>decide_eq_true rfl,fun z=>absurd rfl z⟩
 | _ =>
  obtain ⟨a,rfl,e⟩:=h
  exact ⟨a,_,_,rfl,e,fun z=>(by cases z),fun _=>by decide +kernel⟩
section
variable {P:Program} {w:World} {K:PySem.W.Frag} {mg:Str→Option Value} {base:Heap} {f C:Addr} {fd:FuncData}
def Z38 (K:PySem.W.Frag):Sp:=fun vs H Q _=>∃ (a:Addr) (ns:List Int),vs = [.ref a]∧SqL K H a (ns.map V.int)∧ns.length ≤ 63∧∀ H',Q (.bl true) H'
abbrev Uc:Stmt:=top 60
theorem sc_law:FnScope ["_law_script", "_law_box", "_law_letters_here", "_law_text_here", "_law_at", "_law_drawn_here", "_law_left", "_law_rows", "_law_machine", "_law_state", "_law_kept", "_law_moves", "_law_row"] ["_law_script"] (Zb Uc):=fsc
theorem Zcc (T:Blt mg) (MT:Txt K mg C) (O_l_letters:Own P w K mg base 2 "_law_letters" ["_law_box"] Va) (O_l_take:Own P w K mg base 1 "_law_take" ["_law_box", "_law_many"] Xd) (O_l_text:Own P w K mg base 2 "_law_text" ["_law_box", "_law_letters_here", "_law_size"] Z1y) (O_l_drawn:Own P w K mg base 13 "_law_drawn" ["_law_box", "_law_letters_here", "_law_plain"] J2)
  (O_l_ways:Own P w K mg base 212 "_law_ways" ["_law_p", "_law_text_here", "_law_i", "_law_g", "_law_left"] (Wa 7)) (O_l_alike:Own P w K mg base 7 "_law_alike" ["_law_found", "_law_due"] (Z39 5)) (O_coded:Own P w K mg base 27 "coded" ["pattern"] J3) (O_Machine:OwnC P w K mg base 1 C "Machine" ["self", "rows", "text", "at"] (Z1z C)) (O_Machine_way:OwnM P w K mg base 6 C "way" ["self", "most"] (Z1x C)) (O_Machine_moves:OwnM P w K mg base 1 C "moves" ["self"] (J1 C))
  (O_l_back:Own P w K mg base 1 "_law_back" ["_law_state", "_law_kept"] Zan) (O_l_move:Own P w K mg base 4 "_law_move" ["_law_row", "_law_state", "_law_kept", "_law_text_here"] Zdj)
  (F:Fun K "law" "law" Uc f fd):FnOk P w K mg base CX0 220 f fd ["_law_script"] (Z38 K):=by
 refine F.ok sc_law (fun vs H Q E h=>?_) (fun cdv A outer s H vs Q E hr h=>?_)
 ·obtain ⟨a,ns,rfl,_⟩:=h
  rfl
 obtain ⟨a,ns,rfl,hS,h63,q⟩:=h
 refine ltX ?_
 intro Xz
 refine ⟨_,(Z1 (pS 1 sc_law.nd (Ys Z0q rfl T.b_list PyProof.Rows.Boot.«list» (Z0 (pv 0) Z4)))
  (Z1 (pS 2 sc_law.nd (Zk (O_l_letters.mono (by omega)) hr rfl (Z0 (pv 1) Z4)))
  (Z1 (pS 3 sc_law.nd (Zk (O_l_text.mono (by omega)) hr rfl (Z0 (pv 1) (Z0 (pv 2) (Z0 (Zk (O_l_take.mono (by omega)) hr rfl (Z0 (pv 1) (Z0 Z2 Z4))) Z4)))))
  (Z1 (pS 4 sc_law.nd (Zk (O_l_take.mono (by omega)) hr rfl (Z0 (pv 1) (Z0 (Zu Ya (Zp Y6 rfl T.b_len PyProof.Rows.Boot.«len» (Z0 (pv 3) Z4)) Z2) Z4))))
  (Z1 (pS 5 sc_law.nd (Zk (O_l_drawn.mono (by omega)) hr rfl (Z0 (pv 1) (Z0 (pv 2) (Z0 Z2 Z4)))))
  (Z1 (pS 6 sc_law.nd (Zv (Z0 Z2 Z4)))
  (Z1 (Zm (Zk (O_l_ways.mono (by omega)) hr rfl (Z0 (Z8 Z6 (pv 5) Z2 (fun _ _=>rfl)) (Z0 (pv 3) (Z0 (pv 4) (Z0 (Z8 Z6 (pv 5) Z2 (fun _ _=>rfl)) (Z0 (pv 6) Z4)))))))
  (Z1 (Zo (Z9 Wh (Z8 Zz (pv 6) Z2 (fun _ _=>rfl)) Z2 (Zc _)) (Z5 (Zh Wt)) Zf)
  (Z1 (pS 7 sc_law.nd (Zk (O_coded.mono (by omega)) hr rfl (Z0 (Z8 Z6 (pv 5) Z2 (fun _ _=>rfl)) Z4)))
  (Z1 (pS 8 sc_law.nd (Z9d (O_Machine.mono (by omega)) hr rfl (Z0 (pv 7) (Z0 (pv 3) (Z0 (pv 4) Z4)))))
  (Z1 (pS 9 sc_law.nd (Zj (Z0 Z2 (Z0 (pv 4) (Z0 (Z8 Z6 (pv 5) Z2 (fun _ _=>rfl)) (Z0 (Zj Z4) Z4))))))
  (Z1 (pS 10 sc_law.nd (Zv Z4))
  (Z1 (pS 11 sc_law.nd Z2)
  (Z1 (U2 PassesOwn.never (Ve (Z53 (pv 9))) (Z1 (pS 11 sc_law.nd (Zu Ya (pv 11) Z2))
  (Z1 (pS 12 sc_law.nd (Z8 Z6 (pv 7) (Z8 Z6 (pv 9) Z2 (fun _ _=>rfl)) (fun _ _=>rfl)))
  (Z5 (Zo (Z9 Zs (Z8 Z6 (pv 12) Z2 (fun _ _=>rfl)) Ze (Zc _)) (Z1 (Zo (Z2a (Yy (Zk (O_l_alike.mono (by omega)) hr rfl (Z0 (Yz (O_Machine_way.mono (by omega)) MT.cl hr (pv 8) (Z0 Z2 Z4)) (Z0 (Zj (Z0 Ze (Z0 (Z8 Z6 (pv 9) Z2 (fun _ _=>rfl)) (Z0 (Z8 Z6 (pv 9) Z2 (fun _ _=>rfl)) Z4)))) Z4))))) (Z5 (Zh Wt)) Zf)
  (Z1 (Zo (Z2a (Yy (Zk (O_l_alike.mono (by omega)) hr rfl (Z0 (Yd (O_Machine_moves.mono (by omega)) MT.cl hr (pv 8)) (Z0 (pv 11) Z4))))) (Z5 (Zh Wt)) Zf)
  (Z5 (pS 9 sc_law.nd (Zk (O_l_back.mono (by omega)) hr rfl (Z0 (pv 9) (Z0 (pv 10) Z4))))))) (Z5 (pS 9 sc_law.nd (Zk (O_l_move.mono (by omega)) hr rfl (Z0 (pv 12) (Z0 (pv 9) (Z0 (pv 10) (Z0 (pv 3) Z4))))))))))))
  (Z5 (Zh (Z07 (Zk (O_l_alike.mono (by omega)) hr rfl (Z0 (Yz (O_Machine_way.mono (by omega)) MT.cl hr (pv 8) (Z0 Z2 Z4)) (Z0 (Zj (Z0 Ze Z4)) Z4))) (Tg (Zk (O_l_alike.mono (by omega)) hr rfl (Z0 (Yd (O_Machine_moves.mono (by omega)) MT.cl hr (pv 8)) (Z0 (pv 11) Z4))))))))))))))))))))),?_⟩
 refine Zbb ?_
 intro Ez Az1 Az2 Az3 Az4 Az5 Az6 Az7 Az8 Az9 Az10 Az11 Az12 Az13 Az14 Az15 Az16 Az17 Az18 Az19 Az20 Az21 Az22 Az23 Az24
 refine (exA rfl ⟨a,exA rfl ⟨.inl hS,fun b hb=>?_⟩⟩)
 refine (exA rfl ⟨b,rfl,⟨ns,Z3,h63⟩,fun l H1 hb1 hl1 g1=>?_⟩)
 have bl:b ≠ l:=hb1.ne_let hl1
 have lS:l ∉ [b]:=by simpa using Ne.symm bl
 refine (exA rfl (exA rfl (exA rfl ⟨b,7,rfl,hb1,by decide,by decide,fun x H2 hm0 hm1 hb2 g2=>?_⟩)))
 have l2:=hl1.gro g2 lS
 refine ⟨b,l,x,rfl,hb2,l2,hm0,by omega,fun t H3 ht hb3 g3=>?_⟩
 have l3:=l2.gro g3 lS
 refine (exA rfl (exA rfl (exA rfl ⟨Xa (by omega),exB rfl rfl ⟨b,(t.length:Int) + 1,rfl,hb3,by omega,by omega,fun i' H4 hi0 hi1 hb4 g4=>?_⟩⟩)))
 have l4:=l3.gro g4 lS
 obtain ⟨i0,rfl⟩:∃ i:Nat,i' = i:=⟨i'.toNat,by omega⟩
 refine (exA rfl (exA rfl ⟨b,l,0,rfl,hb4,l4,fun tp gd v p n H5 hb5 ht5 hg5 hn5 hnm hhas hp5 g5=>?_⟩))
 refine ⟨sz,fun lf hlf=>?_⟩
 have g6:=Gro.new (S:=[]) hlf (.lst [.int 400])
 have hl6:(upd H5 lf (.lst [.int 400])) lf = some (.lst [.int 400]):=Z3
 have ht6:=g6.tups _ _ ht5
 have hg6:=g6.tups _ _ hg5
 have hp6:=hp5.1.mono g6.tups
 generalize upd H5 lf (.lst [.int 400]) = H6 at *
 have hgo:=Z65 t n
 refine (ixT ht6 at0 ⟨_,rfl,_,rfl,ixT ht6 rfl ⟨_,rfl,v,.ref gd,p,t,i0,n,List.replicate n none,400,lf,rfl,hp6,hnm,by omega,by omega,by omega,⟨gd,exA rfl ⟨hg6,Wm n⟩⟩,hgo,hl6,by decide,fun r0 vs0 ws N H7 hr7 hv7 hs7 hR7 hl7 hlen7 g7=>?_⟩⟩)
 refine (ixL hl7 rfl ⟨_,_,rfl,rfl,_,rfl,X7 (fun _=>q _) (fun z=>?_)⟩)
 have hN:0 ≤ (400:Int) - N:=by
  have:¬ (400:Int) - N < 0:=fun z'=>z (decide_eq_true z')
  omega
 have hwy:=hR7 hN
 have hwl:ws.length ≤ 400:=by omega
 have ht7:=g7.tups _ _ ht6
 have hg7:=g7.tups _ _ hg6
 have hp7:=hp6.mono g7.tups
 refine (ixT ht7 at0 ⟨v,p,rfl,hp7.deep (by omega),Nat.le_trans hp5.2 (by decide),fun ra ys H8 hra hys g8=>?_⟩)
 rw [← Jz] at hys
 have hyl:ys.length ≤ 1000000:=by
  have h1:=Pat.code_fits p 0
  have h2:p.size ≤ 6561:=hp5.2
  rw [Paired.length hys,Jz,List.length_append]
  show (p.code 0).length + 1 ≤ _
  omega
 have hcnt:=Z7z hp5.1.wf hnm hhas
 have tame:∀ r ∈ (Y0 p).map Op.rw,r.tame:=fun r hr=>by
  obtain ⟨o,_,rfl⟩:=List.mem_map.mp hr
  exact Z8q o
 have htm:∀ o ∈ Y0 p,TmO o:=fun o ho=>by
  rcases List.mem_append.mp ho with ho | ho
  ·exact Z8b hp5.1 0 o ho
  ·rw [List.mem_singleton.mp ho]
   intro lo hi how z e
   cases e
 refine (exA rfl (exA rfl (exA rfl (fun m dx hm hdx hne=>?_))))
 have g9:Gro [] H8 (upd (upd H8 dx (.own m)) m (.ins C dx [])):=(Gro.new hdx _).trans (Gro.new (by rw [Zl (Ne.symm hne)]; exact hm) _)
 have e9:(upd (upd H8 dx (.own m)) m (.ins C dx [])) m = some (.ins C dx []):=Z3
 generalize upd (upd H8 dx (.own m)) m (.ins C dx []) = H9 at *
 refine ⟨m,dx,ra,t,i0,ys,_,rfl,e9,g9.tups _ _ hra,Y4 g9.tups hys,by omega,tame,by rw [hcnt]; omega,by rw [hcnt]; omega,fun ch gd2 HA hcn hMA hgA gA=>⟨rfl,?_⟩⟩
 rw [hcnt] at hgA
 have hgA':HA gd2 = some (.tup (List.replicate n .non)):=hgA
 have gg:Gro [] H8 HA:=⟨fun b o h _=>gA.keep b o (g9.keep b o h (by simp)) (by simpa using Z7 h hm),fun b xs h=>gA.tups _ _ (g9.tups _ _ h)⟩
 have mkA:MK C m ra ch t n (Y0 p) HA (.run ⟨0,i0,List.replicate n none,[],[]⟩) 0:=Z7j hMA hgA' (gg.tups _ _ hra) (Y4 gg.tups hys) (by omega) (by omega)
 have htA:=gg.tups _ _ (g8.tups _ _ ht7)
 have hgdA:=gg.tups _ _ (g8.tups _ _ hg7)
 refine (exA rfl (ixT htA rfl ⟨sz,fun et het=>⟨sz,fun st hst=>?_⟩⟩))
 have gB1:=Gro.new (S:=[]) het (.tup [])
 have hetB:HtA (upd HA et (.tup [])) (.ref et) []:=⟨et,[],rfl,Z3,.nil⟩
 have hgB:GsAt (upd HA et (.tup [])) (.ref gd) (List.replicate n none):=⟨gd,_,rfl,gB1.tups _ _ hgdA,Wm n⟩
 have hstB:=X0 (r:=0) (i:=i0) hgB hetB hst
 have gB:=gB1.trans (Gro.new (S:=[]) hst (.tup [.int (0:Nat),.int i0,.ref gd,.ref et]))
 have hst0:(upd (upd HA et (.tup [])) st (.tup [.int (0:Nat),.int i0,.ref gd,.ref et])) = (upd (upd HA et (.tup [])) st (.tup [.int 0,.int i0,.ref gd,.ref et])):=rfl
 rw [hst0] at hstB gB
 generalize upd (upd HA et (.tup [])) st (.tup [.int 0,.int i0,.ref gd,.ref et]) = HB at *
 refine ⟨sz,fun kl hkl=>?_⟩
 have gC:=Gro.new (S:=[]) hkl (.lst [])
 have hkC:KpA (upd HB kl (.lst [])) kl []:=⟨[],Z3,.nil⟩
 have hstC:=hstB.mono gC.tups
 have mkB:=mkA.gro gB (by simp) (by simp)
 obtain ⟨⟨dxm,sm,em⟩,lm,ec⟩:=mkB.ob
 have n1:m ≠ kl:=Z7 em hkl
 have n2:ch ≠ kl:=Z7 ec hkl
 have mkC:=mkB.gro gC (by simp) (by simp)
 have gAC:=gB.trans gC
 generalize upd HB kl (.lst []) = HC at *
 obtain ⟨y0,hgood⟩:=Z6j (d:=7) (N:=N) hnm (show i0 ≤ t.length by omega) hwy (by omega)
 have klS:kl ∉ [m,ch]:=by simp [Ne.symm n1,Ne.symm n2]
 have mS:m ∉ [kl]:=by simpa using n1
 have cS:ch ∉ [kl]:=by simpa using n2
 obtain ⟨j0,μ0,hj0,hsg0,hμ0⟩:=Zay y0 (by show 0 + 40000 ≤ _; omega) hgood
 refine ⟨fun μ σ H'=>∃ (vst:V) (u:Option V) (cf:Cf) (md j i:Nat),σ = [some (.ref a),some (.ref b),some (.ref l),some (.str t),some (.int i0),some (.ref tp),some (.ref lf),some (.ref ra),some (.ref m),some vst,some (.ref kl),some (.int ((md + i:Nat):Int)),u] ∧
   MK C m ra ch t n (Y0 p) H' cf md∧i ≤ j∧cf.csl + j ≤ 40000∧Sg (Y0 p) t n cf j i μ∧RsA H' kl vst (run (Y0 p) t i cf)∧Sz (md + i) (run (Y0 p) t i cf)∧md + i + μ ≤ 45000,
  ⟨μ0,.ref st,none,_,0,j0,0,rfl,mkC,Nat.zero_le _,hj0,hsg0,⟨hstC,hkC⟩,⟨Nat.zero_le _,Nat.zero_le _,fun q hq=>by simp at hq⟩,by omega⟩,?_⟩
 rintro μ σ H1' ⟨vst,u,cf,md,j,i,rfl,hK,hij,hB,hsg,hR,hsz,htot⟩
 obtain ⟨M,stM,hmd⟩:=id hK
 obtain ⟨ysx,hrax,hysx⟩:=id stM.ro
 obtain ⟨⟨dxM,eM⟩,_⟩:=id stM.at_
 have rowOf:∀ {c:Cg} {o:Op},(Y0 p)[c.r]? = some o→∃ rv,atI ysx ((c.r:Nat):Int) = some rv∧RowAt H1' rv o.rw:=fun {c o} ho=>by
  have hlen:=Paired.length hysx
  rw [List.length_map] at hlen
  have hlt:=(List.getElem?_eq_some_iff.mp ho).1
  have hy:ysx[c.r]? = some (ysx[c.r]'(by omega)):=List.getElem?_eq_getElem (by omega)
  obtain ⟨rw_,h1,h2⟩:=Y2 hysx hy
  rw [List.getElem?_map,ho] at h1
  cases h1
  exact ⟨_,Xy hy,h2⟩
 by_cases hlt:i < j
 ·-- a move
  have hlive:∃ c,run (Y0 p) t i cf = .run c∧Lv (Y0 p) t n c:=by
   rcases hsg with ⟨r,_⟩ | ⟨_,_,_,_,r,_⟩
   ·exact r.live i hlt
   ·exact r.live i hlt
  obtain ⟨c,hc,lv⟩:=hlive
  rw [hc] at hR hsz
  obtain ⟨hst1,hk1⟩:=hR
  obtain ⟨sa,gv1,hv1,rfl,hsa,_,_⟩:=id hst1
  obtain ⟨o,ho⟩:∃ o,(Y0 p)[c.r]? = some o:=⟨_,List.getElem?_eq_getElem lv.r⟩
  have hod:(Y0 p).getD c.r .found = o:=by rw [List.getD_eq_getElem?_getD,ho]; rfl
  have hneed:=lv.op
  rw [hod] at hneed
  have hmem:=List.mem_of_getElem? ho
  obtain ⟨rv,hat,hrow⟩:=rowOf (c:=c) ho
  obtain ⟨rva,wd,xr,rfl,hrva,_,hwd'⟩:=Z26 hrow
  have hnf:o ≠ .found:=fun z=>by rw [z] at hneed; exact hneed
  have hwd:=hwd' hnf
  refine (exA rfl (exA rfl (Zg (by simp) ⟨fun σ' H'=>∃ (vst:V) (u:Option V),σ' = [some (.ref a),some (.ref b),some (.ref l),some (.str t),some (.int i0),some (.ref tp),some (.ref lf),some (.ref ra),some (.ref m),some vst,some (.ref kl),some (.int ((md + (i + 1):Nat):Int)),u]∧MK C m ra ch t n (Y0 p) H' cf md∧RsA H' kl vst (run (Y0 p) t (i + 1) cf),fun σ' H' hh=>?_,?_⟩)))
  ·obtain ⟨vst',u',h1,h2,h3⟩:=hh
   have hrun:run (Y0 p) t (i + 1) cf = step (Y0 p) t (.run c):=by
    show step (Y0 p) t (run (Y0 p) t i cf) = _
    rw [hc]
   have hsz':Sz (md + (i + 1)) (run (Y0 p) t (i + 1) cf):=by rw [hrun]; exact Z8s hsz
   rcases hsg with ⟨r,hμ⟩ | ⟨w9,xs9,ws9,B9,r,h5,h6,h7,h8,hμ⟩
   ·exact ⟨j - (i + 1),by omega,vst',u',cf,md,j,i + 1,h1,h2,by omega,hB,.inl ⟨r,rfl⟩,h3,hsz',by omega⟩
   ·exact ⟨j - (i + 1) + 1 + (B9 + ws9.length),by omega,vst',u',cf,md,j,i + 1,h1,h2,by omega,hB,.inr ⟨w9,xs9,ws9,B9,r,h5,h6,h7,h8,rfl⟩,h3,hsz',by omega⟩
  refine (exA rfl (exB rfl rfl (exA rfl (ixT hsa at0 ⟨ra,ysx,_,_,rfl,rfl,SqT.of hrax,hat,?_⟩))))
  refine (ixT hrva at0 ⟨rfl,exA rfl (Zd (by rw [hwd]; decide) ?_)⟩)
  have hszc:c.h.length ≤ 100000∧c.cs.length ≤ 100000:=⟨Nat.le_trans hsz.1 (by omega),Nat.le_trans hsz.2.1 (by omega)⟩
  refine (exA rfl (exA rfl (exA rfl (exA rfl ⟨.ref rva,.ref sa,kl,o,n,c.r,c.i,c.g,c.h,c.cs,t,rfl,hrow,stM.ok o hmem,hneed,htm o hmem,hst1,lv.g,by omega,by omega,lv.i,hszc.1,hk1,hszc.2,fun v' H' hR' g'=>?_⟩))))
  refine ⟨v',_,rfl,hK.gro g' mS cS,?_⟩
  show RsA H' kl v' (step (Y0 p) t (run (Y0 p) t i cf))
  rw [hc]
  show RsA H' kl v' (((Y0 p).getD c.r .found).act t { c with r:=c.r + 1 })
  rw [hod]
  exact hR'
 have eij:i = j:=by omega
 subst eij
 rcases hsg with ⟨r,hμ⟩ | ⟨w9,xs9,ws9,B9,r,h5,h6,h7,h8,hμ⟩
 ·-- the end
  rw [r.eq] at hR
  obtain ⟨hv0,_⟩:=hR
  have hv0':vst = V.non:=hv0
  subst hv0'
  refine (exA rfl (exA rfl (Zd (by decide) ?_)))
  refine (exA rfl ⟨m,dxM,exA rfl ⟨eM,Z8f _,?_⟩⟩)
  have hT:Tl (Y0 p) t n cf none i .ended:=⟨r,rfl⟩
  refine ask (E:=E0) hK hT (fun x e=>by cases e) hB (by decide) (fun hc H3 tt hK4 htt g5=>?_) (fun hc=>?_)
  ·refine ⟨sz,fun d hd=>?_⟩
   have g6:=Gro.new (S:=[]) hd (.tup [.str "none"])
   have htt6:=(show AnsAt H3 tt none from htt).mono g6.tups
   have hK6:=hK4.gro g6 (by simp) (by simp)
   refine ⟨_,_,rfl,Z4s htt6 Z3,exA rfl (Zg rfl ?_)⟩
   obtain ⟨M2,st2,hm2⟩:=hK6
   obtain ⟨⟨dx2,e2⟩,_⟩:=id st2.at_
   refine (exA rfl ⟨m,dx2,exA rfl ⟨e2,Z2m _,m,M2,rfl,st2.at_,exA rfl ⟨_,_,rfl,?_,?_⟩⟩⟩)
   ·rw [hm2]
    exact Vd
   ·exact q _
  ·exfalso
   have:(1000000:Int) < (i:Int):=hc
   omega
 ·-- an answer
  rw [r.eq] at hR hsz
  obtain ⟨hst1,hk1⟩:=hR
  obtain ⟨sa,gv1,hv1,rfl,hsa,hgv1,_⟩:=id hst1
  have ho:(Y0 p)[(Y0 p).length - 1]? = some .found:=stM.en
  obtain ⟨rv,hat,hrow⟩:=rowOf (c:=⟨(Y0 p).length - 1,w9.1,w9.2,[],xs9⟩) ho
  obtain ⟨rva,wd,xr,rfl,hrva,hwd',_⟩:=Z26 hrow
  have hwd:=hwd' rfl
  obtain ⟨j',μ',hj',hsg',hμ'⟩:=Zay h6 h7 h8
  refine (exA rfl (exA rfl (Zg (by simp) ⟨fun σ' H'=>∃ (vst:V) (u:Option V),σ' = [some (.ref a),some (.ref b),some (.ref l),some (.str t),some (.int i0),some (.ref tp),some (.ref lf),some (.ref ra),some (.ref m),some vst,some (.ref kl),some (.int ((md + i + 1 + 0:Nat):Int)),u]∧MK C m ra ch t n (Y0 p) H' (bk xs9) (md + i + 1:Nat)∧RsA H' kl vst (bk xs9),fun σ' H' hh=>?_,?_⟩)))
  ·obtain ⟨vst',u',h1,h2,h3⟩:=hh
   have hszb:Sz (md + i + 1 + 0) (bk xs9):=Z8t (Nat.le_trans hsz.2.1 (by omega)) fun q hq=>Nat.le_trans (hsz.2.2 q hq) (by omega)
   exact ⟨μ',by omega,vst',u',bk xs9,md + i + 1,j',0,h1,h2,Nat.zero_le _,hj',hsg',h3,hszb,by omega⟩
  refine (exA rfl (exB rfl rfl (exA rfl (ixT hsa at0 ⟨ra,ysx,_,_,rfl,rfl,SqT.of hrax,hat,?_⟩))))
  refine (ixT hrva at0 ⟨rfl,exA rfl (Zg hwd ?_)⟩)
  refine (exA rfl ⟨m,dxM,exA rfl ⟨eM,Z8f _,?_⟩⟩)
  have hT:Tl (Y0 p) t n cf (some w9) i (bk xs9):=⟨xs9,r,rfl⟩
  refine ask (E:=E0) hK hT (fun x e=>by cases e; exact h5) hB (by decide) (fun hc H3 tt hK4 htt g5=>?_) (fun hc=>?_)
  ·have hsa3:=g5.tups _ _ hsa
   refine (ixT hsa3 rfl (ixT hsa3 rfl ⟨sz,fun d hd=>?_⟩))
   have g6:=Gro.new (S:=[]) hd (.tup [.str "way",.int w9.1,gv1])
   obtain ⟨gvt,htt1,htt2⟩:=(show AnsAt H3 tt (some w9) from htt).mono g6.tups
   have hK6:=hK4.gro g6 (by simp) (by simp)
   have hgv6:GsAt (upd H3 d (.tup [.str "way",.int w9.1,gv1])) gv1 w9.2:=(show GsAt H1' gv1 w9.2 from hgv1).mono (fun x y h=>g6.tups _ _ (g5.tups _ _ h))
   refine ⟨_,_,rfl,Z6s htt1 Z3 htt2 hgv6 (by rw [h5.2.len]; omega),exA rfl (Zd (by decide) ?_)⟩
   obtain ⟨M2,st2,hm2⟩:=id hK6
   obtain ⟨⟨dx2,e2⟩,_⟩:=id st2.at_
   refine (exA rfl ⟨m,dx2,exA rfl ⟨e2,Z2m _,m,M2,rfl,st2.at_,exA rfl ⟨_,_,rfl,?_,exA rfl (Zd (by decide) ?_)⟩⟩⟩)
   ·rw [hm2]
    exact Vd
   have hk6:=(hk1.gro g5 klS).gro g6 (by simp)
   refine (exA rfl (exA rfl ⟨.ref sa,kl,xs9,rfl,hk6,Nat.le_trans hsz.2.1 (by omega),fun v' H' hR' g'=>?_⟩))
   exact ⟨v',_,rfl,hK6.gro g' mS cS,hR'⟩
  ·exfalso
   have:(1000000:Int) < ((i + 1:Nat):Int):=hc
   omega
end
section
variable {K:PySem.W.Frag} {mg:Str→Option Value} {h:Heap}
theorem def_mk {x:Str} {st:Stmt} {ps:List Str} {f:Addr} {oc:Value} {od an:Option Addr} {osl:Array (Option Value)} {kV doc pm cdv ct:Value} (X:K.In h) (G:h.Ns mainGlobals mg) (a:PySem.W.nsIn K mainGlobals x = some (some (.ref f)))
  (l:K.lookup f = some ⟨oc,od,.func (PySem.W.fnOf x x (X9 st) (X5 st) (Zb st) .none kV doc pm an cdv ct),osl⟩) (c:PySem.W.codeIn K cdv x = true) (k:PySem.W.keepIn K (.ref f) = true)
  (hb:∀ (kV doc pm:Value) (an:Option Addr) (cdv ct:Value) (us:List Value),us.length = ps.length→bindArgs (PySem.W.fnOf x x (X9 st) (X5 st) (Zb st) .none kV doc pm an cdv ct) ⟨us,[]⟩ = pure (ps.zip us)):Def K mg x st ps :=
 ⟨f,_,Uu (st:=st) l c k,PySem.W.mg_of X G a,(Uu (st:=st) l c k).binds hb⟩
theorem const_mk7 {x:Str} {pl:Addr} {od:Option Addr} {n:Nat} {sl:Array (Option Value)} {x1 x2 x3 x4 x5 x6 x7:Str} {t1 t2 t3 t4 t5 t6 t7:Tok} (X:K.In h) (G:h.Ns mainGlobals mg) (a:PySem.W.nsIn K mainGlobals x = some (some (.ref pl))) (l:K.lookup pl = some ⟨.type "tuple",od,.seq #[.str x1 t1,.str x2 t2,.str x3 t3,.str x4 t4,.str x5 t5,.str x6 t6,.str x7 t7] n,sl⟩) :
  ∃ pl,mg x = some (.ref pl)∧∀ H,SqT K H pl [.str x1,.str x2,.str x3,.str x4,.str x5,.str x6,.str x7]:=⟨pl,PySem.W.mg_of X G a,fun H=>.inr ⟨_,_,n,l,rfl,rfl,sz,(.cons ⟨_,rfl⟩ (.cons ⟨_,rfl⟩ (.cons ⟨_,rfl⟩ (.cons ⟨_,rfl⟩ (.cons ⟨_,rfl⟩ (.cons ⟨_,rfl⟩ (.cons ⟨_,rfl⟩ .nil)))))))⟩⟩
theorem top_mk {l:PySem.W.OpenLaw} {w:World} {fa f:Addr} {oc:Value} {od an:Option Addr} {osl:Array (Option Value)} {kV doc pm cdv ct:Value} (X:K.In h) (G:h.Ns mainGlobals mg) (hfa:mg "law" = some (.ref fa)) (a:PySem.W.nsIn K mainGlobals "law" = some (some (.ref f)))
  (lk:K.lookup f = some ⟨oc,od,.func (PySem.W.fnOf "law" "law" (X9 Uc) (X5 Uc) (Zb Uc) .none kV doc pm an cdv ct),osl⟩) (c:PySem.W.codeIn K cdv "law" = true) (k:PySem.W.keepIn K (.ref f) = true)
  (rest:∀ (base:Heap) (f:Addr) (fd:FuncData),Fun K "law" "law" Uc f fd→FnOk l.prog w K mg base CX0 220 f fd ["_law_script"] (Z38 K)) :
  ∃ fd:FuncData,(∀ (s:Shared) (v:Value),BindsTo s fd ⟨[v],[]⟩ [("_law_script",v)])∧∀ base:Heap,K.In base→base.Ns mainGlobals mg→FnOk l.prog w K mg base CX0 220 fa fd ["_law_script"] (Z38 K):=by
 have e:=hfa.symm.trans (PySem.W.mg_of X G a)
 cases e
 exact ⟨PySem.W.fnOf "law" "law" (X9 Uc) (X5 Uc) (Zb Uc) .none kV doc pm an cdv ct,fun s v=>.of_eq rfl,fun base _ _=>rest base _ _ (Uu (st:=Uc) lk c k)⟩
theorem const_mkD5 {w:World} {x:Str} {pl:Addr} {n:Nat} {h1 h2 h3 h4 h5:Int} {k1 k2 k3 k4 k5 v1 v2 v3 v4 v5:Str} {t1 t2 t3 t4 t5 u1 u2 u3 u4 u5:Tok} (X:K.In h) (G:h.Ns mainGlobals mg) (a:PySem.W.nsIn K mainGlobals x = some (some (.ref pl)))
  (l:K.lookup pl = some ⟨.type "dict",none,.dict #[⟨h1,.str k1 t1,.str v1 u1⟩,⟨h2,.str k2 t2,.str v2 u2⟩,⟨h3,.str k3 t3,.str v3 u3⟩,⟨h4,.str k4 t4,.str v4 u4⟩,⟨h5,.str k5 t5,.str v5 u5⟩] n,#[]⟩) (hd:(pl == sysModules) = false)
  (e:h1 = PyData.keyHash w.params k1∧h2 = PyData.keyHash w.params k2∧h3 = PyData.keyHash w.params k3∧h4 = PyData.keyHash w.params k4∧h5 = PyData.keyHash w.params k5) (nd:([(.inr k1),(.inr k2),(.inr k3),(.inr k4),(.inr k5)]:List Key).Nodup) :
  ∃ pl,mg x = some (.ref pl)∧DcK K w pl [(.inr k1,.str v1),(.inr k2,.str v2),(.inr k3,.str v3),(.inr k4,.str v4),(.inr k5,.str v5)] :=
 ⟨pl,PySem.W.mg_of X G a,dcK_of l hd (.cons (Vl e.1) (.cons (Vl e.2.1) (.cons (Vl e.2.2.1) (.cons (Vl e.2.2.2.1) (.cons (Vl e.2.2.2.2) .nil))))) nd⟩
theorem const_mk2 {x:Str} {pl:Addr} {od:Option Addr} {n:Nat} {sl:Array (Option Value)} {x1 x2:Str} {t1 t2:Tok} (X:K.In h) (G:h.Ns mainGlobals mg) (a:PySem.W.nsIn K mainGlobals x = some (some (.ref pl))) (l:K.lookup pl = some ⟨.type "tuple",od,.seq #[.str x1 t1,.str x2 t2] n,sl⟩) :
  ∃ pl,mg x = some (.ref pl)∧∀ H,SqT K H pl [.str x1,.str x2]:=⟨pl,PySem.W.mg_of X G a,fun H=>.inr ⟨_,_,n,l,rfl,rfl,sz,(.cons ⟨_,rfl⟩ (.cons ⟨_,rfl⟩ .nil))⟩⟩
structure LDefs (K:PySem.W.Frag) (mg:Str→Option Value):Prop where
 back:Def K mg "_law_back" s_l_back ["_law_state", "_law_kept"]
 on:Def K mg "_law_on" s_l_on ["_law_state"]
 turn:Def K mg "_law_turn_row" s_l_turn_row ["_law_row", "_law_state", "_law_kept"]
 look:Def K mg "_law_look_row" s_l_look_row ["_law_row", "_law_state", "_law_kept"]
 held:Def K mg "_law_held_row" s_l_held_row ["_law_row", "_law_state", "_law_kept"]
 move:Def K mg "_law_move" s_l_move ["_law_row", "_law_state", "_law_kept", "_law_text_here"]
theorem law_of {P:Program} {w:World} {C dn:Addr} {ds:List (Key × V)} (T:Blt mg) (MA:MachDefsA K mg C) (X:∀ base,Fx P w K mg base C) (c_DOINGS:mg "DOINGS" = some (.ref dn)) (hDN:DcK K w dn ds) (DD:DoingsA K ds) (PD:PDefs K mg) (QD:QDefs K mg) (LD:LDefs K mg)
  (base:Heap) (f:Addr) (fd:FuncData) (F:Fun K "law" "law" Uc f fd):FnOk P w K mg base CX0 220 f fd ["_law_script"] (Z38 K):=by
 have wc:=Z71 (P:=P) (w:=w) (base:=base) T MA c_DOINGS hDN DD PD.takes_sign PD.lies_in PD.with_entry
 have tk:Own P w K mg base 1 "_law_takes" ["_law_p", "_law_sign_here"] Zal:=QD.l_takes.own fun _ _ F=>Zc9 T F
 have lm:Own P w K mg base 2 "_law_memory" ["_law_p", "_law_text_here", "_law_i", "_law_g", "_law_left"] Zdm:=QD.l_memory.own fun _ _ F=>Zdy T (Z09 QD.l_ways) (Z09 QD.l_behind) F
 have lw:Own P w K mg base 3 "_law_ways" ["_law_p", "_law_text_here", "_law_i", "_law_g", "_law_left"] Zdk:=QD.l_ways.own fun _ _ F=>Zdw T tk (Z09 QD.l_each) (Z09 QD.l_turns) (Z09 QD.l_ways) lm F
 have bk:Own P w K mg base 1 "_law_back" ["_law_state", "_law_kept"] Zan:=LD.back.own fun _ _ F=>Zdz F
 have on:Own P w K mg base 1 "_law_on" ["_law_state"] Zd1:=LD.on.own fun _ _ F=>Zdu F
 have tr:Own P w K mg base 1 "_law_turn_row" ["_law_row", "_law_state", "_law_kept"] Zdi:=LD.turn.own fun _ _ F=>Zdt F
 have hr:Own P w K mg base 2 "_law_held_row" ["_law_row", "_law_state", "_law_kept"] Zdn:=LD.held.own fun _ _ F=>Ze0 bk F
 have lr:Own P w K mg base 2 "_law_look_row" ["_law_row", "_law_state", "_law_kept"] Zdl:=LD.look.own fun _ _ F=>Zdx T bk on F
 have mv:Own P w K mg base 4 "_law_move" ["_law_row", "_law_state", "_law_kept", "_law_text_here"] Zdj:=LD.move.own fun _ _ F=>Zdv bk on tr hr lr lw F
 exact Zcc T MA.base_.tx (X base).letters (X base).take (X base).text (X base).drawn (X base).ways (X base).alike (X base).coded (X base).init wc (X base).moves bk mv F
end
theorem walk {l:PySem.W.OpenLaw} {q:Program} {loose:List Str} {XP:(Str→Option Value)→Heap→Prop} {YP:World→Heap→Prop} {d:DefRec} {K:Params→PySem.W.Frag} (hn:l.most = some 63) (hdf:d.params.defaults = [])
  (hY:∀ (w:World) (h:Heap),YP w h→(K w.params).In h)
  (F:∀ (w:World) (mg:Str→Option Value) (fa:Addr) (h:Heap),(K w.params).In h→h.Ns mainGlobals mg→mg d.name = some (.ref fa) →
   ∃ fd:FuncData,(∀ (s:Shared) (u:Value),BindsTo s fd ⟨[u],[]⟩ [("_law_script",u)])∧∀ base:Heap,(K w.params).In base→base.Ns mainGlobals mg→FnOk l.prog w (K w.params) mg base CX0 220 fa fd ["_law_script"] (Z38 (K w.params))) :
  PySem.W.WalkO q loose XP YP l.row.toRowW d [] (fun f vs=>PySem.call f vs) :=
 L2.walk_of (n:=63) (k:=220) (x := "_law_script") (CX:=fun _=>CX0) (sp:=fun w=>Z38 (K w.params)) hn (by decide) hdf ⟨rfl,by decide,by decide⟩ hY F (fun _ _ a ns hl _ hS=>⟨a,ns,rfl,hS,hl,fun _=>rfl⟩) fun _ _ _ _ _ z=>z
end Seek
namespace PySem.W.Fast
def tw10024360721015750748:=0
def tw1497685223060704453:=0
def tw14949192364024353827:=0
def tw9329554820609046080:=0
def tw16349631318640507635:=0
def tw18033507029660905982:=0
def tw5541304724147795768:=0
def tw14252796085072720742:=0
def tw474929759887370066:=0
def tw17746428019621566516:=0
def tw7751932571794129679:=0
def tw15200698639630054809:=0
def tw12063443429950671492:=0
def tw17875919576812155461:=0
def tw1924208173036550859:=0
def tw8611422434651661568:=0
def tw8671087350005956990:=0
def tw7983980066083896844:=0
def tw3110503184271629344:=0
def tw128316735467204308:=0
def tw15139214863169373625:=0
def tw17201853481112921887:=0
def tw15849150249294303496:=0
def tw3695197345752540367:=0
def tw1347457844998024198:=0
def tw14299980183912426145:=0
def tw6274333424405313761:=0
def tw13023434725626910328:=0
def tw1513789273844757512:=0
def tw1903277480923400516:=0
def tw2082295401926356616:=0
def tw14608604636451094071:=0
def tw8564267805434649727:=0
def tw14727902662249509664:=0
def tw13240572946498692232:=0
def tw2862353081043282171:=0
def tw6300026275656608551:=0
def tw6718089912598950294:=0
def tw1814547700128445873:=0
def tw15328160418290439670:=0
def tw15851025612673837753:=0
def tw10592810372963756142:=0
def tw13018942390789529116:=0
def tw18187730279264047005:=0
def tw16414342075146856938:=0
def tw2458545457858118717:=0
def tw4002697551850387696:=0
def tw16116240455867154118:=0
def tw975816875340651097:=0
def tw13065478122150425077:=0
def tw12513188627521917714:=0
def tw12194182215629233481:=0
def tw11013071751771579143:=0
def tw14302656991867044478:=0
def tw11185451714249984106:=0
def tw8036305800204736417:=0
def tw1461750631865813292:=0
def tw9404213621132442144:=0
def tw2914800517491507743:=0
def tw18440153927602064164:=0
def tw7098730619298094134:=0
def tw4349572812359276983:=0
def tw11735274747129676444:=0
def tw12868490914244094815:=0
def tw6572078452463638297:=0
def tw8992975301622736125:=0
def tw5373006004463869669:=0
def tw4536568130774373214:=0
def tw2431001313777552414:=0
def tw6754896520761684994:=0
def tw2951424677867532739:=0
def tw11810403384146619330:=0
def tw15539532424974534969:=0
def tw17742126539410918768:=0
def tw3870761461616771209:=0
def tw15614526636482348598:=0
def tw6169741522067790162:=0
def tw17160637882907953330:=0
def tw9439575856579501523:=0
def tw13805773143962381763:=0
def tw10877341294251697233:=0
def tw3456979679011553951:=0
def tw7484047418810948107:=0
def tw17928524147662388248:=0
def tw8272561822086727497:=0
def tw18071557807192119215:=0
def tw1814393679965527020:=0
def tw8302425246195946544:=0
def tw4767137164911761195:=0
def tw11263066052037545264:=0
def tw7889880075459216225:=0
def tw12286961940850405952:=0
def tw17733367299976792834:=0
def tw5226610124038471258:=0
def tw9249439286933549686:=0
def tw4246802974018314800:=0
def tw11538811056824615182:=0
def tw9546173405104678225:=0
def tw10170584295743437136:=0
def tw2414011083268432297:=0
def tw16033601758187351841:=0
def tw16802431845762378573:=0
def tw8512998144454385496:=0
def tw4341470836632188526:=0
def tw2428081884726574054:=0
def tw17533968121172041493:=0
def tw16280122098192833617:=0
def tw16665571702026696010:=0
def tw5516062721658182769:=0
def tw15542699814114943551:=0
def tw12265854409229665909:=0
def tw12484856331127749528:=0
def tw3944013128040685460:=0
def tw1092358789327368286:=0
def tw16256433151347090841:=0
def tw6937050490539255440:=0
def tw7823932351495381967:=0
def tw2882356094810894405:=0
def tw10711207856917899465:=0
def tw16988710608426440961:=0
def tw11759937505331426897:=0
def tw7287595854084158157:=0
def tw15961613654062724962:=0
def tw8057745381028610869:=0
def tw4345153517141880061:=0
def tw15326934001204135250:=0
def tw16890619791386741441:=0
def tw11309293740631461136:=0
def tw13386332530412694898:=0
def tw1840718434908278573:=0
def tw18199146780585180709:=0
def tw14369849803714102659:=0
def tw9072463637662749520:=0
def tw5151691026596399654:=0
def tw6638794532966260200:=0
def tw14006800215025298442:=0
def tw6632200175214114224:=0
def tw9020194297611095574:=0
def tw13671761318208417596:=0
def tw12100156809143883040:=0
def tw17337418911158382068:=0
def tw13219729721044689345:=0
def tw245629542947706386:=0
def tw6714612584702798148:=0
def tw7845159329469568183:=0
def tw568701394032292960:=0
def tw9908065096038165888:=0
def tw4110015670139784104:=0
def tw1903380943795858823:=0
def tw4825001102564928315:=0
def tw18376334208685769546:=0
def tw17979077731273232182:=0
def tw7555963109290199227:=0
def tw7769650254722473434:=0
def tw14980920015782891426:=0
def tw10385742554182107583:=0
def tw3351708427958144205:=0
def tw282639511700934472:=0
def tw4409471461045317564:=0
def tw10117189043659247792:=0
def tw1478642650301414962:=0
def tw5910820699862947662:=0
def tw14583899716600679651:=0
def tw18062201871399621377:=0
def tw13446001617903415975:=0
def tw14967230229216406187:=0
def tw6379013262618633987:=0
def tw15099582788215886468:=0
def tw5591913074999393623:=0
def tw9454804680992606309:=0
def tw557983172499064211:=0
def tw15296686761127070637:=0
def tw16955544313412595478:=0
def tw17232237614545885504:=0
def tw8432813935903822107:=0
def tw349636661972739513:=0
def tw10019147558732732423:=0
def tw4187210972197595213:=0
def tw4163279166513050846:=0
def tw11057252367765014980:=0
def tw8428164579074481373:=0
def tw17829078877329804517:=0
def tw889282842573366751:=0
def tw16616727204429785657:=0
def tw15794635063481233984:=0
def tw11073717064859904974:=0
def tw10453305165504467794:=0
def tw10876782172272996624:=0
def tw3987496887911469176:=0
def tw16653799939003569067:=0
def tw2124738407065539421:=0
def tw15578256711938929500:=0
def tw16925596407731870734:=0
def tw11219264467771022691:=0
def tw13545451449750543172:=0
def tw1651124419913977072:=0
def tw4577928405094497112:=0
def tw10156334765935588951:=0
def tw4948431826326768976:=0
def tw3010486331017300289:=0
def tw13100608036587671850:=0
def tw1375175368164322706:=0
def tw7446558862488583576:=0
def tw2921945081917819571:=0
def tw16661261069828193310:=0
def tw13992732283319374754:=0
def tw12464061355958061276:=0
end PySem.W.Fast
open PySem PySem.W PyProof.Rows
set_option maxRecDepth 100000 in
set_option maxHeartbeats 0 in
theorem PySem.Challenge.cw_seek_k27_moves_of_all_rows_holds : PySem.Challenge.rw_seek_k27_moves_of_all_rows.Holds := by
 w_on; o_law; k_head; (case hw=>w_witness2)
 k_fill
 refine Seek.walk (l:=PySem.Challenge.rw_seek_k27_moves_of_all_rows) rfl rfl (fun w h Y=>PySem.W.kIn_of Y) ?F
 case F =>
  intro w mg fa h KX G hmg
  have z:∀ {x:Str} {K:PySem.W.Frag},K.In h→PySem.W.nsIn K mainGlobals x = some none→mg x = none:=fun X e=>PySem.W.mg_none_of X G e
  have T:Seek.Blt mg:=by
   refine' ⟨z KX ?b1,z KX ?b2,z KX ?b3,z KX ?b4,z KX ?b5,z KX ?b6,z KX ?b7,z KX ?b8,z KX ?b9,z KX ?b10,z KX ?b11,z KX ?b12,z KX ?b13⟩
   (case b1=>k_is); (case b2=>k_is); (case b3=>k_is); (case b4=>k_is); (case b5=>k_is); (case b6=>k_is); (case b7=>k_is); (case b8=>k_is); (case b9=>k_is); (case b10=>k_is); (case b11=>k_is); (case b12=>k_is); (case b13=>k_is)
  have mc:∃ C,Seek.MachDefsA (L2.KOf KX) mg C:=by
   dsimp only [L2.KOf]
   exact (by
   refine' ⟨_,⟨⟨PySem.W.mg_of KX G ?aC,Seek.txt_mk ?pg ?hd ?po ?sa ?na1 ?na2 ?na3 ?na4 ?na5 ?na6 ?na7 ?na8 ?na9 ?na10,?mk,?kc,Seek.mdef_mk (m := "__init__") (qual := "Machine.__init__") (st:=Seek.s_Machine___init__) (ps:=["self", "rows", "text", "at"]) ?m0a ?m0i ?m0l ?m0c ?m0k (fun _ _ _ _ _ _ us hl=>match us,hl with | [_,_,_,_],_=>rfl),Seek.mdef_mk (m := "way") (qual := "Machine.way") (st:=Seek.s_Machine_way) (ps:=["self", "most"]) ?m1a ?m1i ?m1l ?m1c ?m1k (fun _ _ _ _ _ _ us hl=>match us,hl with | [_,_],_=>rfl),Seek.mdef_mk (m := "moves") (qual := "Machine.moves") (st:=Seek.s_Machine_moves) (ps:=["self"]) ?m2a ?m2i ?m2l ?m2c ?m2k (fun _ _ _ _ _ _ us hl=>match us,hl with | [_],_=>rfl),Seek.mdef_mk (m := "move") (qual := "Machine.move") (st:=Seek.s_Machine_move) (ps:=["self"]) ?m3a ?m3i ?m3l ?m3c ?m3k (fun _ _ _ _ _ _ us hl=>match us,hl with | [_],_=>rfl),Seek.mdef_mk (m := "enter") (qual := "Machine.enter") (st:=Seek.s_Machine_enter) (ps:=["self", "state"]) ?m4a ?m4i ?m4l ?m4c ?m4k (fun _ _ _ _ _ _ us hl=>match us,hl with | [_,_],_=>rfl),Seek.mdef_mk (m := "go_back") (qual := "Machine.go_back") (st:=Seek.s_Machine_go_back) (ps:=["self"]) ?m5a ?m5i ?m5l ?m5c ?m5k (fun _ _ _ _ _ _ us hl=>match us,hl with | [_],_=>rfl)⟩,Seek.mdef_mk (m := "hold") (qual := "Machine.hold") (st:=Seek.s_Machine_hold) (ps:=["self", "number"]) ?m10a ?m10i ?m10l ?m10c ?m10k (fun _ _ _ _ _ _ us hl=>match us,hl with | [_,_],_=>rfl),Seek.mdef_mk (m := "let_go") (qual := "Machine.let_go") (st:=Seek.s_Machine_let_go) (ps:=["self"]) ?m11a ?m11i ?m11l ?m11c ?m11k (fun _ _ _ _ _ _ us hl=>match us,hl with | [_],_=>rfl),Seek.mdef_mk (m := "drop_choices") (qual := "Machine.drop_choices") (st:=Seek.s_Machine_drop_choices) (ps:=["self", "size"]) ?m12a ?m12i ?m12l ?m12c ?m12k (fun _ _ _ _ _ _ us hl=>match us,hl with | [_,_],_=>rfl),Seek.mdef_mk (m := "entry") (qual := "Machine.entry") (st:=Seek.s_Machine_entry) (ps:=["self", "number"]) ?m13a ?m13i ?m13l ?m13c ?m13k (fun _ _ _ _ _ _ us hl=>match us,hl with | [_,_],_=>rfl)⟩⟩
   (case aC=>k_is); (case pg=>k_is); (case hd=>k_is); (case po=>k_is); (case sa=>k_is); (case na1=>k_is); (case na2=>k_is); (case na3=>k_is); (case na4=>k_is); (case na5=>k_is); (case na6=>k_is); (case na7=>k_is); (case na8=>k_is); (case na9=>k_is); (case na10=>k_is); (case mk=>k_is); (case kc=>k_is); (case m0a=>k_is); (case m0i=>k_is); (case m0l=>k_is); (case m0c=>k_is); (case m0k=>k_is); (case m1a=>k_is); (case m1i=>k_is); (case m1l=>k_is); (case m1c=>k_is); (case m1k=>k_is); (case m2a=>k_is); (case m2i=>k_is); (case m2l=>k_is); (case m2c=>k_is); (case m2k=>k_is); (case m3a=>k_is); (case m3i=>k_is); (case m3l=>k_is); (case m3c=>k_is); (case m3k=>k_is); (case m4a=>k_is); (case m4i=>k_is); (case m4l=>k_is); (case m4c=>k_is); (case m4k=>k_is); (case m5a=>k_is); (case m5i=>k_is); (case m5l=>k_is); (case m5c=>k_is); (case m5k=>k_is); (case m10a=>k_is); (case m10i=>k_is); (case m10l=>k_is); (case m10c=>k_is); (case m10k=>k_is); (case m11a=>k_is); (case m11i=>k_is); (case m11l=>k_is); (case m11c=>k_is); (case m11k=>k_is); (case m12a=>k_is); (case m12i=>k_is); (case m12l=>k_is); (case m12c=>k_is); (case m12k=>k_is); (case m13a=>k_is); (case m13i=>k_is); (case m13l=>k_is); (case m13c=>k_is); (case m13k=>k_is))
  have dc:∃ dn ds,mg "DOINGS" = some (.ref dn)∧L2.DcK (L2.KOf KX) w dn ds∧Seek.DoingsA (L2.KOf KX) ds:=by
   dsimp only [L2.KOf]
   exact (by
   refine' ⟨_,_,PySem.W.mg_of KX G ?da,L2.dcK_of ?dl ?dd ?dp ?dn,?dq⟩
   (case da=>k_is); (case dl=>k_is); (case dd=>decide); (case dp=>exact .cons (Seek.dent_ref rfl) (.cons (Seek.dent_ref rfl) (.cons (Seek.dent_ref rfl) (.cons (Seek.dent_ref rfl) (.cons (Seek.dent_ref rfl) (.cons (Seek.dent_ref rfl) (.cons (Seek.dent_ref rfl) (.cons (Seek.dent_ref rfl) (.cons (Seek.dent_ref rfl) (.cons (Seek.dent_ref rfl) (.cons (Seek.dent_ref rfl) (.cons (Seek.dent_ref rfl) (.cons (Seek.dent_ref rfl) (.cons (Seek.dent_ref rfl) (.cons (Seek.dent_ref rfl) (.cons (Seek.dent_ref rfl) (.cons (Seek.dent_ref rfl) (.cons (Seek.dent_ref rfl) (.cons (Seek.dent_ref rfl) (.cons (Seek.dent_ref rfl) (.cons (Seek.dent_ref rfl) (.cons (Seek.dent_ref rfl) (.cons (Seek.dent_ref rfl) (.nil)))))))))))))))))))))))); (case dn=>decide +kernel)
   refine' ⟨?w1,?w2,?w3,?w4,?w5,?w6,?w7,?w8,?w9,?w10,?w11,?w12,?w13,?w14,?w15,?w16,?w17,?w18,?w19,?w20,?w21,?w22,?w23⟩
   (case w1=>refine' Seek.dn_mk (x := "do_sign") (st:=Seek.s_do_sign) (ps:=["machine", "row"]) ?v ?l ?c ?k (fun _ _ _ _ _ _ us hl=>match us,hl with | [_,_],_=>rfl); (case v=>with_unfolding_all rfl); (case l=>k_is); (case c=>k_is); (case k=>k_is))
   (case w2=>refine' Seek.dn_mk (x := "do_sign") (st:=Seek.s_do_sign) (ps:=["machine", "row"]) ?v ?l ?c ?k (fun _ _ _ _ _ _ us hl=>match us,hl with | [_,_],_=>rfl); (case v=>with_unfolding_all rfl); (case l=>k_is); (case c=>k_is); (case k=>k_is))
   (case w3=>refine' Seek.dn_mk (x := "do_sign") (st:=Seek.s_do_sign) (ps:=["machine", "row"]) ?v ?l ?c ?k (fun _ _ _ _ _ _ us hl=>match us,hl with | [_,_],_=>rfl); (case v=>with_unfolding_all rfl); (case l=>k_is); (case c=>k_is); (case k=>k_is))
   (case w4=>refine' Seek.dn_mk (x := "do_sign") (st:=Seek.s_do_sign) (ps:=["machine", "row"]) ?v ?l ?c ?k (fun _ _ _ _ _ _ us hl=>match us,hl with | [_,_],_=>rfl); (case v=>with_unfolding_all rfl); (case l=>k_is); (case c=>k_is); (case k=>k_is))
   (case w5=>refine' Seek.dn_mk (x := "do_begin") (st:=Seek.s_do_begin) (ps:=["machine", "row"]) ?v ?l ?c ?k (fun _ _ _ _ _ _ us hl=>match us,hl with | [_,_],_=>rfl); (case v=>with_unfolding_all rfl); (case l=>k_is); (case c=>k_is); (case k=>k_is))
   (case w6=>refine' Seek.dn_mk (x := "do_end") (st:=Seek.s_do_end) (ps:=["machine", "row"]) ?v ?l ?c ?k (fun _ _ _ _ _ _ us hl=>match us,hl with | [_,_],_=>rfl); (case v=>with_unfolding_all rfl); (case l=>k_is); (case c=>k_is); (case k=>k_is))
   (case w7=>refine' Seek.dn_mk (x := "do_again") (st:=Seek.s_do_again) (ps:=["machine", "row"]) ?v ?l ?c ?k (fun _ _ _ _ _ _ us hl=>match us,hl with | [_,_],_=>rfl); (case v=>with_unfolding_all rfl); (case l=>k_is); (case c=>k_is); (case k=>k_is))
   (case w8=>refine' Seek.dn_mk (x := "do_try") (st:=Seek.s_do_try) (ps:=["machine", "row"]) ?v ?l ?c ?k (fun _ _ _ _ _ _ us hl=>match us,hl with | [_,_],_=>rfl); (case v=>with_unfolding_all rfl); (case l=>k_is); (case c=>k_is); (case k=>k_is))
   (case w9=>refine' Seek.dn_mk (x := "do_go") (st:=Seek.s_do_go) (ps:=["machine", "row"]) ?v ?l ?c ?k (fun _ _ _ _ _ _ us hl=>match us,hl with | [_,_],_=>rfl); (case v=>with_unfolding_all rfl); (case l=>k_is); (case c=>k_is); (case k=>k_is))
   (case w10=>refine' Seek.dn_mk (x := "do_have") (st:=Seek.s_do_have) (ps:=["machine", "row"]) ?v ?l ?c ?k (fun _ _ _ _ _ _ us hl=>match us,hl with | [_,_],_=>rfl); (case v=>with_unfolding_all rfl); (case l=>k_is); (case c=>k_is); (case k=>k_is))
   (case w11=>refine' Seek.dn_mk (x := "do_hold") (st:=Seek.s_do_hold) (ps:=["machine", "row"]) ?v ?l ?c ?k (fun _ _ _ _ _ _ us hl=>match us,hl with | [_,_],_=>rfl); (case v=>with_unfolding_all rfl); (case l=>k_is); (case c=>k_is); (case k=>k_is))
   (case w12=>refine' Seek.dn_mk (x := "do_hold") (st:=Seek.s_do_hold) (ps:=["machine", "row"]) ?v ?l ?c ?k (fun _ _ _ _ _ _ us hl=>match us,hl with | [_,_],_=>rfl); (case v=>with_unfolding_all rfl); (case l=>k_is); (case c=>k_is); (case k=>k_is))
   (case w13=>refine' Seek.dn_mk (x := "do_close") (st:=Seek.s_do_close) (ps:=["machine", "row"]) ?v ?l ?c ?k (fun _ _ _ _ _ _ us hl=>match us,hl with | [_,_],_=>rfl); (case v=>with_unfolding_all rfl); (case l=>k_is); (case c=>k_is); (case k=>k_is))
   (case w14=>refine' Seek.dn_mk (x := "do_turn") (st:=Seek.s_do_turn) (ps:=["machine", "row"]) ?v ?l ?c ?k (fun _ _ _ _ _ _ us hl=>match us,hl with | [_,_],_=>rfl); (case v=>with_unfolding_all rfl); (case l=>k_is); (case c=>k_is); (case k=>k_is))
   (case w15=>refine' Seek.dn_mk (x := "do_next") (st:=Seek.s_do_next) (ps:=["machine", "row"]) ?v ?l ?c ?k (fun _ _ _ _ _ _ us hl=>match us,hl with | [_,_],_=>rfl); (case v=>with_unfolding_all rfl); (case l=>k_is); (case c=>k_is); (case k=>k_is))
   (case w16=>refine' Seek.dn_mk (x := "do_once") (st:=Seek.s_do_once) (ps:=["machine", "row"]) ?v ?l ?c ?k (fun _ _ _ _ _ _ us hl=>match us,hl with | [_,_],_=>rfl); (case v=>with_unfolding_all rfl); (case l=>k_is); (case c=>k_is); (case k=>k_is))
   (case w17=>refine' Seek.dn_mk (x := "do_kept") (st:=Seek.s_do_kept) (ps:=["machine", "row"]) ?v ?l ?c ?k (fun _ _ _ _ _ _ us hl=>match us,hl with | [_,_],_=>rfl); (case v=>with_unfolding_all rfl); (case l=>k_is); (case c=>k_is); (case k=>k_is))
   (case w18=>refine' Seek.dn_mk (x := "do_peeked") (st:=Seek.s_do_peeked) (ps:=["machine", "row"]) ?v ?l ?c ?k (fun _ _ _ _ _ _ us hl=>match us,hl with | [_,_],_=>rfl); (case v=>with_unfolding_all rfl); (case l=>k_is); (case c=>k_is); (case k=>k_is))
   (case w19=>refine' Seek.dn_mk (x := "do_bar") (st:=Seek.s_do_bar) (ps:=["machine", "row"]) ?v ?l ?c ?k (fun _ _ _ _ _ _ us hl=>match us,hl with | [_,_],_=>rfl); (case v=>with_unfolding_all rfl); (case l=>k_is); (case c=>k_is); (case k=>k_is))
   (case w20=>refine' Seek.dn_mk (x := "do_barred") (st:=Seek.s_do_barred) (ps:=["machine", "row"]) ?v ?l ?c ?k (fun _ _ _ _ _ _ us hl=>match us,hl with | [_,_],_=>rfl); (case v=>with_unfolding_all rfl); (case l=>k_is); (case c=>k_is); (case k=>k_is))
   (case w21=>refine' Seek.dn_mk (x := "do_lean") (st:=Seek.s_do_lean) (ps:=["machine", "row"]) ?v ?l ?c ?k (fun _ _ _ _ _ _ us hl=>match us,hl with | [_,_],_=>rfl); (case v=>with_unfolding_all rfl); (case l=>k_is); (case c=>k_is); (case k=>k_is))
   (case w22=>refine' Seek.dn_mk (x := "do_here") (st:=Seek.s_do_here) (ps:=["machine", "row"]) ?v ?l ?c ?k (fun _ _ _ _ _ _ us hl=>match us,hl with | [_,_],_=>rfl); (case v=>with_unfolding_all rfl); (case l=>k_is); (case c=>k_is); (case k=>k_is))
   (case w23=>refine' Seek.dn_mk (x := "do_found") (st:=Seek.s_do_found) (ps:=["machine", "row"]) ?v ?l ?c ?k (fun _ _ _ _ _ _ us hl=>match us,hl with | [_,_],_=>rfl); (case v=>with_unfolding_all rfl); (case l=>k_is); (case c=>k_is); (case k=>k_is)))
  have p0:=(by
   refine' Seek.def_mk (x := "coded") (st:=Seek.s_coded) (ps:=["pattern"]) KX G ?a ?l ?c ?k (fun _ _ _ _ _ _ us hl=>match us,hl with | [_],_=>rfl)
   (case a=>k_is); (case l=>k_is); (case c=>k_is); (case k=>k_is))
  have p1:=(by
   refine' Seek.def_mk (x := "put") (st:=Seek.s_put) (ps:=["rows", "pattern"]) KX G ?a ?l ?c ?k (fun _ _ _ _ _ _ us hl=>match us,hl with | [_,_],_=>rfl)
   (case a=>k_is); (case l=>k_is); (case c=>k_is); (case k=>k_is))
  have p2:=(by
   refine' Seek.def_mk (x := "hold_place") (st:=Seek.s_hold_place) (ps:=["rows"]) KX G ?a ?l ?c ?k (fun _ _ _ _ _ _ us hl=>match us,hl with | [_],_=>rfl)
   (case a=>k_is); (case l=>k_is); (case c=>k_is); (case k=>k_is))
  have p3:=(by
   refine' Seek.def_mk (x := "put_or") (st:=Seek.s_put_or) (ps:=["rows", "branches"]) KX G ?a ?l ?c ?k (fun _ _ _ _ _ _ us hl=>match us,hl with | [_,_],_=>rfl)
   (case a=>k_is); (case l=>k_is); (case c=>k_is); (case k=>k_is))
  have p4:=(by
   refine' Seek.def_mk (x := "put_times") (st:=Seek.s_put_times) (ps:=["rows", "low", "high", "how", "part"]) KX G ?a ?l ?c ?k (fun _ _ _ _ _ _ us hl=>match us,hl with | [_,_,_,_,_],_=>rfl)
   (case a=>k_is); (case l=>k_is); (case c=>k_is); (case k=>k_is))
  have p5:=(by
   refine' Seek.def_mk (x := "put_have") (st:=Seek.s_put_have) (ps:=["rows", "number", "yes", "no"]) KX G ?a ?l ?c ?k (fun _ _ _ _ _ _ us hl=>match us,hl with | [_,_,_,_],_=>rfl)
   (case a=>k_is); (case l=>k_is); (case c=>k_is); (case k=>k_is))
  have p6:=(by
   refine' Seek.def_mk (x := "put_look") (st:=Seek.s_put_look) (ps:=["rows", "kind", "part"]) KX G ?a ?l ?c ?k (fun _ _ _ _ _ _ us hl=>match us,hl with | [_,_,_],_=>rfl)
   (case a=>k_is); (case l=>k_is); (case c=>k_is); (case k=>k_is))
  have p7:=(by
   refine' Seek.def_mk (x := "takes_sign") (st:=Seek.s_takes_sign) (ps:=["row", "text", "at"]) KX G ?a ?l ?c ?k (fun _ _ _ _ _ _ us hl=>match us,hl with | [_,_,_],_=>rfl)
   (case a=>k_is); (case l=>k_is); (case c=>k_is); (case k=>k_is))
  have p8:=(by
   refine' Seek.def_mk (x := "lies_in") (st:=Seek.s_lies_in) (ps:=["runs", "sign"]) KX G ?a ?l ?c ?k (fun _ _ _ _ _ _ us hl=>match us,hl with | [_,_],_=>rfl)
   (case a=>k_is); (case l=>k_is); (case c=>k_is); (case k=>k_is))
  have p9:=(by
   refine' Seek.def_mk (x := "with_entry") (st:=Seek.s_with_entry) (ps:=["groups", "number", "begin", "end"]) KX G ?a ?l ?c ?k (fun _ _ _ _ _ _ us hl=>match us,hl with | [_,_,_,_],_=>rfl)
   (case a=>k_is); (case l=>k_is); (case c=>k_is); (case k=>k_is))
  have q0:=(by
   refine' Seek.def_mk (x := "_law_take") (st:=Seek.s_l_take) (ps:=["_law_box", "_law_many"]) KX G ?a ?l ?c ?k (fun _ _ _ _ _ _ us hl=>match us,hl with | [_,_],_=>rfl)
   (case a=>k_is); (case l=>k_is); (case c=>k_is); (case k=>k_is))
  have q1:=(by
   refine' Seek.def_mk (x := "_law_sign") (st:=Seek.s_l_sign) (ps:=["_law_cell"]) KX G ?a ?l ?c ?k (fun _ _ _ _ _ _ us hl=>match us,hl with | [_],_=>rfl)
   (case a=>k_is); (case l=>k_is); (case c=>k_is); (case k=>k_is))
  have q2:=(by
   refine' Seek.def_mk (x := "_law_letters") (st:=Seek.s_l_letters) (ps:=["_law_box"]) KX G ?a ?l ?c ?k (fun _ _ _ _ _ _ us hl=>match us,hl with | [_],_=>rfl)
   (case a=>k_is); (case l=>k_is); (case c=>k_is); (case k=>k_is))
  have q3:=(by
   refine' Seek.def_mk (x := "_law_runs") (st:=Seek.s_l_runs) (ps:=["_law_box", "_law_letters_here"]) KX G ?a ?l ?c ?k (fun _ _ _ _ _ _ us hl=>match us,hl with | [_,_],_=>rfl)
   (case a=>k_is); (case l=>k_is); (case c=>k_is); (case k=>k_is))
  have q4:=(by
   refine' Seek.def_mk (x := "_law_leaf") (st:=Seek.s_l_leaf) (ps:=["_law_box", "_law_letters_here", "_law_count"]) KX G ?a ?l ?c ?k (fun _ _ _ _ _ _ us hl=>match us,hl with | [_,_,_],_=>rfl)
   (case a=>k_is); (case l=>k_is); (case c=>k_is); (case k=>k_is))
  have q5:=(by
   refine' Seek.def_mk (x := "_law_parts") (st:=Seek.s_l_parts) (ps:=["_law_box", "_law_letters_here", "_law_count", "_law_deep", "_law_word"]) KX G ?a ?l ?c ?k (fun _ _ _ _ _ _ us hl=>match us,hl with | [_,_,_,_,_],_=>rfl)
   (case a=>k_is); (case l=>k_is); (case c=>k_is); (case k=>k_is))
  have q6:=(by
   refine' Seek.def_mk (x := "_law_times") (st:=Seek.s_l_times) (ps:=["_law_box", "_law_letters_here", "_law_count", "_law_deep"]) KX G ?a ?l ?c ?k (fun _ _ _ _ _ _ us hl=>match us,hl with | [_,_,_,_],_=>rfl)
   (case a=>k_is); (case l=>k_is); (case c=>k_is); (case k=>k_is))
  have q7:=(by
   refine' Seek.def_mk (x := "_law_pattern") (st:=Seek.s_l_pattern) (ps:=["_law_box", "_law_letters_here", "_law_count", "_law_deep"]) KX G ?a ?l ?c ?k (fun _ _ _ _ _ _ us hl=>match us,hl with | [_,_,_,_],_=>rfl)
   (case a=>k_is); (case l=>k_is); (case c=>k_is); (case k=>k_is))
  have q8:=(by
   refine' Seek.def_mk (x := "_law_drawn") (st:=Seek.s_l_drawn) (ps:=["_law_box", "_law_letters_here", "_law_plain"]) KX G ?a ?l ?c ?k (fun _ _ _ _ _ _ us hl=>match us,hl with | [_,_,_],_=>rfl)
   (case a=>k_is); (case l=>k_is); (case c=>k_is); (case k=>k_is))
  have q9:=(by
   refine' Seek.def_mk (x := "_law_text") (st:=Seek.s_l_text) (ps:=["_law_box", "_law_letters_here", "_law_size"]) KX G ?a ?l ?c ?k (fun _ _ _ _ _ _ us hl=>match us,hl with | [_,_,_],_=>rfl)
   (case a=>k_is); (case l=>k_is); (case c=>k_is); (case k=>k_is))
  have q10:=(by
   refine' Seek.def_mk (x := "_law_takes") (st:=Seek.s_l_takes) (ps:=["_law_p", "_law_sign_here"]) KX G ?a ?l ?c ?k (fun _ _ _ _ _ _ us hl=>match us,hl with | [_,_],_=>rfl)
   (case a=>k_is); (case l=>k_is); (case c=>k_is); (case k=>k_is))
  have q11:=(by
   refine' Seek.def_mk (x := "_law_each") (st:=Seek.s_l_each) (ps:=["_law_part", "_law_text_here", "_law_ways_here", "_law_left"]) KX G ?a ?l ?c ?k (fun _ _ _ _ _ _ us hl=>match us,hl with | [_,_,_,_],_=>rfl)
   (case a=>k_is); (case l=>k_is); (case c=>k_is); (case k=>k_is))
  have q12:=(by
   refine' Seek.def_mk (x := "_law_turns") (st:=Seek.s_l_turns) (ps:=["_law_p", "_law_text_here", "_law_n", "_law_j", "_law_g", "_law_left"]) KX G ?a ?l ?c ?k (fun _ _ _ _ _ _ us hl=>match us,hl with | [_,_,_,_,_,_],_=>rfl)
   (case a=>k_is); (case l=>k_is); (case c=>k_is); (case k=>k_is))
  have q13:=(by
   refine' Seek.def_mk (x := "_law_behind") (st:=Seek.s_l_behind) (ps:=["_law_p", "_law_text_here", "_law_i", "_law_g", "_law_left"]) KX G ?a ?l ?c ?k (fun _ _ _ _ _ _ us hl=>match us,hl with | [_,_,_,_,_],_=>rfl)
   (case a=>k_is); (case l=>k_is); (case c=>k_is); (case k=>k_is))
  have q14:=(by
   refine' Seek.def_mk (x := "_law_memory") (st:=Seek.s_l_memory) (ps:=["_law_p", "_law_text_here", "_law_i", "_law_g", "_law_left"]) KX G ?a ?l ?c ?k (fun _ _ _ _ _ _ us hl=>match us,hl with | [_,_,_,_,_],_=>rfl)
   (case a=>k_is); (case l=>k_is); (case c=>k_is); (case k=>k_is))
  have q15:=(by
   refine' Seek.def_mk (x := "_law_ways") (st:=Seek.s_l_ways) (ps:=["_law_p", "_law_text_here", "_law_i", "_law_g", "_law_left"]) KX G ?a ?l ?c ?k (fun _ _ _ _ _ _ us hl=>match us,hl with | [_,_,_,_,_],_=>rfl)
   (case a=>k_is); (case l=>k_is); (case c=>k_is); (case k=>k_is))
  have q16:=(by
   refine' Seek.def_mk (x := "_law_alike") (st:=Seek.s_l_alike) (ps:=["_law_found", "_law_due"]) KX G ?a ?l ?c ?k (fun _ _ _ _ _ _ us hl=>match us,hl with | [_,_],_=>rfl)
   (case a=>k_is); (case l=>k_is); (case c=>k_is); (case k=>k_is))
  have l0:=(by
   refine' Seek.def_mk (x := "_law_back") (st:=Seek.s_l_back) (ps:=["_law_state", "_law_kept"]) KX G ?a ?l ?c ?k (fun _ _ _ _ _ _ us hl=>match us,hl with | [_,_],_=>rfl)
   (case a=>k_is); (case l=>k_is); (case c=>k_is); (case k=>k_is))
  have l1:=(by
   refine' Seek.def_mk (x := "_law_on") (st:=Seek.s_l_on) (ps:=["_law_state"]) KX G ?a ?l ?c ?k (fun _ _ _ _ _ _ us hl=>match us,hl with | [_],_=>rfl)
   (case a=>k_is); (case l=>k_is); (case c=>k_is); (case k=>k_is))
  have l2:=(by
   refine' Seek.def_mk (x := "_law_turn_row") (st:=Seek.s_l_turn_row) (ps:=["_law_row", "_law_state", "_law_kept"]) KX G ?a ?l ?c ?k (fun _ _ _ _ _ _ us hl=>match us,hl with | [_,_,_],_=>rfl)
   (case a=>k_is); (case l=>k_is); (case c=>k_is); (case k=>k_is))
  have l3:=(by
   refine' Seek.def_mk (x := "_law_look_row") (st:=Seek.s_l_look_row) (ps:=["_law_row", "_law_state", "_law_kept"]) KX G ?a ?l ?c ?k (fun _ _ _ _ _ _ us hl=>match us,hl with | [_,_,_],_=>rfl)
   (case a=>k_is); (case l=>k_is); (case c=>k_is); (case k=>k_is))
  have l4:=(by
   refine' Seek.def_mk (x := "_law_held_row") (st:=Seek.s_l_held_row) (ps:=["_law_row", "_law_state", "_law_kept"]) KX G ?a ?l ?c ?k (fun _ _ _ _ _ _ us hl=>match us,hl with | [_,_,_],_=>rfl)
   (case a=>k_is); (case l=>k_is); (case c=>k_is); (case k=>k_is))
  have l5:=(by
   refine' Seek.def_mk (x := "_law_move") (st:=Seek.s_l_move) (ps:=["_law_row", "_law_state", "_law_kept", "_law_text_here"]) KX G ?a ?l ?c ?k (fun _ _ _ _ _ _ us hl=>match us,hl with | [_,_,_,_],_=>rfl)
   (case a=>k_is); (case l=>k_is); (case c=>k_is); (case k=>k_is))
  have c1:∃ pl,mg "ITSELF" = some (.ref pl)∧∀ H,L2.SqT (L2.KOf KX) H pl Seek.itself:=by
   dsimp only [L2.KOf]
   refine' Seek.const_mk7 KX G ?a ?l
   (case a=>k_is); (case l=>k_is)
  have c2:∃ pl,mg "LEANING" = some (.ref pl)∧∀ H,L2.SqT (L2.KOf KX) H pl Seek.leaning:=by
   dsimp only [L2.KOf]
   refine' Seek.const_mk2 KX G ?a ?l
   (case a=>k_is); (case l=>k_is)
  have c3:∃ pl,mg "LAST_ROWS" = some (.ref pl)∧L2.DcK (L2.KOf KX) w pl Seek.lastRows:=by
   dsimp only [L2.KOf]
   refine' Seek.const_mkD5 KX G ?a ?l ?d ?e ?n
   (case a=>k_is); (case l=>k_is); (case d=>decide); (case e=>exact ⟨rfl,rfl,rfl,rfl,rfl⟩); (case n=>decide +kernel)
  obtain ⟨it,hit,hIT⟩:=c1
  obtain ⟨le,hle,hLE⟩:=c2
  obtain ⟨ls,hls,hLS⟩:=c3
  obtain ⟨C,MA⟩:=mc
  obtain ⟨dn,ds,hdn,hDN,DD⟩:=dc
  have PD:Seek.PDefs (L2.KOf KX) mg:=⟨p0,p1,p2,p3,p4,p5,p6,p7,p8,p9⟩
  have QD:Seek.QDefs (L2.KOf KX) mg:=⟨q0,q1,q2,q3,q4,q5,q6,q7,q8,q9,q10,q11,q12,q13,q14,q15,q16⟩
  refine' Seek.top_mk KX G hmg ?a ?l ?c ?k (Seek.law_of T MA (fun base=>Seek.fx_of T hit hIT hle hLE hls hLS hdn hDN DD MA PD QD) hdn hDN DD PD QD ⟨l0,l1,l2,l3,l4,l5⟩)
  (case a=>k_is); (case l=>k_is); (case c=>k_is); (case k=>k_is)