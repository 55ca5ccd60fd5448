import PyProof.Rows.All
import Wide.All
import OpenK.AllK
import Wide.FinOn
import Lean
import PyProof.EqAt
import PyProof.EqKinds
import PyProof.TupleCall
import PyProof.StrLawsIdx
import PySem.Challenge.RW_seek_k12_looks
set_option Elab.async false
set_option linter.all false
set_option maxRecDepth 100000
set_option maxHeartbeats 4000000
namespace L2
open PySem PySem.Spec PyProof.Rows
abbrev Key:=Sum Int Str
def Z06:Key→Value→Bool
 | .inl k,v=>Value.isInt k v
 | .inr x,v=>Value.isStrOf x v
def Zce (w:World):Key→Int
 | .inl k=>hashInt k
 | .inr x=>hashStr w x
theorem Y5:∀ {k:Key} {v:Value},Z06 k v = true→(∃ i t,k = Sum.inl i∧v = Value.int i t) ∨ (∃ x t,k = Sum.inr x∧v = Value.str x t)
 | .inl i,v,h=>by
  obtain ⟨t,e⟩:=Value.isInt_shape (k:=i) (v:=v) h
  exact .inl ⟨i,t,rfl,e⟩
 | .inr x,v,h=>by
  obtain ⟨t,e⟩:=Value.isStrOf_shape (x:=x) (v:=v) h
  exact .inr ⟨x,t,rfl,e⟩
theorem Z4h (i:Int) (t:Tok):Z06 (.inl i) (.int i t) = true:=by simp [Z06,Value.isInt]
theorem Vh (x:Str) (t:Tok):Z06 (.inr x) (.str x t) = true:=by simp [Z06,Value.isStrOf]
theorem Zao (a b:Int):decide ((Sum.inl a:Key) = Sum.inl b) = (a == b):=by
 by_cases e:a = b
 ·subst e; simp
 ·have h:¬ (Sum.inl a:Key) = Sum.inl b:=fun q=>e (Sum.inl.inj q)
  rw [decide_eq_false h]
  exact (beq_eq_false_iff_ne.mpr e).symm
theorem Zal (a b:Str):decide ((Sum.inr a:Key) = Sum.inr b) = decide (a = b):=by
 by_cases e:a = b
 ·subst e; simp
 ·have h:¬ (Sum.inr a:Key) = Sum.inr b:=fun q=>e (Sum.inr.inj q)
  rw [decide_eq_false h,decide_eq_false e]
theorem Zan (a:Int) (b:Str):decide ((Sum.inl a:Key) = Sum.inr b) = false:=decide_eq_false (fun q=>nomatch q)
theorem Zam (a:Str) (b:Int):decide ((Sum.inr a:Key) = Sum.inl b) = false:=decide_eq_false (fun q=>nomatch q)
def X8 (prog:Program) (w:World):PySem.KeyKind prog w Key where
 is:=Z06
 hash:=Zce w
 inj:=fun v a b ha hb=>by
  rcases Y5 ha with ⟨i,t,rfl,rfl⟩ | ⟨x,t,rfl,rfl⟩
  ·rcases Y5 hb with ⟨j,u,rfl,e⟩ | ⟨y,u,rfl,e⟩
   ·injection e with e1 _; rw [e1]
   ·exact nomatch e
  ·rcases Y5 hb with ⟨j,u,rfl,e⟩ | ⟨y,u,rfl,e⟩
   ·exact nomatch e
   ·injection e with e1 _; rw [e1]
 byValue:=fun k v h=>by
  rcases Y5 h with ⟨i,t,rfl,rfl⟩ | ⟨x,t,rfl,rfl⟩ <;> rfl
 pyHash:=fun hv h=>by
  rcases Y5 hv with ⟨i,t,rfl,rfl⟩ | ⟨x,t,rfl,rfl⟩
  ·exact wpAny_pyHash_int h
  ·exact wpAny_pyHash_str h
 eqBool:=fun hu hv h=>by
  rcases Y5 hu with ⟨i,t,rfl,rfl⟩ | ⟨x,t,rfl,rfl⟩
  ·rcases Y5 hv with ⟨j,u,rfl,rfl⟩ | ⟨y,u,rfl,rfl⟩
   ·rw [Zao] at h; exact wpAny_eqBool_int h
   ·rw [Zan] at h; exact SeqAt.EqAt.int_str i t y u _ _ _ _ h
  ·rcases Y5 hv with ⟨j,u,rfl,rfl⟩ | ⟨y,u,rfl,rfl⟩
   ·rw [Zam] at h; exact SeqAt.EqAt.str_int x t j u _ _ _ _ h
   ·rw [Zal] at h; exact wpAny_eqBool_str h
 «strs»:=fun k x t v h=>by
  rcases Y5 h with ⟨i,u,rfl,e⟩ | ⟨y,u,rfl,e⟩
  ·exact nomatch e
  ·injection e with e1 _
   subst e1
   cases v <;> rfl
theorem Z03 (prog:Program) (w:World) (i:Int) (t:Tok):(X8 prog w).is (.inl i) (.int i t) = true:=Z4h i t
theorem Z02 (prog:Program) (w:World) (x:Str) (t:Tok):(X8 prog w).is (.inr x) (.str x t) = true:=Vh x t
inductive V where
 | non | bl (b:Bool) | int (i:Int) | str (x:Str) | byt (b:Array UInt8) | flt (b:UInt64) | ref (a:Addr) | ty (n:String)
 deriving DecidableEq
def RelV:V→Value→Prop
 | .non,u=>u = Value.none
 | .bl b,u=>u = Value.bool b
 | .int i,u=>∃ t,u = Value.int i t
 | .str x,u=>∃ t,u = Value.str x t
 | .byt b,u=>∃ t,u = Value.bytes b t
 | .flt b,u=>∃ t,u = Value.float b t
 | .ref a,u=>u = Value.ref a
 | .ty n,u=>u = Value.type n
abbrev Vals:List V→List Value→Prop:=Paired RelV
theorem Vals.length {xs:List V} {us:List Value} (r:Vals xs us):xs.length = us.length:=Paired.length r
theorem Vals.get:∀ {xs:List V} {us:List Value} {i:Nat} {x:V},Vals xs us→xs[i]? = some x→∃ u,us[i]? = some u∧RelV x u
 | _,_,_,_,.nil,e=>by simp at e
 | _,_,0,_,.cons r _,e=>by simp at e; subst e; exact ⟨_,rfl,r⟩
 | _,_,i + 1,x,.cons _ t,e=>by
  obtain ⟨u,h1,h2⟩:=Vals.get (i:=i) (x:=x) t (by simpa using e)
  exact ⟨u,by simpa using h1,h2⟩
theorem Vals.set {x:V} {u:Value} (r:RelV x u):∀ {xs:List V} {us:List Value} (i:Nat),Vals xs us→Vals (xs.set i x) (us.set i u)
 | _,_,_,.nil=>.nil
 | _,_,0,.cons _ t=>.cons r t
 | _,_,i + 1,.cons q t=>.cons q (Vals.set r i t)
theorem Vals.append:∀ {xs ys:List V} {us ws:List Value},Vals xs us→Vals ys ws→Vals (xs ++ ys) (us ++ ws)
 | _,_,_,_,.nil,s=>s
 | _,_,_,_,.cons r t,s=>.cons r (Vals.append t s)
theorem Vals.take:∀ {xs:List V} {us:List Value} (n:Nat),Vals xs us→Vals (xs.take n) (us.take n)
 | _,_,0,_=>.nil
 | _,_,_ + 1,.nil=>.nil
 | _,_,n + 1,.cons r t=>.cons r (Vals.take n t)
theorem Vals.drop:∀ {xs:List V} {us:List Value} (n:Nat),Vals xs us→Vals (xs.drop n) (us.drop n)
 | _,_,0,r=>r
 | _,_,_ + 1,.nil=>.nil
 | _,_,n + 1,.cons _ t=>Vals.drop n t
def RelO:Option V→Option Value→Prop
 | some v,some u=>RelV v u
 | none,none=>True
 | _,_=>False
def KV {κ:Type}:List (κ × V)→List (κ × Value)→Prop:=Paired fun (p:κ × V) (q:κ × Value)=>p.1 = q.1∧RelV p.2 q.2
def kV:Key→V
 | .inl i=>.int i
 | .inr x=>.str x
inductive HO where
 /-- a list -/
 | lst (xs:List V)
 /-- a tuple (never changes) -/
 | tup (xs:List V)
 /-- a dict whose keys are ints and texts; one whose keys are tuples of ints and texts (the empty one is both) -/
 | dK (kvs:List (Key × V)) | dT (kvs:List (List Key × V))
 /-- a set of ints: its members,its size -/
 | set (S:Int→Bool) (n:Nat)
 /-- an instance of the class at C,its dict at dx,its attributes -/
 | ins (C dx:Addr) (fs:List (Str × V))
 /-- the dict of the instance at x -/
 | own (x:Addr)
 /-- the dict of an exception -/
 | xd (fs:List (Str × V))
 /-- a bound method,f of x -/
 | met (f x:Addr)
 /-- a range object lo,lo + 1,.. below hi -/
 | rng (lo hi:Int)
 /-- a thing that is known to the object (the script; a dict while a loop walks it): read,never written while it is so -/
 | frz (o:Obj) (u:HO)
 /-- a code object's table -/
 | tbl (ps:Array Value)
 /-- any other thing,by what is true of its one object (a def of one's own: SetO a S n:=HO.ext fun h=>..) -/
 | ext (φ:Heap→Prop)
abbrev Hp:=Addr→Option HO
def upd (H:Hp) (a:Addr) (o:HO):Hp:=fun b=>if b = a then some o else H b
theorem Z1 {H:Hp} {a:Addr} {o:HO}:upd H a o a = some o:=by unfold upd; rw [if_pos rfl]
theorem Zf {H:Hp} {a b:Addr} {o:HO} (h:b ≠ a):upd H a o b = H b:=by unfold upd; rw [if_neg h]
theorem Z2w {H:Hp} {a:Addr} {o u:HO}:upd (upd H a o) a u = upd H a u:=by
 funext b; unfold upd; split <;> rfl
theorem Z61 {H:Hp} {a b:Addr} {o u:HO} (h:H a = some o) (h':H b = some u) (d:o ≠ u):a ≠ b:=by
 intro e; subst e; rw [h] at h'; exact d (Option.some.inj h')
theorem Z7 {H:Hp} {a b:Addr} {o:HO} (h:H a = some o) (h':H b = none):a ≠ b:=by
 intro e; subst e; rw [h] at h'; cases h'
section
variable (P:Program) (w:World)
def ObjOk (H:Hp) (h:Heap) (a:Addr):HO→Prop
 | .lst xs=>xs.length ≤ sizeLine∧∃ (its:List Value) (n:Nat),Vals xs its∧h.get? a = some { cls:=.type "list",data:=.seq its.toArray n }
 | .tup xs=>xs.length ≤ sizeLine∧∃ its:List Value,Vals xs its∧IsTup h a its.toArray
 | .dK kvs=>kvs.length ≤ sizeLine∧(a == sysModules) = false∧∃ vs,KV kvs vs∧h.DictOf (X8 P w) a vs
 | .dT kvs=>kvs.length ≤ sizeLine∧(a == sysModules) = false∧∃ xs:List (List Key × Addr × Value),
   Paired (fun (p:List Key × V) (q:List Key × Addr × Value)=>p.1 = q.1∧H q.2.1 = some (.tup (p.1.map kV))∧RelV p.2 q.2.2) kvs xs ∧
   ∃ o es ep,h.get? a = some o∧o.ExactDict∧o.data = .dict es ep∧es.toList = xs.map (entryOfKey (tupleKind (X8 P w)))∧(xs.map (·.1)).Nodup
 | .set S n=>h.SetOf (intKind P w) a S n
 | .ins C dx fs=>H dx = some (.own a)∧fs.length ≤ 1000∧dx ≠ a∧h.get? a = some (PySem.W.instObj C dx) ∧
   ∃ mA,h.Ns1 dx mA∧(∀ f,RelO (fs.lookup f) (mA f))∧PySem.Within mA (fs.map (·.1))
 | .own _=>∃ o,h.get? a = some o
 | .xd fs=>∃ mA,h.Ns1 a mA∧∀ f,RelO (fs.lookup f) (mA f)
 | .rng lo hi=>∃ t u v,h.get? a = some { cls:=.type "range",data:=.fields #[.int lo t,.int hi u,.int 1 v] }
 | .frz o u=>h.get? a = some o∧ObjOk H h a u
 | .tbl ps=>h.get? a = some { cls:=.none,data:=.fields ps }
 | .met f x=>h.get? a = some (PySem.W.methodObj (.ref f) (.ref x))
 | .ext φ=>φ h∧(∃ o,h.get? a = some o)∧∀ h1 h2:Heap,φ h1→(∀ o,h1.get? a = some o→h2.get? a = some o)→φ h2
def HOk (H:Hp) (h:Heap):Prop:=∀ a o,H a = some o→ObjOk P w H h a o
end
section
variable {P:Program} {w:World} {H H':Hp} {h h':Heap} {a:Addr} {o:HO}
theorem ObjOk.lt (x:ObjOk P w H h a o):a < h.objs.size:=by
 cases o with
 | lst xs=>obtain ⟨_,_,_,_,e⟩:=x; exact Heap.lt_size e
 | tup xs=>obtain ⟨_,_,_,p⟩:=x; exact p.lt
 | dK kvs=>obtain ⟨_,_,_,_,o,_,_,e,_⟩:=x; exact Heap.lt_size e
 | dT kvs=>obtain ⟨_,_,_,_,o,_,_,e,_⟩:=x; exact Heap.lt_size e
 | set S n=>obtain ⟨o,_,_,_,e,_⟩:=x; exact Heap.lt_size e
 | ins C dx fs=>obtain ⟨_,_,_,e,_⟩:=x; exact Heap.lt_size e
 | own y=>obtain ⟨_,e⟩:=x; exact Heap.lt_size e
 | xd fs=>obtain ⟨_,⟨_,_,_,e,_⟩,_⟩:=x; exact Heap.lt_size e
 | rng lo hi=>obtain ⟨_,_,_,e⟩:=x; exact Heap.lt_size e
 | frz ob u=>obtain ⟨e,_⟩:=x; exact Heap.lt_size e
 | tbl ps=>exact Heap.lt_size (show h.get? a = some _ from x)
 | met f y=>exact Heap.lt_size (show h.get? a = some _ from x)
 | ext φ=>obtain ⟨_,⟨_,e⟩,_⟩:=x; exact Heap.lt_size e
theorem Paired.mapP {α β:Type} {F G:α→β→Prop}:∀ {l₁:List α} {l₂:List β},Paired F l₁ l₂→(∀ a b,F a b→G a b)→Paired G l₁ l₂
 | _,_,.nil,_=>.nil
 | _,_,.cons r t,f=>.cons (f _ _ r) (Paired.mapP t f)
theorem ObjOk.stay (x:ObjOk P w H h a o) (k:∀ b u,(b = a ∨ H b = some (.own a))→h.get? b = some u→h'.get? b = some u)
  (ho:∀ b,H b = some (.own a)→H' b = some (.own a)) (ht:∀ b xs,H b = some (.tup xs)→H' b = some (.tup xs)):ObjOk P w H' h' a o:=by
 induction o with
 | lst xs=>obtain ⟨z,its,n,r,e⟩:=x; exact ⟨z,its,n,r,k _ _ (.inl rfl) e⟩
 | tup xs=>obtain ⟨z,its,r,ob,e,c⟩:=x; exact ⟨z,its,r,ob,k _ _ (.inl rfl) e,c⟩
 | dK kvs=>obtain ⟨z,y,vs,r,ob,es,ep,e,c⟩:=x; exact ⟨z,y,vs,r,ob,es,ep,k _ _ (.inl rfl) e,c⟩
 | dT kvs =>
  obtain ⟨z,y,xs,r,ob,es,ep,e,c⟩:=x
  exact ⟨z,y,xs,Paired.mapP r fun p q z=>⟨z.1,ht _ _ z.2.1,z.2.2⟩,ob,es,ep,k _ _ (.inl rfl) e,c⟩
 | set S n=>obtain ⟨ob,es,ep,t,e,c⟩:=x; exact ⟨ob,es,ep,t,k _ _ (.inl rfl) e,c⟩
 | ins C dx fs =>
  obtain ⟨d,z,ne,e,mA,⟨od,es,ep,e2,c⟩,r⟩:=x
  exact ⟨ho _ d,z,ne,k _ _ (.inl rfl) e,mA,⟨od,es,ep,k _ _ (.inr d) e2,c⟩,r⟩
 | own y=>obtain ⟨ob,e⟩:=x; exact ⟨ob,k _ _ (.inl rfl) e⟩
 | xd fs=>obtain ⟨mA,⟨od,es,ep,e,c⟩,r⟩:=x; exact ⟨mA,⟨od,es,ep,k _ _ (.inl rfl) e,c⟩,r⟩
 | rng lo hi=>obtain ⟨t,u,v,e⟩:=x; exact ⟨t,u,v,k _ _ (.inl rfl) e⟩
 | frz ob u ih=>obtain ⟨e,q⟩:=x; exact ⟨k _ _ (.inl rfl) e,ih q⟩
 | tbl ps =>
  have e:h.get? a = some { cls:=.none,data:=.fields ps }:=x
  show h'.get? a = some { cls:=.none,data:=.fields ps }
  exact k a _ (.inl rfl) e
 | met f y =>
  have e:h.get? a = some (PySem.W.methodObj (.ref f) (.ref y)):=x
  show h'.get? a = some (PySem.W.methodObj (.ref f) (.ref y))
  exact k a _ (.inl rfl) e
 | ext φ=>obtain ⟨p,⟨o,e⟩,st⟩:=x; exact ⟨st _ _ p fun o q=>k _ _ (.inl rfl) q,⟨o,k _ _ (.inl rfl) e⟩,st⟩
theorem HOk.lt (x:HOk P w H h) (e:H a = some o):a < h.objs.size:=(x a o e).lt
theorem HOk.fresh (x:HOk P w H h) (e:h.objs.size ≤ a):H a = none:=by
 cases q:H a with
 | none=>rfl
 | some u=>exact absurd (Nat.lt_of_lt_of_le (x.lt q) e) (Nat.lt_irrefl _)
theorem HOk.kept (x:HOk P w H h) (k:∀ b u,h.get? b = some u→h'.get? b = some u):HOk P w H h':=fun a o e =>
 (x a o e).stay (fun b u _ q=>k b u q) (fun _ q=>q) fun _ _ q=>q
theorem HOk.laid (x:HOk P w H h) (k:∀ b u,h.get? b = some u→h'.get? b = some u) (hp:h.objs.size ≤ a) (new:ObjOk P w (upd H a o) h' a o):HOk P w (upd H a o) h':=fun b u e=>by
 have hn:=x.fresh hp
 by_cases hb:b = a
 ·subst hb; rw [Z1] at e; cases e; exact new
 ·rw [Zf hb] at e
  exact (x b u e).stay (fun c v _ q=>k c v q) (fun c q=>by rw [Zf (Z7 q hn)]; exact q) fun c xs q=>by rw [Zf (Z7 q hn)]; exact q
end
def Rd (H:Hp) (a:Addr) (u:HO):Prop:=H a = some u ∨ ∃ o,H a = some (.frz o u)
theorem Rd.ok {P:Program} {w:World} {H:Hp} {h:Heap} {a:Addr} {u:HO} (r:Rd H a u) (x:HOk P w H h):ObjOk P w H h a u:=by
 rcases r with r | ⟨o,r⟩
 ·exact x a u r
 ·obtain ⟨_,q⟩:=x a _ r
  exact q
def Mut:Option HO→Prop
 | some (.lst _)=>True
 | some (.dK _)=>True
 | some (.dT _)=>True
 | some (.set _ _)=>True
 | some (.ins _ _ _)=>True
 | some (.ext _)=>True
 | _=>False
section
variable {P:Program} {w:World} {H:Hp} {h h':Heap} {x e:Addr} {o':HO}
theorem HOk.write (ok:HOk P w H h) (mu:Mut (H x)) (he:e = x ∨ H e = some (.own x)) (k:∀ b u,b ≠ e→h.get? b = some u→h'.get? b = some u) (heo:∃ u,h'.get? e = some u)
  (new:ObjOk P w (upd H x o') h' x o'):HOk P w (upd H x o') h':=fun b u q=>by
 have nown:∀ c y,H c = some (.own y)→c ≠ x:=fun c y r z=>by subst z; rw [r] at mu; exact mu
 have ntup:∀ c xs,H c = some (.tup xs)→c ≠ x:=fun c xs r z=>by subst z; rw [r] at mu; exact mu
 by_cases hb:b = x
 ·subst hb; rw [Z1] at q; cases q; exact new
 ·rw [Zf hb] at q
  by_cases hbe:b = e
  ·have q':H b = some (.own x):=by
    rcases he with z | z
    ·exact absurd (hbe.trans z) hb
    ·rw [hbe]; exact z
   rw [q] at q'; cases q'
   obtain ⟨v,hv⟩:=heo
   exact ⟨v,by rw [hbe]; exact hv⟩
  ·refine (ok b u q).stay (fun c v hc r=>k c v ?_ r) (fun c r=>by rw [Zf (nown c b r)]; exact r) fun c xs r=>by rw [Zf (ntup c xs r)]; exact r
   rcases hc with rfl | hc
   ·exact hbe
   ·rintro rfl
    rcases he with z | z
    ·exact nown c b hc z
    ·rw [hc] at z; cases z; exact hb rfl
end
structure Un (fs ex:List Addr) (H H':Hp) (h h':Heap):Prop where
 keep:∀ b o,h.get? b = some o→H b = none→b ∉ fs→b ∉ ex→h'.get? b = some o
 slot:∀ b o,h.get? b = some o→H b = none→b ∈ fs→b ∉ ex→∃ sl,h'.get? b = some { o with slots:=sl }
 free:∀ b o,h.get? b = some o→H b = none→b ∉ ex→H' b = none
 there:∀ b o,h.get? b = some o→b ∉ ex→∃ o',h'.get? b = some o'
 tups:∀ b xs,H b = some (.tup xs)→H' b = some (.tup xs)
 frzs:∀ b o u,H b = some (.frz o u)→H' b = some (.frz o u)
 tbls:∀ b ps,H b = some (.tbl ps)→∃ more,H' b = some (.tbl (ps ++ more))
section
variable {fs fs' ex ex':List Addr} {H H1 H2:Hp} {h h1 h2 h':Heap} {a x e:Addr} {o:HO}
theorem Un.any (u:Un fs ex H H1 h h1) {b:Addr} {ob:Obj} (q:h.get? b = some ob) (n:H b = none) (hx:b ∉ ex):∃ sl,h1.get? b = some { ob with slots:=sl }:=by
 by_cases hb:b ∈ fs
 ·exact u.slot b ob q n hb hx
 ·exact ⟨ob.slots,u.keep b ob q n hb hx⟩
theorem Un.kept (k:∀ b u,h.get? b = some u→h'.get? b = some u):Un fs ex H H h h' :=
 ⟨fun b ob q _ _ _=>k b ob q,fun b ob q _ _ _=>⟨ob.slots,k b ob q⟩,fun _ _ _ n _=>n,fun b ob q _=>⟨ob,k b ob q⟩,fun _ _ q=>q,fun _ _ _ q=>q,fun _ ps q=>⟨#[],by rw [q]; simp⟩⟩
theorem Un.refl:Un fs ex H H h h:=Un.kept fun _ _ q=>q
theorem Un.laid (k:∀ b u,h.get? b = some u→h'.get? b = some u) (hp:h.objs.size ≤ a) (hn:H a = none):Un fs ex H (upd H a o) h h' where
 keep:=fun b u q _ _ _=>k b u q
 slot:=fun b u q _ _ _=>⟨u.slots,k b u q⟩
 free:=fun b u q n _=>by rw [Zf (Nat.ne_of_lt (Nat.lt_of_lt_of_le (Heap.lt_size q) hp))]; exact n
 there:=fun b u q _=>⟨u,k b u q⟩
 tups:=fun b xs q=>by rw [Zf (Z7 q hn)]; exact q
 frzs:=fun b u xs q=>by rw [Zf (Z7 q hn)]; exact q
 tbls:=fun b ps q=>⟨#[],by rw [Zf (Z7 q hn),q]; simp⟩
theorem Un.write (mu:Mut (H x)) (he:e = x ∨ H e = some (.own x)) (k:∀ b u,b ≠ e→h.get? b = some u→h'.get? b = some u) (heo:∃ u,h'.get? e = some u):Un fs ex H (upd H x o) h h':=by
 have hx:∀ b,H b = none→b ≠ x:=fun b n z=>by subst z; rw [n] at mu; exact mu
 have hb:∀ b,H b = none→b ≠ e:=fun b n z=>by
  subst z
  rcases he with r | r
  ·exact hx b n r
  ·rw [n] at r; cases r
 have hm:∀ b u,H b = some u→¬ Mut (some u)→b ≠ x:=fun b u q nm z=>by subst z; rw [q] at mu; exact nm mu
 refine ⟨fun b u q n _ _=>k b u (hb b n) q,fun b u q n _ _=>⟨u.slots,k b u (hb b n) q⟩,fun b u q n _=>by rw [Zf (hx b n)]; exact n,fun b u q _=>?_,
  fun b xs q=>by rw [Zf (hm b _ q fun z=>z)]; exact q,fun b u xs q=>by rw [Zf (hm b _ q fun z=>z)]; exact q,fun b ps q=>⟨#[],by rw [Zf (hm b _ q fun z=>z),q]; simp⟩⟩
 by_cases hbe:b = e
 ·subst hbe; exact heo
 ·exact ⟨u,k b u hbe q⟩
end
def trk (h:Heap) (H:Hp):List Addr:=(List.range h.objs.size).filter fun a=>(H a).isSome
def Z6f (h:Heap) (H:Hp):Heap:=PySem.W.hideAll h (trk h H)
theorem Z4n (h:Heap) (H:Hp):(Z6f h H).objs.size = h.objs.size:=PySem.W.hideAll_size _ _
theorem Z6e {h:Heap} {H:Hp} {b:Addr} {o:Obj} (e:h.get? b = some o) (n:H b = none):(Z6f h H).get? b = some o :=
 PySem.W.hideAll_get _ e fun hm=>by
  have q:(H b).isSome = true:=(List.mem_filter.mp hm).2
  rw [n] at q; simp at q
theorem Z8k {h:Heap} {H:Hp} {b:Addr} {o:Obj} (e:(Z6f h H).get? b = some o):h.get? b = some o∧H b = none:=by
 have e':h.get? b = some o:=PySem.W.of_hideAll (trk h H) e
 refine ⟨e',?_⟩
 cases q:H b with
 | none=>rfl
 | some x =>
  have hm:b ∈ trk h H:=List.mem_filter.mpr ⟨List.mem_range.mpr (Heap.lt_size e'),by simp [q]⟩
  have z:(Z6f h H).get? b = none:=PySem.W.hideAll_none (trk h H) hm
  rw [z] at e; cases e
def Z92 (g h:Heap) (L:Addr):List (Addr × Obj):=(List.range h.objs.size).filterMap fun a=>if a = L ∨ (g.get? a).isSome = true then none else (h.get? a).map fun o=>(a,o)
def rest (g h:Heap) (L d:Addr):List (Addr × Obj):=(Z92 g h L).filter fun p=>decide (p.1 ≠ d)
structure Mod (K:PySem.W.Frag) (mg:Str→Option Value) (base:Heap):Prop where
 kin:K.In base
 glob:base.Ns mainGlobals mg
 blt:∃ mb,base.Ns builtinsNs mb∧∀ x:Str,x ≠ "__name__"→mb x = bootBuiltins x
 nolimit:base.NoLimit
structure Cx where
 prog:Program
 w:World
 K:PySem.W.Frag
 mg:Str→Option Value
 base:Heap
 A:Around
 N:List Str
 s₀:Shared
 H₀:Hp
 env:Env
 outer:List Env
 stack:List Env
 ex:List Addr
 fn:Str→Bool
 calm:Bool
 pn:List (Addr × Obj)
 xe:Value→Shared→Prop
def frs (l:List Env):List Addr:=l.filterMap (·.frame)
abbrev Cx.fs (X:Cx):List Addr:=frs X.outer
def Vis (sc:Scope) (x:Str):Prop:=sc.names.lookup x = some .local ∨ sc.names.lookup x = some .cell ∨ sc.names.lookup x = some .free
def Loc (sc:Scope) (x:Str):Prop:=sc.names.lookup x = some .local ∨ sc.names.lookup x = some .cell
def Zd4 (env:Env) (h:Heap) (m:Str→Option Value) (x:Str) (u:Value):Prop :=
 (env.kindOf x = some .local∧m x = some u) ∨ ((env.kindOf x = some .cell ∨ env.kindOf x = some .free)∧∃ c,env.cells.lookup x = some c∧h.IsCell c (some u))
structure Cx.Ok (X:Cx):Prop where
 mod:Mod X.K X.mg X.base
 kind:X.env.scope.kind = .function
 glob:X.env.globals = mainGlobals
 blt:X.env.builtins = builtinsNs
 above:X.s₀.heap.objs.size ≤ X.env.locals
 inj:∀ x y c,X.env.cells.lookup x = some c→X.env.cells.lookup y = some c→x = y
 has:∀ x,(X.env.kindOf x = some .cell ∨ X.env.kindOf x = some .free)→∃ c,X.env.cells.lookup x = some c
 cab:∀ x c,X.fn x = true→X.env.cells.lookup x = some c→X.s₀.heap.objs.size ≤ c
 hd:X.calm = true→X.A.handled = none
 frames:X.A.frames = some X.stack
 stk:X.stack = X.outer ∨ (X.stack = X.env :: X.outer∧X.env.frame = some X.env.locals)
 exf:∀ b ∈ X.ex,b ≠ X.env.locals∧∀ x c,X.env.cells.lookup x = some c→c ≠ b
 bs:∀ b o,X.base.get? b = some o→X.s₀.heap.get? b = some o∧X.H₀ b = none
 bsz:X.base.objs.size ≤ X.s₀.heap.objs.size
 noex:∀ b o,X.base.get? b = some o→b ∉ X.ex
 exfs:∀ b ∈ X.ex,b ∉ X.fs
 funs:X.s₀.heap.FunFrames X.base X.outer
 frf:∀ b ∈ X.fs,X.H₀ b = none
structure Inv (X:Cx) (pins:List (Addr × Obj)) (σ:List (Option V)) (H:Hp) (s:Shared):Prop where
 ok:X.Ok
 os:s.os = X.s₀.os
 bare:AllBare s.gens
 base:Un X.fs X.ex X.H₀ H X.s₀.heap s.heap
 loc:∃ m,s.heap.Ns X.env.locals m∧∀ (i:Nat) (x:Str) (v:V),X.N[i]? = some x→σ[i]? = some (some v)→Vis X.env.scope x→∃ u,RelV v u∧Zd4 X.env s.heap m x u
 cell:∀ x c,X.env.cells.lookup x = some c→∃ v,s.heap.IsCell c v
 free:H X.env.locals = none
 freeC:∀ x c,X.env.cells.lookup x = some c→H c = none
 pin:∀ p ∈ X.pn ++ pins,s.heap.get? p.1 = some p.2∧H p.1 = none∧p.1 ≠ X.env.locals∧p.1 ∉ X.fs∧∀ v,p.2.data ≠ .cell v
 hok:HOk X.prog X.w H s.heap
 len:σ.length = X.N.length
section
variable {X:Cx} {pins:List (Addr × Obj)} {σ:List (Option V)} {H H':Hp} {s:Shared} {h':Heap}
theorem Cx.Ok.nofr (ok:X.Ok) {b:Addr} {o:Obj} (e:X.base.get? b = some o):b ∉ X.fs:=fun hb=>by
 have:=(ok.funs.mem hb).1
 rw [e] at this; cases this
theorem Inv.bs (I:Inv X pins σ H s):∀ b o,X.base.get? b = some o→s.heap.get? b = some o∧H b = none:=fun b o e =>
 ⟨I.base.keep b o (I.ok.bs b o e).1 (I.ok.bs b o e).2 (I.ok.nofr e) (I.ok.noex b o e),I.base.free b o (I.ok.bs b o e).1 (I.ok.bs b o e).2 (I.ok.noex b o e)⟩
theorem Inv.bk (I:Inv X pins σ H s):∀ b o,X.base.get? b = some o→s.heap.get? b = some o:=fun b o e=>(I.bs b o e).1
theorem Inv.mod (I:Inv X pins σ H s):Mod X.K X.mg X.base:=I.ok.mod
theorem Inv.kIn (I:Inv X pins σ H s):X.K.In s.heap:=I.ok.mod.kin.keeps I.bk
theorem Inv.lt (I:Inv X pins σ H s):X.env.locals < s.heap.objs.size:=let ⟨_,hn,_⟩:=I.loc; hn.lt
theorem Inv.sz (I:Inv X pins σ H s):X.s₀.heap.objs.size ≤ s.heap.objs.size:=Nat.le_trans I.ok.above (Nat.le_of_lt I.lt)
theorem Inv.nofs (I:Inv X pins σ H s) {a:Addr} (h:s.heap.objs.size ≤ a):a ∉ X.fs:=fun hb=>by
 obtain ⟨_,o,ho,_⟩:=I.ok.funs.mem hb
 exact absurd (Nat.lt_of_lt_of_le (Heap.lt_size ho) (Nat.le_trans I.sz h)) (Nat.lt_irrefl _)
theorem Inv.cne (I:Inv X pins σ H s):∀ x c,X.env.cells.lookup x = some c→c ≠ X.env.locals:=fun x c e z=>by
 obtain ⟨v,o,ho,hd⟩:=I.cell x c e
 obtain ⟨m,⟨o',es,ep,ho',hd',_⟩,_⟩:=I.loc
 rw [z,ho'] at ho; cases ho; rw [hd'] at hd; cases hd
theorem Inv.funs (I:Inv X pins σ H s):s.heap.FunFrames X.base X.outer:=by
 have all:∀ (l:List Env),(∀ b ∈ frs l,b ∈ X.fs)→X.s₀.heap.FunFrames X.base l→s.heap.FunFrames X.base l:=by
  intro l
  induction l with
  | nil=>intro _ _; trivial
  | cons env r ih =>
   intro hs hl
   obtain ⟨hk,⟨L,o,hf,hn,ho,hd⟩,hr⟩:=hl
   have hL:L ∈ X.fs:=hs L (by unfold frs; rw [List.filterMap_cons,hf]; exact List.mem_cons_self)
   obtain ⟨sl,e⟩:=I.base.slot L o ho (I.ok.frf L hL) hL fun z=>I.ok.exfs L z hL
   exact ⟨hk,⟨L,_,hf,hn,e,hd⟩,ih (fun b hb=>hs b (by unfold frs; rw [List.filterMap_cons,hf]; exact List.mem_cons_of_mem _ hb)) hr⟩
 exact all X.outer (fun _ hb=>hb) I.ok.funs
theorem Inv.stack (I:Inv X pins σ H s):s.heap.FunFrames X.base X.stack:=by
 rcases I.ok.stk with e | ⟨e,hf⟩
 ·rw [e]; exact I.funs
 ·rw [e]
  obtain ⟨m,hn,_⟩:=I.loc
  refine .cons (by rw [I.ok.kind]; decide) hf hn ?_ I.funs
  exact Heap.get?_none_of_le (Nat.le_trans I.ok.bsz I.ok.above)
theorem Inv.stkSub (I:Inv X pins σ H s):∀ b ∈ frs X.stack,b ∈ X.env.locals :: X.fs:=fun b hb=>by
 rcases I.ok.stk with e | ⟨e,hf⟩
 ·rw [e] at hb; exact List.mem_cons_of_mem _ hb
 ·rw [e] at hb
  unfold frs at hb
  rw [List.filterMap_cons,hf] at hb
  exact hb
theorem Inv.stkFree (I:Inv X pins σ H s):∀ b ∈ frs X.stack,H b = none:=fun b hb=>by
 rcases List.mem_cons.mp (I.stkSub b hb) with e | hb
 ·rw [e]; exact I.free
 ·obtain ⟨_,o,ho,_⟩:=I.ok.funs.mem hb
  exact I.base.free b o ho (I.ok.frf b hb) fun z=>I.ok.exfs b z hb
theorem Inv.step {g':Array GenState} {t':Nat} {d':Drawn} {ch:List Addr} (I:Inv X pins σ H s)
  (hch:∀ b ∈ ch,(b ∈ X.ex ∨ X.s₀.heap.objs.size ≤ b)∧b ≠ X.env.locals∧(∀ x c,X.env.cells.lookup x = some c→c ≠ b)∧∀ p ∈ X.pn ++ pins,p.1 ≠ b)
  (keep:∀ b o,b ≠ X.env.locals→b ∉ X.fs→b ∉ ch→s.heap.get? b = some o→H b = none→h'.get? b = some o)
  (slot:∀ b o,b ≠ X.env.locals→b ∈ X.fs→b ∉ ch→s.heap.get? b = some o→H b = none→∃ sl,h'.get? b = some { o with slots:=sl }) (free:∀ b o,b ∉ ch→s.heap.get? b = some o→H b = none→H' b = none)
  (there:∀ b o,b ∉ ch→s.heap.get? b = some o→∃ o',h'.get? b = some o')
  (tups:∀ b xs,H b = some (.tup xs)→H' b = some (.tup xs)) (frzs:∀ b o u,H b = some (.frz o u)→H' b = some (.frz o u)) (tbls:∀ b ps,H b = some (.tbl ps)→∃ more,H' b = some (.tbl (ps ++ more)))
  (ns:∀ m,s.heap.Ns X.env.locals m→h'.Ns X.env.locals m) (hok:HOk X.prog X.w H' h') (hg:AllBare g') :
  Inv X pins σ H' { s with heap:=h',gens:=g',drawn:=d',toks:=t' }:=by
 have neL:∀ b o,X.s₀.heap.get? b = some o→b ≠ X.env.locals:=fun b o e=>Nat.ne_of_lt (Nat.lt_of_lt_of_le (Heap.lt_size e) I.ok.above)
 have neC:∀ b o,X.s₀.heap.get? b = some o→b ∉ X.ex→b ∉ ch:=fun b o e hx hb=>by
  rcases (hch b hb).1 with z | z
  ·exact hx z
  ·exact absurd (Nat.lt_of_lt_of_le (Heap.lt_size e) z) (Nat.lt_irrefl _)
 have cellK:∀ x c,X.env.cells.lookup x = some c→∀ v,s.heap.IsCell c v→h'.IsCell c v:=fun x c e v ⟨o,ho,hd⟩=>by
  have nch:c ∉ ch:=fun z=>(hch c z).2.2.1 x c e rfl
  by_cases hc:c ∈ X.fs
  ·obtain ⟨sl,q⟩:=slot c o (I.cne x c e) hc nch ho (I.freeC x c e)
   exact ⟨_,q,hd⟩
  ·exact ⟨o,keep c o (I.cne x c e) hc nch ho (I.freeC x c e),hd⟩
 refine ⟨I.ok,I.os,hg,⟨fun b o e n hb hx=>?_,fun b o e n hb hx=>?_,fun b o e n hx=>?_,fun b o e hx=>?_,fun b xs e=>tups b xs (I.base.tups b xs e),fun b o xs e=>frzs b o xs (I.base.frzs b o xs e),fun b ps e=>?_⟩,?_,fun x c e=>?_,?_,fun x c e=>?_,fun p hp=>?_,hok,I.len⟩
 ·exact keep b o (neL b o e) hb (neC b o e hx) (I.base.keep b o e n hb hx) (I.base.free b o e n hx)
 ·obtain ⟨sl,e1⟩:=I.base.slot b o e n hb hx
  obtain ⟨sl',e2⟩:=slot b _ (neL b o e) hb (neC b o e hx) e1 (I.base.free b o e n hx)
  exact ⟨sl',e2⟩
 ·obtain ⟨o',e1⟩:=I.base.there b o e hx
  exact free b o' (neC b o e hx) e1 (I.base.free b o e n hx)
 ·obtain ⟨o',e1⟩:=I.base.there b o e hx
  exact there b o' (neC b o e hx) e1
 ·obtain ⟨m1,e1⟩:=I.base.tbls b ps e
  obtain ⟨m2,e2⟩:=tbls b _ e1
  exact ⟨m1 ++ m2,by rw [e2,Array.append_assoc]⟩
 ·obtain ⟨m,hn,hl⟩:=I.loc
  refine ⟨m,ns m hn,fun i x v e1 e2 e3=>?_⟩
  obtain ⟨u,r,l⟩:=hl i x v e1 e2 e3
  refine ⟨u,r,?_⟩
  rcases l with l | ⟨k,c,e,z⟩
  ·exact .inl l
  ·exact .inr ⟨k,c,e,cellK x c e _ z⟩
 ·obtain ⟨v,z⟩:=I.cell x c e
  exact ⟨v,cellK x c e v z⟩
 ·obtain ⟨m,⟨o,_,_,ho,_⟩,_⟩:=I.loc
  exact free _ o (fun z=>(hch _ z).2.1 rfl) ho I.free
 ·obtain ⟨v,o,ho,hd⟩:=I.cell x c e
  exact free c o (fun z=>(hch c z).2.2.1 x c e rfl) ho (I.freeC x c e)
 ·obtain ⟨e,n,ne,nf,d⟩:=I.pin p hp
  have nch:p.1 ∉ ch:=fun z=>(hch p.1 z).2.2.2 p hp rfl
  exact ⟨keep p.1 p.2 ne nf nch e n,free p.1 p.2 nch e n,ne,nf,d⟩
theorem Inv.un {t':Nat} (I:Inv X pins σ H s) (u:Un X.fs [] H H' s.heap h') (hok:HOk X.prog X.w H' h'):Inv X pins σ H' { s with heap:=h',toks:=t' }:=by
 obtain ⟨m,⟨o,es,ep,ho,r⟩,_⟩:=id I.loc
 obtain ⟨sl,hL⟩:=u.any ho I.free (by simp)
 exact I.step (g':=s.gens) (d':=s.drawn) (ch:=[]) (fun _ z=>nomatch z) (fun b o _ hb _ e n=>u.keep b o e n hb (by simp)) (fun b o _ hb _ e n=>u.slot b o e n hb (by simp)) (fun b o _ e n=>u.free b o e n (by simp)) (fun b o _ e=>u.there b o e (by simp)) u.tups u.frzs u.tbls (fun m' hm=>by
  obtain ⟨o',es',ep',ho',r'⟩:=hm
  rw [ho] at ho'; cases ho'
  exact ⟨_,es',ep',hL,r'⟩) hok I.bare
theorem Inv.call {g':Array GenState} {t':Nat} {d':Drawn} {ch:List Addr} (I:Inv X pins σ H s) (u:Un (frs X.stack) ch H H' s.heap h') (hok:HOk X.prog X.w H' h') (hg:AllBare g')
  (hch:∀ b ∈ ch,(b ∈ X.ex ∨ X.s₀.heap.objs.size ≤ b)∧b ≠ X.env.locals∧(∀ x c,X.env.cells.lookup x = some c→c ≠ b)∧∀ p ∈ X.pn ++ pins,p.1 ≠ b) :
  Inv X pins σ H' { s with heap:=h',gens:=g',drawn:=d',toks:=t' }:=by
 obtain ⟨m,⟨o,es,ep,ho,r⟩,_⟩:=id I.loc
 obtain ⟨sl,hL⟩:=u.any ho I.free fun z=>(hch _ z).2.1 rfl
 exact I.step (ch:=ch) hch (fun b o hL hb hc e n=>u.keep b o e n (fun z=>(List.mem_cons.mp (I.stkSub b z)).elim hL hb) hc) (fun b o _ _ hc e n=>u.any e n hc) (fun b o hc e n=>u.free b o e n hc) (fun b o hc e=>u.there b o e hc) u.tups u.frzs u.tbls (fun m' hm=>by
  obtain ⟨o',es',ep',ho',r'⟩:=hm
  rw [ho] at ho'; cases ho'
  exact ⟨_,es',ep',hL,r'⟩) hok hg
theorem Inv.turned {t':Nat} {it:Addr} (I:Inv X pins σ H s) (k:∀ b o,b ≠ it→s.heap.get? b = some o→h'.get? b = some o) (hn:H it = none) (hL:it ≠ X.env.locals)
  (h1:it ∈ X.ex ∨ X.s₀.heap.objs.size ≤ it) (h2:∀ x c,X.env.cells.lookup x = some c→c ≠ it) (h3:∀ p ∈ X.pn ++ pins,p.1 ≠ it):Inv X pins σ H { s with heap:=h',toks:=t' }:=by
 have nit:∀ b u,H b = some u→b ≠ it:=fun b u e z=>by rw [z,hn] at e; cases e
 refine I.step (g':=s.gens) (d':=s.drawn) (ch:=[it]) (fun b hb=>?_) (fun b o _ _ hc e _=>k b o (fun z=>hc (by simp [z])) e) (fun b o _ _ hc e _=>⟨o.slots,k b o (fun z=>hc (by simp [z])) e⟩) (fun _ _ _ _ n=>n)
  (fun b o hc e=>⟨o,k b o (fun z=>hc (by simp [z])) e⟩) (fun _ _ e=>e) (fun _ _ _ e=>e) (fun b ps e=>⟨#[],by rw [e]; simp⟩) (fun m hm=>?_) (fun b u e=>?_) I.bare
 ·have e:b = it:=by simpa using hb
  subst e
  exact ⟨h1,hL,h2,h3⟩
 ·obtain ⟨o,es,ep,ho,r⟩:=hm
  exact ⟨o,es,ep,k _ o (Ne.symm hL) ho,r⟩
 ·refine (I.hok b u e).stay (fun c v hc q=>k c v ?_ q) (fun _ q=>q) fun _ _ q=>q
  rcases hc with z | z
  ·rw [z]; exact nit b u e
  ·exact nit c _ z
theorem Inv.tok (I:Inv X pins σ H s) (t:Nat):Inv X pins σ H { s with toks:=t }:=I.un (h':=s.heap) (t':=t) Un.refl I.hok
theorem Inv.kept {t':Nat} (I:Inv X pins σ H s) (k:∀ b u,s.heap.get? b = some u→h'.get? b = some u):Inv X pins σ H { s with heap:=h',toks:=t' }:=I.un (Un.kept k) (I.hok.kept k)
theorem Inv.laid {a:Addr} {o:HO} {t':Nat} (I:Inv X pins σ H s) (k:∀ b u,s.heap.get? b = some u→h'.get? b = some u) (hp:s.heap.objs.size ≤ a) (new:ObjOk X.prog X.w (upd H a o) h' a o) :
  Inv X pins σ (upd H a o) { s with heap:=h',toks:=t' }:=I.un (Un.laid k hp (I.hok.fresh hp)) (I.hok.laid k hp new)
theorem Inv.write {x e:Addr} {o:HO} {t':Nat} (I:Inv X pins σ H s) (mu:Mut (H x)) (he:e = x ∨ H e = some (.own x)) (k:∀ b u,b ≠ e→s.heap.get? b = some u→h'.get? b = some u) (heo:∃ u,h'.get? e = some u)
  (new:ObjOk X.prog X.w (upd H x o) h' x o):Inv X pins σ (upd H x o) { s with heap:=h',toks:=t' }:=I.un (Un.write mu he k heo) (I.hok.write mu he k heo new)
theorem Inv.pins_of {pins':List (Addr × Obj)} (I:Inv X pins σ H s) (h:∀ p ∈ pins',s.heap.get? p.1 = some p.2∧H p.1 = none∧p.1 ≠ X.env.locals∧p.1 ∉ X.fs∧∀ v,p.2.data ≠ .cell v):Inv X pins' σ H s :=
 ⟨I.ok,I.os,I.bare,I.base,I.loc,I.cell,I.free,I.freeC,fun p hp=>(List.mem_append.mp hp).elim (fun z=>I.pin p (List.mem_append_left _ z)) (h p),I.hok,I.len⟩
theorem Z16 {N:List Str} (hN:N.Nodup) {i j:Nat} {x:Str} (a:N[i]? = some x) (b:N[j]? = some x):i = j:=by
 obtain ⟨h1,e1⟩:=List.getElem?_eq_some_iff.mp a
 obtain ⟨h2,e2⟩:=List.getElem?_eq_some_iff.mp b
 exact (List.getElem_inj hN).mp (e1.trans e2.symm)
theorem Ta {M:Model} {A:Around} {E:Value→Shared→Prop} {i:Nat} {x:Str} {v:V} {u:Value} {Q:Unit→Shared→Prop} (I:Inv X pins σ H s) (hN:X.N.Nodup) (hi:X.N[i]? = some x) (hx:Loc X.env.scope x) (r:RelV v u)
  (h:∀ s',Inv X pins (σ.set i (some v)) H s'→(∃ a,Heap.SameBut a s.heap s'.heap∧(a = X.env.locals ∨ X.env.cells.lookup x = some a))→Q () s') (hf:X.fn x = true ∨ X.env.scope.names.lookup x = some .local:=by first | exact .inl rfl | exact .inr rfl | assumption):wpAny M A (storeName X.env x u) Q E s:=by
 obtain ⟨m,hn,hl⟩:=id I.loc
 have hcls:(X.env.scope.kind == .class || (X.env.scope.kind == .module && X.env.locals != X.env.globals)) = false:=by rw [I.ok.kind]; rfl
 have hiσ:i < σ.length:=by rw [I.len]; exact (List.getElem?_eq_some_iff.mp hi).1
 have cne:=I.cne
 have tracked:∀ {a:Addr} {h':Heap},(∃ o,s.heap.get? a = some o∧H a = none)→Heap.SameBut a s.heap h'→HOk X.prog X.w H h':=fun {a h'} ha hs b ob e=>by
  obtain ⟨_,_,hfree⟩:=ha
  refine (I.hok b ob e).stay (fun c w' hc q=>(hs.2 c ?_).trans q) (fun _ q=>q) fun _ _ q=>q
  rintro rfl
  rcases hc with rfl | hc
  ·rw [hfree] at e; cases e
  ·rw [hfree] at hc; cases hc
 rcases hx with hk | hk
 ·refine wpAny_storeName_local hk hn (fun h' hn' hs=>?_) hcls
  obtain ⟨oL,_,_,hoL,_⟩:=id hn
  refine h _ ⟨I.ok,I.os,I.bare,⟨fun b o e n hb hx=>?_,fun b o e n hb hx=>?_,I.base.free,fun b o e hx=>?_,I.base.tups,I.base.frzs,I.base.tbls⟩,⟨_,hn',fun j y v' e1 e2 e3=>?_⟩,fun y c e=>?_,I.free,I.freeC,fun p hp=>?_,tracked ⟨oL,hoL,I.free⟩ hs,by simpa using I.len⟩ ⟨_,hs,.inl rfl⟩
  ·exact (hs.2 b (Nat.ne_of_lt (Nat.lt_of_lt_of_le (Heap.lt_size e) I.ok.above))).trans (I.base.keep b o e n hb hx)
  ·obtain ⟨sl,e1⟩:=I.base.slot b o e n hb hx
   exact ⟨sl,(hs.2 b (Nat.ne_of_lt (Nat.lt_of_lt_of_le (Heap.lt_size e) I.ok.above))).trans e1⟩
  ·obtain ⟨o',e1⟩:=I.base.there b o e hx
   exact ⟨o',(hs.2 b (Nat.ne_of_lt (Nat.lt_of_lt_of_le (Heap.lt_size e) I.ok.above))).trans e1⟩
  ·by_cases hj:j = i
   ·subst hj
    rw [hi] at e1; cases e1
    rw [List.getElem?_set_self hiσ] at e2
    cases e2
    exact ⟨u,r,.inl ⟨hk,by simp⟩⟩
   ·rw [List.getElem?_set_ne (Ne.symm hj)] at e2
    obtain ⟨u',r',q⟩:=hl j y v' e1 e2 e3
    refine ⟨u',r',?_⟩
    rcases q with ⟨k,e⟩ | ⟨k,c,e,z⟩
    ·refine .inl ⟨k,?_⟩
     have:y ≠ x:=fun e=>hj (Z16 hN e1 (e ▸ hi))
     simp [this,e]
    ·exact .inr ⟨k,c,e,z.sameBut hs (cne y c e)⟩
  ·obtain ⟨w',z⟩:=I.cell y c e
   exact ⟨w',z.sameBut hs (cne y c e)⟩
  ·obtain ⟨e,n,ne,nf,d⟩:=I.pin p hp
   exact ⟨(hs.2 p.1 ne).trans e,n,ne,nf,d⟩
 ·have hfn:X.fn x = true:=by
   rcases hf with z | z
   ·exact z
   ·rw [z] at hk; cases hk
  obtain ⟨c,hc⟩:=I.ok.has x (.inl hk)
  obtain ⟨w',z⟩:=I.cell x c hc
  refine wpAny_storeName_cell I.ok.kind hk hc z (fun h' hc' hs=>?_)
  obtain ⟨oc,hoc,hocd⟩:=id z
  refine h { s with heap:=h' } ⟨I.ok,I.os,I.bare,⟨fun b o e n hb hx=>?_,fun b o e n hb hx=>?_,I.base.free,fun b o e hx=>?_,I.base.tups,I.base.frzs,I.base.tbls⟩,⟨m,hn.sameBut hs (Ne.symm (cne x c hc)),fun j y v' e1 e2 e3=>?_⟩,fun y c' e=>?_,I.free,I.freeC,fun p hp=>?_,tracked ⟨oc,hoc,I.freeC x c hc⟩ hs,by simpa using I.len⟩ ⟨c,hs,.inr hc⟩
  ·exact (hs.2 b (Nat.ne_of_lt (Nat.lt_of_lt_of_le (Heap.lt_size e) (I.ok.cab x c hfn hc)))).trans (I.base.keep b o e n hb hx)
  ·obtain ⟨sl,e1⟩:=I.base.slot b o e n hb hx
   exact ⟨sl,(hs.2 b (Nat.ne_of_lt (Nat.lt_of_lt_of_le (Heap.lt_size e) (I.ok.cab x c hfn hc)))).trans e1⟩
  ·obtain ⟨o',e1⟩:=I.base.there b o e hx
   exact ⟨o',(hs.2 b (Nat.ne_of_lt (Nat.lt_of_lt_of_le (Heap.lt_size e) (I.ok.cab x c hfn hc)))).trans e1⟩
  ·by_cases hj:j = i
   ·subst hj
    rw [hi] at e1; cases e1
    rw [List.getElem?_set_self hiσ] at e2
    cases e2
    exact ⟨u,r,.inr ⟨.inl hk,c,hc,hc'⟩⟩
   ·rw [List.getElem?_set_ne (Ne.symm hj)] at e2
    obtain ⟨u',r',q⟩:=hl j y v' e1 e2 e3
    refine ⟨u',r',?_⟩
    rcases q with q | ⟨k,c',e,z'⟩
    ·exact .inl q
    ·refine .inr ⟨k,c',e,z'.sameBut hs ?_⟩
     rintro rfl
     exact hj (Z16 hN e1 (I.ok.inj _ _ _ e hc ▸ hi))
  ·by_cases hcc:c' = c
   ·subst hcc; exact ⟨_,hc'⟩
   ·obtain ⟨w2,z2⟩:=I.cell y c' e
    exact ⟨w2,z2.sameBut hs hcc⟩
  ·obtain ⟨e,n,ne,nf,d⟩:=I.pin p hp
   refine ⟨(hs.2 p.1 ?_).trans e,n,ne,nf,d⟩
   intro q
   rw [q,hoc] at e
   have q':oc = p.2:=Option.some.inj e
   exact d w' (by rw [← q']; exact hocd)
theorem Z0k {M:Model} {A:Around} {E:Value→Shared→Prop} {i:Nat} {x:Str} {v:V} {u:Value} {Q:Unit→Shared→Prop} (I:Inv X pins σ H s) (hN:X.N.Nodup) (hi:X.N[i]? = some x) (hx:Loc X.env.scope x) (r:RelV v u)
  (h:∀ s',Inv X pins (σ.set i (some v)) H s'→Q () s') (hf:X.fn x = true ∨ X.env.scope.names.lookup x = some .local:=by first | exact .inl rfl | exact .inr rfl | assumption):wpAny M A (storeName X.env x u) Q E s :=
 Ta I hN hi hx r (fun s' I' _=>h s' I') hf
theorem Inv.call' {s':Shared} {ch:List Addr} (I:Inv X pins σ H s) (ho:s'.os = s.os) (u:Un (frs X.stack) ch H H' s.heap s'.heap) (hok:HOk X.prog X.w H' s'.heap) (hg:AllBare s'.gens)
  (hch:∀ b ∈ ch,(b ∈ X.ex ∨ X.s₀.heap.objs.size ≤ b)∧b ≠ X.env.locals∧(∀ x c,X.env.cells.lookup x = some c→c ≠ b)∧∀ p ∈ X.pn ++ pins,p.1 ≠ b):Inv X pins σ H' s':=by
 obtain ⟨h',g',d',t',o'⟩:=s'
 have e:o' = s.os:=ho
 subst e
 exact I.call (g':=g') (t':=t') (d':=d') u hok hg hch
end
abbrev XK:=Value→Option Addr→Hp→Prop
abbrev St:=List (Option V)
abbrev VK:=V→Hp→Prop
abbrev TE:=St→Hp→VK→Prop
abbrev TT:=St→Hp→(Bool→Hp→Prop)→Prop
abbrev TA:=St→Hp→(List V→Hp→Prop)→Prop
structure Ends where
 nx:St→Hp→Prop
 rt:VK
 bk:St→Hp→Prop:=fun _ _=>False
 ct:St→Hp→Prop:=fun _ _=>False
abbrev TS:=Ends→St→Hp→Prop
def EP (X:Cx) (pins:List (Addr × Obj)) (σ:St) (Q:VK) (u:Value) (s':Shared):Prop:=∃ v H',Inv X pins σ H' s'∧RelV v u∧Q v H'
def TP (X:Cx) (pins:List (Addr × Obj)) (σ:St) (Q:Bool→Hp→Prop) (b:Bool) (s':Shared):Prop:=∃ H',Inv X pins σ H' s'∧Q b H'
def AP (X:Cx) (pins:List (Addr × Obj)) (σ:St) (Q:List V→Hp→Prop) (us:List Value) (s':Shared):Prop:=∃ vs H',Inv X pins σ H' s'∧Vals vs us∧Q vs H'
def SP (X:Cx) (pins:List (Addr × Obj)) (D:Ends) (f:Flow) (s':Shared):Prop :=
 match f with
 | .next=>∃ σ' H',Inv X pins σ' H' s'∧D.nx σ' H'
 | .brk=>∃ σ' H',Inv X pins σ' H' s'∧D.bk σ' H'
 | .cont=>∃ σ' H',Inv X pins σ' H' s'∧D.ct σ' H'
 | .ret u=>∃ v σ' H',Inv X pins σ' H' s'∧RelV v u∧D.rt v H'
def PE (X:Cx) (e:Expr) (t:TE):Prop :=
 ∀ (pins:List (Addr × Obj)) (s:Shared) (σ:St) (H:Hp) (Q:VK),Inv X pins σ H s→t σ H Q→wpAny (model X.prog X.w) X.A (eval e X.env) (EP X pins σ Q) X.xe s
def PT (X:Cx) (e:Expr) (t:TT):Prop :=
 ∀ (pins:List (Addr × Obj)) (s:Shared) (σ:St) (H:Hp) (Q:Bool→Hp→Prop),Inv X pins σ H s→t σ H Q→wpAny (model X.prog X.w) X.A (isTrue e X.env (eval e X.env)) (TP X pins σ Q) X.xe s
def PW (X:Cx) (e:Expr) (t:TT):Prop :=
 ∀ (whole:Sem Value) (pins:List (Addr × Obj)) (s:Shared) (σ:St) (H:Hp) (Q:Bool→Hp→Prop),Inv X pins σ H s→t σ H Q→wpAny (model X.prog X.w) X.A (isTrue e X.env whole) (TP X pins σ Q) X.xe s
theorem PW.pt {X:Cx} {e:Expr} {t:TT} (h:PW X e t):PT X e t:=h _
def PA (X:Cx) (es:List Expr) (t:TA):Prop :=
 ∀ (pos:Pos) (pins:List (Addr × Obj)) (s:Shared) (σ:St) (H:Hp) (Q:List V→Hp→Prop),Inv X pins σ H s→t σ H Q→wpAny (model X.prog X.w) X.A (spliced (backTo pos (starEach es X.env))) (AP X pins σ Q) X.xe s
def PS (X:Cx) (st:Stmt) (t:TS):Prop :=
 ∀ (pins:List (Addr × Obj)) (s:Shared) (σ:St) (H:Hp) (D:Ends),Inv X pins σ H s→t D σ H→wpAny (model X.prog X.w) X.A (exec st X.env) (SP X pins D) X.xe s
def PSs (X:Cx) (st:List Stmt) (t:TS):Prop :=
 ∀ (pins:List (Addr × Obj)) (s:Shared) (σ:St) (H:Hp) (D:Ends),Inv X pins σ H s→t D σ H→wpAny (model X.prog X.w) X.A (execs st X.env) (SP X pins D) X.xe s
theorem thn {α:Type} {t:Sem α} {Q Q':α→Shared→Prop} {M:Model} {A:Around} {E:Value→Shared→Prop} {s:Shared} (h:wpAny M A t Q E s) (hQ:∀ a s,Q a s→Q' a s):wpAny M A t Q' E s:=wpAny_mono h hQ fun _ _ x=>x
section
variable {X:Cx}
theorem bin {a b:Expr} {ta tb:TE} (ha:PE X a ta) (hb:PE X b tb) {pins:List (Addr × Obj)} {s:Shared} {σ:St} {H:Hp} {R:V→V→Hp→Prop} (I:Inv X pins σ H s) (h:ta σ H fun x H1=>tb σ H1 fun y H2=>R x y H2)
  {α:Type} {Q:α→Shared→Prop} {f:Value→Value→Sem α}
  (hf:∀ v u s2 x y H2,Inv X pins σ H2 s2→RelV x v→RelV y u→R x y H2→wpAny (model X.prog X.w) X.A (f v u) Q X.xe s2) :
  wpAny (model X.prog X.w) X.A (eval a X.env) (fun v s₁=>wpAny (model X.prog X.w) X.A (eval b X.env) (fun u s₂=>wpAny (model X.prog X.w) X.A (f v u) Q X.xe s₂) X.xe s₁) X.xe s:=by
 refine thn (ha pins s σ H _ I h) fun v s1 ⟨x,H1,I1,r1,q1⟩=>?_
 refine thn (hb pins s1 σ H1 _ I1 q1) fun u s2 ⟨y,H2,I2,r2,q2⟩=>?_
 exact hf v u s2 x y H2 I2 r1 r2 q2
def Jk (i:Nat):TE:=fun σ H Q=>∃ v,σ[i]? = some (some v)∧Q v H
def tC (v:V):TE:=fun _ H Q=>Q v H
theorem Za6 {i:Nat} {x:Str} {pos:Pos} (hN:X.N[i]? = some x) (hv:Vis X.env.scope x) (hd:(x == ("__debug__":Str)) = false:=by decide) (hcd:(x == ("__classdict__":Str)) = false:=by decide):PE X (.Name x pos) (Jk i):=by
 intro pins s σ H Q I h
 obtain ⟨v,e,h⟩:=h
 obtain ⟨m,hn,hl⟩:=I.loc
 obtain ⟨u,r,l⟩:=hl i x v hN e hv
 have fin:EP X pins σ Q u s:=⟨v,H,I,r,h⟩
 rcases l with ⟨hk,hm⟩ | ⟨hk,c,hc,hcell⟩
 ·exact wpAny_Name (wpAny_loadName_local I.ok.kind hk hn hm fin) hd
 ·rcases hk with hk | hk
  ·exact wpAny_Name (wpAny_loadName_cell I.ok.kind hk hc hcell fin) hd
  ·exact wpAny_Name (wpAny_loadName_free I.ok.kind hk hc hcell fin hcd) hd
theorem Z6 {i j pos}:PE X (.Constant (.int i) j pos) (tC (.int i)):=fun _ _ _ H _ I h=>wpAny_Constant_int ⟨.int i,H,I.tok _,⟨_,rfl⟩,h⟩
theorem W7 {b j pos}:PE X (.Constant (.bool b) j pos) (tC (.bl b)):=fun _ _ _ H _ I h=>Constant_bool ⟨.bl b,H,I,rfl,h⟩
theorem Z11 {j pos}:PE X (.Constant .none j pos) (tC .non):=fun _ _ _ H _ I h=>Constant_none ⟨.non,H,I,rfl,h⟩
theorem Zj {x j pos}:PE X (.Constant (.str x) j pos) (tC (.str x)):=fun _ _ _ H _ I h=>Calls.Constant_str ⟨.str x,H,I.tok _,⟨_,rfl⟩,h⟩
def Gl (X:Cx) (x:Str):Prop:=X.env.kindOf x = some .globalImplicit
theorem Z05 {E:Value→Shared→Prop} {pins:List (Addr × Obj)} {s:Shared} {σ:St} {H:Hp} {x:Str} {u:Value} {pos:Pos} {Q:Value→Shared→Prop} (I:Inv X pins σ H s) (hg:Gl X x) (hm:X.mg x = some u) (h:Q u s)
  (hd:(x == ("__debug__":Str)) = false:=by decide):wpAny (model X.prog X.w) X.A (eval (.Name x pos) X.env) Q E s :=
 Calls.Name_function_global I.ok.kind hg (Calls.loadGlobal_global (by rw [I.ok.glob]; exact I.mod.glob.keeps I.bk) hm h) hd
theorem J4 {E:Value→Shared→Prop} {pins:List (Addr × Obj)} {s:Shared} {σ:St} {H:Hp} {x:Str} {u:Value} {pos:Pos} {Q:Value→Shared→Prop} (I:Inv X pins σ H s) (hg:Gl X x) (hm:X.mg x = none) (hv:bootBuiltins x = some u) (h:Q u s)
  (hn:x ≠ "__name__":=by decide) (hd:(x == ("__debug__":Str)) = false:=by decide):wpAny (model X.prog X.w) X.A (eval (.Name x pos) X.env) Q E s:=by
 obtain ⟨mb,h1,h2⟩:=I.mod.blt
 exact Calls.Name_function_global I.ok.kind hg (Calls.loadGlobal_builtin (by rw [I.ok.glob]; exact I.mod.glob.keeps I.bk) hm (by rw [I.ok.blt]; exact h1.keeps I.bk) ((h2 x hn).trans hv) h) hd
theorem Wh {x:Str} {v:V} {u:Value} {pos:Pos} (hg:Gl X x) (hm:X.mg x = some u) (r:RelV v u) (hd:(x == ("__debug__":Str)) = false:=by decide):PE X (.Name x pos) (tC v) :=
 fun _ _ _ H _ I h=>Z05 I hg hm ⟨v,H,I,r,h⟩ hd
theorem Yx {x:Str} {v:V} {u:Value} {pos:Pos} (hg:Gl X x) (hm:X.mg x = none) (hv:bootBuiltins x = some u) (r:RelV v u) (hn:x ≠ "__name__":=by decide) (hd:(x == ("__debug__":Str)) = false:=by decide):PE X (.Name x pos) (tC v) :=
 fun _ _ _ H _ I h=>J4 I hg hm hv ⟨v,H,I,r,h⟩ hn hd
variable {a b:Expr} {ta tb:TE} {pos:Pos}
def PC (X:Cx) (op:CmpOp) (a b:Expr) (t:TE):Prop :=
 ∀ (pins:List (Addr × Obj)) (s:Shared) (σ:St) (H:Hp) (Q:VK),Inv X pins σ H s→t σ H Q →
  wpAny (model X.prog X.w) X.A (eval a X.env) (fun v s₁=>wpAny (model X.prog X.w) X.A (eval b X.env) (fun u s₂=>wpAny (model X.prog X.w) X.A (compareOp op v u) (EP X pins σ Q) X.xe s₂) X.xe s₁) X.xe s
theorem Z18 (b:Expr) {op:CmpOp} (h:op ≠ .In) (h2:op ≠ .NotIn):behindInMarks op b = false:=by
 have e1:(op == CmpOp.In) = false:=by cases op <;> first | rfl | exact absurd rfl h
 have e2:(op == CmpOp.NotIn) = false:=by cases op <;> first | rfl | exact absurd rfl h2
 cases b <;> simp [behindInMarks,e1,e2]
def Zc6 (ta:TE):TE:=fun σ H Q=>ta σ H fun x H1=>Q (.bl (decide (x = .non))) H1
theorem RelV.none_iff {x:V} {v:Value} (r:RelV x v):(v == Value.none) = decide (x = .non):=by
 cases x with
 | non=>cases r; rfl
 | bl _=>cases r; rfl
 | int _=>obtain ⟨t,rfl⟩:=r; rfl
 | str _=>obtain ⟨t,rfl⟩:=r; rfl
 | byt _=>obtain ⟨t,rfl⟩:=r; rfl
 | flt _=>obtain ⟨t,rfl⟩:=r; rfl
 | ref _=>cases r; rfl
 | ty _=>cases r; rfl
theorem Tu {j pos'} (ha:PE X a ta):PC X .Is a (.Constant .none j pos') (Zc6 ta):=by
 intro pins s σ H Q I h
 refine thn (ha pins s σ H _ I h) fun v s1 ⟨x,H1,I1,r1,q1⟩=>?_
 exact Constant_none (is_none_gen ⟨.bl _,H1,I1,by rw [r1.none_iff]; rfl,q1⟩)
def tB (t:TE):TT:=fun σ H Q=>t σ H fun x H1=>∃ c,x = .bl c∧Q c H1
theorem Z6z {op:CmpOp} {t:TE} (h:PC X op a b t) (h1:behindInMarks op b = false:=by first | exact Z18 _ (by decide) (by decide) | rfl):PE X (.Compare a [op] [b] pos) t:=fun pins s σ H Q I hw=>wpAny_Compare1 (h pins s σ H Q I hw) h1
theorem Z3o {op:CmpOp} {t:TE} (h:PC X op a b t) (h1:behindInMarks op b = false:=by first | exact Z18 _ (by decide) (by decide) | rfl):PT X (.Compare a [op] [b] pos) (tB t):=by
 intro pins s σ H Q I hw
 refine wpAny_isTrue_Compare1 (thn (h pins s σ H _ I hw) fun v s1 h1=>thn h1 fun u s2 h2=>thn h2 fun c s3 ⟨x,H1,I1,r1,q1⟩=>?_) h1
 obtain ⟨d,rfl,q⟩:=q1
 cases r1
 exact wpAny_truthy_bool ⟨H1,I1,q⟩
theorem Yt {e:Expr} {t:TE} (h:PE X e t) (he:∀ whole,isTrue e X.env whole = (do let v ← whole; standAt e.pos; holding [v] (truthy v)):=by intro _; rfl):PT X e (tB t):=by
 intro pins s σ H Q I hw
 refine isTrue_plain (thn (h pins s σ H _ I hw) fun v s1 ⟨x,H1,I1,r1,q1⟩=>?_) (he _)
 obtain ⟨d,rfl,q⟩:=q1
 cases r1
 exact wpAny_truthy_bool ⟨H1,I1,q⟩
variable {tA tB':TT} {rest:List Expr}
def Zcl (t u:TT):TT:=fun σ H Q=>t σ H fun c H1=>if c = true then u σ H1 Q else Q false H1
def tOr (t u:TT):TT:=fun σ H Q=>t σ H fun c H1=>if c = true then Q true H1 else u σ H1 Q
def Zci (t:TT):TT:=fun σ H Q=>t σ H fun c H1=>Q (!c) H1
theorem V2 (ha:PT X a tA):PW X (.BoolOp .And [a] pos) tA:=by
 intro wh pins s σ H Q I h
 refine isTrue_and (thn (ha pins s σ H Q I h) fun c s1 e=>?_)
 cases c with
 | true=>exact isTrue_and_nil e
 | false=>exact e
theorem Z3m (ha:PT X a tA):PW X (.BoolOp .Or [a] pos) tA:=by
 intro wh pins s σ H Q I h
 refine isTrue_or (thn (ha pins s σ H Q I h) fun c s1 e=>?_)
 cases c with
 | false=>exact isTrue_or_nil e
 | true=>exact e
theorem U2 (ha:PT X a tA) (hb:PW X (.BoolOp .And (b :: rest) pos) tB'):PW X (.BoolOp .And (a :: b :: rest) pos) (Zcl tA tB'):=by
 intro wh pins s σ H Q I h
 refine isTrue_and (thn (ha pins s σ H _ I h) fun c s1 ⟨H1,I1,q1⟩=>?_)
 cases c with
 | true=>exact hb wh pins s1 σ H1 Q I1 q1
 | false=>exact ⟨H1,I1,q1⟩
theorem Z7w (ha:PT X a tA) (hb:PW X (.BoolOp .Or (b :: rest) pos) tB'):PW X (.BoolOp .Or (a :: b :: rest) pos) (tOr tA tB'):=by
 intro wh pins s σ H Q I h
 refine isTrue_or (thn (ha pins s σ H _ I h) fun c s1 ⟨H1,I1,q1⟩=>?_)
 cases c with
 | true=>exact ⟨H1,I1,q1⟩
 | false=>exact hb wh pins s1 σ H1 Q I1 q1
theorem Z3n (ha:PT X a tA):PT X (.UnaryOp .Not a pos) (Zci tA):=by
 intro pins s σ H Q I h
 exact isTrue_not (ha pins s σ H (fun c H1=>Q (!c) H1) I h)
def Zbe (ta tb:TE):TE:=fun σ H Q=>ta σ H fun x H1=>∃ c,x = .bl c∧if c = true then tb σ H1 Q else Q (.bl false) H1
def Zc4 (ta tb:TE):TE:=fun σ H Q=>ta σ H fun x H1=>∃ c,x = .bl c∧if c = true then Q (.bl true) H1 else tb σ H1 Q
def Zba (ta:TE):TE:=fun σ H Q=>ta σ H fun x H1=>∃ c,x = .bl c∧Q (.bl (!c)) H1
theorem Z10 {op} {t:TE} (h:PE X a t):PE X (.BoolOp op [a] pos) t:=fun pins s σ H Q I hw=>BoolOp_one (h pins s σ H Q I hw)
theorem Z12 (ha:PE X a ta) (hb:PE X (.BoolOp .And (b :: rest) pos) tb):PE X (.BoolOp .And (a :: b :: rest) pos) (Zbe ta tb):=by
 intro pins s σ H Q I h
 refine BoolOp_and (thn (ha pins s σ H _ I h) fun v s1 ⟨x,H1,I1,r1,q1⟩=>?_)
 obtain ⟨c,rfl,q1⟩:=q1
 cases r1
 refine wpAny_truthy_bool ?_
 cases c with
 | true=>exact hb pins s1 σ H1 Q I1 q1
 | false=>exact ⟨.bl false,H1,I1,rfl,q1⟩
theorem Zbl (ha:PE X a ta) (hb:PE X (.BoolOp .Or (b :: rest) pos) tb):PE X (.BoolOp .Or (a :: b :: rest) pos) (Zc4 ta tb):=by
 intro pins s σ H Q I h
 refine BoolOp_or (thn (ha pins s σ H _ I h) fun v s1 ⟨x,H1,I1,r1,q1⟩=>?_)
 obtain ⟨c,rfl,q1⟩:=q1
 cases r1
 refine wpAny_truthy_bool ?_
 cases c with
 | false=>exact hb pins s1 σ H1 Q I1 q1
 | true=>exact ⟨.bl true,H1,I1,rfl,q1⟩
theorem Za7 (ha:PE X a ta):PE X (.UnaryOp .Not a pos) (Zba ta):=by
 intro pins s σ H Q I h
 refine UnaryOp_ (thn (ha pins s σ H _ I h) fun v s1 ⟨x,H1,I1,r1,q1⟩=>?_)
 obtain ⟨c,rfl,q1⟩:=q1
 cases r1
 exact not_of (wpAny_truthy_bool ⟨.bl (!c),H1,I1,rfl,q1⟩)
def tIf (t:TT) (ta tb:TE):TE:=fun σ H Q=>t σ H fun c H1=>if c = true then ta σ H1 Q else tb σ H1 Q
theorem W6 {c:Expr} (hc:PT X c tA) (ha:PE X a ta) (hb:PE X b tb):PE X (.IfExp c a b pos) (tIf tA ta tb):=by
 intro pins s σ H Q I h
 refine wpAny_IfExp (thn (hc pins s σ H _ I h) fun d s1 ⟨H1,I1,q1⟩=>?_)
 cases d with
 | true=>exact ha pins s1 σ H1 Q I1 q1
 | false=>exact hb pins s1 σ H1 Q I1 q1
end
def SqL (K:PySem.W.Frag) (H:Hp) (a:Addr) (xs:List V):Prop :=
 Rd H a (.lst xs) ∨
  ∃ (o:Obj) (its:Array Value) (n:Nat),K.lookup a = some o∧o.cls = .type "list"∧o.dict = none∧o.data = .seq its n∧its.size ≤ sizeLine∧Vals xs its.toList
def SqT (K:PySem.W.Frag) (H:Hp) (a:Addr) (xs:List V):Prop :=
 Rd H a (.tup xs) ∨
  ∃ (o:Obj) (its:Array Value) (n:Nat),K.lookup a = some o∧o.cls = .type "tuple"∧o.data = .seq its n∧its.size ≤ sizeLine∧Vals xs its.toList
def Zd3:Value→Option V
 | .none=>some .non
 | .bool b=>some (.bl b)
 | .int i _=>some (.int i)
 | .str x _=>some (.str x)
 | .bytes b _=>some (.byt b)
 | .float b _=>some (.flt b)
 | .ref a=>some (.ref a)
 | .type n=>some (.ty n)
 | _=>none
theorem RelV.abs {x:V} {u:Value} (r:RelV x u):Zd3 u = some x:=by
 cases x with
 | non=>cases r; rfl
 | bl _=>cases r; rfl
 | int _=>obtain ⟨t,rfl⟩:=r; rfl
 | str _=>obtain ⟨t,rfl⟩:=r; rfl
 | byt _=>obtain ⟨t,rfl⟩:=r; rfl
 | flt _=>obtain ⟨t,rfl⟩:=r; rfl
 | ref _=>cases r; rfl
 | ty _=>cases r; rfl
theorem RelV.inj {x y:V} {u:Value} (r:RelV x u) (q:RelV y u):x = y:=Option.some.inj (r.abs.symm.trans q.abs)
theorem Vals.inj:∀ {xs ys:List V} {us:List Value},Vals xs us→Vals ys us→xs = ys
 | _,_,_,.nil,.nil=>rfl
 | _,_,_,.cons r t,.cons r' t'=>by rw [r.inj r',Vals.inj t t']
section
variable {X:Cx} {pins:List (Addr × Obj)} {σ:St} {H:Hp} {s:Shared} {a:Addr} {xs ys:List V}
theorem SqL.of {K:PySem.W.Frag} (h:H a = some (.lst xs)):SqL K H a xs:=.inl (.inl h)
theorem SqT.of {K:PySem.W.Frag} (h:H a = some (.tup xs)):SqT K H a xs:=.inl (.inl h)
theorem Inv.list (I:Inv X pins σ H s) (h:SqL X.K H a xs):∃ its:List Value,Vals xs its∧PlainL s.heap a its.toArray∧xs.length ≤ sizeLine:=by
 rcases h with h | ⟨o,its,n,hk,hc,hd,hs,hz,r⟩
 ·obtain ⟨z,its,n,r,e⟩:=h.ok I.hok
  exact ⟨its,r,⟨_,n,e,rfl,rfl,rfl⟩,z⟩
 ·refine ⟨its.toList,r,⟨o,n,I.kIn a o hk,hc,hd,by simpa using hs⟩,?_⟩
  have e:=r.length
  simp only [Array.length_toList] at e
  omega
theorem Inv.tuple (I:Inv X pins σ H s) (h:SqT X.K H a xs):∃ its:List Value,Vals xs its∧IsTup s.heap a its.toArray∧xs.length ≤ sizeLine:=by
 rcases h with h | ⟨o,its,n,hk,hc,hs,hz,r⟩
 ·obtain ⟨z,its,r,p⟩:=h.ok I.hok
  exact ⟨its,r,p,z⟩
 ·refine ⟨its.toList,r,⟨o,I.kIn a o hk,hc,n,by simpa using hs⟩,?_⟩
  have e:=r.length
  simp only [Array.length_toList] at e
  omega
theorem Inv.list_inj (I:Inv X pins σ H s) (h:SqL X.K H a xs) (h':SqL X.K H a ys):xs = ys:=by
 obtain ⟨its,r,⟨o,n,e,_,_,d⟩,_⟩:=I.list h
 obtain ⟨its',r',⟨o',n',e',_,_,d'⟩,_⟩:=I.list h'
 rw [e] at e'; cases e'
 rw [d] at d'
 injection d' with d1 _
 have:its = its':=by simpa using congrArg Array.toList d1
 subst this
 exact r.inj r'
theorem Inv.tuple_inj (I:Inv X pins σ H s) (h:SqT X.K H a xs) (h':SqT X.K H a ys):xs = ys:=by
 obtain ⟨its,r,⟨o,e,_,n,d⟩,_⟩:=I.tuple h
 obtain ⟨its',r',⟨o',e',_,n',d'⟩,_⟩:=I.tuple h'
 rw [e] at e'; cases e'
 rw [d] at d'
 injection d' with d1 _
 have:its = its':=by simpa using congrArg Array.toList d1
 subst this
 exact r.inj r'
end
abbrev Cx.wish (X:Cx) (E:Value→Shared→Prop):Cx:={ X with xe:=E }
abbrev Cx.nox (X:Cx):Cx:=X.wish fun _ _=>False
theorem Cx.Ok.wish {X:Cx} (ok:X.Ok) (E:Value→Shared→Prop):(X.wish E).Ok :=
 ⟨ok.mod,ok.kind,ok.glob,ok.blt,ok.above,ok.inj,ok.has,ok.cab,ok.hd,ok.frames,ok.stk,ok.exf,ok.bs,ok.bsz,ok.noex,ok.exfs,ok.funs,ok.frf⟩
theorem Cx.Ok.unwish {X:Cx} {E:Value→Shared→Prop} (ok:(X.wish E).Ok):X.Ok :=
 ⟨ok.mod,ok.kind,ok.glob,ok.blt,ok.above,ok.inj,ok.has,ok.cab,ok.hd,ok.frames,ok.stk,ok.exf,ok.bs,ok.bsz,ok.noex,ok.exfs,ok.funs,ok.frf⟩
section
variable {X:Cx} {pins:List (Addr × Obj)} {σ:St} {H:Hp} {s:Shared} {E:Value→Shared→Prop}
theorem Inv.wish (I:Inv X pins σ H s) (E:Value→Shared→Prop):Inv (X.wish E) pins σ H s:=⟨I.ok.wish E,I.os,I.bare,I.base,I.loc,I.cell,I.free,I.freeC,I.pin,I.hok,I.len⟩
theorem Inv.unwish (I:Inv (X.wish E) pins σ H s):Inv X pins σ H s:=⟨I.ok.unwish,I.os,I.bare,I.base,I.loc,I.cell,I.free,I.freeC,I.pin,I.hok,I.len⟩
theorem SP.unwish {D:Ends} {f:Flow} {s':Shared} (h:SP (X.wish E) pins D f s'):SP X pins D f s':=by
 cases f with
 | next=>obtain ⟨σ',H',I,q⟩:=h; exact ⟨σ',H',I.unwish,q⟩
 | brk=>obtain ⟨σ',H',I,q⟩:=h; exact ⟨σ',H',I.unwish,q⟩
 | cont=>obtain ⟨σ',H',I,q⟩:=h; exact ⟨σ',H',I.unwish,q⟩
 | ret u=>obtain ⟨v,σ',H',I,r,q⟩:=h; exact ⟨v,σ',H',I.unwish,r,q⟩
theorem PSs.nox {st:List Stmt} {t:TS} (h:PSs X.nox st t):PSs X st t:=fun pins s σ H D I hw =>
 wpAny_mono (h pins s σ H D (I.wish _) hw) (fun _ _ q=>q.unwish) fun _ _ z=>False.elim z
end
section
variable {X:Cx} {st:Stmt} {rest:List Stmt} {t u:TS} {e:Expr} {te:TE} {pos:Pos}
def Zs:TS:=fun D σ H=>D.nx σ H
def Za (t u:TS):TS:=fun D σ H=>t { D with nx:=u D } σ H
theorem Zr:PSs X [] Zs:=fun _ _ σ H _ I h=>wpAny_execs_nil ⟨σ,H,I,h⟩
theorem Z2 (h1:PS X st t) (h2:PSs X rest u):PSs X (st :: rest) (Za t u):=by
 intro pins s σ H D I h
 refine wpAny_execs_cons (thn (h1 pins s σ H { D with nx:=u D } I h) fun f s1 q=>?_)
 cases f with
 | next =>
  obtain ⟨σ',H',I',q⟩:=q
  exact h2 pins s1 σ' H' D I' q
 | ret v=>exact q
 | brk=>exact q
 | cont=>exact q
theorem Z4 (h1:PS X st t):PSs X [st] t:=by
 intro pins s σ H D I h
 refine wpAny_execs_cons (thn (h1 pins s σ H D I h) fun f s1 q=>?_)
 cases f with
 | next=>exact wpAny_execs_nil q
 | ret v=>exact q
 | brk=>exact q
 | cont=>exact q
theorem Inv.quiet {pins:List (Addr × Obj)} {σ:St} {H:Hp} {s:Shared} (I:Inv X pins σ H s):interactive X.env = false:=by simp [interactive,I.ok.kind]
def Zbc (te:TE):TS:=fun D σ H=>te σ H fun _ H1=>D.nx σ H1
theorem Z9 (he:PE X e te) (hs:swapsWith e none pos.line X.env = pure false:=by rfl):PS X (.Expr e pos) (Zbc te):=by
 intro pins s σ H D I h
 exact wpAny_Expr_any (thn (he pins s σ H _ I h) fun v s1 ⟨x,H1,I1,r1,q1⟩=>⟨σ,H1,I1,q1⟩) I.quiet hs
def Zc3 (te:TE):TS:=fun D σ H=>te σ H D.rt
theorem Zw (he:PE X e te):PS X (.Return (some e) pos) (Zc3 te):=by
 intro pins s σ H D I h
 exact wpAny_Return_some (thn (he pins s σ H _ I h) fun v s1 ⟨x,H1,I1,r1,q1⟩=>⟨x,σ,H1,I1,r1,q1⟩)
def Zb8:TS:=fun D _ H=>D.rt .non H
theorem Z3p:PS X (.Return none pos) Zb8:=fun _ _ σ H _ I h=>wpAny_Return_none ⟨.non,σ,H,I,rfl,h⟩
def Y4 (c:TT) (t u:TS):TS:=fun D σ H=>c σ H fun b H1=>if b = true then t D σ H1 else u D σ H1
theorem Y0 {c:Expr} {a b:List Stmt} {tc:TT} (hc:PT X c tc) (ha:PSs X a t) (hb:PSs X b u):PS X (.If c a b pos) (Y4 tc t u):=by
 intro pins s σ H D I h
 refine wpAny_If (thn (hc pins s σ H _ I h) fun d s1 ⟨H1,I1,q1⟩=>?_)
 cases d with
 | true=>exact ha pins s1 σ H1 D I1 q1
 | false=>exact hb pins s1 σ H1 D I1 q1
end
abbrev TG:=V→St→Hp→(St→Hp→Prop)→Prop
abbrev TGs:=List V→St→Hp→(St→Hp→Prop)→Prop
def PG (X:Cx) (target:Expr) (t:TG):Prop :=
 ∀ (pins:List (Addr × Obj)) (s:Shared) (σ:St) (H:Hp) (v:V) (u:Value) (Q:St→Hp→Prop),Inv X pins σ H s→RelV v u→t v σ H Q →
  wpAny (model X.prog X.w) X.A (assign target X.env u) (fun _ s'=>∃ σ' H',Inv X pins σ' H' s'∧Q σ' H') X.xe s
def PGs (X:Cx) (ts:List Expr) (t:TGs):Prop :=
 ∀ (pins:List (Addr × Obj)) (s:Shared) (σ:St) (H:Hp) (vs:List V) (us:List Value) (Q:St→Hp→Prop),Inv X pins σ H s→Vals vs us→t vs σ H Q →
  wpAny (model X.prog X.w) X.A (assignInOrder ((assignEach ts X.env).map (·.2)) us) (fun _ s'=>∃ σ' H',Inv X pins σ' H' s'∧Q σ' H') X.xe s
abbrev Zc0:=V→V→V→Hp→(Hp→Prop)→Prop
def Zcf (X:Cx) (t:Zc0):Prop :=
 ∀ (pins:List (Addr × Obj)) (s:Shared) (σ:St) (H:Hp) (o i v:V) (ov iv u:Value) (Q:Hp→Prop),Inv X pins σ H s→RelV o ov→RelV i iv→RelV v u→t o i v H Q →
  wpAny (model X.prog X.w) X.A (setItem ov iv u) (fun _ s'=>∃ H',Inv X pins σ H' s'∧Q H') X.xe s
section
variable {X:Cx} {pos:Pos}
def Z0a (i:Nat):TG:=fun v σ H Q=>Q (σ.set i (some v)) H
theorem Z3s {i:Nat} {x:Str} (hN:X.N.Nodup) (hi:X.N[i]? = some x) (hx:Loc X.env.scope x) (hf:X.fn x = true ∨ X.env.scope.names.lookup x = some .local:=by first | exact .inl rfl | exact .inr rfl | assumption):PG X (.Name x pos) (Z0a i):=by
 intro pins s σ H v u Q I r h
 exact wpAny_assign_Name (Z0k I hN hi hx r (fun s' I'=>⟨_,H,I',h⟩) hf)
def Zcx:TGs:=fun vs σ H Q=>vs = []∧Q σ H
def Zbv (t:TG) (u:TGs):TGs:=fun vs σ H Q=>∃ v r,vs = v :: r∧t v σ H fun σ' H'=>u r σ' H' Q
theorem Z7y:PGs X [] Zcx:=by
 intro pins s σ H vs us Q I r h
 obtain ⟨e,h⟩:=h
 subst e
 cases r
 exact assignInOrder_nil ⟨σ,H,I,h⟩
theorem Z0y {e:Expr} {es:List Expr} {t:TG} {u:TGs} (h1:PG X e t) (h2:PGs X es u)
  (hs:(assignEach (e :: es) X.env).map (·.2) = assign e X.env :: (assignEach es X.env).map (·.2):=by rfl):PGs X (e :: es) (Zbv t u):=by
 intro pins s σ H vs us Q I r h
 obtain ⟨v,vr,e1,h⟩:=h
 subst e1
 cases r with
 | cons r rr =>
  rw [hs]
  refine assignInOrder_cons (thn (h1 pins s σ H _ _ _ I r h) fun _ s1 ⟨σ1,H1,I1,q1⟩=>?_)
  exact h2 pins s1 σ1 H1 _ _ Q I1 rr q1
def Zcv (K:PySem.W.Frag) (n:Nat) (t:TGs):TG:=fun v σ H Q=>∃ a xs,v = .ref a∧SqT K H a xs∧xs.length = n∧t xs σ H Q
theorem Za5 {es:List Expr} {k:Nat} {t:TGs} {n:Nat} (hc:X.calm = true) (h:PGs X es t)
  (hn:(assignEach es X.env).length = n:=by rfl) (hst:(assignEach es X.env).findIdx? (·.1) = none:=by rfl):PG X (.Tuple es k pos) (Zcv X.K n t):=by
 intro pins s σ H v u Q I r hw
 obtain ⟨a,xs,e1,hq,hl,hw⟩:=hw
 subst e1
 cases r
 obtain ⟨its,rv,ht,hz⟩:=I.tuple hq
 refine assign_Tuple_tuple (I.ok.hd hc) ht (by simp [hn,← hl,rv.length]) hst fun h' hx=>?_
 have I1:Inv X pins σ H { s with heap:=h' }:=I.kept (t':=s.toks) fun b o e=>hx b o (Nat.ne_of_lt (Heap.lt_size e)) e
 exact h pins _ σ H xs _ Q I1 (by simpa using rv) hw
def Zcw (to ti:TE) (t:Zc0):TG:=fun v σ H Q=>to σ H fun o H1=>ti σ H1 fun i H2=>t o i v H2 fun H3=>Q σ H3
theorem V8 {o i:Expr} {to ti:TE} {t:Zc0} (ho:PE X o to) (hi:PE X i ti) (hs:Zcf X t)
  (ha:∀ v,assign (.Subscript o i pos) X.env v = (do
   let ov ← holding [v] (eval o X.env)
   let iv ← holding [v,ov] (eval i X.env)
   standAt pos
   holding [v,ov,iv] (setItem ov iv v)
   release [v,ov,iv] []):=by intro _; rfl):PG X (.Subscript o i pos) (Zcw to ti t):=by
 intro pins s σ H v u Q I r h
 rw [ha]
 refine wpAny_bind (wpAny_holding (thn (ho pins s σ H _ I h) fun ov s1 ⟨x,H1,I1,r1,q1⟩=>?_))
 refine wpAny_bind (wpAny_holding (thn (hi pins s1 σ H1 _ I1 q1) fun iv s2 ⟨y,H2,I2,r2,q2⟩=>?_))
 refine wpAny_bind (wpAny_standAt (wpAny_bind (wpAny_holding (thn (hs pins s2 σ H2 x y v ov iv u _ I2 r1 r2 r q2) fun _ s3 ⟨H3,I3,q3⟩=>?_))))
 exact wpAny_release ⟨σ,H3,I3,q3⟩
def Z9f (te:TE) (g:TG):TS:=fun D σ H=>te σ H fun x H1=>g x σ H1 D.nx
theorem V5 {tg e:Expr} {te:TE} {g:TG} (he:PE X e te) (hg:PG X tg g) (hs:swapsWithSole [tg] e pos.line X.env = pure false:=by rfl) (hw:swappedStores [tg] e X.env = pure none:=by rfl)
  (h1:(assignEach [tg] X.env).map (·.2) = [assign tg X.env]:=by rfl):PS X (.Assign [tg] e pos) (Z9f te g):=by
 intro pins s σ H D I h
 refine wpAny_Assign_stores (thn (he pins s σ H _ I h) fun v s1 ⟨x,H1,I1,r1,q1⟩=>?_) hs hw
 rw [h1]
 exact thn (hg pins s1 σ H1 x v _ I1 r1 q1) fun _ s2 q=>q
theorem Za2 {i:Nat} {x:Str} {e:Expr} {te:TE} {pos':Pos} (hN:X.N.Nodup) (hi:X.N[i]? = some x) (hx:Loc X.env.scope x) (he:PE X e te) (hs:swapsWith e (some (.Name x pos')) pos.line X.env = pure false:=by rfl) (hf:X.fn x = true ∨ X.env.scope.names.lookup x = some .local:=by first | exact .inl rfl | exact .inr rfl | assumption) :
  PS X (.Assign [.Name x pos'] e pos) (Z9f te (Z0a i)):=by
 intro pins s σ H D I h
 refine wpAny_Assign_Name (thn (he pins s σ H _ I h) fun v s1 ⟨y,H1,I1,r1,q1⟩=>?_) hs
 exact Z0k I1 hN hi hx r1 (fun s2 I2=>⟨_,H1,I2,q1⟩) hf
end
section
variable {X:Cx} {pos:Pos}
def Vt (c:TT) (tb:TS):TS:=fun D σ H=>∃ W:Nat→St→Hp→Prop,(∃ m,W m σ H)∧∀ m σ H,W m σ H →
 c σ H fun b H1=>if b = true then ∃ N:St→Hp→Prop,(∀ σ' H',N σ' H'→∃ m',m' < m∧W m' σ' H')∧tb { D with nx:=N,ct:=N,bk:=D.nx } σ H1 else D.nx σ H1
theorem Z0w {c:Expr} {body:List Stmt} {tc:TT} {tb:TS} (hp:PassesOwn (model X.prog X.w) X.A X.env X.xe) (hc:PT X c tc) (hb:PSs X body tb):PS X (.While c body [] pos) (Vt tc tb):=by
 intro pins s σ H D I h
 obtain ⟨W,⟨m0,w0⟩,turn⟩:=h
 refine wpAny_While (codeAny_whileLoop (fun n s'=>∃ σ' H',Inv X pins σ' H' s'∧W n σ' H') ?_ m0 ⟨σ,H,I,w0⟩)
 rintro n s1 ⟨σ1,H1,I1,w1⟩
 refine wpAny_passesOwn hp (thn (hc pins s1 σ1 H1 _ I1 (turn n σ1 H1 w1)) fun b s2 ⟨H2,I2,q2⟩=>?_)
 cases b with
 | true =>
  obtain ⟨N,hN,q2⟩:=q2
  rw [if_pos rfl]
  refine wpAny_passesOwn hp (thn (hb pins s2 σ1 H2 _ I2 q2) fun f s3 q3=>?_)
  cases f with
  | next =>
   obtain ⟨σ3,H3,I3,n3⟩:=q3
   obtain ⟨m',hm,w3⟩:=hN σ3 H3 n3
   exact ⟨m',hm,σ3,H3,I3,w3⟩
  | cont =>
   obtain ⟨σ3,H3,I3,n3⟩:=q3
   obtain ⟨m',hm,w3⟩:=hN σ3 H3 n3
   exact ⟨m',hm,σ3,H3,I3,w3⟩
  | brk=>exact q3
  | ret v=>exact q3
 | false =>
  rw [if_neg Bool.false_ne_true]
  exact wpAny_execs_nil ⟨σ1,H2,I2,q2⟩
end
structure It where
 go:Nat→Hp→Prop
 yld:Nat→Hp→V→Hp→Prop
 stop:Nat→Hp→Prop
def Z2t (X:Cx) (pins:List (Addr × Obj)) (H:Hp) (b:Addr):Prop :=
 H b = none∧b ≠ X.env.locals∧b ∉ X.fs∧(b ∈ X.ex ∨ X.s₀.heap.objs.size ≤ b)∧(∀ x c,X.env.cells.lookup x = some c→c ≠ b)∧∀ p ∈ X.pn ++ pins,p.1 ≠ b
theorem Inv.fpOk {X:Cx} {pins:List (Addr × Obj)} {σ:St} {H H':Hp} {s:Shared} {b:Addr} (I:Inv X pins σ H s) (hb:s.heap.objs.size ≤ b) (hn:H' b = none):Z2t X pins H' b:=by
 refine ⟨hn,Nat.ne_of_gt (Nat.lt_of_lt_of_le I.lt hb),I.nofs hb,.inr (Nat.le_trans I.sz hb),fun x c e z=>?_,fun p hp z=>?_⟩
 ·obtain ⟨v,q⟩:=I.cell x c e
  exact absurd (Nat.lt_of_lt_of_le q.lt (by rw [z]; exact hb)) (Nat.lt_irrefl _)
 ·exact absurd (Nat.lt_of_lt_of_le (Heap.lt_size (I.pin p hp).1) (by rw [z]; exact hb)) (Nat.lt_irrefl _)
structure Turn (P:Program) (w:World) (K:PySem.W.Frag) (tg:Expr) (J:It) (fp:List Addr) (it:Addr) (tn:Nat→Heap→Prop):Prop where
 mem:it ∈ fp
 obj:∀ i h,tn i h→∀ b ∈ fp,∃ o,h.get? b = some o∧∀ v,o.data ≠ .cell v
 keep:∀ i h h',tn i h→(∀ b ∈ fp,∀ o,h.get? b = some o→h'.get? b = some o)→tn i h'
 item:∀ (X:Cx),X.prog = P→X.w = w→X.K = K→X.calm = true→∀ (i:Nat) (pins:List (Addr × Obj)) (s:Shared) (σ:St) (H:Hp) (E:Value→Shared→Prop),Inv X pins σ H s→(∀ b ∈ fp,Z2t X pins H b)→tn i s.heap→J.go i H →
  wpAny (model P w) X.A (pyNext (.ref it)) (fun r s1=>∃ u,r = some u ∧
   wpAny (model P w) X.A (letOwnedTupleGo tg (.ref it) u) (fun _ s2=>∃ x H',Inv X pins σ H' s2∧RelV x u∧J.yld i H x H'∧tn (i + 1) s2.heap∧∀ b ∈ fp,H' b = none) E s1) E s
 done:∀ (X:Cx),X.prog = P→X.w = w→X.K = K→X.calm = true→∀ (i:Nat) (pins:List (Addr × Obj)) (s:Shared) (σ:St) (H:Hp) (E:Value→Shared→Prop),Inv X pins σ H s→(∀ b ∈ fp,Z2t X pins H b)→tn i s.heap→J.stop i H →
  wpAny (model P w) X.A (pyNext (.ref it)) (fun r s1=>r = none∧Inv X pins σ H s1) E s
 self:∀ (A:Around) (i:Nat) (s:Shared) (Q:Value→Shared→Prop) (E:Value→Shared→Prop),tn i s.heap→Q (.ref it) s→wpAny (model P w) A (pyIter (.ref it)) Q E s
abbrev TI:=St→Hp→(It→Hp→Prop)→Prop
def PIE (X:Cx) (pins:List (Addr × Obj)) (σ:St) (tg:Expr) (R:It→Hp→Prop) (itv:Value) (s2:Shared):Prop :=
 ∃ (it:Addr) (fp:List Addr) (tn:Nat→Heap→Prop) (J:It) (H':Hp),itv = .ref it∧Inv X pins σ H' s2∧Turn X.prog X.w X.K tg J fp it tn∧tn 0 s2.heap∧(∀ b ∈ fp,Z2t X pins H' b)∧R J H'
def PI (X:Cx) (tg iter:Expr) (wi:TI):Prop :=
 ∀ (pins:List (Addr × Obj)) (s:Shared) (σ:St) (H:Hp) (R:It→Hp→Prop),Inv X pins σ H s→wi σ H R →
  wpAny (model X.prog X.w) X.A (eval iter X.env) (fun v s1=>wpAny (model X.prog X.w) X.A (pyIter v) (PIE X pins σ tg R) X.xe s1) X.xe s
theorem Z8u {M : Model} {A : Around} {E : Value → Shared → Prop} {s : Shared} {tg : Expr} {it : Addr} {u : Value} {o : Obj} {n : String} {vs : Array Value} {Q : Unit → Shared → Prop} (ho : s.heap.get? it = some o) (hc : o.cls = .type n) (hd : o.data = .fields vs)
    (hn : ["enumerate", "zip", "dict_itemiterator", "dict_reverseitemiterator", "odict_iterator", "itertools.zip_longest", "itertools.pairwise"].contains n = false) (hQ : Q () s) : wpAny M A (letOwnedTupleGo tg (.ref it) u) Q E s := by
  unfold letOwnedTupleGo
  cases tg <;> first
    | exact wpAny_pure hQ
    | (cases u <;> first
        | exact wpAny_pure hQ
        | (refine wpAny_bind (wpAny_load ho ?_)
           rw [hc, hd]
           show wpAny M A (if (["enumerate", "zip", "dict_itemiterator", "dict_reverseitemiterator", "odict_iterator", "itertools.zip_longest", "itertools.pairwise"].contains n && vs[0]? == some (rawInt _)) = true then _ else _) Q E s
           rw [if_neg (by intro h; rw [hn, Bool.false_and] at h; cases h)]
           exact wpAny_pure hQ))
def Itl (K:PySem.W.Frag) (a:Addr):It :=
 ⟨fun i H=>∃ xs x,SqL K H a xs∧xs[i]? = some x,fun i H x H'=>H' = H∧∀ xs,SqL K H a xs→xs[i]? = some x,fun i H=>∃ xs,SqL K H a xs∧xs.length ≤ i⟩
def Itt (K:PySem.W.Frag) (a:Addr):It :=
 ⟨fun i H=>∃ xs x,SqT K H a xs∧xs[i]? = some x,fun i H x H'=>H' = H∧∀ xs,SqT K H a xs→xs[i]? = some x,fun i H=>∃ xs,SqT K H a xs∧xs.length ≤ i⟩
def Itr (lo:Int) (n:Nat):It:=⟨fun i _=>i < n,fun i H x H'=>H' = H∧x = .int (lo + i),fun i _=>n ≤ i⟩
theorem Z2y {P:Program} {w:World} {K:PySem.W.Frag} {tg:Expr} (a it:Addr):Turn P w K tg (Itl K a) [it] it (fun i h=>h.IsListIter it a i) where
 mem:=by simp
 obj:=fun i h st b hb=>by
  have e:b = it:=by simpa using hb
  subst e
  obtain ⟨o,e,c,d⟩:=st
  exact ⟨o,e,fun v z=>by rw [d] at z; cases z⟩
 keep:=fun i h h' st k=>st.at fun o e=>k it (by simp) o e
 item:=by
  intro X hP hw hK hc i pins s σ H E I hf st hg
  subst hP hw hK
  obtain ⟨xs,x,hq,hx⟩:=hg
  obtain ⟨its,rv,p,hz⟩:=I.list hq
  obtain ⟨u,hu,ru⟩:=rv.get hx
  obtain ⟨f0,f1,f2,f3,f4,f5⟩:=hf it (by simp)
  refine wpAny_pyNext_list_item st p.isList (x:=u) (by simpa using hu) fun h' st' sb=>?_
  have I1:Inv X pins σ H { s with heap:=h' }:=I.turned (t':=s.toks) (fun b o hb e=>(sb.2 b hb).trans e) f0 f1 f3 f4 f5
  obtain ⟨o,e,c,d⟩:=id st'
  exact ⟨u,rfl,Z8u (s:={ s with heap:=h' }) e c d (by decide) ⟨x,H,I1,ru,⟨rfl,fun ys hy=>by rw [I.list_inj hy hq]; exact hx⟩,st',fun b hb=>(hf b hb).1⟩⟩
 done:=by
  intro X hP hw hK hc i pins s σ H E I hf st hg
  subst hP hw hK
  obtain ⟨xs,hq,hx⟩:=hg
  obtain ⟨its,rv,p,hz⟩:=I.list hq
  obtain ⟨f0,f1,f2,f3,f4,f5⟩:=hf it (by simp)
  have hl:=rv.length
  exact wpAny_pyNext_list_end (I.ok.hd hc) st p.isList (by simp; omega) fun h' eb=>⟨rfl,I.turned (t':=s.toks) (fun b o hb e=>eb b o hb e) f0 f1 f3 f4 f5⟩
 self:=fun _ _ _ _ _ st h=>wpAny_pyIter_listiter st h
theorem Z1s {P:Program} {w:World} {K:PySem.W.Frag} {tg:Expr} (a it:Addr):Turn P w K tg (Itt K a) [it] it (fun i h=>h.IsTupleIter it a i) where
 mem:=by simp
 obj:=fun i h st b hb=>by
  have e:b = it:=by simpa using hb
  subst e
  obtain ⟨o,e,c,d⟩:=st
  exact ⟨o,e,fun v z=>by rw [d] at z; cases z⟩
 keep:=fun i h h' st k=>st.at fun o e=>k it (by simp) o e
 item:=by
  intro X hP hw hK hc i pins s σ H E I hf st hg
  subst hP hw hK
  obtain ⟨xs,x,hq,hx⟩:=hg
  obtain ⟨its,rv,p,hz⟩:=I.tuple hq
  obtain ⟨u,hu,ru⟩:=rv.get hx
  obtain ⟨f0,f1,f2,f3,f4,f5⟩:=hf it (by simp)
  refine wpAny_pyNext_tuple_item st (show s.heap.IsTuple a its.toArray from p) (x:=u) (by simpa using hu) fun h' st' sb=>?_
  have I1:Inv X pins σ H { s with heap:=h' }:=I.turned (t':=s.toks) (fun b o hb e=>(sb.2 b hb).trans e) f0 f1 f3 f4 f5
  obtain ⟨o,e,c,d⟩:=id st'
  exact ⟨u,rfl,Z8u (s:={ s with heap:=h' }) e c d (by decide) ⟨x,H,I1,ru,⟨rfl,fun ys hy=>by rw [I.tuple_inj hy hq]; exact hx⟩,st',fun b hb=>(hf b hb).1⟩⟩
 done:=by
  intro X hP hw hK hc i pins s σ H E I hf st hg
  subst hP hw hK
  obtain ⟨xs,hq,hx⟩:=hg
  obtain ⟨its,rv,p,hz⟩:=I.tuple hq
  obtain ⟨f0,f1,f2,f3,f4,f5⟩:=hf it (by simp)
  have hl:=rv.length
  exact wpAny_pyNext_tuple_end (I.ok.hd hc) st (show s.heap.IsTuple a its.toArray from p) (by simp; omega) fun h' eb=>⟨rfl,I.turned (t':=s.toks) (fun b o hb e=>eb b o hb e) f0 f1 f3 f4 f5⟩
 self:=fun _ _ _ _ _ st h=>wpAny_pyIter_tupleiter st h
theorem Z1t {P:Program} {w:World} {K:PySem.W.Frag} {tg:Expr} (it:Addr) (lo:Int) (n:Nat):Turn P w K tg (Itr lo n) [it] it (fun i h=>IsRangeIter h it (lo + (i:Nat) * 1) ((n:Int) - (i:Nat)) 1) where
 mem:=by simp
 obj:=fun i h st b hb=>by
  have e:b = it:=by simpa using hb
  subst e
  exact ⟨_,st,fun v z=>by
   have z':Data.fields _ = Data.cell v:=z
   cases z'⟩
 keep:=fun i h h' st k=>k it (by simp) _ st
 item:=by
  intro X hP hw hK hc i pins s σ H E I hf st hg
  subst hP hw hK
  obtain ⟨f0,f1,f2,f3,f4,f5⟩:=hf it (by simp)
  have W:=Walks.range (prog:=X.prog) (w:=X.w) (I.ok.hd hc) it lo 1 n
  refine W.item i s _ _ hg st fun v h' tk hv st' kk=>?_
  obtain ⟨t,rfl⟩:=hv
  have I1:Inv X pins σ H { s with heap:=h',toks:=tk }:=I.turned (fun b o hb e=>kk b o (by simpa using hb) e) f0 f1 f3 f4 f5
  refine ⟨_,rfl,Z8u (s:={ s with heap:=h',toks:=tk }) (n := "range_iterator") st' rfl rfl (by decide) ⟨.int (lo + i),H,I1,⟨t,?_⟩,⟨rfl,rfl⟩,st',fun b hb=>(hf b hb).1⟩⟩
  rw [Int.mul_one]
 done:=by
  intro X hP hw hK hc i pins s σ H E I hf st hg
  subst hP hw hK
  obtain ⟨f0,f1,f2,f3,f4,f5⟩:=hf it (by simp)
  exact wpAny_pyNext_range_end (I.ok.hd hc) st (by have:n ≤ i:=hg; omega) fun h' eb=>⟨rfl,I.turned (t':=s.toks) (fun b o hb e=>eb b o hb e) f0 f1 f3 f4 f5⟩
 self:=fun _ _ _ _ _ st h=>wpAny_pyIter_rangeiter st h
section
variable {X:Cx} {tg:Expr}
def Zbt (K:PySem.W.Frag) (tl:TE):TI:=fun σ H R=>tl σ H fun x H1=>∃ a,x = .ref a∧(∃ xs,SqL K H1 a xs)∧R (Itl K a) H1
def Zcu (K:PySem.W.Frag) (tl:TE):TI:=fun σ H R=>tl σ H fun x H1=>∃ a,x = .ref a∧(∃ xs,SqT K H1 a xs)∧R (Itt K a) H1
theorem Xu {l:Expr} {tl:TE} (hl:PE X l tl):PI X tg l (Zbt X.K tl):=by
 intro pins s σ H R I h
 refine thn (hl pins s σ H _ I h) fun v s1 ⟨x,H1,I1,r1,q1⟩=>?_
 obtain ⟨a,e,⟨xs,hq⟩,q⟩:=q1
 subst e
 cases r1
 obtain ⟨its,rv,p,hz⟩:=I1.list hq
 refine wpAny_pyIter_list p.isList ?_
 refine ⟨s1.heap.objs.size,[s1.heap.objs.size],_,_,H1,rfl,I1.kept (t':=s1.toks) fun b o e=>Heap.get?_push_of_some _ e,Z2y a _,⟨_,Heap.get?_push_size _ rfl,rfl,rfl⟩,fun b hb=>?_,q⟩
 have e:b = s1.heap.objs.size:=by simpa using hb
 subst e
 exact I1.fpOk (Nat.le_refl _) (I1.hok.fresh (Nat.le_refl _))
theorem Z0x {l:Expr} {tl:TE} (hl:PE X l tl):PI X tg l (Zcu X.K tl):=by
 intro pins s σ H R I h
 refine thn (hl pins s σ H _ I h) fun v s1 ⟨x,H1,I1,r1,q1⟩=>?_
 obtain ⟨a,e,⟨xs,hq⟩,q⟩:=q1
 subst e
 cases r1
 obtain ⟨its,rv,p,hz⟩:=I1.tuple hq
 refine wpAny_pyIter_tuple (show s1.heap.IsTuple a its.toArray from p) ?_
 refine ⟨s1.heap.objs.size,[s1.heap.objs.size],_,_,H1,rfl,I1.kept (t':=s1.toks) fun b o e=>Heap.get?_push_of_some _ e,Z1s a _,⟨_,Heap.get?_push_size _ rfl,rfl,rfl⟩,fun b hb=>?_,q⟩
 have e:b = s1.heap.objs.size:=by simpa using hb
 subst e
 exact I1.fpOk (Nat.le_refl _) (I1.hok.fresh (Nat.le_refl _))
theorem Z5l {pins:List (Addr × Obj)} {σ:St} {H:Hp} {s:Shared} {R:It→Hp→Prop} {E:Value→Shared→Prop} {lo hi:Int} {t u v:Tok} {tk:Nat} (I:Inv X pins σ H s) (h1:-(2 ^ 62) ≤ lo) (h2:lo < 2 ^ 62) (h3:-(2 ^ 62) ≤ hi) (h4:hi < 2 ^ 62)
  (q:R (Itr lo (hi - lo).toNat) H):wpAny (model X.prog X.w) X.A (pyIter (.ref s.heap.objs.size)) (PIE X pins σ tg R) E { s with heap:=s.heap.push { cls:=.type "range",data:=.fields #[.int lo t,.int hi u,.int 1 v] },toks:=tk }:=by
 refine wpAny_pyIter_range (IsRange.new ..) (small_one h1 h2 h3 h4) ?_
 have I1:Inv X pins σ H { s with heap:=s.heap.push { cls:=.type "range",data:=.fields #[.int lo t,.int hi u,.int 1 v] },toks:=tk }:=I.kept fun b o e=>Heap.get?_push_of_some _ e
 refine ⟨(s.heap.push { cls:=.type "range",data:=.fields #[.int lo t,.int hi u,.int 1 v] }).objs.size,[(s.heap.push { cls:=.type "range",data:=.fields #[.int lo t,.int hi u,.int 1 v] }).objs.size],_,_,H,rfl,
  I1.kept (t':=tk) fun b o e=>Heap.get?_push_of_some _ e,Z1t _ lo (hi - lo).toNat,?_,fun b hb=>?_,q⟩
 ·have e1:lo + ((0:Nat):Int) * 1 = lo:=by simp
  have e2:(((hi - lo).toNat:Nat):Int) - ((0:Nat):Int) = Builtin.Range.rangeSize lo hi 1:=by rw [rangeSize_one]; split <;> omega
  show IsRangeIter _ _ (lo + ((0:Nat):Int) * 1) ((((hi - lo).toNat:Nat):Int) - ((0:Nat):Int)) 1
  rw [e1,e2]
  exact Heap.get?_push_size _ rfl
 ·have e:b = (s.heap.push { cls:=.type "range",data:=.fields #[.int lo t,.int hi u,.int 1 v] }).objs.size:=by simpa using hb
  subst e
  exact I1.fpOk (Nat.le_refl _) (I1.hok.fresh (Nat.le_refl _))
def Zbs (ta:TA):TI:=fun σ H R=>ta σ H fun vs H1=>∃ j:Int,vs = [.int j]∧-(2 ^ 62) ≤ j∧j < 2 ^ 62∧R (Itr 0 j.toNat) H1
theorem Yw {a:Expr} {ta:TA} {p pos:Pos} (hg:Gl X "range") (hm:X.mg "range" = none) (ha:PA X [a] ta) (hs:starEach [a] X.env = [(false,eval a X.env)]:=by rfl):PI X tg (.Call (.Name "range" p) [a] [] pos) (Zbs ta):=by
 intro pins s σ H R I h
 refine Call_ (J4 I hg hm boot_range (PyProof.Rows.callWith_type1 (thn (ha pos pins s σ H _ I h) fun us s1 ⟨vs,H1,I1,r1,q1⟩=>?_) hs rfl))
 obtain ⟨j,e,q1,q2,q⟩:=q1
 subst e
 cases r1 with
 | cons r rr =>
  cases rr
  obtain ⟨t,rfl⟩:=r
  exact call_range_1 (Z5l I1 (by omega) (by omega) q1 q2 (by simpa using q))
def Jl (wi:TI) (g:TG) (tb:TS):TS:=fun D σ H=>wi σ H fun J H1=>∃ W:Nat→Nat→St→Hp→Prop,(∃ m,W 0 m σ H1)∧∀ i m σ H,W i m σ H →
 (J.stop i H∧D.nx σ H) ∨ (J.go i H∧∃ N:St→Hp→Prop,(∀ σ' H',N σ' H'→∃ m',m' < m∧W (i + 1) m' σ' H')∧∀ x H',J.yld i H x H'→g x σ H' fun σ2 H2=>tb { D with nx:=N,ct:=N,bk:=D.nx } σ2 H2)
def U3 (fp:List Addr) (h:Heap):List (Addr × Obj):=fp.filterMap fun b=>(h.get? b).map fun o=>(b,o)
theorem Xn {fp:List Addr} {h:Heap} {b:Addr} {o:Obj} (hb:b ∈ fp) (e:h.get? b = some o):(b,o) ∈ U3 fp h:=List.mem_filterMap.mpr ⟨b,hb,by rw [e]; rfl⟩
theorem Z47 {fp:List Addr} {h:Heap} {p:Addr × Obj} (hp:p ∈ U3 fp h):p.1 ∈ fp∧h.get? p.1 = some p.2:=by
 obtain ⟨b,hb,e⟩:=List.mem_filterMap.mp hp
 cases q:h.get? b with
 | none=>rw [q] at e; cases e
 | some o =>
  rw [q] at e
  have e':(b,o) = p:=Option.some.inj e
  subst e'
  exact ⟨hb,q⟩
theorem Inv.pinned {pins:List (Addr × Obj)} {σ:St} {H:Hp} {s:Shared} {fp:List Addr} (I:Inv X pins σ H s) (hf:∀ b ∈ fp,Z2t X pins H b) (ho:∀ b ∈ fp,∃ o,s.heap.get? b = some o∧∀ v,o.data ≠ .cell v):Inv X (pins ++ U3 fp s.heap) σ H s :=
 I.pins_of fun p hp=>(List.mem_append.mp hp).elim (fun z=>I.pin p (List.mem_append_right _ z)) fun z=>by
  obtain ⟨hb,e⟩:=Z47 z
  obtain ⟨f0,f1,f2,_⟩:=hf p.1 hb
  obtain ⟨o,e',d⟩:=ho p.1 hb
  rw [e] at e'; cases e'
  exact ⟨e,f0,f1,f2,d⟩
theorem Inv.unpinned {pins pl:List (Addr × Obj)} {σ:St} {H:Hp} {s:Shared} (I:Inv X (pins ++ pl) σ H s):Inv X pins σ H s:=I.pins_of fun p hp=>I.pin p (List.mem_append_right _ (List.mem_append_left _ hp))
theorem V3 {iter:Expr} {body:List Stmt} {wi:TI} {g:TG} {tb:TS} {pos:Pos} (hp:PassesOwn (model X.prog X.w) X.A X.env X.xe) (hc:X.calm = true) (hi:PI X tg iter wi) (hg:PG X tg g) (hb:PSs X body tb)
  (hs:∀ x,foldedSetIterable iter X.env x = pure x:=by intro _; rfl):PS X (.For tg iter body [] pos) (Jl wi g tb):=by
 intro pins s σ H D I h
 refine wpAny_For (thn (hi pins s σ H _ I h) fun v s1 h1=>thn h1 fun itv s2 h2=>?_) hs
 obtain ⟨it,fp,tn,J,H2,e,I2,T,st2,f2,W,⟨m0,w0⟩,turn⟩:=h2
 subst e
 have stat:∀ {H':Hp},(∀ b ∈ fp,H' b = none)→∀ b ∈ fp,Z2t X pins H' b:=fun hn b hb=>⟨hn b hb,(f2 b hb).2⟩
 refine codeAny_forLoop_any (fun n s'=>∃ i σ' H',Inv X pins σ' H' s'∧tn i s'.heap∧(∀ b ∈ fp,H' b = none)∧W i n σ' H') ?_ m0 ⟨0,σ,H2,I2,st2,fun b hb=>(f2 b hb).1,w0⟩
 rintro n s3 ⟨i,σ3,H3,I3,st3,fr3,w3⟩
 rcases turn i n σ3 H3 w3 with ⟨stop,qn⟩ | ⟨go,N,hN,step⟩
 ·refine wpAny_passesOwn hp (thn (T.done X rfl rfl rfl hc i pins s3 σ3 H3 X.xe I3 (stat fr3) st3 stop) fun r s4 ⟨hr,I4⟩=>?_)
  subst hr
  exact wpAny_execs_nil ⟨σ3,H3,I4,qn⟩
 ·refine wpAny_passesOwn hp (thn (T.item X rfl rfl rfl hc i pins s3 σ3 H3 X.xe I3 (stat fr3) st3 go) fun r s4 ⟨u,hr,h4⟩=>?_)
  subst hr
  refine wpAny_passesOwn hp (thn h4 fun _ s5 ⟨x,H5,I5,r5,y5,st5,fr5⟩=>?_)
  have I5':=I5.pinned (stat fr5) (T.obj _ _ st5)
  refine wpAny_passesOwn hp (thn (hg _ s5 σ3 H5 x u _ I5' r5 (step x H5 y5)) fun _ s6 ⟨σ6,H6,I6,q6⟩=>?_)
  refine wpAny_passesOwn hp (thn (hb _ s6 σ6 H6 _ I6 q6) fun f s7 q7=>?_)
  have again:∀ {σ7:St} {H7:Hp},Inv X (pins ++ U3 fp s5.heap) σ7 H7 s7→N σ7 H7→∃ m,m < n∧∃ i σ' H',Inv X pins σ' H' s7∧tn i s7.heap∧(∀ b ∈ fp,H' b = none)∧W i m σ' H':=fun {σ7 H7} I7 n7=>by
   obtain ⟨m',hm,w7⟩:=hN σ7 H7 n7
   refine ⟨m',hm,i + 1,σ7,H7,I7.unpinned,T.keep _ _ _ st5 fun b hb o e=>(I7.pin (b,o) (List.mem_append_right _ (List.mem_append_right _ (Xn hb e)))).1,fun b hb=>?_,w7⟩
   obtain ⟨o,e,d⟩:=T.obj _ _ st5 b hb
   exact (I7.pin (b,o) (List.mem_append_right _ (List.mem_append_right _ (Xn hb e)))).2.1
  cases f with
  | next=>obtain ⟨σ7,H7,I7,n7⟩:=q7; exact again I7 n7
  | cont=>obtain ⟨σ7,H7,I7,n7⟩:=q7; exact again I7 n7
  | brk=>obtain ⟨σ7,H7,I7,q7⟩:=q7; exact ⟨σ7,H7,I7.unpinned,q7⟩
  | ret v=>obtain ⟨x7,σ7,H7,I7,r7,q7⟩:=q7; exact ⟨x7,σ7,H7,I7.unpinned,r7,q7⟩
end
theorem Z1l {K:PySem.W.Frag} {a:Addr} {xs:List V} {g:TG} {tb:TS} {D:Ends} {σ:St} {H:Hp} (Pv:Nat→St→Hp→Prop) (h0:Pv 0 σ H) (hl:∀ i σ H,i ≤ xs.length→Pv i σ H→SqL K H a xs)
  (hs:∀ i x σ H,xs[i]? = some x→Pv i σ H→g x σ H fun σ2 H2=>tb { D with nx:=Pv (i + 1),ct:=Pv (i + 1),bk:=D.nx } σ2 H2) (hd:∀ σ H,Pv xs.length σ H→D.nx σ H) :
  ∃ W:Nat→Nat→St→Hp→Prop,(∃ m,W 0 m σ H)∧∀ i m σ H,W i m σ H →
   ((Itl K a).stop i H∧D.nx σ H) ∨ ((Itl K a).go i H∧∃ N:St→Hp→Prop,(∀ σ' H',N σ' H'→∃ m',m' < m∧W (i + 1) m' σ' H')∧∀ x H',(Itl K a).yld i H x H'→g x σ H' fun σ2 H2=>tb { D with nx:=N,ct:=N,bk:=D.nx } σ2 H2):=by
 refine ⟨fun i m σ H=>m = xs.length - i∧i ≤ xs.length∧Pv i σ H,⟨xs.length,by simp,Nat.zero_le _,h0⟩,?_⟩
 rintro i m σ H ⟨rfl,hi,p⟩
 have q:=hl i σ H hi p
 by_cases hlt:i < xs.length
 ·refine .inr ⟨⟨xs,xs[i],q,by simp [hlt]⟩,Pv (i + 1),fun σ' H' p'=>⟨xs.length - (i + 1),by omega,rfl,hlt,p'⟩,fun x H' y=>?_⟩
  obtain ⟨e,y⟩:=y
  subst e
  exact hs i x σ _ (y xs q) p
 ·have e:i = xs.length:=by omega
  subst e
  exact .inl ⟨⟨xs,q,Nat.le_refl _⟩,hd σ H p⟩
theorem Z0c {K:PySem.W.Frag} {a:Addr} {xs:List V} {g:TG} {tb:TS} {D:Ends} {σ:St} {H:Hp} (Pv:Nat→St→Hp→Prop) (h0:Pv 0 σ H) (hl:∀ i σ H,i ≤ xs.length→Pv i σ H→SqT K H a xs)
  (hs:∀ i x σ H,xs[i]? = some x→Pv i σ H→g x σ H fun σ2 H2=>tb { D with nx:=Pv (i + 1),ct:=Pv (i + 1),bk:=D.nx } σ2 H2) (hd:∀ σ H,Pv xs.length σ H→D.nx σ H) :
  ∃ W:Nat→Nat→St→Hp→Prop,(∃ m,W 0 m σ H)∧∀ i m σ H,W i m σ H →
   ((Itt K a).stop i H∧D.nx σ H) ∨ ((Itt K a).go i H∧∃ N:St→Hp→Prop,(∀ σ' H',N σ' H'→∃ m',m' < m∧W (i + 1) m' σ' H')∧∀ x H',(Itt K a).yld i H x H'→g x σ H' fun σ2 H2=>tb { D with nx:=N,ct:=N,bk:=D.nx } σ2 H2):=by
 refine ⟨fun i m σ H=>m = xs.length - i∧i ≤ xs.length∧Pv i σ H,⟨xs.length,by simp,Nat.zero_le _,h0⟩,?_⟩
 rintro i m σ H ⟨rfl,hi,p⟩
 have q:=hl i σ H hi p
 by_cases hlt:i < xs.length
 ·refine .inr ⟨⟨xs,xs[i],q,by simp [hlt]⟩,Pv (i + 1),fun σ' H' p'=>⟨xs.length - (i + 1),by omega,rfl,hlt,p'⟩,fun x H' y=>?_⟩
  obtain ⟨e,y⟩:=y
  subst e
  exact hs i x σ _ (y xs q) p
 ·have e:i = xs.length:=by omega
  subst e
  exact .inl ⟨⟨xs,q,Nat.le_refl _⟩,hd σ H p⟩
theorem J6 {lo:Int} {n:Nat} {g:TG} {tb:TS} {D:Ends} {σ:St} {H:Hp} (Pv:Nat→St→Hp→Prop) (h0:Pv 0 σ H)
  (hs:∀ i σ H,i < n→Pv i σ H→g (.int (lo + i)) σ H fun σ2 H2=>tb { D with nx:=Pv (i + 1),ct:=Pv (i + 1),bk:=D.nx } σ2 H2) (hd:∀ σ H,Pv n σ H→D.nx σ H) :
  ∃ W:Nat→Nat→St→Hp→Prop,(∃ m,W 0 m σ H)∧∀ i m σ H,W i m σ H →
   ((Itr lo n).stop i H∧D.nx σ H) ∨ ((Itr lo n).go i H∧∃ N:St→Hp→Prop,(∀ σ' H',N σ' H'→∃ m',m' < m∧W (i + 1) m' σ' H')∧∀ x H',(Itr lo n).yld i H x H'→g x σ H' fun σ2 H2=>tb { D with nx:=N,ct:=N,bk:=D.nx } σ2 H2):=by
 refine ⟨fun i m σ H=>m = n - i∧i ≤ n∧Pv i σ H,⟨n,by simp,Nat.zero_le _,h0⟩,?_⟩
 rintro i m σ H ⟨rfl,hi,p⟩
 by_cases hlt:i < n
 ·refine .inr ⟨hlt,Pv (i + 1),fun σ' H' p'=>⟨n - (i + 1),by omega,rfl,hlt,p'⟩,fun x H' y=>?_⟩
  obtain ⟨e,y⟩:=y
  subst e y
  exact hs i σ _ hlt p
 ·have e:i = n:=by omega
  subst e
  exact .inl ⟨Nat.le_refl _,hd σ H p⟩
theorem Z58 {c:TT} {tb:TS} {D:Ends} {σ:St} {H:Hp} (Pv:St→Hp→Prop) (μ:St→Hp→Nat) (h0:Pv σ H)
  (hs:∀ σ H,Pv σ H→c σ H fun b H1=>if b = true then tb { D with nx:=fun σ' H'=>Pv σ' H'∧μ σ' H' < μ σ H,ct:=fun σ' H'=>Pv σ' H'∧μ σ' H' < μ σ H,bk:=D.nx } σ H1 else D.nx σ H1)
  (mono:∀ σ H Q Q',(∀ b H1,Q b H1→Q' b H1)→c σ H Q→c σ H Q'):Vt c tb D σ H:=by
 refine ⟨fun m σ H=>m = μ σ H∧Pv σ H,⟨_,rfl,h0⟩,?_⟩
 rintro m σ H ⟨rfl,p⟩
 refine mono σ H _ _ (fun b H1 q=>?_) (hs σ H p)
 cases b with
 | true=>exact ⟨_,fun σ' H' ⟨p',l⟩=>⟨_,l,rfl,p'⟩,q⟩
 | false=>exact q
abbrev R2:=V→V→Hp→VK→Prop
def OpR (X:Cx) (f:Value→Value→Sem Value) (r:R2):Prop :=
 ∀ (pins:List (Addr × Obj)) (s:Shared) (σ:St) (H:Hp) (x y:V) (v u:Value) (Q:VK),Inv X pins σ H s→RelV x v→RelV y u→r x y H Q →
  wpAny (model X.prog X.w) X.A (f v u) (EP X pins σ Q) X.xe s
def UnR (X:Cx) (f:Value→Sem Value) (r:V→Hp→VK→Prop):Prop :=
 ∀ (pins:List (Addr × Obj)) (s:Shared) (σ:St) (H:Hp) (x:V) (v:Value) (Q:VK),Inv X pins σ H s→RelV x v→r x H Q →
  wpAny (model X.prog X.w) X.A (f v) (EP X pins σ Q) X.xe s
def Ji (X:Cx) (f:Value) (r:List V→Hp→VK→Prop):Prop :=
 ∀ (pins:List (Addr × Obj)) (s:Shared) (σ:St) (H:Hp) (xs:List V) (us:List Value) (Q:VK),Inv X pins σ H s→Vals xs us→r xs H Q →
  wpAny (model X.prog X.w) X.A (call f us) (EP X pins σ Q) X.xe s
def tOp (r:R2) (ta tb:TE):TE:=fun σ H Q=>ta σ H fun x H1=>tb σ H1 fun y H2=>r x y H2 Q
def tUn (r:V→Hp→VK→Prop) (ta:TE):TE:=fun σ H Q=>ta σ H fun x H1=>r x H1 Q
def rI (C:Int→Int→Prop) (g:Int→Int→V):R2:=fun x y H Q=>∃ i j,x = .int i∧y = .int j∧C i j∧Q (g i j) H
def rI0 (g:Int→Int→V):R2:=fun x y H Q=>∃ i j,x = .int i∧y = .int j∧Q (g i j) H
def rU (g:Int→V):V→Hp→VK→Prop:=fun x H Q=>∃ i,x = .int i∧Q (g i) H
section
variable {X:Cx} {a b c:Expr} {ta tb tc:TE} {pos:Pos}
theorem Zby (ha:PE X a ta) (hb:PE X b tb) {pins:List (Addr × Obj)} {s:Shared} {σ:St} {H:Hp} {R:V→V→Hp→Prop} (I:Inv X pins σ H s)
  (h:ta σ H fun x H1=>tb σ H1 fun y H2=>R x y H2) {Q:Value→Shared→Prop} {f:Value→Value→Sem Value}
  (hf:∀ v u s2 x y H2,Inv X pins σ H2 s2→RelV x v→RelV y u→R x y H2→wpAny (model X.prog X.w) X.A (f v u) Q X.xe s2) :
  wpAny (model X.prog X.w) X.A (eval a X.env) (fun v s₁=>wpAny (model X.prog X.w) X.A (eval b X.env) (fun u s₂=>wpAny (model X.prog X.w) X.A (f v u) Q X.xe s₂) X.xe s₁) X.xe s:=by
 refine thn (ha pins s σ H _ I h) fun v s1 ⟨x,H1,I1,r1,q1⟩=>?_
 refine thn (hb pins s1 σ H1 _ I1 q1) fun u s2 ⟨y,H2,I2,r2,q2⟩=>?_
 exact hf v u s2 x y H2 I2 r1 r2 q2
theorem Yi {op:Operator} {r:R2} (ho:OpR X (binaryOp op) r) (ha:PE X a ta) (hb:PE X b tb):PE X (.BinOp a op b pos) (tOp r ta tb):=by
 intro pins s σ H Q I h
 exact wpAny_BinOp (Zby ha hb I h fun v u s2 x y H2 I2 rx ry q=>ho pins s2 σ H2 x y v u Q I2 rx ry q)
theorem Z80 {op:UnaryOp} {r:V→Hp→VK→Prop} (ho:UnR X (unaryOp op) r) (ha:PE X a ta):PE X (.UnaryOp op a pos) (tUn r ta):=by
 intro pins s σ H Q I h
 exact UnaryOp_ (thn (ha pins s σ H _ I h) fun v s1 ⟨x,H1,I1,r1,q1⟩=>ho pins s1 σ H1 x v Q I1 r1 q1)
theorem opI {f:Value→Value→Sem Value} {C:Int→Int→Prop} {g:Int→Int→Int}
  (rule:∀ (i j:Int) (t u:Tok) (s:Shared) (Q:Value→Shared→Prop) (E:Value→Shared→Prop),C i j→Q (.int (g i j) s.toks) { s with toks:=s.toks + 1 }→wpAny (model X.prog X.w) X.A (f (.int i t) (.int j u)) Q E s) :
  OpR X f (rI C fun i j=>.int (g i j)):=by
 intro pins s σ H x y v u Q I rx ry h
 obtain ⟨i,j,rfl,rfl,hc,q⟩:=h
 obtain ⟨t,rfl⟩:=rx
 obtain ⟨t',rfl⟩:=ry
 exact rule i j t t' s _ _ hc ⟨.int (g i j),H,I.tok _,⟨_,rfl⟩,q⟩
theorem Zcc {f:Value→Value→Sem Value} {g:Int→Int→Int}
  (rule:∀ (i j:Int) (t u:Tok) (s:Shared) (Q:Value→Shared→Prop) (E:Value→Shared→Prop),Q (.int (g i j) s.toks) { s with toks:=s.toks + 1 }→wpAny (model X.prog X.w) X.A (f (.int i t) (.int j u)) Q E s) :
  OpR X f (rI0 fun i j=>.int (g i j)):=by
 intro pins s σ H x y v u Q I rx ry h
 obtain ⟨i,j,rfl,rfl,q⟩:=h
 obtain ⟨t,rfl⟩:=rx
 obtain ⟨t',rfl⟩:=ry
 exact rule i j t t' s _ _ ⟨.int (g i j),H,I.tok _,⟨_,rfl⟩,q⟩
theorem Zb5 {f:Value→Value→Sem Value} {g:Int→Int→Bool}
  (rule:∀ (i j:Int) (t u:Tok) (s:Shared) (Q:Value→Shared→Prop) (E:Value→Shared→Prop),Q (.bool (g i j)) s→wpAny (model X.prog X.w) X.A (f (.int i t) (.int j u)) Q E s) :
  OpR X f (rI0 fun i j=>.bl (g i j)):=by
 intro pins s σ H x y v u Q I rx ry h
 obtain ⟨i,j,rfl,rfl,q⟩:=h
 obtain ⟨t,rfl⟩:=rx
 obtain ⟨t',rfl⟩:=ry
 exact rule i j t t' s _ _ ⟨.bl (g i j),H,I,rfl,q⟩
def Zd5 (i j:Int):Prop:=0 < j∧j < 1073741824
theorem Xh:OpR X (binaryOp .Add) (rI0 fun i j=>.int (i + j)):=Zcc fun _ _ _ _ _ _ _ q=>add_int q
theorem W8:OpR X (binaryOp .Sub) (rI0 fun i j=>.int (i - j)):=Zcc fun _ _ _ _ _ _ _ q=>sub_int q
theorem Z8a:OpR X (binaryOp .FloorDiv) (rI Zd5 fun i j=>.int (i / j)):=opI fun i j _ _ _ _ _ hc q=>by
 have h1:(0:Int) < j:=hc.1
 have h2:j < 1073741824:=hc.2
 exact floordiv_int (by omega) (by rw [Int.fdiv_eq_ediv_of_nonneg i (by omega)]; exact q) (.inl (PyProof.noPylong_small (by omega)))
theorem Z72:OpR X (binaryOp .Mod) (rI (fun _ j=>0 < j) fun i j=>.int (i % j)):=opI fun i j _ _ _ _ _ hc q=>by
 have h1:(0:Int) < j:=hc
 exact mod_int' (by omega) (by rw [Int.fmod_eq_emod_of_nonneg i (by omega)]; exact q)
theorem unI {f:Value→Sem Value} {g:Int→Int}
  (rule:∀ (i:Int) (t:Tok) (s:Shared) (Q:Value→Shared→Prop) (E:Value→Shared→Prop),Q (.int (g i) s.toks) { s with toks:=s.toks + 1 }→wpAny (model X.prog X.w) X.A (f (.int i t)) Q E s) :
  UnR X f (rU fun i=>.int (g i)):=by
 intro pins s σ H x v Q I rx h
 obtain ⟨i,rfl,q⟩:=h
 obtain ⟨t,rfl⟩:=rx
 exact rule i t s _ _ ⟨.int (g i),H,I.tok _,⟨_,rfl⟩,q⟩
theorem Z2x:UnR X (unaryOp .USub) (rU fun i=>.int (-i)):=unI fun _ _ _ _ _ q=>neg_int q
end
def Zca:V→V→Bool
 | .non,.non=>true | .non,.int _=>true | .int _,.non=>true | .non,.bl _=>true | .bl _,.non=>true | .non,.str _=>true | .str _,.non=>true
 | .int _,.int _=>true | .bl _,.bl _=>true | .str _,.str _=>true | .byt _,.byt _=>true
 | .int _,.str _=>true | .str _,.int _=>true | .bl _,.str _=>true | .str _,.bl _=>true
 | _,_=>false
def rEq:R2:=fun x y H Q=>Zca x y = true∧Q (.bl (decide (x = y))) H
def rNe:R2:=fun x y H Q=>Zca x y = true∧Q (.bl (!decide (x = y))) H
theorem Z4w {i j:Int}:decide (V.int i = V.int j) = (i == j):=by
 rw [Bool.eq_iff_iff]
 simp
theorem Z7d {i j:Bool}:decide (V.bl i = V.bl j) = (i == j):=by
 rw [Bool.eq_iff_iff]
 simp
theorem T5 {i j:Str}:decide (V.str i = V.str j) = (i == j):=by
 rw [Bool.eq_iff_iff]
 simp
theorem Z4x {i j:Array UInt8}:decide (V.byt i = V.byt j) = (i.toList == j.toList):=by
 rw [Bool.eq_iff_iff]
 cases i
 cases j
 simp
section
variable {X:Cx} {a b c:Expr} {ta tb tc:TE} {pos:Pos}
theorem Zy {pins:List (Addr × Obj)} {σ:St} {H:Hp} {s:Shared} {Q:VK} {k k':Bool} (I:Inv X pins σ H s) (q:Q (.bl k) H) (e:k = k'):EP X pins σ Q (.bool k') s:=by
 subst e
 exact ⟨.bl k,H,I,rfl,q⟩
theorem Yc:OpR X (compareOp .Eq) rEq:=by
 intro pins s σ H x y v u Q I rx ry h
 obtain ⟨hs,q⟩:=h
 cases x with
 | non =>
  cases rx
  cases y with
  | non=>cases ry; exact PySem.EqNone.eq_none_none (Zy I q (by simp))
  | bl j=>cases ry; exact PySem.EqNone.eq_none_bool (Zy I q (by simp))
  | int j=>obtain ⟨t',rfl⟩:=ry; exact PySem.EqNone.eq_none_int (Zy I q (by simp))
  | str j=>obtain ⟨t',rfl⟩:=ry; exact PySem.EqNone.eq_none_str (Zy I q (by simp))
  | _=>exact absurd (show false = true from hs) Bool.false_ne_true
 | bl i =>
  cases rx
  cases y with
  | non=>cases ry; exact PySem.EqNone.eq_bool_none (Zy I q (by simp))
  | bl j=>cases ry; exact eq_bool (Zy I q Z7d)
  | str j=>obtain ⟨t',rfl⟩:=ry; exact PySem.EqMixed.eq_bool_str (Zy I q (by simp))
  | _=>exact absurd (show false = true from hs) Bool.false_ne_true
 | int i =>
  obtain ⟨t,rfl⟩:=rx
  cases y with
  | non=>cases ry; exact PySem.EqNone.eq_int_none (Zy I q (by simp))
  | int j=>obtain ⟨t',rfl⟩:=ry; exact eq_int (Zy I q Z4w)
  | str j=>obtain ⟨t',rfl⟩:=ry; exact PySem.EqMixed.eq_int_str (Zy I q (by simp))
  | _=>exact absurd (show false = true from hs) Bool.false_ne_true
 | str i =>
  obtain ⟨t,rfl⟩:=rx
  cases y with
  | non=>cases ry; exact PySem.EqNone.eq_str_none (Zy I q (by simp))
  | bl j=>cases ry; exact PySem.EqMixed.eq_str_bool (Zy I q (by simp))
  | int j=>obtain ⟨t',rfl⟩:=ry; exact PySem.EqMixed.eq_str_int (Zy I q (by simp))
  | str j=>obtain ⟨t',rfl⟩:=ry; exact eq_str (Zy I q T5)
  | _=>exact absurd (show false = true from hs) Bool.false_ne_true
 | byt i =>
  obtain ⟨t,rfl⟩:=rx
  cases y with
  | byt j=>obtain ⟨t',rfl⟩:=ry; exact PySem.W.eq_bytes (Zy I q Z4x)
  | _=>exact absurd (show false = true from hs) Bool.false_ne_true
 | _=>cases y <;> exact absurd (show false = true from hs) Bool.false_ne_true
theorem Z27:OpR X (compareOp .NotEq) rNe:=by
 intro pins s σ H x y v u Q I rx ry h
 obtain ⟨hs,q⟩:=h
 cases x with
 | non =>
  cases rx
  cases y with
  | non=>cases ry; exact PySem.EqNone.ne_none_none (Zy I q (by simp))
  | bl j=>cases ry; exact PySem.EqNone.ne_none_bool (Zy I q (by simp))
  | int j=>obtain ⟨t',rfl⟩:=ry; exact PySem.EqNone.ne_none_int (Zy I q (by simp))
  | str j=>obtain ⟨t',rfl⟩:=ry; exact PySem.EqNone.ne_none_str (Zy I q (by simp))
  | _=>exact absurd (show false = true from hs) Bool.false_ne_true
 | bl i =>
  cases rx
  cases y with
  | non=>cases ry; exact PySem.EqNone.ne_bool_none (Zy I q (by simp))
  | bl j=>cases ry; exact ne_bool (Zy I q (congrArg not Z7d))
  | str j=>obtain ⟨t',rfl⟩:=ry; exact PySem.EqMixed.ne_bool_str (Zy I q (by simp))
  | _=>exact absurd (show false = true from hs) Bool.false_ne_true
 | int i =>
  obtain ⟨t,rfl⟩:=rx
  cases y with
  | non=>cases ry; exact PySem.EqNone.ne_int_none (Zy I q (by simp))
  | int j=>obtain ⟨t',rfl⟩:=ry; exact ne_int (Zy I q (congrArg not Z4w))
  | str j=>obtain ⟨t',rfl⟩:=ry; exact PySem.EqMixed.ne_int_str (Zy I q (by simp))
  | _=>exact absurd (show false = true from hs) Bool.false_ne_true
 | str i =>
  obtain ⟨t,rfl⟩:=rx
  cases y with
  | non=>cases ry; exact PySem.EqNone.ne_str_none (Zy I q (by simp))
  | bl j=>cases ry; exact PySem.EqMixed.ne_str_bool (Zy I q (by simp))
  | int j=>obtain ⟨t',rfl⟩:=ry; exact PySem.EqMixed.ne_str_int (Zy I q (by simp))
  | str j=>obtain ⟨t',rfl⟩:=ry; exact ne_str (Zy I q (congrArg not T5))
  | _=>exact absurd (show false = true from hs) Bool.false_ne_true
 | byt i =>
  obtain ⟨t,rfl⟩:=rx
  cases y with
  | byt j=>obtain ⟨t',rfl⟩:=ry; exact PySem.W.ne_bytes (Zy I q (congrArg not Z4x))
  | _=>exact absurd (show false = true from hs) Bool.false_ne_true
 | _=>cases y <;> exact absurd (show false = true from hs) Bool.false_ne_true
theorem Zaa:OpR X (compareOp .Lt) (rI0 fun i j=>.bl (decide (i < j))):=Zb5 fun _ _ _ _ _ _ _ q=>lt_int q
theorem Zab:OpR X (compareOp .LtE) (rI0 fun i j=>.bl (decide (i ≤ j))):=Zb5 fun _ _ _ _ _ _ _ q=>le_int q
theorem Zac:OpR X (compareOp .Gt) (rI0 fun i j=>.bl (decide (j < i))):=Zb5 fun _ _ _ _ _ _ _ q=>gt_int q
theorem Z89:OpR X (compareOp .GtE) (rI0 fun i j=>.bl (decide (j ≤ i))):=Zb5 fun _ _ _ _ _ _ _ q=>ge_int q
theorem Zn (b:Expr) {op:CmpOp} (h:op ≠ .In:=by decide) (h2:op ≠ .NotIn:=by decide):behindInMarks op b = false:=by
 have e1:(op == CmpOp.In) = false:=by cases op <;> first | rfl | exact absurd rfl h
 have e2:(op == CmpOp.NotIn) = false:=by cases op <;> first | rfl | exact absurd rfl h2
 cases b <;> simp [behindInMarks,e1,e2]
theorem X5 {op:CmpOp} {r:R2} (ho:OpR X (compareOp op) r) (ha:PE X a ta) (hb:PE X b tb) (hm:behindInMarks op b = false):PE X (.Compare a [op] [b] pos) (tOp r ta tb):=by
 intro pins s σ H Q I h
 exact wpAny_Compare1 (Zby ha hb I h fun v u s2 x y H2 I2 rx ry q=>ho pins s2 σ H2 x y v u Q I2 rx ry q) hm
def Zb7 (t:TE):TT:=fun σ H Q=>t σ H fun x H'=>∃ k,x = .bl k∧Q k H'
theorem Ze {op:CmpOp} {r:R2} (ho:OpR X (compareOp op) r) (ha:PE X a ta) (hb:PE X b tb) (hm:behindInMarks op b = false):PT X (.Compare a [op] [b] pos) (Zb7 (tOp r ta tb)):=by
 intro pins s σ H Q I h
 refine wpAny_isTrue_Compare1 (thn (ha pins s σ H _ I h) fun v s1 ⟨x,H1,I1,r1,q1⟩=>thn (hb pins s1 σ H1 _ I1 q1) fun u s2 ⟨y,H2,I2,r2,q2⟩ =>
  thn (ho pins s2 σ H2 x y v u _ I2 r1 r2 q2) fun c s3 ⟨z,H3,I3,r3,k,e,q3⟩=>?_) hm
 subst e
 cases r3
 exact wpAny_truthy_bool ⟨H3,I3,q3⟩
theorem Ue:(sizeLine:Nat) < 2 ^ 63:=by rw [sizeLine_eq]; decide
theorem Ua:OpR X (binaryOp .Add) (fun x y H Q=>∃ i j,x = .str i∧y = .str j∧i.length + j.length ≤ sizeLine∧Q (.str (i ++ j)) H):=by
 intro pins s σ H x y v u Q I rx ry h
 obtain ⟨i,j,rfl,rfl,hz,q⟩:=h
 obtain ⟨t,rfl⟩:=rx
 obtain ⟨t',rfl⟩:=ry
 exact add_str (fun t' tk=>⟨.str (i ++ j),H,I.tok _,⟨_,rfl⟩,q⟩) hz
theorem Z1r {x:V} {us:List Value} (r:Vals [x] us):∃ u,us = [u]∧RelV x u:=by
 cases r with
 | cons r1 r2=>cases r2; exact ⟨_,rfl,r1⟩
theorem Z9b {x y:V} {us:List Value} (r:Vals [x,y] us):∃ u w',us = [u,w']∧RelV x u∧RelV y w':=by
 cases r with
 | cons r1 r2 =>
  cases r2 with
  | cons r3 r4=>cases r4; exact ⟨_,_,rfl,r1,r3⟩
theorem Z53 (hc:X.calm = true):Ji X (.builtin "min") (fun xs H Q=>∃ i j,xs = [.int i,.int j]∧Q (.int (if j < i then j else i)) H):=by
 intro pins s σ H xs us Q I r h
 obtain ⟨i,j,rfl,q⟩:=h
 obtain ⟨u,w',rfl,⟨t,rfl⟩,⟨t',rfl⟩⟩:=Z9b r
 refine min_two_ints (I.ok.hd hc) fun h' tk k=>⟨_,H,I.kept k,?_,q⟩
 by_cases hj:j < i
 ·rw [if_pos hj,if_pos hj]; exact ⟨_,rfl⟩
 ·rw [if_neg hj,if_neg hj]; exact ⟨_,rfl⟩
end
structure ObjM (h:Heap) (x dx C:Addr) (mA:Str→Option Value):Prop where
 obj:h.get? x = some (PySem.W.instObj C dx)
 ns:h.Ns1 dx mA
 ne:dx ≠ x
theorem Z49 {h:Heap} {dx:Addr} {mA:Str→Option Value} (n:h.Ns1 dx mA):∃ od,h.get? dx = some od∧∀ name,PySem.W.lookIn name od = some (mA name):=by
 obtain ⟨o,es,ep,ho,hd,hk,_,hm⟩:=n
 refine ⟨o,ho,fun name=>?_⟩
 have e:=hm name
 unfold nsFind findBy at e
 rw [← Array.find?_toList] at e
 unfold PySem.W.lookIn
 rw [hd]
 dsimp only
 split
 ·rename_i y q
  rw [q] at e
  exact congrArg some e
 ·rename_i q
  rw [q] at e
  have a:es.toList.any (·.refKey) = false:=by
   rw [List.any_eq_false]
   intro y hy
   obtain ⟨z,t,hkey⟩:=hk y (Array.mem_toList_iff.mp hy)
   simp [DictEntry.refKey,hkey]
  have a':¬ es.toList.any (·.refKey) = true:=by rw [a]; exact Bool.false_ne_true
  rw [if_neg a']
  exact congrArg some e
theorem ObjM.look {h:Heap} {x dx C:Addr} {mA:Str→Option Value} (I:ObjM h x dx C mA):∃ od,PySem.W.InstAt h x (PySem.W.instObj C dx) C (some od)∧∀ name,PySem.W.lookIn name od = some (mA name) :=
 let ⟨od,ho,hl⟩:=Z49 I.ns
 ⟨od,⟨I.obj,rfl,rfl,ho⟩,hl⟩
section
variable {prog:Program} {w:World} {A:Around} {E:Value→Shared→Prop} {s:Shared} {K:PySem.W.Frag} {x dx C f:Addr} {mA:Str→Option Value} {name:Str} {v:Value}
theorem Z8v {expr:Bool} {Q:Value→Shared→Prop} (X:K.In s.heap) (I:ObjM s.heap x dx C mA) (hg:PySem.W.plainGet K C name = true) (hh:PySem.W.hasDictIn K C = true)
  (ha:PySem.W.findIn K (.ref C) name = some none) (hv:mA name = some v) (hv':PySem.W.handedIn v = true) (h:Q v { s with toks:=s.toks + 1 }) :
  wpAny (model prog w) A (getAttr (.ref x) name expr) Q E s:=by
 obtain ⟨od,J,hl⟩:=I.look
 exact PySem.W.get_value X J (PySem.W.plainGet_of hg).1 (PySem.W.findObj_own hh ha rfl (by rw [hl,hv])) hv' h
theorem Z6i {pl:Sem Bool} {Q:Value × List Value→Shared→Prop} (X:K.In s.heap) (I:ObjM s.heap x dx C mA) (hg:PySem.W.plainGet K C name = true)
  (hf:PySem.W.findIn K (.ref C) name = some (some (.ref f))) (ht:PySem.W.isFn K (.ref f) = true) (hv:mA name = none) (h:Q (.ref f,[.ref x]) s) :
  wpAny (model prog w) A (getMethod (.ref x) name pl) Q E s:=by
 obtain ⟨od,J,hl⟩:=I.look
 exact PySem.W.method_fn X J (PySem.W.plainGet_of hg).1 (PySem.W.plainGet_of hg).2 hf (beq_iff_eq.mp ht) (by show (PySem.W.lookIn name od).map (·.isSome) = some false; rw [hl,hv]; rfl) h
theorem Z7o {ns:List Str} {Q:Unit→Shared→Prop} (X:K.In s.heap) (I:ObjM s.heap x dx C mA)
  (hs:PySem.W.findIn K (.ref C) "__setattr__" = some (some (.builtin "object.__setattr__"))) (hp:PySem.W.plainOver K C = true) (ht:PySem.W.takerIn K C name = some none) (hh:PySem.W.hasDictIn K C = true)
  (hw:PySem.Within mA ns) (hsz:ns.length ≤ sizeLine)
  (h:∀ h',ObjM h' x dx C (fun y=>if y = name then some v else mA y)→Heap.SameBut dx s.heap h'→Q () { s with heap:=h',toks:=s.toks + 2 }) :
  wpAny (model prog w) A (setAttr (.ref x) name v) Q E s:=by
 obtain ⟨od,J,hl⟩:=I.look
 refine PySem.W.set_plain X J hs (PySem.W.osa_open (s:={ s with toks:=s.toks + 1 }) (r:=none) X J hp ht fun b=>?_)
 obtain ⟨cd,hc,hd'⟩:=PySem.W.any_some hh
 have hx:s.heap.get? x = some ⟨.ref C,some dx,.plain,#[]⟩:=I.obj
 refine wpAny_bind (wpAny_pure (wpAny_bind (wpAny_bind (wpAny_loadPart hx (wpAny_bind (PySem.W.Looks.here (s:={ s with toks:=s.toks + 1 }) (PySem.W.looks_clsIn X hc) ?_))))))
 rw [hd']
 refine wpAny_pure (a:=some dx) (wpAny_bind (wpAny_pure (wpAny_bind ?_)))
 refine wpAny_nsSet1 (s:={ s with toks:=s.toks + 1 }) I.ns fun h' hn2 hs2=>?_
 obtain ⟨oD,esD,epD,hoD,hdD,hcD⟩:=hn2.count (PySem.Within.cons name v hw)
 refine wpAny_bind (wpAny_lookBehind hoD (by rw [hdD]; exact pastItsLine_dict (Nat.le_trans hcD (by rw [List.length_cons]; omega))) ?_)
 exact wpAny_pure (h _ ⟨(hs2.2 _ (Ne.symm I.ne)).trans I.obj,hn2,I.ne⟩ hs2)
theorem Z68 {R:Result→Shared→Prop} {vs:List Value} {kw:List (Str × Value)} (X:K.In s.heap) (hm:PySem.W.makesIn K C = true)
  (hi:PySem.W.findIn K (.ref C) "__init__" = some (some (.ref f))) (hf:PySem.W.typeIn K (.ref f) = some (.type "function"))
  (h:codeAny (model prog w) (A.under (.builtin "type.__call__" ⟨.ref C :: vs,kw⟩)) (.call (.ref f) ⟨.ref (s.heap.objs.size + 1) :: vs,kw⟩) (PySem.W.InitBack (s.heap.objs.size + 1) R)
   { s with heap:=(s.heap.push PySem.W.emptyDict).push (PySem.W.instObj C s.heap.objs.size) }) :
  codeAny (model prog w) A (.call (.ref C) ⟨vs,kw⟩) R s:=by
 obtain ⟨hh,g,d,t,os⟩:=s
 exact PySem.W.make_core (PySem.W.makes_of X hm) (PySem.W.looks_findIn X hi) (fun self=>PySem.W.bind_fn X self hf) (.inl rfl) h
end
def Yg (f:Str) (v:V):List (Str × V)→List (Str × V)
 | []=>[(f,v)]
 | (g,x) :: r=>if g = f then (g,v) :: r else (g,x) :: Yg f v r
theorem Ve (f g:Str) (v:V):∀ fs:List (Str × V),(Yg f v fs).lookup g = if g = f then some v else fs.lookup g
 | []=>by
  show List.lookup g [(f,v)] = _
  by_cases h:g = f
  ·have hb:(g == f) = true:=beq_iff_eq.mpr h
   simp only [List.lookup,hb,if_pos h]
  ·have hb:(g == f) = false:=beq_eq_false_iff_ne.mpr h
   simp only [List.lookup,hb,if_neg h]
 | (k,x) :: r=>by
  have ih:=Ve f g v r
  rw [show Yg f v ((k,x) :: r) = (if k = f then (k,v) :: r else (k,x) :: Yg f v r) from rfl]
  by_cases hk:k = f
  ·rw [if_pos hk]
   by_cases h:g = k
   ·have hb:(g == k) = true:=beq_iff_eq.mpr h
    simp only [List.lookup,hb,if_pos (h.trans hk)]
   ·have hb:(g == k) = false:=beq_eq_false_iff_ne.mpr h
    simp only [List.lookup,hb,if_neg (fun e:g = f=>h (e.trans hk.symm))]
  ·rw [if_neg hk]
   by_cases h:g = k
   ·have hb:(g == k) = true:=beq_iff_eq.mpr h
    simp only [List.lookup,hb,if_neg (fun e:g = f=>hk (h.symm.trans e))]
   ·have hb:(g == k) = false:=beq_eq_false_iff_ne.mpr h
    simp only [List.lookup,hb]
    exact ih
theorem Vg (f:Str) (v:V):∀ fs:List (Str × V),f ∈ (Yg f v fs).map (·.1)∧∀ g,g ∈ fs.map (·.1)→g ∈ (Yg f v fs).map (·.1)
 | []=>⟨by simp [Yg],fun g h=>by simp at h⟩
 | (k,x) :: r=>by
  obtain ⟨i1,i2⟩:=Vg f v r
  rw [show Yg f v ((k,x) :: r) = (if k = f then (k,v) :: r else (k,x) :: Yg f v r) from rfl]
  by_cases hk:k = f
  ·rw [if_pos hk]
   subst hk
   exact ⟨by simp,fun g h=>by simpa using h⟩
  ·rw [if_neg hk]
   refine ⟨?_,fun g h=>?_⟩
   ·rw [List.map_cons]
    exact List.mem_cons_of_mem _ i1
   ·rw [List.map_cons] at h ⊢
    rcases List.mem_cons.mp h with e | e
    ·exact List.mem_cons.mpr (.inl e)
    ·exact List.mem_cons_of_mem _ (i2 g e)
theorem Vf (f:Str) (v:V):∀ fs:List (Str × V),(Yg f v fs).length ≤ fs.length + 1
 | []=>by simp [Yg]
 | (k,x) :: r=>by
  have ih:=Vf f v r
  rw [show Yg f v ((k,x) :: r) = (if k = f then (k,v) :: r else (k,x) :: Yg f v r) from rfl]
  by_cases hk:k = f
  ·rw [if_pos hk,List.length_cons,List.length_cons]; omega
  ·rw [if_neg hk,List.length_cons,List.length_cons]; omega
theorem RelO.some_of {v:V} {o:Option Value} (r:RelO (some v) o):∃ u,o = some u∧RelV v u:=by
 cases o with
 | none=>exact (show False from r).elim
 | some u=>exact ⟨u,rfl,r⟩
theorem RelO.none_of {o:Option Value} (r:RelO none o):o = none:=by
 cases o with
 | none=>rfl
 | some u=>exact (show False from r).elim
theorem Z4q {v:V} {u:Value} (r:RelV v u):PySem.W.handedIn u = true:=by
 cases v with
 | non=>cases (show u = Value.none from r); rfl
 | bl b=>cases (show u = Value.bool b from r); rfl
 | int i=>obtain ⟨t,e⟩:=(show ∃ t,u = Value.int i t from r); cases e; rfl
 | str x=>obtain ⟨t,e⟩:=(show ∃ t,u = Value.str x t from r); cases e; rfl
 | byt b=>obtain ⟨t,e⟩:=(show ∃ t,u = Value.bytes b t from r); cases e; rfl
 | flt b=>obtain ⟨t,e⟩:=(show ∃ t,u = Value.float b t from r); cases e; rfl
 | ref a=>cases (show u = Value.ref a from r); rfl
 | ty n=>cases (show u = Value.type n from r); rfl
section
variable {P:Program} {w:World} {H H':Hp} {h h':Heap} {a C dx:Addr} {fs fs':List (Str × V)}
theorem T2 (hok:HOk P w H h) (e:H a = some (.ins C dx fs)):∃ mA,ObjM h a dx C mA∧(∀ f,RelO (fs.lookup f) (mA f))∧PySem.Within mA (fs.map (·.1))∧fs.length ≤ 1000∧H dx = some (.own a):=by
 obtain ⟨d,z,ne,ob,mA,n,r,q⟩:=(show ObjOk P w H h a (.ins C dx fs) from hok a _ e)
 exact ⟨mA,⟨ob,n,ne⟩,r,q,z,d⟩
end
structure Cls (K:PySem.W.Frag) (C:Addr):Prop where
 pg:PySem.W.plainGet K C Str.empty = true
 hd:PySem.W.hasDictIn K C = true
 po:PySem.W.plainOver K C = true
 sa:PySem.W.findIn K (.ref C) "__setattr__" = some (some (.builtin "object.__setattr__"))
theorem Cls.get {K:PySem.W.Frag} {C:Addr} (c:Cls K C) (f:Str):PySem.W.plainGet K C f = true:=c.pg
def NoAttr (K:PySem.W.Frag) (C:Addr) (f:Str):Prop:=PySem.W.findIn K (.ref C) f = some none
theorem NoAttr.taker {K:PySem.W.Frag} {C:Addr} {f:Str} (n:NoAttr K C f):PySem.W.takerIn K C f = some none:=by
 unfold PySem.W.takerIn
 rw [show PySem.W.findIn K (.ref C) f = some none from n]
 rfl
structure Meth (K:PySem.W.Frag) (C:Addr) (m:Str) (f:Addr):Prop where
 at_:PySem.W.findIn K (.ref C) m = some (some (.ref f))
 fn:PySem.W.isFn K (.ref f) = true
 kp:PySem.W.keepIn K (.ref f) = true
section
variable {X:Cx} {pins:List (Addr × Obj)} {σ:St} {H:Hp} {s:Shared} {a C dx:Addr} {fs:List (Str × V)} {f:Str} {v:V} {A:Around} {E:Value→Shared→Prop}
theorem Uf {b:Bool} {Q:Value→Shared→Prop} (I:Inv X pins σ H s) (e:H a = some (.ins C dx fs)) (c:Cls X.K C) (n:NoAttr X.K C f) (l:fs.lookup f = some v)
  (h:∀ u s',Inv X pins σ H s'→RelV v u→Q u s'):wpAny (model X.prog X.w) A (getAttr (.ref a) f b) Q E s:=by
 obtain ⟨mA,O,r,_,_,_⟩:=T2 I.hok e
 obtain ⟨u,hu,ru⟩:=RelO.some_of (v:=v) (o:=mA f) (by rw [← l]; exact r f)
 exact Z8v I.kIn O (c.get f) c.hd n hu (Z4q ru) (h u _ (I.tok _) ru)
theorem Wj {m:Str} {g:Addr} {pl:Sem Bool} {Q:Value × List Value→Shared→Prop} (I:Inv X pins σ H s) (e:H a = some (.ins C dx fs)) (c:Cls X.K C) (k:Meth X.K C m g) (l:fs.lookup m = none)
  (h:Q (.ref g,[.ref a]) s):wpAny (model X.prog X.w) A (getMethod (.ref a) m pl) Q E s:=by
 obtain ⟨mA,O,r,_,_,_⟩:=T2 I.hok e
 have hn:mA m = none:=RelO.none_of (by rw [← l]; exact r m)
 exact Z6i I.kIn O (c.get m) k.at_ k.fn hn h
theorem U0 {y:V} {u:Value} {Q:Unit→Shared→Prop} (I:Inv X pins σ H s) (e:H a = some (.ins C dx fs)) (c:Cls X.K C) (n:NoAttr X.K C f) (hl:fs.length < 1000) (ry:RelV y u)
  (h:∀ s',Inv X pins σ (upd H a (.ins C dx (Yg f y fs))) s'→Q () s'):wpAny (model X.prog X.w) A (setAttr (.ref a) f u) Q E s:=by
 obtain ⟨mA,O,r,wi,_,ho⟩:=T2 I.hok e
 have hz:(fs.map (·.1)).length ≤ sizeLine:=by rw [List.length_map,sizeLine_eq]; omega
 refine Z7o I.kIn O c.sa c.po n.taker c.hd wi hz fun h' O' sb=>h _ ?_
 have hd:∃ o,h'.get? dx = some o:=let ⟨o,_,_,e',_⟩:=O'.ns; ⟨o,e'⟩
 refine I.write (x:=a) (e:=dx) (by rw [e]; exact True.intro) (.inr ho) (fun b q hb z=>(sb.2 b hb).trans z) hd ?_
 refine ⟨by rw [Zf O.ne]; exact ho,?_,O.ne,O'.obj,_,O'.ns,fun g=>?_,fun g hg=>?_⟩
 ·have:=Vf f y fs; omega
 ·show RelO ((Yg f y fs).lookup g) (if g = f then some u else mA g)
  rw [Ve]
  by_cases q:g = f
  ·rw [if_pos q,if_pos q]; exact ry
  ·rw [if_neg q,if_neg q]; exact r g
 ·by_cases q:g = f
  ·rw [q]; exact (Vg f y fs).1
  ·refine (Vg f y fs).2 g (wi g fun z=>hg ?_)
   show (if g = f then some u else mA g) = none
   rw [if_neg q]; exact z
theorem Inv.made (I:Inv X pins σ H s):Inv X pins σ (upd (upd H s.heap.objs.size (.own (s.heap.objs.size + 1))) (s.heap.objs.size + 1) (.ins C s.heap.objs.size []))
  { s with heap:=(s.heap.push PySem.W.emptyDict).push (PySem.W.instObj C s.heap.objs.size) }:=by
 have e1:(s.heap.push PySem.W.emptyDict).get? s.heap.objs.size = some PySem.W.emptyDict:=Heap.get?_push_size s.heap rfl
 have e2:((s.heap.push PySem.W.emptyDict).push (PySem.W.instObj C s.heap.objs.size)).get? (s.heap.objs.size + 1) = some (PySem.W.instObj C s.heap.objs.size):=by
  have:=Heap.get?_push_size (s.heap.push PySem.W.emptyDict) (o:=PySem.W.instObj C s.heap.objs.size) rfl
  rwa [Heap.size_push] at this
 have e3:(s.heap.push PySem.W.emptyDict).Ns s.heap.objs.size (fun _=>none):=⟨PySem.W.emptyDict,#[],_,e1,rfl,(fun e he=>absurd he (by simp)),fun _=>rfl⟩
 have I1:=I.laid (a:=s.heap.objs.size) (o:=.own (s.heap.objs.size + 1)) (h':=s.heap.push PySem.W.emptyDict) (t':=s.toks) (fun b u q=>Heap.get?_push_of_some _ q) (Nat.le_refl _) ⟨_,e1⟩
 refine I1.laid (a:=s.heap.objs.size + 1) (o:=.ins C s.heap.objs.size []) (t':=s.toks) (fun b u q=>Heap.get?_push_of_some _ q) (Nat.le_of_eq (Heap.size_push _ _)) ?_
 have ne:s.heap.objs.size ≠ s.heap.objs.size + 1:=Nat.ne_of_lt (Nat.lt_succ_self _)
 refine ⟨by rw [Zf ne,Z1],Nat.zero_le _,ne,e2,fun _=>none,(Heap.Ns1.of_empty e3).at fun o q=>Heap.get?_push_of_some _ q,fun _=>True.intro,fun y hy=>absurd rfl hy⟩
theorem Z8z {prog:Program} {w:World} {env:Env} {e:Expr} {f:Str} {pos:Pos} {s:Shared} {Q:Value→Shared→Prop} (hb:attributeBase e f env (eval e env) = eval e env)
  (h:wpAny (model prog w) A (eval e env) (fun o s₁=>wpAny (model prog w) A (getAttr o f true) Q E s₁) E s):wpAny (model prog w) A (eval (.Attribute e f pos) env) Q E s :=
 Attribute_any_ h (by rw [arm_eval_Attribute,hb])
end
def Zc7 (K:PySem.W.Frag) (ta:TE) (f:Str):TE:=fun σ H Q=>ta σ H fun x H1=>∃ a C dx fs v,x = .ref a∧H1 a = some (.ins C dx fs)∧Cls K C∧NoAttr K C f∧fs.lookup f = some v∧Q v H1
def Z96 (K:PySem.W.Frag) (ta tv:TE) (f:Str):TS:=fun D σ H=>tv σ H fun y H1=>ta σ H1 fun x H2=>∃ a C dx fs,x = .ref a∧H2 a = some (.ins C dx fs)∧Cls K C∧NoAttr K C f∧fs.length < 1000 ∧
 D.nx σ (upd H2 a (.ins C dx (Yg f y fs)))
def Zch (X:Cx) (op:Operator) (rd:V→V→Hp→VK→Prop):Prop :=
 ∀ (pins:List (Addr × Obj)) (s:Shared) (σ:St) (H:Hp) (x y:V) (u v:Value) (Q:VK),Inv X pins σ H s→RelV x u→RelV y v→rd x y H Q→wpAny (model X.prog X.w) X.A (inplaceOp op u v) (EP X pins σ Q) X.xe s
def Z7s (K:PySem.W.Frag) (ta tv:TE) (rd:V→V→Hp→VK→Prop) (f:Str):TS:=fun D σ H=>ta σ H fun x H1=>∃ a C dx fs v,x = .ref a∧H1 a = some (.ins C dx fs)∧Cls K C∧NoAttr K C f∧fs.lookup f = some v ∧
 tv σ H1 fun y H2=>rd v y H2 fun z H3=>∃ dx' fs',H3 a = some (.ins C dx' fs')∧fs'.length < 1000∧D.nx σ (upd H3 a (.ins C dx' (Yg f z fs')))
section
variable {X:Cx} {o e value:Expr} {f:Str} {pos pos' tpos:Pos} {ta tv:TE}
theorem Zh (he:PE X e ta) (hb:attributeBase e f X.env (eval e X.env) = eval e X.env):PE X (.Attribute e f pos) (Zc7 X.K ta f):=by
 intro pins s σ H Q I h
 refine Z8z hb (thn (he pins s σ H _ I h) fun u s1 ⟨x,H1,I1,rx,a,C,dx,fs,v,ex,ea,c,n,l,q⟩=>?_)
 subst ex
 obtain rfl:u = Value.ref a:=rx
 exact Uf I1 ea c n l fun u' s2 I2 ru=>⟨v,H1,I2,ru,q⟩
theorem Y3 (ha:PE X o ta) (hv:PE X value tv) (hs:swapsWith value (some (.Attribute o f pos')) pos.line X.env = pure false):PS X (.Assign [.Attribute o f pos'] value pos) (Z96 X.K ta tv f):=by
 intro pins s σ H D I h
 refine plainObj_wpAny_Assign_Attribute (thn (hv pins s σ H _ I h) fun u s1 ⟨y,H1,I1,ry,q⟩=>thn (ha pins s1 σ H1 _ I1 q) fun ov s2 ⟨x,H2,I2,rx,a,C,dx,fs,ex,ea,c,n,l,q2⟩=>?_) hs
 subst ex
 obtain rfl:ov = Value.ref a:=rx
 exact U0 I2 ea c n l ry fun s3 I3=>⟨σ,_,I3,q2⟩
theorem V4 {op:Operator} {rd:V→V→Hp→VK→Prop} (ha:PE X o ta) (hv:PE X value tv) (hop:Zch X op rd):PS X (.AugAssign (.Attribute o f tpos) op value pos) (Z7s X.K ta tv rd f):=by
 intro pins s σ H D I h
 refine wpAny_AugAssign_AttributeAny (thn (ha pins s σ H _ I h) fun ov s1 ⟨x,H1,I1,rx,a,C,dx,fs,v,ex,ea,c,n,l,q⟩=>?_)
 subst ex
 obtain rfl:ov = Value.ref a:=rx
 refine Uf I1 ea c n l fun u s2 I2 ru=>thn (hv pins s2 σ H1 _ I2 q) fun w3 s3 ⟨y,H2,I3,ry,q3⟩=>thn (hop pins s3 σ H2 v y u w3 _ I3 ru ry q3) fun w4 s4 ⟨z,H3,I4,rz,dx',fs',ea',l',q4⟩=>?_
 exact U0 I4 ea' c n l' rz fun s5 I5=>⟨σ,_,I5,q4⟩
def Zct:V→V→Hp→VK→Prop:=fun x y H Q=>∃ i j,x = .int i∧y = .int j∧Q (.int (i + j)) H
theorem Z4m:Zch X .Add Zct:=by
 rintro pins s σ H x y u v Q I rx ry ⟨i,j,rfl,rfl,q⟩
 obtain ⟨t,rfl⟩:=(show ∃ t,u = Value.int i t from rx)
 obtain ⟨t',rfl⟩:=(show ∃ t',v = Value.int j t' from ry)
 exact PyProof.Rows.iadd_int ⟨.int (i + j),H,I.tok _,⟨_,rfl⟩,q⟩
theorem methcall_of {pl:Sem Bool} {m:Str} {apos:Pos} {args:List Expr} {pins:List (Addr × Obj)} {s:Shared} {σ:St} {H:Hp} {Q:Value→Shared→Prop} {te:TE} (he:PE X e te) (I:Inv X pins σ H s)
  (h:te σ H fun x H1=>∃ a C dx fs g,x = .ref a∧H1 a = some (.ins C dx fs)∧Cls X.K C∧Meth X.K C m g∧fs.lookup m = none ∧
   ∀ s1,Inv X pins σ H1 s1→wpAny (model X.prog X.w) X.A (callWith pos (.ref g) [.ref a] (backTo pos (starEach args X.env)) (backToKw pos (keywordEach [] X.env))) Q X.xe s1)
  (ht:eval (.Call (.Attribute e m apos) args [] pos) X.env = (do
   let ov ← eval e X.env
   standAt apos.atName
   let (f,first) ← holding [ov] (getMethod ov m pl)
   callWith pos f first (backTo pos (starEach args X.env)) (backToKw pos (keywordEach [] X.env)))) :
  wpAny (model X.prog X.w) X.A (eval (.Call (.Attribute e m apos) args [] pos) X.env) Q X.xe s:=by
 refine PySem.W.methodCall_KW (pl:=pl) (thn (he pins s σ H _ I h) fun u s1 ⟨x,H1,I1,rx,a,C,dx,fs,g,ex,ea,c,k,l,q⟩=>?_) ht
 subst ex
 obtain rfl:u = Value.ref a:=rx
 exact Wj I1 ea c k l (q s1 I1)
end
section
variable {X:Cx} {pins:List (Addr × Obj)} {σ:St} {H:Hp} {s:Shared} {A:Around} {E:Value→Shared→Prop} {Q:Value→Shared→Prop} {c:Value} {b:Bool}
inductive TyOf (K:PySem.W.Frag) (H:Hp):V→Value→Prop where
 | non:TyOf K H .non (.type "NoneType")
 | bl (x:Bool):TyOf K H (.bl x) (.type "bool")
 | int (i:Int):TyOf K H (.int i) (.type "int")
 | str (x:Str):TyOf K H (.str x) (.type "str")
 | flt (x:UInt64):TyOf K H (.flt x) (.type "float")
 | lst {a:Addr} {xs:List V} (e:H a = some (.lst xs)):TyOf K H (.ref a) (.type "list")
 | frz {a:Addr} {o:Obj} {xs:List V} (e:H a = some (.frz o (.lst xs))):TyOf K H (.ref a) (.type "list")
 | tup {a:Addr} {xs:List V} (e:H a = some (.tup xs)):TyOf K H (.ref a) (.type "tuple")
 | dK {a:Addr} {kvs:List (Key × V)} (e:H a = some (.dK kvs)):TyOf K H (.ref a) (.type "dict")
 | dT {a:Addr} {kvs:List (List Key × V)} (e:H a = some (.dT kvs)):TyOf K H (.ref a) (.type "dict")
 | ins {a C dx:Addr} {fs:List (Str × V)} (e:H a = some (.ins C dx fs)) (cl:Cls K C) (ha:PySem.W.findIn K (.ref C) "__class__" = some (some (.builtin "object.__class__")))
   (hn:PySem.W.specialIn K (.builtin "object.__class__") "__get__" = some (some (.builtin "getset_descriptor.__get__"))) (htk:PySem.W.takesIn K (.builtin "object.__class__") = some true)
   (hm:PySem.W.mroIn K C (.type "object") = some true):TyOf K H (.ref a) (.ref C)
theorem Z4j {x:V} {u t:Value} (I:Inv X pins σ H s) (rx:RelV x u) (ty:TyOf X.K H x t) (e:PySem.W.kitOne X.K t c = some b) (h:∀ tk,Q (.bool b) { s with toks:=tk }) :
  wpAny (model X.prog X.w) A (call (.builtin "isinstance") [u,c]) Q E s:=by
 cases ty with
 | non=>cases (show u = Value.none from rx); exact PySem.W.kia_one PySem.W.kitx_none I.kIn True.intro e (fun z=>nomatch z) h
 | bl y=>cases (show u = Value.bool y from rx); exact PySem.W.kia_one PySem.W.kitx_bool I.kIn True.intro e (fun z=>nomatch z) h
 | int i=>obtain ⟨t,q⟩:=(show ∃ t,u = Value.int i t from rx); cases q; exact PySem.W.kia_one PySem.W.kitx_int I.kIn True.intro e (fun z=>nomatch z) h
 | str y=>obtain ⟨t,q⟩:=(show ∃ t,u = Value.str y t from rx); cases q; exact PySem.W.kia_one PySem.W.kitx_str I.kIn True.intro e (fun z=>nomatch z) h
 | flt y=>obtain ⟨t,q⟩:=(show ∃ t,u = Value.float y t from rx); cases q; exact PySem.W.kia_one PySem.W.kitx_float I.kIn True.intro e (fun z=>nomatch z) h
 | @lst a xs ea =>
  cases (show u = Value.ref a from rx)
  obtain ⟨_,_,n,_,h1⟩:=(show ObjOk X.prog X.w H s.heap a (.lst xs) from I.hok a _ ea)
  exact PySem.W.kia_one PySem.W.kitx_list I.kIn ⟨_,h1,rfl⟩ e (fun z=>nomatch z) h
 | @frz a ob xs ea =>
  cases (show u = Value.ref a from rx)
  obtain ⟨_,_,_,n,_,h1⟩:=(show ObjOk X.prog X.w H s.heap a (.frz ob (.lst xs)) from I.hok a _ ea)
  exact PySem.W.kia_one PySem.W.kitx_list I.kIn ⟨_,h1,rfl⟩ e (fun z=>nomatch z) h
 | @tup a xs ea =>
  cases (show u = Value.ref a from rx)
  obtain ⟨_,_,_,p⟩:=(show ObjOk X.prog X.w H s.heap a (.tup xs) from I.hok a _ ea)
  obtain ⟨o,h1,h2,_⟩:=p
  exact PySem.W.kia_one PySem.W.kitx_tuple I.kIn ⟨o,h1,h2⟩ e (fun z=>nomatch z) h
 | @dK a kvs ea =>
  cases (show u = Value.ref a from rx)
  obtain ⟨_,_,vs,_,p⟩:=(show ObjOk X.prog X.w H s.heap a (.dK kvs) from I.hok a _ ea)
  obtain ⟨o,es,ep,h1,h2,_⟩:=p
  exact PySem.W.kia_one PySem.W.kitx_dict I.kIn ⟨o,h1,h2.1⟩ e (fun z=>nomatch z) h
 | @dT a kvs ea =>
  cases (show u = Value.ref a from rx)
  obtain ⟨_,_,xs,_,o,es,ep,h1,h2,_⟩:=(show ObjOk X.prog X.w H s.heap a (.dT kvs) from I.hok a _ ea)
  exact PySem.W.kia_one PySem.W.kitx_dict I.kIn ⟨o,h1,h2.1⟩ e (fun z=>nomatch z) h
 | @ins a C dx fs ea cl ha hn htk hm =>
  cases (show u = Value.ref a from rx)
  obtain ⟨mA,O,_⟩:=T2 I.hok ea
  obtain ⟨od,J,_⟩:=O.look
  exact PySem.W.kia_one (PySem.W.kitx_own (cl.get _) cl.hd ha hn htk hm) I.kIn J e (fun z=>nomatch z) h
end
structure Room (k:Nat) (A:Around):Prop where
 hd:A.handled = none
 dp:A.depth + 3 * k + 5 < recursionLimit
 un:A.units + 16 * k + 200 < cLine
theorem Room.mono {j k:Nat} {A:Around} (r:Room k A) (h:j ≤ k):Room j A:=⟨r.hd,by have:=r.dp; omega,by have:=r.un; omega⟩
theorem Room.deeper {k:Nat} {A:Around} (r:Room (k + 1) A) (env:Env):Room k (A.deeper env) :=
 ⟨r.hd,by have:=r.dp; show A.depth + 1 + 3 * k + 5 < _; omega,by have:=r.un; show A.units + 3 + 16 * k + 200 < _; omega⟩
theorem Z2l {A:Around} {C:Addr} {us:List Value} {kw:List (Str × Value)}:(A.under (.builtin "type.__call__" ⟨.ref C :: us,kw⟩)).depth = A.depth + 1:=by
 first | rfl | simp [Around.under,Code.weight,Code.isCreation,Code.isGuard,Code.isCaller,Code.frames,Code.isFrame,guardIds]
theorem Z2k {A:Around} {C:Addr} {us:List Value} {kw:List (Str × Value)}:(A.under (.builtin "type.__call__" ⟨.ref C :: us,kw⟩)).units = A.units + 1:=by
 first | rfl | simp [Around.under,Code.cUnits,Code.frames,Code.isFrame]
theorem Room.make {k:Nat} {A:Around} (r:Room (k + 1) A) (C:Addr) (us:List Value) (kw:List (Str × Value)):Room k (A.under (.builtin "type.__call__" ⟨.ref C :: us,kw⟩)) :=
 ⟨r.hd,by have:=r.dp; rw [Z2l]; omega,by have:=r.un; rw [Z2k]; omega⟩
theorem Room.depth {k:Nat} {A:Around} (r:Room k A):A.depth < recursionLimit:=by have:=r.dp; omega
theorem Room.units0 {k:Nat} {A:Around} (r:Room k A):A.units < cLine:=by have:=r.un; omega
def Z5d:TA:=fun _ H Q=>Q [] H
def Z1u (ta:TE) (tr:TA):TA:=fun σ H Q=>ta σ H fun x H1=>tr σ H1 fun xs H2=>Q (x :: xs) H2
section
variable {X:Cx} {e:Expr} {es:List Expr} {te:TE} {t:TA} {pos:Pos}
theorem Z3:PA X [] Z5d:=fun _ _ _ _ H Q I h=>Calls.spliced_nil ⟨[],H,I,.nil,h⟩
theorem Z0 (ha:PE X e te) (hr:PA X es t) (hs:starEach (e :: es) X.env = (false,eval e X.env) :: starEach es X.env:=by rfl):PA X (e :: es) (Z1u te t):=by
 intro pos pins s σ H Q I h
 rw [hs]
 show wpAny _ _ (spliced ((false,eval e X.env) :: backTo pos (starEach es X.env))) _ _ s
 refine Calls.spliced_cons (thn (ha pins s σ H _ I h) fun u s1 ⟨x,H1,I1,r1,q1⟩=>?_)
 exact thn (hr pos pins s1 σ H1 _ I1 q1) fun us s2 ⟨xs,H2,I2,r2,q2⟩=>⟨x :: xs,H2,I2,.cons r1 r2,q2⟩
def Zb2 (t:TA):TE:=fun σ H Q=>t σ H fun xs H1=>xs.length ≤ sizeLine∧∀ p,H1 p = none→Q (.ref p) (upd H1 p (.tup xs))
def Zc5 (t:TA):TE:=fun σ H Q=>t σ H fun xs H1=>xs.length ≤ sizeLine∧∀ p,H1 p = none→Q (.ref p) (upd H1 p (.lst xs))
theorem Zm {x1} (h:PA X es t):PE X (.Tuple es x1 pos) (Zb2 t):=by
 intro pins s σ H Q I hq
 refine wpAny_Tuple_spliced (thn (h pos pins s σ H _ I hq) fun us s1 ⟨xs,H1,I1,r,z,q⟩=>⟨by rw [← r.length]; exact z,?_⟩)
 have hf:H1 s1.heap.objs.size = none:=I1.hok.fresh (Nat.le_refl _)
 refine ⟨.ref s1.heap.objs.size,upd H1 s1.heap.objs.size (.tup xs),I1.laid (t':=s1.toks) (fun b u e=>Heap.get?_push_of_some _ e) (Nat.le_refl _) ?_,rfl,q _ hf⟩
 exact ⟨z,us,r,⟨_,Heap.get?_push_size _ rfl,rfl,_,rfl⟩⟩
theorem U5 (h:PA X es t):PE X (.List es pos) (Zc5 t):=by
 intro pins s σ H Q I hq
 refine wpAny_List_spliced (thn (h pos pins s σ H _ I hq) fun us s1 ⟨xs,H1,I1,r,z,q⟩=>⟨by rw [← r.length]; exact z,?_⟩)
 have hf:H1 s1.heap.objs.size = none:=I1.hok.fresh (Nat.le_refl _)
 refine ⟨.ref s1.heap.objs.size,upd H1 s1.heap.objs.size (.lst xs),I1.laid (t':=s1.toks) (fun b u e=>Heap.get?_push_of_some _ e) (Nat.le_refl _) ?_,rfl,q _ hf⟩
 exact ⟨z,us,0,r,Heap.get?_push_size _ rfl⟩
end
abbrev Sp:=List V→Hp→VK→XK→Prop
abbrev CXT:=List Env→Hp→Shared→XK→Value→Shared→Prop
structure Env0 (P:Program) (w:World) (K:PySem.W.Frag) (mg:Str→Option Value) (base:Heap) (A:Around) (outer:List Env) (s:Shared) (H:Hp):Prop where
 frames:A.frames = some outer
 mod:Mod K mg base
 bs:∀ b o,base.get? b = some o→s.heap.get? b = some o∧H b = none
 bsz:base.objs.size ≤ s.heap.objs.size
 funs:s.heap.FunFrames base outer
 frf:∀ b ∈ frs outer,H b = none
 hok:HOk P w H s.heap
 bare:AllBare s.gens
def CE (outer:List Env) (P:Program) (w:World) (H:Hp) (s:Shared) (Q:VK) (u:Value) (s':Shared):Prop :=
 ∃ v H',s'.os = s.os∧AllBare s'.gens∧Un (frs outer) [] H H' s.heap s'.heap∧HOk P w H' s'.heap∧RelV v u∧Q v H'
def CR (CX:CXT) (outer:List Env) (P:Program) (w:World) (H:Hp) (s:Shared) (Q:VK) (E:XK) (r:Result) (s':Shared):Prop :=
 match r with
 | .ok (.ret u)=>CE outer P w H s Q u s'
 | .ok _=>False
 | .error e=>CX outer H s E e s'
structure FnOk (P:Program) (w:World) (K:PySem.W.Frag) (mg:Str→Option Value) (base:Heap) (CX:CXT) (k:Nat) (f:Addr) (fd:FuncData) (ps:List Str) (sp:Sp):Prop where
 len:∀ vs H Q E,sp vs H Q E→vs.length = ps.length
 run:∀ (A:Around) (outer:List Env) (s:Shared) (H:Hp) (args:Args) (us:List Value) (vs:List V) (Q:VK) (E:XK),Room k A→Env0 P w K mg base A outer s H→BindsTo s fd args (ps.zip us)→Vals vs us→sp vs H Q E →
  codeAny (model P w) A (.call (.ref f) args) (CR CX outer P w H s Q E) s
theorem FnOk.mono {P:Program} {w:World} {K:PySem.W.Frag} {mg:Str→Option Value} {base:Heap} {CX:CXT} {j k:Nat} {f:Addr} {fd:FuncData} {ps:List Str} {sp:Sp} (F:FnOk P w K mg base CX j f fd ps sp) (h:j ≤ k) :
  FnOk P w K mg base CX k f fd ps sp:=⟨F.len,fun A outer s H args us vs Q E hr=>F.run A outer s H args us vs Q E (hr.mono h)⟩
theorem FnOk.imp {P:Program} {w:World} {K:PySem.W.Frag} {mg:Str→Option Value} {base:Heap} {CX:CXT} {k:Nat} {f:Addr} {fd:FuncData} {ps:List Str} {sp sp':Sp} (F:FnOk P w K mg base CX k f fd ps sp)
  (h:∀ vs H Q E,sp' vs H Q E→sp vs H Q E):FnOk P w K mg base CX k f fd ps sp' :=
 ⟨fun vs H Q E q=>F.len vs H Q E (h _ _ _ _ q),fun A outer s H args us vs Q E hr he hb hv hs=>F.run A outer s H args us vs Q E hr he hb hv (h _ _ _ _ hs)⟩
theorem Env0.make {P:Program} {w:World} {K:PySem.W.Frag} {mg:Str→Option Value} {base:Heap} {A:Around} {outer:List Env} {s:Shared} {H:Hp} (e:Env0 P w K mg base A outer s H) (C:Addr) (us:List Value) (kw:List (Str × Value)) :
  Env0 P w K mg base (A.under (.builtin "type.__call__" ⟨.ref C :: us,kw⟩)) outer s H:=⟨by first | exact e.frames | (simpa [Around.under,Code.envs,Code.isFrame,pushEnvs] using e.frames),e.mod,e.bs,e.bsz,e.funs,e.frf,e.hok,e.bare⟩
section
variable {X:Cx} {pins:List (Addr × Obj)} {σ:St} {H:Hp} {s s':Shared}
theorem Inv.env0 (I:Inv X pins σ H s):Env0 X.prog X.w X.K X.mg X.base X.A X.stack s H :=
 ⟨I.ok.frames,I.ok.mod,I.bs,Nat.le_trans I.ok.bsz I.sz,I.stack,I.stkFree,I.hok,I.bare⟩
theorem Inv.after {Q:VK} {u:Value} (I:Inv X pins σ H s) (h:CE X.stack X.prog X.w H s Q u s'):EP X pins σ Q u s':=by
 obtain ⟨v,H',os,bare,un,hok,r,q⟩:=h
 obtain ⟨hh,g,d,t,os'⟩:=s'
 obtain rfl:os' = s.os:=os
 exact ⟨v,H',I.call (h':=hh) (g':=g) (d':=d) (t':=t) (ch:=[]) un hok bare (fun b z=>absurd z (by simp)),r,q⟩
end
def Z9e (sp:Sp) (dvs:List V) (E:XK) (t:TA):TE:=fun σ H Q=>t σ H fun vs H1=>sp (vs ++ dvs) H1 Q E
def Z5e (C:Addr) (m:Str) (sp:Sp) (dvs:List V) (E:XK) (ta:TE) (t:TA):TE:=fun σ H Q=>ta σ H fun x H1=>∃ a dx fs,x = .ref a∧H1 a = some (.ins C dx fs)∧fs.lookup m = none ∧
 t σ H1 fun vs H2=>sp (x :: (vs ++ dvs)) H2 Q E
def Z9d (C:Addr) (sp:Sp) (dvs:List V) (E:XK) (t:TA):TE:=fun σ H Q=>t σ H fun vs H1=>∀ x dx,H1 x = none→H1 dx = none→dx ≠ x →
 sp (.ref x :: (vs ++ dvs)) (upd (upd H1 dx (.own x)) x (.ins C dx [])) (fun v H2=>v = .non∧Q (.ref x) H2) E
def Binds (K:PySem.W.Frag) (fd:FuncData) (ps:List Str) (ds:List Value):Prop :=
 ∀ (s:Shared) (us:List Value),K.In s.heap→(us ++ ds).length = ps.length→BindsTo s fd ⟨us,[]⟩ (ps.zip (us ++ ds))
theorem Binds.all {K:PySem.W.Frag} {fd:FuncData} {ps:List Str} (h:∀ us:List Value,us.length = ps.length→bindArgs fd ⟨us,[]⟩ = pure (ps.zip us)):Binds K fd ps []:=fun s us _ hl=>by
 rw [List.append_nil] at hl ⊢
 exact .of_eq (h us hl)
def Vp (CX:CXT) (X:Cx) (E:XK):Prop:=∀ (pins:List (Addr × Obj)) (σ:St) (H:Hp) (s:Shared) (e:Value) (s':Shared),Inv X pins σ H s→CX X.stack H s E e s'→X.xe e s'
section
variable {X:Cx} {CX:CXT} {k:Nat} {f C:Addr} {fd:FuncData} {ps:List Str} {sp:Sp} {dvs:List V} {ds:List Value} {E:XK} {x m:Str} {p pos apos:Pos} {e o:Expr} {es:List Expr} {ta:TE} {t:TA}
theorem Z0t {pins:List (Addr × Obj)} {σ:St} {H:Hp} {s:Shared} {Q:VK} {us:List Value} {vs:List V} (F:FnOk X.prog X.w X.K X.mg X.base CX k f fd ps sp) (hr:Room k X.A) (hb:Binds X.K fd ps ds) (hd:Vals dvs ds) (hx:Vp CX X E)
  (I:Inv X pins σ H s) (r:Vals vs us) (h:sp (vs ++ dvs) H Q E):wpAny (model X.prog X.w) X.A (call (.ref f) us) (EP X pins σ Q) X.xe s:=by
 have r2:Vals (vs ++ dvs) (us ++ ds):=r.append hd
 have hl:(us ++ ds).length = ps.length:=by rw [← r2.length]; exact F.len _ _ _ _ h
 refine wpAny_call (codeAny_mono (F.run X.A X.stack s H ⟨us,[]⟩ (us ++ ds) (vs ++ dvs) Q E hr I.env0 (hb s us I.kIn hl) r2 h) fun r s' hq=>?_)
 cases r with
 | error e=>exact hx pins σ H s e s' I hq
 | ok fl =>
  cases fl with
  | ret u=>exact I.after hq
  | next=>exact False.elim hq
  | brk=>exact False.elim hq
  | cont=>exact False.elim hq
theorem Z85 (F:FnOk X.prog X.w X.K X.mg X.base CX k f fd ps sp) (hr:Room k X.A) (hg:Gl X x) (hm:X.mg x = some (.ref f)) (hk:PySem.W.keepIn X.K (.ref f) = true) (hb:Binds X.K fd ps ds) (hd:Vals dvs ds) (hx:Vp CX X E)
  (ha:PA X (e :: es) t) (hdb:(x == ("__debug__":Str)) = false:=by decide) (he:starEach (e :: es) X.env = (false,eval e X.env) :: starEach es X.env:=by rfl) (hpl:(backTo pos (starEach es X.env)).any (·.1) = false:=by rfl) :
  PE X (.Call (.Name x p) (e :: es) [] pos) (Z9e sp dvs E t):=by
 intro pins s σ H Q I h
 refine wpAny_Call_Name_kw (Z05 I hg hm ?_ hdb)
 refine PySem.W.callWith_K (h₀:=X.base) I.ok.mod.kin hk (thn (ha pos pins s σ H _ I h) fun us s1 ⟨vs,H1,I1,r,q⟩=>⟨I1.kIn,?_⟩) he hpl
 exact Z0t F hr hb hd hx I1 r q
theorem Z82 {pl:Sem Bool} (he:PE X o ta) (c:Cls X.K C) (hm:Meth X.K C m f) (F:FnOk X.prog X.w X.K X.mg X.base CX k f fd ps sp) (hr:Room k X.A) (hb:Binds X.K fd ps ds) (hd:Vals dvs ds) (hx:Vp CX X E) (ha:PA X (e :: es) t)
  (hst:starEach (e :: es) X.env = (false,eval e X.env) :: starEach es X.env:=by rfl) (hpl:(backTo pos (starEach es X.env)).any (·.1) = false:=by rfl)
  (ht:eval (.Call (.Attribute o m apos) (e :: es) [] pos) X.env = (do
   let ov ← eval o X.env
   standAt apos.atName
   let (f,first) ← holding [ov] (getMethod ov m pl)
   callWith pos f first (backTo pos (starEach (e :: es) X.env)) (backToKw pos (keywordEach [] X.env))):=by rfl) :
  PE X (.Call (.Attribute o m apos) (e :: es) [] pos) (Z5e C m sp dvs E ta t):=by
 intro pins s σ H Q I h
 refine PySem.W.methodCall_KW (pl:=pl) (thn (he pins s σ H _ I h) fun u s1 ⟨x,H1,I1,rx,a,dx,fs,ex,ea,l,q⟩=>?_) ht
 subst ex
 obtain rfl:u = Value.ref a:=rx
 refine Wj I1 ea c hm l ?_
 refine PySem.W.callWith_K (first:=[.ref a]) (h₀:=X.base) I.ok.mod.kin hm.kp (thn (ha pos pins s1 σ H1 _ I1 q) fun us s2 ⟨vs,H2,I2,r,q2⟩=>⟨I2.kIn,?_⟩) hst hpl
 exact Z0t (us:=.ref a :: us) (vs:=.ref a :: vs) F hr hb hd hx I2 (.cons rfl r) q2
theorem Z5r {pl:Sem Bool} (he:PE X o ta) (c:Cls X.K C) (hm:Meth X.K C m f) (F:FnOk X.prog X.w X.K X.mg X.base CX k f fd ps sp) (hr:Room k X.A) (hb:Binds X.K fd ps ds) (hd:Vals dvs ds) (hx:Vp CX X E)
  (ht:eval (.Call (.Attribute o m apos) [] [] pos) X.env = (do
   let ov ← eval o X.env
   standAt apos.atName
   let (f,first) ← holding [ov] (getMethod ov m pl)
   callWith pos f first (backTo pos (starEach [] X.env)) (backToKw pos (keywordEach [] X.env))):=by rfl) :
  PE X (.Call (.Attribute o m apos) [] [] pos) (Z5e C m sp dvs E ta Z5d):=by
 intro pins s σ H Q I h
 refine PySem.W.methodCall_KW (pl:=pl) (thn (he pins s σ H _ I h) fun u s1 ⟨x,H1,I1,rx,a,dx,fs,ex,ea,l,q⟩=>?_) ht
 subst ex
 obtain rfl:u = Value.ref a:=rx
 refine Wj I1 ea c hm l ?_
 exact PySem.W.callWith_K0 (first:=[.ref a]) I1.kIn hm.kp (Z0t (us:=[.ref a]) (vs:=[.ref a]) F hr hb hd hx I1 (.cons rfl .nil) q)
structure Mk (K:PySem.W.Frag) (C f:Addr):Prop where
 makes:PySem.W.makesIn K C = true
 init:PySem.W.findIn K (.ref C) "__init__" = some (some (.ref f))
 fn:PySem.W.isFn K (.ref f) = true
 kp:PySem.W.keepIn K (.ref C) = true
theorem Z5i {pins:List (Addr × Obj)} {σ:St} {H:Hp} {s:Shared} {Q:VK} {us:List Value} {vs:List V} (M:Mk X.K C f) (F:FnOk X.prog X.w X.K X.mg X.base CX k f fd ps sp) (hr:Room (k + 1) X.A) (hb:Binds X.K fd ps ds) (hd:Vals dvs ds)
  (hx:Vp CX X E) (I:Inv X pins σ H s) (r:Vals vs us)
  (h:∀ x dx,H x = none→H dx = none→dx ≠ x→sp (.ref x :: (vs ++ dvs)) (upd (upd H dx (.own x)) x (.ins C dx [])) (fun v H2=>v = .non∧Q (.ref x) H2) E) :
  wpAny (model X.prog X.w) X.A (call (.ref C) us) (EP X pins σ Q) X.xe s:=by
 have hq:=h (s.heap.objs.size + 1) s.heap.objs.size (I.hok.fresh (Nat.le_succ _)) (I.hok.fresh (Nat.le_refl _)) (Nat.ne_of_lt (Nat.lt_succ_self _))
 have I2:=Inv.made (C:=C) I
 have r2:Vals (V.ref (s.heap.objs.size + 1) :: (vs ++ dvs)) (Value.ref (s.heap.objs.size + 1) :: (us ++ ds)):=.cons rfl (r.append hd)
 have hl:(Value.ref (s.heap.objs.size + 1) :: us ++ ds).length = ps.length:=by
  have e:=r2.length
  rw [F.len _ _ _ _ hq] at e
  exact e.symm
 refine wpAny_call (Z68 (f:=f) I.kIn M.makes M.init (beq_iff_eq.mp M.fn) (codeAny_mono (F.run _ X.stack _ _ ⟨Value.ref (s.heap.objs.size + 1) :: us,[]⟩ (Value.ref (s.heap.objs.size + 1) :: (us ++ ds)) _ _ E (hr.make C us [])
  (I2.env0.make C us []) (hb _ (Value.ref (s.heap.objs.size + 1) :: us) I2.kIn hl) r2 hq) fun r s' hq'=>?_))
 cases r with
 | error e=>exact hx pins σ _ _ e s' I2 hq'
 | ok fl =>
  cases fl with
  | ret u =>
   obtain ⟨v,H',I3,rv,ev,q3⟩:=I2.after hq'
   subst ev
   exact ⟨rv,⟨V.ref (s.heap.objs.size + 1),H',I3,rfl,q3⟩⟩
  | next=>exact False.elim hq'
  | brk=>exact False.elim hq'
  | cont=>exact False.elim hq'
theorem Z84 (M:Mk X.K C f) (F:FnOk X.prog X.w X.K X.mg X.base CX k f fd ps sp) (hr:Room (k + 1) X.A) (hg:Gl X x) (hm:X.mg x = some (.ref C)) (hb:Binds X.K fd ps ds) (hd:Vals dvs ds) (hx:Vp CX X E)
  (ha:PA X (e :: es) t) (hdb:(x == ("__debug__":Str)) = false:=by decide) (he:starEach (e :: es) X.env = (false,eval e X.env) :: starEach es X.env:=by rfl) (hpl:(backTo pos (starEach es X.env)).any (·.1) = false:=by rfl) :
  PE X (.Call (.Name x p) (e :: es) [] pos) (Z9d C sp dvs E t):=by
 intro pins s σ H Q I h
 refine wpAny_Call_Name_kw (Z05 I hg hm ?_ hdb)
 refine PySem.W.callWith_K (h₀:=X.base) I.ok.mod.kin M.kp (thn (ha pos pins s σ H _ I h) fun us s1 ⟨vs,H1,I1,r,q⟩=>⟨I1.kIn,?_⟩) he hpl
 exact Z5i M F hr hb hd hx I1 r q
end
def PK (X:Cx) (kws:List Keyword) (t:TA):Prop :=
 ∀ (pos:Pos) (pins:List (Addr × Obj)) (s:Shared) (σ:St) (H:Hp) (Q:List V→Hp→Prop),Inv X pins σ H s→t σ H Q→wpAny (model X.prog X.w) X.A (evalAll ((backToKw pos (keywordEach kws X.env)).map (·.2))) (AP X pins σ Q) X.xe s
section
variable {X:Cx} {CX:CXT} {k:Nat} {f C:Addr} {fd:FuncData} {ps ks:List Str} {sp:Sp} {E:XK} {x m:Str} {p pos apos kpos:Pos} {e o:Expr} {es:List Expr} {kws:List Keyword} {te ta:TE} {t tk:TA} {nm:Option Str}
theorem Za4:PK X [] Z5d:=fun _ _ _ _ H Q I h=>wpAny_evalAll_nil ⟨[],H,I,.nil,h⟩
theorem Z7x (ha:PE X e te) (hr:PK X kws t):PK X (⟨nm,e,kpos⟩ :: kws) (Z1u te t):=by
 intro pos pins s σ H Q I h
 show wpAny _ _ (evalAll ((do let v ← eval e X.env; standAt pos; pure v) :: (backToKw pos (keywordEach kws X.env)).map (·.2))) _ _ s
 refine wpAny_evalAll_cons (wpAny_bind (thn (ha pins s σ H _ I h) fun u s1 ⟨x,H1,I1,r1,q1⟩=>wpAny_bind (wpAny_standAt (wpAny_pure ?_))))
 exact thn (hr pos pins s1 σ H1 _ I1 q1) fun us s2 ⟨xs,H2,I2,r2,q2⟩=>⟨x :: xs,H2,I2,.cons r1 r2,q2⟩
variable {g:List Value→List Value→List Value} {gV:List V→List V→List V}
end
structure FnScope (N P:List Str) (sc:Scope):Prop where
 kind:sc.kind = .function
 co:sc.isCoroutine = false
 gen:sc.isGenerator = false
 nd:N.Nodup
 pre:N.take P.length = P
 par:∀ x ∈ P,sc.names.lookup x = some .local ∨ sc.names.lookup x = some .cell
 nofree:∀ y ∈ sc.names,y.2 ≠ .free
theorem Jc {kindOf:Str→Option NameKind} {x:Str}:∀ {binds:List (Str × Value)} {m:Str→Option Value},(∀ v,(x,v) ∉ binds)→bindL kindOf binds m x = m x
 | [],_,_=>rfl
 | (n,v) :: r,m,h=>by
  unfold bindL
  rw [Jc fun w hw=>h w (List.mem_cons_of_mem _ hw)]
  split
  ·have:x ≠ n:=by rintro rfl; exact h v List.mem_cons_self
   simp [this]
  ·rfl
theorem Je {kindOf:Str→Option NameKind} {x:Str}:∀ {binds:List (Str × Value)} {m:Str→Option Value},(∀ v,(x,v) ∉ binds)→bindC kindOf binds m x = m x
 | [],_,_=>rfl
 | (n,v) :: r,m,h=>by
  unfold bindC
  rw [Je fun w hw=>h w (List.mem_cons_of_mem _ hw)]
  split
  ·rfl
  ·have:x ≠ n:=by rintro rfl; exact h v List.mem_cons_self
   simp [this]
theorem Jd {kindOf:Str→Option NameKind} {x:Str} {v:Value}:∀ {P:List Str} {vs:List Value} {i:Nat} {m:Str→Option Value},P.Nodup→P[i]? = some x→vs[i]? = some v→kindOf x = some .local →
  bindL kindOf (P.zip vs) m x = some v
 | [],_,_,_,_,h,_,_=>by simp at h
 | _ :: _,[],_,_,_,_,h,_=>by simp at h
 | p :: P,w :: vs,0,m,nd,h1,h2,hk=>by
  simp at h1 h2; subst h1; subst h2
  show bindL kindOf ((p,w) :: P.zip vs) m p = _
  unfold bindL
  rw [Jc fun v hv=>(List.nodup_cons.mp nd).1 (List.of_mem_zip hv).1,if_pos hk]
  simp
 | p :: P,w :: vs,i + 1,m,nd,h1,h2,hk=>by
  show bindL kindOf ((p,w) :: P.zip vs) m x = _
  unfold bindL
  exact Jd (i:=i) (List.nodup_cons.mp nd).2 (by simpa using h1) (by simpa using h2) hk
theorem Jf {kindOf:Str→Option NameKind} {x:Str} {v:Value}:∀ {P:List Str} {vs:List Value} {i:Nat} {m:Str→Option Value},P.Nodup→P[i]? = some x→vs[i]? = some v→kindOf x ≠ some .local →
  bindC kindOf (P.zip vs) m x = some v
 | [],_,_,_,_,h,_,_=>by simp at h
 | _ :: _,[],_,_,_,_,h,_=>by simp at h
 | p :: P,w :: vs,0,m,nd,h1,h2,hk=>by
  simp at h1 h2; subst h1; subst h2
  show bindC kindOf ((p,w) :: P.zip vs) m p = _
  unfold bindC
  rw [Je fun v hv=>(List.nodup_cons.mp nd).1 (List.of_mem_zip hv).1,if_neg hk]
  simp
 | p :: P,w :: vs,i + 1,m,nd,h1,h2,hk=>by
  show bindC kindOf ((p,w) :: P.zip vs) m x = _
  unfold bindC
  exact Jf (i:=i) (List.nodup_cons.mp nd).2 (by simpa using h1) (by simpa using h2) hk
def start (N:List Str) (vs:List V):St:=vs.map some ++ List.replicate (N.length - vs.length) none
def Z9a (CX:CXT) (P:Program) (w:World) (K:PySem.W.Frag) (mg:Str→Option Value) (base:Heap) (N:List Str) (qual:Str) (scope:Scope) (f:Addr) (cd:Value) (A:Around) (outer:List Env) (s:Shared) (H:Hp) (E:XK):Cx where
 prog:=P
 w:=w
 K:=K
 mg:=mg
 base:=base
 A:=A.deeper (envOfC qual scope s.heap.objs.size f cd)
 N:=N
 s₀:=s
 H₀:=H
 env:=envOfC qual scope s.heap.objs.size f cd
 outer:=outer
 stack:=envOfC qual scope s.heap.objs.size f cd :: outer
 ex:=[]
 calm:=true
 fn:=fun _=>true
 pn:=[]
 xe:=fun e s'=>wpAny (model P w) (A.deeper (envOfC qual scope s.heap.objs.size f cd)) (leaving (envOfC qual scope s.heap.objs.size f cd) e) (fun _ s''=>CX outer H s E e s'') (fun e' s''=>CX outer H s E e' s'') s'
theorem Z1n {sc:Scope} {n:Nat} {x:Str} (h:sc.names.lookup x = some .cell):∃ c,(cellsFrom n sc.names []).lookup x = some c:=by
 have q:=PySem.W.cellsFrom_some sc.names n [] (.inl h)
 exact Option.isSome_iff_exists.mp q
theorem Z4l {CX:CXT} {P:Program} {w:World} {K:PySem.W.Frag} {mg:Str→Option Value} {base:Heap} {N ps:List Str} {qual:Str} {scope:Scope} {f:Addr} {cd:Value} {A:Around} {outer:List Env} {s s1:Shared} {H:Hp} {E:XK} {us:List Value} {vs:List V}
  (S:FnScope N ps scope) (hd:A.handled = none) (e0:Env0 P w K mg base A outer s H) (hl:vs.length = ps.length) (r:Vals vs us)
  (x:InCallC s s.heap.objs.size (bindL (envOfC qual scope s.heap.objs.size f cd).kindOf (ps.zip us) fun _=>none) (cellsFrom (s.heap.objs.size + 1) scope.names []) (bindC (envOfC qual scope s.heap.objs.size f cd).kindOf (ps.zip us) fun _=>none) s1) :
  Inv (Z9a CX P w K mg base N qual scope f cd A outer s H E) [] (start N vs) H s1:=by
 have hpl:ps.length ≤ N.length:=by have:=congrArg List.length S.pre; rw [List.length_take] at this; omega
 obtain ⟨h1,tk,rfl,hk⟩:=x.done
 have noA:∀ b:Addr,b ∉ (Z9a CX P w K mg base N qual scope f cd A outer s H E).ex:=fun b z=>absurd (show b ∈ ([]:List Addr) from z) (by simp)
 refine ⟨⟨e0.mod,S.kind,rfl,rfl,Nat.le_refl _,fun y z c h1 h2=>?_,fun y hy=>?_,fun y c _ h=>?_,fun _=>hd,Around.frames_deeper e0.frames,.inr ⟨rfl,rfl⟩,fun b z=>absurd z (noA b),e0.bs,e0.bsz,fun b _ _=>noA b,fun b z=>absurd z (noA b),e0.funs,e0.frf⟩,
  rfl,e0.bare,Un.kept hk,⟨_,x.toInCall.ns,fun i y v h1 h2 h3=>?_⟩,fun y c h=>⟨_,x.cell y c h⟩,e0.hok.fresh (Nat.le_refl _),fun y c h=>?_,fun p hp=>absurd (show p ∈ ([]:List (Addr × Obj)) from hp) (by simp),e0.hok.kept hk,?_⟩
 ·exact name_of_addr x.apart (PySem.mem_of_lookup h1) (PySem.mem_of_lookup h2)
 ·have hy:scope.names.lookup y = some .cell ∨ scope.names.lookup y = some .free:=hy
  rcases hy with hy | hy
  ·exact Z1n hy
  ·exact absurd rfl (S.nofree _ (PySem.mem_of_lookup hy))
 ·exact Nat.le_of_lt (x.above y c (PySem.mem_of_lookup h))
 ·have hi:i < vs.length:=by
   unfold start at h2
   by_cases hi:i < vs.length
   ·exact hi
   ·rw [List.getElem?_append_right (by simpa using hi)] at h2
    rw [List.getElem?_replicate] at h2
    split at h2 <;> cases h2
  have ha:vs[i]? = some v:=by
   unfold start at h2
   rw [List.getElem?_append_left (by simpa using hi),List.getElem?_map] at h2
   cases e:vs[i]? with
   | none=>rw [e] at h2; cases h2
   | some a=>rw [e] at h2; cases h2; rfl
  obtain ⟨u,hu,rv⟩:=r.get ha
  have hp:ps[i]? = some y:=by
   rw [← S.pre,List.getElem?_take_of_lt (by omega)]; exact h1
  have ndP:ps.Nodup:=by rw [← S.pre]; exact S.nd.sublist (List.take_sublist _ _)
  refine ⟨u,rv,?_⟩
  rcases S.par y (List.mem_of_getElem? hp) with k | k
  ·exact .inl ⟨k,Jd ndP hp hu k⟩
  ·obtain ⟨c,e⟩:=Z1n (n:=s.heap.objs.size + 1) k
   refine .inr ⟨.inl k,c,e,?_⟩
   have q:=x.cell y c e
   rw [Jf ndP hp hu (by show scope.names.lookup y ≠ _; rw [k]; decide)] at q
   exact q
 ·exact e0.hok.fresh (Nat.le_of_lt (x.above y c (PySem.mem_of_lookup h)))
 ·unfold start
  show _ = N.length
  rw [List.length_append,List.length_map,List.length_replicate]
  omega
theorem Zbw {CX:CXT} {P:Program} {w:World} {K:PySem.W.Frag} {mg:Str→Option Value} {base:Heap} {k:Nat} {f:Addr} {name qual:Str} {params:Arguments} {body:List Stmt} {scope:Scope} {dV kV doc pm cdv ct oc:Value} {an od:Option Addr}
  {osl:Array (Option Value)} {N ps:List Str} {sp:Sp} (lk:K.lookup f = some ⟨oc,od,.func (PySem.W.fnOf name qual params body scope dV kV doc pm an cdv ct),osl⟩) (hcd:PySem.W.codeIn K cdv qual = true) (S:FnScope N ps scope)
  (len:∀ vs H Q E,sp vs H Q E→vs.length = ps.length)
  (hbody:∀ (A:Around) (outer:List Env) (s:Shared) (H:Hp) (vs:List V) (Q:VK) (E:XK),Room k (A.deeper (envOfC qual scope s.heap.objs.size f cdv))→sp vs H Q E →
   ∃ t,PSs (Z9a CX P w K mg base N qual scope f cdv A outer s H E) body t∧t { nx:=fun _ H'=>Q .non H',rt:=Q } (start N vs) H) :
  FnOk P w K mg base CX (k + 1) f (PySem.W.fnOf name qual params body scope dV kV doc pm an cdv ct) ps sp:=by
 refine ⟨len,fun A outer s H args us vs Q E hr e0 hb r hsp=>?_⟩
 have hl:=len _ _ _ _ hsp
 have KX:K.In s.heap:=e0.mod.kin.keeps fun b o e=>(e0.bs b o e).1
 have lim:s.heap.NoLimit:=e0.mod.nolimit.keeps fun b o e=>(e0.bs b o e).1
 have hkind:∀ y ∈ ps.zip us,scope.names.lookup y.1 = some .local ∨ (scope.names.lookup y.1 = some .cell∧((cellsFrom (s.heap.objs.size + 1) scope.names []).lookup y.1).isSome = true):=fun ⟨n,v⟩ hy=>by
  rcases S.par n (List.of_mem_zip hy).1 with q | q
  ·exact .inl q
  ·exact .inr ⟨q,PySem.W.cellsFrom_some _ _ _ (.inl q)⟩
 refine codeAny_call_function hr.depth (KX _ _ lk) rfl S.co S.gen rfl (PySem.W.codeRec_of KX hcd) (hb _ _ _ _ ?_)
 refine wpAny_newFunctionEnv_cells S.kind hkind fun env he s1 x=>?_
 subst he
 refine ⟨lim.keeps x.toInCall.keep,codeAny_func ?_⟩
 obtain ⟨t,ht,hq⟩:=hbody A outer s H vs Q E (hr.deeper _) hsp
 have I:Inv (Z9a CX P w K mg base N qual scope f cdv A outer s H E) [] (start N vs) H s1:=Z4l S hr.hd e0 hl r x
 refine wpAny_mono (ht [] s1 (start N vs) H _ I hq) (fun fl s' hs=>?_) fun e s' hs=>hs
 have fin:∀ {σ':St} {H':Hp} {v:V} {u:Value},Inv (Z9a CX P w K mg base N qual scope f cdv A outer s H E) [] σ' H' s'→RelV v u→Q v H'→CE outer P w H s Q u s' :=
  fun {σ' H' v u} J rv q=>⟨v,H',J.os,J.bare,J.base,J.hok,rv,q⟩
 cases fl with
 | ret u =>
  obtain ⟨v,σ',H',J,rv,q⟩:=hs
  exact fin J rv q
 | next =>
  obtain ⟨σ',H',J,q⟩:=hs
  exact fin (v:=V.non) (u:=Value.none) J rfl q
 | brk =>
  obtain ⟨_,_,_,q⟩:=hs
  exact False.elim q
 | cont =>
  obtain ⟨_,_,_,q⟩:=hs
  exact False.elim q
section
variable {X:Cx} {x:Str} {p pos:Pos} {e:Expr} {es:List Expr} {t:TA} {id T:String} {r:List V→Hp→VK→Prop}
def tCB (r:List V→Hp→VK→Prop) (t:TA):TE:=fun σ H Q=>t σ H fun vs H1=>r vs H1 Q
theorem Zc (hc:Ji X (.builtin id) r) (hg:Gl X x) (hm:X.mg x = none) (hv:bootBuiltins x = some (.builtin id)) (ha:PA X (e :: es) t) (hn:x ≠ "__name__":=by decide) (hdb:(x == ("__debug__":Str)) = false:=by decide)
  (he:starEach (e :: es) X.env = (false,eval e X.env) :: starEach es X.env:=by rfl) (hpl:(backTo pos (starEach es X.env)).any (·.1) = false:=by rfl):PE X (.Call (.Name x p) (e :: es) [] pos) (tCB r t):=by
 intro pins s σ H Q I h
 refine wpAny_Call_Name_kw (J4 I hg hm hv ?_ hn hdb)
 exact PyProof.Rows.callWith_builtin1 (thn (ha pos pins s σ H _ I h) fun us s1 ⟨vs,H1,I1,r1,q1⟩=>hc pins s1 σ H1 vs us Q I1 r1 q1) he hpl
theorem Vb (hc:Ji X (.type T) r) (hg:Gl X x) (hm:X.mg x = none) (hv:bootBuiltins x = some (.type T)) (ha:PA X (e :: es) t) (hn:x ≠ "__name__":=by decide) (hdb:(x == ("__debug__":Str)) = false:=by decide)
  (he:starEach (e :: es) X.env = (false,eval e X.env) :: starEach es X.env:=by rfl) (hpl:(backTo pos (starEach es X.env)).any (·.1) = false:=by rfl):PE X (.Call (.Name x p) (e :: es) [] pos) (tCB r t):=by
 intro pins s σ H Q I h
 refine wpAny_Call_Name_kw (J4 I hg hm hv ?_ hn hdb)
 exact PyProof.Rows.callWith_type1 (thn (ha pos pins s σ H _ I h) fun us s1 ⟨vs,H1,I1,r1,q1⟩=>hc pins s1 σ H1 vs us Q I1 r1 q1) he hpl
end
end L2
namespace HT
open PySem PyProof.Rows
section
open PySem.SeqAt
open PySem.AutoSeq1 (wpAny_loadPart')
open PySem.MeetsSeq PySem.MeetsSeq2 PySem.MeetsSeq3
end
section
variable {prog:Program} {w:World} {A:Around} {E:Value→Shared→Prop} {s:Shared}
theorem cat_tup {t b:Addr} {vs ws:List Value} {Q:Value→Shared→Prop} (ht:IsTup s.heap t vs.toArray) (hb:IsTup s.heap b ws.toArray) (hv:vs ≠ [])
  (h1:ws = []→Q (.ref t) s) (h2:ws ≠ []→Q (.ref s.heap.objs.size) { s with heap:=s.heap.push { cls:=.type "tuple",data:=.seq (vs ++ ws).toArray } })
  (hsz:vs.length + ws.length ≤ sizeLine):wpAny (model prog w) A (binaryOp .Add (.ref t) (.ref b)) Q E s:=by
 obtain ⟨⟨cls,dd,data,sl⟩,ho,hc,n,hd⟩:=id ht
 obtain ⟨⟨cls2,dd2,data2,sl2⟩,ho2,hc2,n2,hd2⟩:=id hb
 simp only at hc hd hc2 hd2
 subst hc hd hc2 hd2
 have e:vs.toArray ++ ws.toArray = (vs ++ ws).toArray:=by simp
 by_cases hw:ws = []
 ·exact concat_meets ⟨_,ho,rfl⟩ ⟨_,ho2,rfl⟩ noFill_tuple_add seq_tuple_add PySem.F.slot_tuple_add PySem.F.entry_tuple_add (PySem.F.args_tuple_add_2 _ _)
   (tuple_addW1 t b vs.toArray ws.toArray n n2 dd dd2 sl sl2 (by simpa using hv) (by simp [hw])) ⟨ho,ho2,h1 hw⟩
 ·refine concat_meets ⟨_,ho,rfl⟩ ⟨_,ho2,rfl⟩ noFill_tuple_add seq_tuple_add PySem.F.slot_tuple_add PySem.F.entry_tuple_add (PySem.F.args_tuple_add_2 _ _)
   (tuple_addW2 t b vs.toArray ws.toArray n n2 dd dd2 sl sl2 (by simpa using hv) (by simpa using hw) (by rw [List.size_toArray,List.size_toArray]; exact hsz)) ⟨ho,ho2,?_⟩
  rw [e]
  exact h2 hw
def sIx (n d:Nat):Option Int→Nat
 | none=>d
 | some v=>if v < 0 then (v + (n:Int)).toNat else min v.toNat n
theorem sIx_none (n d:Nat):sIx n d none = d:=rfl
theorem sIx_nat (n d k:Nat):sIx n d (some (k:Int)) = min k n:=by
 show (if (k:Int) < 0 then ((k:Int) + (n:Int)).toNat else min (k:Int).toNat n) = min k n
 rw [if_neg (by omega),Int.toNat_natCast]
theorem Z9h (n d:Nat) (hd:d ≤ n) (o:Option Int):sIx n d o ≤ n:=by
 cases o with
 | none=>exact hd
 | some v =>
  show (if v < 0 then (v + (n:Int)).toNat else min v.toNat n) ≤ n
  by_cases hv:v < 0
  ·rw [if_pos hv]; omega
  ·rw [if_neg hv]; exact Nat.min_le_right _ _
theorem Z51 (v:Int) (n d:Nat):(if v < 0 then max (v + (n:Int)) 0 else min v (n:Int)) = ((sIx n d (some v):Nat):Int):=by
 show (if v < 0 then max (v + (n:Int)) 0 else min v (n:Int)) = (((if v < 0 then (v + (n:Int)).toNat else min v.toNat n):Nat):Int)
 by_cases hv:v < 0
 ·simp only [if_pos hv]; omega
 ·simp only [if_neg hv]; omega
theorem Z2r (lo hi:Option Int) (n:Nat):Builtin.Slice.sliceAdjust lo hi 1 (n:Int) = (((sIx n 0 lo:Nat):Int),((sIx n n hi:Nat):Int)):=by
 have h1:¬ ((1:Int) < 0):=by omega
 unfold Builtin.Slice.sliceAdjust
 simp only [h1,if_false]
 refine Prod.ext ?_ ?_
 ·cases lo with
  | none=>rfl
  | some v=>exact Z51 v n 0
 ·cases hi with
  | none=>rfl
  | some v=>exact Z51 v n n
theorem Z25 (i j:Nat):Builtin.Slice.slicePlaces (i:Int) (j:Int) 1 = j - i:=by
 unfold Builtin.Slice.slicePlaces
 have h1:(1:Int) > 0:=by omega
 simp only [h1,if_true,Int.ediv_one]
 split <;> omega
theorem Vy {v:Value} {o:Option Int} {Q:Option Int→Shared→Prop} (p:IsPart v o) (h:Q o s):wpAny (model prog w) A (Builtin.Slice.slicePartIndex v) Q E s:=by
 cases p with
 | none=>exact slicePart_none h
 | int i t=>exact slicePart_int h
theorem Wo {sl:Addr} {vl vu:Value} {lo hi:Option Int} {n:Nat} {Q:Int × Int × Nat→Shared→Prop} (hs:s.heap.IsSliceOf sl vl vu .none) (pl:IsPart vl lo) (pu:IsPart vu hi)
  (h:Q (((sIx n 0 lo:Nat):Int),1,sIx n n hi - sIx n 0 lo) s):wpAny (model prog w) A (Builtin.Slice.sliceApplied (.ref sl) (pure (n:Int))) Q E s:=by
 obtain ⟨os,hos,hcs,hds⟩:=id hs
 unfold Builtin.Slice.sliceApplied Builtin.Slice.sliceFields
 refine wpAny_bind (wpAny_bind (wpAny_field hos hds (x:=vl) rfl (wpAny_bind (wpAny_field hos hds (x:=vu) rfl (wpAny_bind (wpAny_field hos hds (x:=.none) rfl (wpAny_pure ?_)))))))
 refine wpAny_bind (slicePart_none ?_)
 show wpAny _ _ (if ((1:Int) == 0) = true then _ else _) _ _ s
 rw [if_neg (by decide)]
 refine wpAny_bind (Vy pl (wpAny_bind (Vy pu (wpAny_bind (wpAny_pure ?_)))))
 show wpAny _ _ (match Builtin.Slice.sliceAdjust lo hi 1 (n:Int) with | (lo,hi)=>pure (lo,(1:Int),Builtin.Slice.slicePlaces lo hi 1)) _ _ s
 rw [Z2r lo hi n]
 show wpAny _ _ (pure (((sIx n 0 lo:Nat):Int),(1:Int),Builtin.Slice.slicePlaces ((sIx n 0 lo:Nat):Int) ((sIx n n hi:Nat):Int) 1)) _ _ s
 rw [Z25]
 exact wpAny_pure h
theorem Z5o (xs:Array Value) (i k:Nat):((List.range k).filterMap fun (m:Nat)=>xs[((i:Int) + (m:Int) * 1).toNat]?).toArray = ((xs.toList.drop i).take k).toArray:=by
 have e:(fun (m:Nat)=>xs[((i:Int) + (m:Int) * 1).toNat]?) = fun m=>xs[i + m]?:=by
  funext m
  have:((i:Int) + (m:Int) * 1).toNat = i + m:=by omega
  rw [this]
 rw [e]
 have:=pick_run xs i k
 rw [List.filterMap_map] at this
 have e2:((fun x=>xs[x]?) ∘ fun x=>i + x) = fun m=>xs[i + m]?:=rfl
 rw [e2] at this
 rw [this]
theorem getItem_tuple_cut {t sl:Addr} {items:Array Value} {vl vu:Value} {lo hi:Option Int} {Q:Value→Shared→Prop} (ht:IsTup s.heap t items) (hs:s.heap.IsSliceOf sl vl vu .none) (pl:IsPart vl lo) (pu:IsPart vu hi)
  (hw:¬ (sIx items.size 0 lo = 0∧sIx items.size items.size hi = items.size))
  (h:Q (.ref s.heap.objs.size) { s with heap:=s.heap.push { cls:=.type "tuple",data:=.seq ((items.toList.drop (sIx items.size 0 lo)).take (sIx items.size items.size hi - sIx items.size 0 lo)).toArray } })
  (hsz:items.size ≤ sizeLine):wpAny (model prog w) A (getItem (.ref t) (.ref sl)) Q E s:=by
 have htake:sizeOk (.seq ((items.toList.drop (sIx items.size 0 lo)).take (sIx items.size items.size hi - sIx items.size 0 lo)).toArray):=by
  show ((items.toList.drop (sIx items.size 0 lo)).take (sIx items.size items.size hi - sIx items.size 0 lo)).toArray.size ≤ sizeLine
  rw [List.size_toArray,List.length_take,List.length_drop,Array.length_toList]
  omega
 have hj:sIx items.size items.size hi ≤ items.size:=Z9h _ _ (Nat.le_refl _) hi
 obtain ⟨os,hos,hcs,hds⟩:=id hs
 have hTs:s.TypeIs (.ref sl) "slice":=⟨os,hos,hcs⟩
 unfold getItem
 try with_reducible refine wpAny_holding ?_
 first | refine wpAny_bind (wpAny_pure ?_) | skip
 refine wpAny_bind (wpAny_sequenceKey ht.typeIs (by decide) ?_)
 refine wpAny_bind (wpAny_callSpecial?_slot (name:=Str.ofString "__getitem__") ht.typeIs PyProof.Rows.slot_tuple_getitem
  (wpAny_call_entry PyProof.Rows.slot_tuple_getitem ht.typeIs entry_tuple_getitem ?_ (args_tuple_getitem _ _)))
 show wpAny _ _ (Builtin.Tuple.tupleItemsOf (.ref t) >>= _) _ _ s
 refine wpAny_bind (tupleItemsOf_ ht ?_)
 refine wpAny_bind (wpAny_typeOf hTs ?_)
 rw [if_pos (by decide)]
 refine wpAny_bind (Wo hs pl pu ?_)
 have hno:¬ ((((sIx items.size 0 lo:Nat):Int) == 0 && (1:Int) == 1 && (sIx items.size items.size hi - sIx items.size 0 lo) == items.size) = true):=by
  intro q
  rw [Bool.and_eq_true,Bool.and_eq_true] at q
  have q1:((sIx items.size 0 lo:Nat):Int) = 0:=eq_of_beq q.1.1
  have q2:sIx items.size items.size hi - sIx items.size 0 lo = items.size:=eq_of_beq q.2
  exact hw ⟨by omega,by omega⟩
 show wpAny _ _ (if (((sIx items.size 0 lo:Nat):Int) == 0 && (1:Int) == 1 && (sIx items.size items.size hi - sIx items.size 0 lo) == items.size) = true then _ else _) _ _ s
 rw [if_neg hno,Z5o]
 first
  | exact wpAny_bind (m:=Builtin.Tuple.tupleExact _) (wpAny_newObj_type (wpAny_pure ⟨_,rfl,wpAny_pure h⟩) htake)
  | exact wpAny_bind (m:=Builtin.Tuple.tupleExact _) (wpAny_newObj_type (wpAny_bind (wpAny_pure (wpAny_pure ⟨_,rfl,wpAny_pure h⟩))) htake)
  | exact wpAny_bind (wpAny_bind (m:=Builtin.Tuple.tupleExact _) (wpAny_newObj_type (wpAny_pure (wpAny_pure ⟨_,rfl,wpAny_pure h⟩)) htake))
  | exact wpAny_bind (wpAny_bind (m:=Builtin.Tuple.tupleExact _) (wpAny_newObj_type (wpAny_pure ⟨_,rfl,wpAny_pure h⟩) htake))
end
end HT
namespace L2
open PySem PySem.Spec PyProof.Rows
abbrev TO:=St→Hp→(Option Int→Hp→Prop)→Prop
def PO (X:Cx) (e:Option Expr) (t:TO):Prop :=
 ∀ (pins:List (Addr × Obj)) (s:Shared) (σ:St) (H:Hp) (Q:Option Int→Hp→Prop),Inv X pins σ H s→t σ H Q →
  wpAny (model X.prog X.w) X.A (evalPart e X.env) (fun u s'=>∃ o H',Inv X pins σ H' s'∧IsPart u o∧Q o H') X.xe s
def Z7k:TO:=fun _ H Q=>Q none H
def Zb9 (t:TE):TO:=fun σ H Q=>t σ H fun x H1=>∃ i,x = .int i∧Q (some i) H1
section
variable {X:Cx} {e:Expr} {te:TE} {lo hi:Option Expr} {tl th:TO} {pos p2:Pos}
theorem V7:PO X none Z7k:=by
 intro pins s σ H Q I h
 rw [evalPart_none]
 exact wpAny_pure ⟨none,H,I,.none,h⟩
theorem Yf (h:PE X e te):PO X (some e) (Zb9 te):=by
 intro pins s σ H Q I hw
 rw [evalPart_some]
 refine thn (h pins s σ H _ I hw) fun u s1 ⟨x,H1,I1,r1,q1⟩=>?_
 obtain ⟨i,rfl,q⟩:=q1
 obtain ⟨t,rfl⟩:=r1
 exact ⟨some i,H1,I1,.int i t,q⟩
def SlR (X:Cx) (r:V→Option Int→Option Int→Hp→VK→Prop):Prop :=
 ∀ (pins:List (Addr × Obj)) (s:Shared) (σ:St) (H:Hp) (x:V) (v vl vu:Value) (lo hi:Option Int) (sl:Addr) (Q:VK),Inv X pins σ H s→RelV x v→s.heap.IsSliceOf sl vl vu .none→IsPart vl lo→IsPart vu hi→r x lo hi H Q →
  ∃ T id,typeLookup (.type T) "__getitem__" = pure (some (.builtin id))∧s.TypeIs v T∧wpAny (model X.prog X.w) X.A (getItem v (.ref sl)) (EP X pins σ Q) X.xe s
def tSl (r:V→Option Int→Option Int→Hp→VK→Prop) (te:TE) (tl th:TO):TE:=fun σ H Q=>te σ H fun x H1=>tl σ H1 fun l H2=>th σ H2 fun u H3=>r x l u H3 Q
theorem Yn {r:V→Option Int→Option Int→Hp→VK→Prop} (hr:SlR X r) (he:PE X e te) (hl:PO X lo tl) (hu:PO X hi th):PE X (.Subscript e (.Slice lo hi none p2) pos) (tSl r te tl th):=by
 intro pins s σ H Q I h
 refine Subscript_ (thn (he pins s σ H _ I h) fun v s1 ⟨x,H1,I1,r1,q1⟩=>?_)
 refine wpAny_Slice (thn (hl pins s1 σ H1 _ I1 q1) fun vl s2 ⟨l,H2,I2,pl,q2⟩=>thn (hu pins s2 σ H2 _ I2 q2) fun vu s3 ⟨u,H3,I3,pu,q3⟩=>?_)
 rw [evalPart_none]
 refine wpAny_pure ?_
 have I4:Inv X pins σ H3 { s3 with heap:=s3.heap.push { cls:=.type "slice",data:=.fields #[vl,vu,.none] } }:=I3.kept (t':=s3.toks) fun b ob q=>Heap.get?_push_of_some _ q
 obtain ⟨T,id,hT,ht,hg⟩:=hr pins { s3 with heap:=s3.heap.push { cls:=.type "slice",data:=.fields #[vl,vu,.none] } } σ H3 x v vl vu l u s3.heap.objs.size Q I4 r1 (Heap.IsSliceOf.new ..) pl pu q3
 show wpAny (model X.prog X.w) X.A (subscriptTail e (.Slice lo hi none p2) v (.ref s3.heap.objs.size)) (EP X pins σ Q) X.xe { s3 with heap:=s3.heap.push { cls:=.type "slice",data:=.fields #[vl,vu,.none] } }
 exact tail_any (ops:=[.ref s3.heap.objs.size,v]) ht hT hg (by with_unfolding_all rfl)
def Ui (xs:List V) (lo hi:Option Int):List V:=(xs.drop (HT.sIx xs.length 0 lo)).take (HT.sIx xs.length xs.length hi - HT.sIx xs.length 0 lo)
theorem Vm (xs:List V) (lo hi:Option Int):(Ui xs lo hi).length ≤ xs.length:=by
 unfold Ui
 rw [List.length_take,List.length_drop]
 omega
def Zcn (K:PySem.W.Frag):V→Option Int→Option Int→Hp→VK→Prop:=fun x lo hi H Q=>∃ a xs,x = .ref a∧SqT K H a xs ∧
 ¬ (HT.sIx xs.length 0 lo = 0∧HT.sIx xs.length xs.length hi = xs.length)∧∀ p,H p = none→Q (.ref p) (upd H p (.tup (Ui xs lo hi)))
theorem Z36:SlR X (Zcn X.K):=by
 intro pins s σ H x v vl vu lo hi sl Q I rx hs pl pu h
 obtain ⟨a,xs,rfl,hx,hw,q⟩:=h
 cases rx
 obtain ⟨its,r,ht,hz⟩:=I.tuple hx
 have hlen:its.toArray.size = xs.length:=by rw [List.size_toArray]; exact r.length.symm
 refine ⟨"tuple",_,PyProof.Rows.slot_tuple_getitem.lookup,ht.typeIs,?_⟩
 refine HT.getItem_tuple_cut ht hs pl pu (by rw [hlen]; exact hw) ?_ (by rw [hlen]; exact hz)
 rw [hlen]
 refine ⟨.ref s.heap.objs.size,_,I.laid (t':=s.toks) (o:=.tup (Ui xs lo hi)) (fun b ob q=>Heap.get?_push_of_some _ q) (Nat.le_refl _) ?_,rfl,q _ (I.hok.fresh (Nat.le_refl _))⟩
 exact ⟨Nat.le_trans (Vm xs lo hi) hz,_,(r.drop (HT.sIx xs.length 0 lo)).take (HT.sIx xs.length xs.length hi - HT.sIx xs.length 0 lo),IsTup.new _ _⟩
def Zbk (K:PySem.W.Frag):R2:=fun x y H Q=>∃ a b xs ys,x = .ref a∧y = .ref b∧SqT K H a xs∧SqT K H b ys∧xs ≠ []∧xs.length + ys.length ≤ sizeLine ∧
 (ys = []→Q (.ref a) H)∧(ys ≠ []→∀ p,H p = none→Q (.ref p) (upd H p (.tup (xs ++ ys))))
theorem Vals.nil_iff {xs:List V} {us:List Value} (r:Vals xs us):us = [] ↔ xs = []:=by
 cases r with
 | nil=>simp
 | cons _ _=>simp
theorem Z8b:OpR X (binaryOp .Add) (Zbk X.K):=by
 intro pins s σ H x y v u Q I rx ry h
 obtain ⟨a,b,xs,ys,rfl,rfl,ha,hb,hx,hz,q1,q2⟩:=h
 cases rx
 cases ry
 obtain ⟨its,r1,p1,_⟩:=I.tuple ha
 obtain ⟨its2,r2,p2,_⟩:=I.tuple hb
 refine HT.cat_tup p1 p2 (fun z=>hx (r1.nil_iff.mp z)) (fun z=>⟨.ref a,H,I,rfl,q1 (r2.nil_iff.mp z)⟩) (fun z=>?_) (by rw [← r1.length,← r2.length]; exact hz)
 refine ⟨.ref s.heap.objs.size,_,I.laid (t':=s.toks) (o:=.tup (xs ++ ys)) (fun b ob q=>Heap.get?_push_of_some _ q) (Nat.le_refl _) ?_,rfl,q2 (fun w=>z (r2.nil_iff.mpr w)) _ (I.hok.fresh (Nat.le_refl _))⟩
 exact ⟨by rw [List.length_append]; exact hz,_,r1.append r2,IsTup.new _ _⟩
end
def ixN (n:Nat) (i:Int):Option Nat:=if 0 ≤ i then (if i < n then some i.toNat else none) else if -(n:Int) ≤ i then some (i + n).toNat else none
def atI {α:Type} (xs:List α) (i:Int):Option α:=(ixN xs.length i).bind fun j=>xs[j]?
theorem Z4i {n:Nat} {i:Int} {j:Nat} (h:ixN n i = some j):seqIndex? i n = some j∧j < n∧-(n:Int) ≤ i∧i < n:=by
 unfold ixN at h
 by_cases h0:0 ≤ i
 ·rw [if_pos h0] at h
  by_cases h1:i < n
  ·rw [if_pos h1] at h
   have e:i.toNat = j:=Option.some.inj h
   exact ⟨by rw [seqIndex_of h0 h1,e],by omega,by omega,h1⟩
  ·rw [if_neg h1] at h; cases h
 ·rw [if_neg h0] at h
  by_cases h1:-(n:Int) ≤ i
  ·rw [if_pos h1] at h
   have e:(i + n).toNat = j:=Option.some.inj h
   exact ⟨by rw [seqIndex_neg (by omega) h1,e],by omega,h1,by omega⟩
  ·rw [if_neg h1] at h; cases h
theorem Z0g {α:Type} {xs:List α} {i:Int} {v:α} (h:atI xs i = some v):∃ j,seqIndex? i xs.length = some j∧xs[j]? = some v∧j < xs.length∧-(xs.length:Int) ≤ i∧i < xs.length:=by
 unfold atI at h
 cases e:ixN xs.length i with
 | none=>rw [e] at h; cases h
 | some j =>
  rw [e] at h
  obtain ⟨h1,h2,h3,h4⟩:=Z4i e
  exact ⟨j,h1,h,h2,h3,h4⟩
theorem Xy {α:Type} {xs:List α} {j:Nat} {v:α} (h:xs[j]? = some v):atI xs (j:Int) = some v:=by
 have hj:j < xs.length:=(List.getElem?_eq_some_iff.mp h).1
 have e:ixN xs.length (j:Int) = some j:=by
  unfold ixN
  rw [if_pos (by omega),if_pos (by omega)]; simp
 unfold atI; rw [e]; exact h
def Z95 (b:Expr):Prop:=∀ o i,subscripted b false o i = operate [o,i] (getItem o i)
def IxR (X:Cx) (r:R2):Prop :=
 ∀ (value slice:Expr) (pins:List (Addr × Obj)) (s:Shared) (σ:St) (H:Hp) (x y:V) (v u:Value) (Q:VK),Inv X pins σ H s→RelV x v→RelV y u→r x y H Q →
  subscripted slice false v u = operate [v,u] (getItem v u)→wpAny (model X.prog X.w) X.A (subscriptTail value slice v u) (EP X pins σ Q) X.xe s
def MtR (X:Cx) (id:String) (r:V→List V→Hp→VK→Prop):Prop :=
 ∀ (pins:List (Addr × Obj)) (s:Shared) (σ:St) (H:Hp) (x:V) (xs:List V) (v:Value) (us:List Value) (Q:VK),Inv X pins σ H s→RelV x v→Vals xs us→r x xs H Q →
  wpAny (model X.prog X.w) X.A (call (.builtin id) (v :: us)) (EP X pins σ Q) X.xe s
section
variable {X:Cx} {a b:Expr} {ta tb:TE} {pos:Pos}
theorem Zl {r:R2} (hr:IxR X r) (ha:PE X a ta) (hb:PE X b tb) (hs:Z95 b):PE X (.Subscript a b pos) (tOp r ta tb):=by
 intro pins s σ H Q I h
 exact Subscript_ (Zby ha hb I h fun v u s2 x y H2 I2 rx ry q=>hr a b pins s2 σ H2 x y v u Q I2 rx ry q (hs _ _))
def Zb3 (K:PySem.W.Frag):R2:=fun x y H Q=>∃ p xs i v,x = .ref p∧y = .int i∧SqL K H p xs∧atI xs i = some v∧Q v H
def Z3k (K:PySem.W.Frag):R2:=fun x y H Q=>∃ p xs i v,x = .ref p∧y = .int i∧SqT K H p xs∧atI xs i = some v∧Q v H
def Zcr:R2:=fun x y H Q=>∃ z i c,x = .str z∧y = .int i∧z.length ≤ sizeLine∧atI z.cps.toList i = some c∧Q (.str ⟨#[c]⟩) H
theorem Xj:IxR X (Zb3 X.K):=by
 intro value slice pins s σ H x y v u Q I rx ry h hs
 obtain ⟨p,xs,i,z,rfl,rfl,hq,he,q⟩:=h
 cases rx
 obtain ⟨t,rfl⟩:=ry
 obtain ⟨its,r,pl,hz⟩:=I.list hq
 obtain ⟨j,h1,h2,h3,h4,h5⟩:=Z0g he
 obtain ⟨w,ew,rw'⟩:=r.get h2
 have hl:=r.length
 have hn:=Ue
 have fin:EP X pins σ Q w s:=⟨z,H,I,rw',q⟩
 by_cases h0:0 ≤ i
 ·have hj:i.toNat = j:=by
   rw [seqIndex_of h0 h5] at h1
   exact Option.some.inj h1
  exact item_listR pl.isList h0 (by omega) (by rw [hj]; simpa using ew) fin hs
 ·have hj:(i + (its.toArray.size:Int)).toNat = j:=by
   rw [seqIndex_neg (by omega) h4] at h1
   rw [List.size_toArray,← hl]
   exact Option.some.inj h1
  exact subscriptTail_builtinR (x:=w) pl.isList.typeIs slot_list_getitem.lookup
   (wpAny_getItem_list_neg (Q:=fun r s'=>r = w∧EP X pins σ Q r s') pl.isList (by omega) (by rw [List.size_toArray] <;> omega) (by omega) (by rw [hj]; simpa using ew) ⟨rfl,fin⟩) hs
theorem Zb:IxR X (Z3k X.K):=by
 intro value slice pins s σ H x y v u Q I rx ry h hs
 obtain ⟨p,xs,i,z,rfl,rfl,hq,he,q⟩:=h
 cases rx
 obtain ⟨t,rfl⟩:=ry
 obtain ⟨its,r,pl,hz⟩:=I.tuple hq
 obtain ⟨j,h1,h2,h3,h4,h5⟩:=Z0g he
 obtain ⟨w,ew,rw'⟩:=r.get h2
 have hl:=r.length
 have hn:=Ue
 have fin:EP X pins σ Q w s:=⟨z,H,I,rw',q⟩
 exact subscriptTail_builtinR (x:=w) pl.typeIs slot_tuple_getitem.lookup
  (getItem_tuple (j:=j) (Q:=fun r s'=>r = w∧EP X pins σ Q r s') pl (by omega) (by omega) (by rw [List.size_toArray,← hl]; exact h1) (by simpa using ew) ⟨rfl,fin⟩) hs
theorem Z1c:IxR X Zcr:=by
 intro value slice pins s σ H x y v u Q I rx ry h hs
 obtain ⟨z,i,c,rfl,rfl,hz,he,q⟩:=h
 obtain ⟨t,rfl⟩:=rx
 obtain ⟨t',rfl⟩:=ry
 obtain ⟨j,h1,h2,h3,h4,h5⟩:=Z0g he
 have hl:z.cps.toList.length = z.length:=by simp [Str.length]
 rw [hl] at h1 h4 h5
 have hn:=Ue
 exact tail_any (typeIs_str s z t) slot_str_getitem.lookup (getItem_str (c:=c) (by
  have e1:decide (i < -(2 ^ 63:Int)) = false:=decide_eq_false (by omega)
  have e2:decide (i ≥ 2 ^ 63) = false:=decide_eq_false (by omega)
  rw [e1,e2,Bool.or_false]) (by rw [h1]; simpa using h2) ⟨.str ⟨#[c]⟩,H,I.tok _,⟨_,rfl⟩,q⟩) hs
theorem Z2j (its:List Value) (n j:Nat) (u:Value):Obj.mapSeq (·.setIfInBounds j u) { cls:=.type "list",data:=.seq its.toArray n } = { cls:=.type "list",data:=.seq (its.set j u).toArray n }:=by
 simp [Obj.mapSeq]
theorem Inv.lst {pins:List (Addr × Obj)} {σ:St} {H:Hp} {s:Shared} {p:Addr} {xs:List V} (I:Inv X pins σ H s) (h:H p = some (.lst xs)) :
  ∃ (its:List Value) (n:Nat),Vals xs its∧s.heap.get? p = some { cls:=.type "list",data:=.seq its.toArray n }∧xs.length ≤ sizeLine:=by
 obtain ⟨z,its,n,r,e⟩:=I.hok p _ h
 exact ⟨its,n,r,e,z⟩
theorem Inv.lstUpd {pins:List (Addr × Obj)} {σ:St} {H:Hp} {s:Shared} {p:Addr} {xs ys:List V} {its its':List Value} {n n':Nat} {f:Obj→Obj} (I:Inv X pins σ H s) (h:H p = some (.lst xs))
  (ho:s.heap.get? p = some { cls:=.type "list",data:=.seq its.toArray n }) (hf:f { cls:=.type "list",data:=.seq its.toArray n } = { cls:=.type "list",data:=.seq its'.toArray n' }) (r:Vals ys its') (hz:ys.length ≤ sizeLine) (t:Nat) :
  Inv X pins σ (upd H p (.lst ys)) { s with heap:=s.heap.update p f,toks:=t }:=by
 have e:(s.heap.update p f).get? p = some { cls:=.type "list",data:=.seq its'.toArray n' }:=by
  rw [Heap.get?_update_self f ho (by rw [hf] <;> rfl),hf]
 refine I.write (x:=p) (e:=p) (by rw [h]; trivial) (.inl rfl) (fun b u hb q=>(Heap.get?_update_other _ _ (Ne.symm hb)).trans q) ⟨_,e⟩ ?_
 exact ⟨hz,its',n',r,e⟩
def Zbh:V→V→V→Hp→(Hp→Prop)→Prop:=fun o i v H Q=>∃ p xs k j,o = .ref p∧i = .int k∧H p = some (.lst xs)∧ixN xs.length k = some j∧Q (upd H p (.lst (xs.set j v)))
theorem X3:Zcf X Zbh:=by
 intro pins s σ H o i v ov iv u Q I ro ri rv h
 obtain ⟨p,xs,k,j,rfl,rfl,hp,hj,q⟩:=h
 cases ro
 obtain ⟨t,rfl⟩:=ri
 obtain ⟨its,n,r,ho,hz⟩:=I.lst hp
 obtain ⟨h1,h2,h3,h4⟩:=Z4i hj
 have hl:=r.length
 have hn:=Ue
 have I':Inv X pins σ (upd H p (.lst (xs.set j v))) { s with heap:=s.heap.update p (Obj.mapSeq (·.setIfInBounds j u)) } :=
  I.lstUpd hp ho (Z2j its n j u) (r.set rv j) (by rw [List.length_set]; exact hz) s.toks
 by_cases h0:0 ≤ k
 ·have hk:k.toNat = j:=by
   rw [seqIndex_of h0 h4] at h1
   exact Option.some.inj h1
  exact PySem.W.ki_setAt ho h0 (by omega) (by rw [List.size_toArray,← hl]; exact h4) (by rw [hk]; exact ⟨_,I',q⟩)
 ·have hk:(k + (its.toArray.size:Int)).toNat = j:=by
   rw [seqIndex_neg (by omega) h3] at h1
   rw [List.size_toArray,← hl]
   exact Option.some.inj h1
  exact PySem.W.ki_setBack ho (by omega) (by rw [List.size_toArray,← hl]; exact h3) (by omega) (by rw [hk]; exact ⟨_,I',q⟩)
theorem Tg (lo hi:Option Int) (n:Nat):(sliceBounds lo hi none n).1 = ((HT.sIx n 0 lo:Nat):Int)∧(sliceBounds lo hi none n).2.1 = ((HT.sIx n n hi:Nat):Int)∧(sliceBounds lo hi none n).2.2 = 1:=by
 refine ⟨?_,?_,rfl⟩
 ·cases lo with
  | none=>simp [sliceBounds,HT.sIx]
  | some i =>
   simp only [sliceBounds,HT.sIx,Option.getD_none,show (1:Int) > 0 by decide,if_true]
   by_cases h:i < 0
   ·simp only [h,if_true] <;> omega
   ·simp only [h,if_false] <;> omega
 ·cases hi with
  | none=>simp [sliceBounds,HT.sIx]
  | some i =>
   simp only [sliceBounds,HT.sIx,Option.getD_none,show (1:Int) > 0 by decide,if_true]
   by_cases h:i < 0
   ·simp only [h,if_true] <;> omega
   ·simp only [h,if_false] <;> omega
theorem Uq (its:List Value) (lo hi:Option Int):slicePick its.toArray lo hi none = ((its.drop (HT.sIx its.length 0 lo)).take (HT.sIx its.length its.length hi - HT.sIx its.length 0 lo)).toArray:=by
 obtain ⟨h1,h2,h3⟩:=Tg lo hi its.toArray.size
 unfold slicePick
 rw [h1,h2,h3]
 simp only [sliceRange_one,pick_run,List.size_toArray] <;> rfl
def Zcp (K:PySem.W.Frag):V→Option Int→Option Int→Hp→VK→Prop:=fun x lo hi H Q=>∃ a xs,x = .ref a∧SqL K H a xs∧∀ p,H p = none→Q (.ref p) (upd H p (.lst (Ui xs lo hi)))
theorem Z37:SlR X (Zcp X.K):=by
 intro pins s σ H x v vl vu lo hi sl Q I rx hs pl pu h
 obtain ⟨a,xs,rfl,hx,q⟩:=h
 cases rx
 obtain ⟨its,r,ht,hz⟩:=I.list hx
 have hlen:=r.length
 refine ⟨"list",_,slot_list_getitem.lookup,ht.isList.typeIs,?_⟩
 refine wpAny_getItem_list_slice ht.isList hs pl pu .none (by simp) ?_ (by rw [List.size_toArray] <;> omega)
 rw [Uq,← hlen]
 refine ⟨.ref s.heap.objs.size,_,I.laid (t':=s.toks) (o:=.lst (Ui xs lo hi)) (fun b ob q=>Heap.get?_push_of_some _ q) (Nat.le_refl _) ?_,rfl,q _ (I.hok.fresh (Nat.le_refl _))⟩
 exact ⟨Nat.le_trans (Vm xs lo hi) hz,_,0,(r.drop (HT.sIx xs.length 0 lo)).take (HT.sIx xs.length xs.length hi - HT.sIx xs.length 0 lo),Heap.get?_push_size _ rfl⟩
def J8:V→Bool
 | .non=>true
 | .bl _=>true
 | .int _=>true
 | .str _=>true
 | _=>false
def eqV:V→V→Bool
 | .non,.non=>true
 | .bl a,.bl b=>a == b
 | .bl a,.int b=>(if a then 1 else 0) == b
 | .int a,.bl b=>a == (if b then 1 else 0)
 | .int a,.int b=>a == b
 | .str a,.str b=>a == b
 | _,_=>false
theorem Zar {A:Around} {s:Shared} {y x:V} {u v:Value} (ry:RelV y u) (rx:RelV x v) (fy:J8 y = true) (fx:J8 x = true):SeqAt.EqAt A s u v (eqV y x):=by
 cases y with
 | non =>
  cases ry
  cases x with
  | non=>cases rx; exact SeqAt.EqAt.same _
  | bl b=>cases rx; exact SeqAt.EqAt.none_bool b
  | int b=>obtain ⟨t,rfl⟩:=rx; exact SeqAt.EqAt.none_int b t
  | str b=>obtain ⟨t,rfl⟩:=rx; exact SeqAt.EqAt.none_str b t
  | _=>exact absurd (show false = true from fx) Bool.false_ne_true
 | bl a =>
  cases ry
  cases x with
  | non=>cases rx; exact SeqAt.EqAt.bool_none a
  | bl b=>cases rx; exact SeqAt.EqAt.bool_bool a b
  | int b=>obtain ⟨t,rfl⟩:=rx; exact SeqAt.EqAt.bool_int a b t
  | str b=>obtain ⟨t,rfl⟩:=rx; exact SeqAt.EqAt.bool_str a b t
  | _=>exact absurd (show false = true from fx) Bool.false_ne_true
 | int a =>
  obtain ⟨t',rfl⟩:=ry
  cases x with
  | non=>cases rx; exact SeqAt.EqAt.int_none a t'
  | bl b=>cases rx; exact SeqAt.EqAt.int_bool a t' b
  | int b=>obtain ⟨t,rfl⟩:=rx; exact SeqAt.EqAt.int_int a t' b t
  | str b=>obtain ⟨t,rfl⟩:=rx; exact SeqAt.EqAt.int_str a t' b t
  | _=>exact absurd (show false = true from fx) Bool.false_ne_true
 | str a =>
  obtain ⟨t',rfl⟩:=ry
  cases x with
  | non=>cases rx; exact SeqAt.EqAt.str_none a t'
  | bl b=>cases rx; exact SeqAt.EqAt.str_bool a t' b
  | int b=>obtain ⟨t,rfl⟩:=rx; exact SeqAt.EqAt.str_int a t' b t
  | str b=>obtain ⟨t,rfl⟩:=rx; exact SeqAt.EqAt.str_str a t' b t
  | _=>exact absurd (show false = true from fx) Bool.false_ne_true
 | _=>exact absurd (show false = true from fy) Bool.false_ne_true
def eqU (x:V) (u:Value):Bool:=match u with
 | .none=>eqV .non x
 | .bool b=>eqV (.bl b) x
 | .int i _=>eqV (.int i) x
 | .str z _=>eqV (.str z) x
 | _=>false
theorem Z7b {x y:V} {u:Value} (r:RelV y u) (f:J8 y = true):eqU x u = eqV y x:=by
 cases y with
 | non=>cases r; rfl
 | bl b=>cases r; rfl
 | int i=>obtain ⟨t,rfl⟩:=r; rfl
 | str z=>obtain ⟨t,rfl⟩:=r; rfl
 | _=>exact absurd (show false = true from f) Bool.false_ne_true
theorem Z0h {x:V}:∀ {xs:List V} {us:List Value},Vals xs us→xs.all J8 = true→us.any (eqU x) = xs.any fun y=>eqV y x
 | _,_,.nil,_=>rfl
 | y :: xs,u :: us,.cons r t,f=>by
  rw [List.all_cons,Bool.and_eq_true] at f
  rw [List.any_cons,List.any_cons,Z7b r f.1,Z0h t f.2]
theorem T0 {A:Around} {s:Shared} {x:V} {v:Value} (rx:RelV x v) (fx:J8 x = true):∀ {xs:List V} {us:List Value},Vals xs us→xs.all J8 = true→∀ u ∈ us,SeqAt.EqAt A s u v (eqU x u)
 | _,_,.nil,_=>fun u hu=>by cases hu
 | y :: xs,u :: us,.cons r t,f=>fun u' hu=>by
  rw [List.all_cons,Bool.and_eq_true] at f
  rcases List.mem_cons.mp hu with rfl | hu
  ·rw [Z7b r f.1]; exact Zar r rx f.1 fx
  ·exact T0 rx fx t f.2 u' hu
def inV (x:V) (xs:List V):Bool:=xs.any fun y=>eqV y x
def rIn (K:PySem.W.Frag) (neg:Bool):R2:=fun x y H Q=>∃ p xs,y = .ref p∧(SqL K H p xs ∨ SqT K H p xs)∧J8 x = true∧xs.all J8 = true∧Q (.bl (if neg then !inV x xs else inV x xs)) H
theorem W9:OpR X (compareOp .In) (rIn X.K false):=by
 intro pins s σ H x y v u Q I rx ry h
 obtain ⟨p,xs,rfl,hq,fx,fs,q⟩:=h
 cases ry
 rcases hq with hq | hq
 ·obtain ⟨its,r,pl,hz⟩:=I.list hq
  refine SeqAt.in_listAt (eqU x) pl.isList (fun w hw=>T0 rx fx r fs w (by simpa using hw)) ⟨.bl _,H,I,rfl,?_⟩
  rw [show its.toArray.any (eqU x) = its.any (eqU x) by simp,Z0h r fs]
  exact q
 ·obtain ⟨its,r,pl,hz⟩:=I.tuple hq
  refine SeqAt.in_tupleAt (eqU x) pl (fun w hw=>T0 rx fx r fs w (by simpa using hw)) ⟨.bl _,H,I,rfl,?_⟩
  rw [show its.toArray.any (eqU x) = its.any (eqU x) by simp,Z0h r fs]
  exact q
theorem Zk:Ji X (.builtin "len") (fun xs H Q=>∃ p ys,xs = [.ref p]∧(SqL X.K H p ys ∨ SqT X.K H p ys)∧Q (.int ys.length) H):=by
 intro pins s σ H xs us Q I r h
 obtain ⟨p,ys,rfl,hq,q⟩:=h
 obtain ⟨u,rfl,rx⟩:=Z1r r
 cases rx
 have hn:=Ue
 rcases hq with hq | hq
 ·obtain ⟨its,r',pl,hz⟩:=I.list hq
  have hlen:=r'.length
  exact Calls.call_len_list pl.isList (by simp only [List.size_toArray] <;> omega) ⟨.int ys.length,H,I.tok _,⟨s.toks + 1,by rw [List.size_toArray,hlen]⟩,q⟩
 ·obtain ⟨its,r',pl,hz⟩:=I.tuple hq
  have hlen:=r'.length
  exact len_tuple pl (by simp only [List.size_toArray] <;> omega) ⟨.int ys.length,H,I.tok _,⟨s.toks + 1,by rw [List.size_toArray,hlen]⟩,q⟩
theorem Y1:Ji X (.builtin "len") (fun xs H Q=>∃ z,xs = [.str z]∧z.length ≤ sizeLine∧Q (.int z.length) H):=by
 intro pins s σ H xs us Q I r h
 obtain ⟨z,rfl,hz,q⟩:=h
 obtain ⟨u,rfl,t,rfl⟩:=Z1r r
 have hn:=Ue
 exact len_str (by omega) ⟨.int z.length,H,I.tok _,⟨_,rfl⟩,q⟩
theorem Jb:Ji X (.type "list") (fun xs H Q=>∃ p ys,xs = [.ref p]∧(SqL X.K H p ys ∨ SqT X.K H p ys)∧∀ l,H l = none→Q (.ref l) (upd H l (.lst ys))):=by
 intro pins s σ H xs us Q I r h
 obtain ⟨p,ys,rfl,hq,q⟩:=h
 obtain ⟨u,rfl,rx⟩:=Z1r r
 cases rx
 have fin:∀ (its:List Value),Vals ys its→ys.length ≤ sizeLine→∀ (h':Heap) (c':Nat),(∀ b o',s.heap.get? b = some o'→h'.get? b = some o') →
   h'.get? s.heap.objs.size = some { cls:=.type "list",dict:=none,data:=.seq its.toArray c',slots:=#[] }→EP X pins σ Q (.ref s.heap.objs.size) { s with heap:=h' }:=fun its r' hz h' c' kp e =>
  ⟨.ref s.heap.objs.size,_,I.laid (t':=s.toks) kp (Nat.le_refl _) (show ObjOk X.prog X.w _ h' _ (.lst ys) from ⟨hz,its,c',r',e⟩),rfl,q _ (I.hok.fresh (Nat.le_refl _))⟩
 rcases hq with hq | hq
 ·obtain ⟨its,r',pl,hz⟩:=I.list hq
  have hlen:=r'.length
  obtain ⟨o,ho,hc,n,hd⟩:=pl.isList
  exact call_list_seq p (.inl rfl) ho hc hd (fun h' c' kp e=>fin its r' hz h' c' kp e) (by simp only [List.size_toArray] <;> omega)
 ·obtain ⟨its,r',pl,hz⟩:=I.tuple hq
  have hlen:=r'.length
  obtain ⟨o,ho,hc,n,hd⟩:=pl
  exact call_list_seq p (.inr rfl) ho hc hd (fun h' c' kp e=>fin its r' hz h' c' kp e) (by simp only [List.size_toArray] <;> omega)
theorem Wf:Ji X (.type "tuple") (fun xs H Q=>∃ p ys,xs = [.ref p]∧((SqL X.K H p ys∧∀ l,H l = none→Q (.ref l) (upd H l (.tup ys))) ∨ (SqT X.K H p ys∧Q (.ref p) H))):=by
 intro pins s σ H xs us Q I r h
 obtain ⟨p,ys,rfl,h⟩:=h
 obtain ⟨u,rfl,rx⟩:=Z1r r
 cases rx
 rcases h with ⟨hq,q⟩ | ⟨hq,q⟩
 ·obtain ⟨its,r',pl,hz⟩:=I.list hq
  have hlen:=r'.length
  refine call_tuple_list pl.isList (fun h' kp=>?_) (by simp only [List.size_toArray] <;> omega)
  have I1:Inv X pins σ H { s with heap:=h' }:=I.kept (t':=s.toks) kp
  have I2:Inv X pins σ (upd H h'.objs.size (.tup ys)) { s with heap:=h'.push { cls:=.type "tuple",data:=.seq its.toArray } } :=
   I1.laid (t':=s.toks) (fun b o e=>Heap.get?_push_of_some _ e) (Nat.le_refl _) (show ObjOk X.prog X.w _ _ _ (.tup ys) from ⟨hz,its,r',IsTup.new _ _⟩)
  exact ⟨.ref h'.objs.size,_,I2,rfl,q _ (I1.hok.fresh (Nat.le_refl _))⟩
 ·obtain ⟨its,r',pl,hz⟩:=I.tuple hq
  exact call_tuple_same pl ⟨.ref p,H,I,rfl,q⟩
def tyV (K:PySem.W.Frag) (T:String) (x:V) (H:Hp):Prop:=match x with
 | .str _=>T = "str"
 | .int _=>T = "int"
 | .ref p=>(T = "list"∧∃ xs,SqL K H p xs) ∨ (T = "tuple"∧∃ o,K.lookup p = some o∧o.cls = .type "tuple"∧o.dict = none) ∨
   (T = "dict"∧((∃ kvs,H p = some (.dK kvs)) ∨ ∃ kvs,H p = some (.dT kvs))) ∨ (T = "set"∧∃ S n,H p = some (.set S n))
 | _=>False
theorem Z6r {pins:List (Addr × Obj)} {σ:St} {H:Hp} {s:Shared} {T:String} {x:V} {v:Value} (I:Inv X pins σ H s) (r:RelV x v) (ty:tyV X.K T x H) :
  s.TypeIs v T∧∀ a,v = .ref a→∃ ob,s.heap.get? a = some ob∧ob.dict = none:=by
 cases x with
 | str z =>
  obtain ⟨t,rfl⟩:=r
  cases (show T = "str" from ty)
  exact ⟨typeIs_str s z t,fun _ e=>nomatch e⟩
 | int i =>
  obtain ⟨t,rfl⟩:=r
  cases (show T = "int" from ty)
  exact ⟨typeIs_int s i t,fun _ e=>nomatch e⟩
 | ref p =>
  cases r
  rcases ty with ⟨rfl,xs,hq⟩ | ⟨rfl,o,hk,hc,hd⟩ | ⟨rfl,hk⟩ | ⟨rfl,S,n,hk⟩
  ·obtain ⟨its,_,pl,_⟩:=I.list hq
   refine ⟨pl.isList.typeIs,fun a e=>?_⟩
   cases e
   obtain ⟨o,n,e,c,hd,_⟩:=pl
   exact ⟨o,e,hd⟩
  ·refine ⟨⟨o,I.kIn p o hk,hc⟩,fun a e=>?_⟩
   cases e
   exact ⟨o,I.kIn _ o hk,hd⟩
  ·have z:∃ o,s.heap.get? p = some o∧o.ExactDict:=by
    rcases hk with ⟨kvs,hk⟩ | ⟨kvs,hk⟩
    ·obtain ⟨_,_,_,_,o,_,_,e,ex,_⟩:=I.hok p _ hk
     exact ⟨o,e,ex⟩
    ·obtain ⟨_,_,_,_,o,_,_,e,ex,_⟩:=I.hok p _ hk
     exact ⟨o,e,ex⟩
   obtain ⟨o,e,ex⟩:=z
   refine ⟨⟨o,e,ex.1⟩,fun a e2=>?_⟩
   cases e2
   exact ⟨o,e,ex.2.1⟩
  ·obtain ⟨o,_,_,_,e,ex,_⟩:=I.hok p _ hk
   refine ⟨⟨o,e,ex.1⟩,fun a e2=>?_⟩
   cases e2
   exact ⟨o,e,ex.2.1⟩
 | _=>exact False.elim ty
def Zck (K:PySem.W.Frag) (T:String) (r:V→List V→Hp→VK→Prop) (to:TE):TE:=fun σ H Q=>to σ H fun x H1=>tyV K T x H1∧r x [] H1 Q
def tBM (K:PySem.W.Frag) (T:String) (r:V→List V→Hp→VK→Prop) (to:TE) (t:TA):TE:=fun σ H Q=>to σ H fun x H1=>tyV K T x H1∧t σ H1 fun xs H2=>r x xs H2 Q
variable {o e:Expr} {es:List Expr} {to:TE} {t:TA} {name:Str} {apos cpos:Pos} {T id:String} {r:V→List V→Hp→VK→Prop}
theorem Z70 (pa:PlainAttrs T) (slot:Slot T name id) (hty:typeOf (.builtin id) = pure (.type "method_descriptor")) (hm:MtR X id r) (ho:PE X o to)
  (hbase:attributeBase o name X.env (eval o X.env) = eval o X.env:=by rfl) (hline:(apos.endLine == cpos.line) = true:=by rfl):PE X (.Call (.Attribute o name apos) [] [] cpos) (Zck X.K T r to):=by
 intro pins s σ H Q I h
 refine wpAny_Call_method0_late hbase hline (thn (ho pins s σ H _ I h) fun v s1 ⟨x,H1,I1,r1,ty,q1⟩=>?_)
 obtain ⟨h1,h2⟩:=Z6r I1 r1 ty
 exact ⟨T,id,pa,slot,hty,h1,h2,Calls.callWith_builtin rfl (PySem.evalArgs_none (hm pins s1 σ H1 x [] v [] Q I1 r1 .nil q1))⟩
theorem X6 (pa:PlainAttrs T) (slot:Slot T name id) (hty:typeOf (.builtin id) = pure (.type "method_descriptor")) (hm:MtR X id r) (ho:PE X o to) (ha:PA X (e :: es) t)
  (hbase:attributeBase o name X.env (eval o X.env) = eval o X.env:=by rfl)
  (hfew:((backTo cpos (starEach (e :: es) X.env)).all (fun x=>!x.1) && (backToKw cpos (keywordEach [] X.env)).all (fun x=>x.1.isSome)
   && decide ((e :: es).length + ([]:List Keyword).length + (if ([]:List Keyword).isEmpty then 0 else 1) < 30)) = true:=by rfl)
  (hline:(apos.endLine == cpos.line) = true:=by rfl) (hs:starEach (e :: es) X.env = (false,eval e X.env) :: starEach es X.env:=by rfl) (hplain:(backTo cpos (starEach es X.env)).any (·.1) = false:=by rfl) :
  PE X (.Call (.Attribute o name apos) (e :: es) [] cpos) (tBM X.K T r to t):=by
 intro pins s σ H Q I h
 refine wpAny_Call_method_late hbase hfew hline rfl (thn (ho pins s σ H _ I h) fun v s1 ⟨x,H1,I1,r1,ty,q1⟩=>?_)
 obtain ⟨h1,h2⟩:=Z6r I1 r1 ty
 refine ⟨T,id,pa,slot,hty,h1,h2,?_⟩
 have hA:=ha cpos pins s1 σ H1 _ I1 q1
 rw [hs] at hA ⊢
 refine Calls.callWith_builtin (by show (false || (backTo cpos (starEach es X.env)).any (·.1)) = false; rw [hplain] <;> rfl) (Calls.evalArgs_plain ?_)
 exact thn hA fun us s2 ⟨vs,H2,I2,r2,q2⟩=>hm pins s2 σ H2 x vs v us Q I2 r1 r2 q2
end
def MtM (X:Cx) (id:String) (r:V→List V→Hp→VK→Prop):Prop :=
 ∀ (pins:List (Addr × Obj)) (s:Shared) (σ:St) (H:Hp) (x:V) (xs:List V) (v:Value) (us:List Value) (Q:VK),Inv X pins σ H s→RelV x v→Vals xs us→r x xs H Q →
  wpAny (model X.prog X.w) X.A (call (.builtin id) (v :: us)) (EP X pins σ Q) X.xe s
theorem Vals.one:∀ {x:V} {us:List Value},Vals [x] us→∃ u,us = [u]∧RelV x u
 | _,_,.cons r .nil=>⟨_,rfl,r⟩
theorem Vals.zero:∀ {us:List Value},Vals [] us→us = []
 | _,.nil=>rfl
theorem Vals.dropLast {xs:List V} {us:List Value} (h:Vals xs us):Vals xs.dropLast us.dropLast:=by
 induction h with
 | nil=>exact .nil
 | cons r t ih =>
  cases t with
  | nil=>exact .nil
  | cons q t'=>exact .cons r ih
theorem Vals.eraseIdx:∀ {xs:List V} {us:List Value} (i:Nat),Vals xs us→Vals (xs.eraseIdx i) (us.eraseIdx i)
 | _,_,_,.nil=>.nil
 | _,_,0,.cons _ t=>t
 | _,_,i + 1,.cons r t=>.cons r (Vals.eraseIdx i t)
theorem Vals.rep {xs:List V} {us:List Value} (h:Vals xs us):∀ k:Nat,Vals (List.replicate k xs).flatten (List.replicate k us).flatten
 | 0=>.nil
 | k + 1=>by
  rw [List.replicate_succ,List.replicate_succ,List.flatten_cons,List.flatten_cons]
  exact Vals.append h (Vals.rep h k)
theorem Z2o {α:Type} (l:List α):l.eraseIdx (l.length - 1) = l.dropLast:=by
 induction l with
 | nil=>rfl
 | cons a r ih =>
  cases r with
  | nil=>rfl
  | cons b r =>
   have e:(a :: b :: r).length - 1 = ((b :: r).length - 1) + 1:=by
    have h1:(a :: b :: r).length = r.length + 2:=rfl
    have h2:(b :: r).length = r.length + 1:=rfl
    omega
   rw [e,List.eraseIdx_cons_succ,ih]
   all_goals rfl
theorem J3 {α:Type}:∀ (l:List α) (i:Nat),(l.eraseIdx i).length ≤ l.length
 | [],_=>Nat.le_refl _
 | _ :: _,0=>Nat.le_succ _
 | _ :: r,i + 1=>Nat.succ_le_succ (J3 r i)
theorem J7 (its:List Value):∀ (k:Nat) (acc:List Value),
  List.foldl (fun x1 x2=>x1 ++ x2) acc.toArray (List.replicate k its.toArray) = (acc ++ (List.replicate k its).flatten).toArray
 | 0,acc=>by simp
 | k + 1,acc=>by
  have e:acc.toArray ++ its.toArray = (acc ++ its).toArray:=by simp
  have e2:(acc ++ its) ++ (List.replicate k its).flatten = acc ++ (List.replicate (k + 1) its).flatten:=by
   rw [List.replicate_succ,List.flatten_cons,List.append_assoc]
  rw [← e2,← J7 its k (acc ++ its),← e,List.replicate_succ,List.foldl_cons]
section
variable {X:Cx} {pins:List (Addr × Obj)} {σ:St} {H:Hp} {s:Shared} {l b:Addr} {xs ys zs:List V}
theorem Inv.lset {its its':List Value} {n:Nat} {f:Array Value→Array Value} {t':Nat} (I:Inv X pins σ H s) (hH:H l = some (.lst xs))
  (e:s.heap.get? l = some { cls:=.type "list",data:=.seq its.toArray n }) (hf:f its.toArray = its'.toArray) (hv:Vals ys its') (hz:ys.length ≤ sizeLine) :
  Inv X pins σ (upd H l (.lst ys)) { s with heap:=s.heap.update l (Obj.mapSeq f),toks:=t' }:=by
 have q:=PySem.IsL.update e f
 rw [hf] at q
 refine I.write (x:=l) (e:=l) (by rw [hH]; exact trivial) (.inl rfl) (fun b' u hb hu=>(Heap.get?_update_other s.heap (Obj.mapSeq f) (Ne.symm hb)).trans hu) ⟨_,q⟩ ?_
 exact ⟨hz,its',_,hv,q⟩
theorem Inv.lnew {its:List Value} {t':Nat} (I:Inv X pins σ H s) (hv:Vals ys its) (hz:ys.length ≤ sizeLine) :
  Inv X pins σ (upd H s.heap.objs.size (.lst ys)) { s with heap:=s.heap.push { cls:=.type "list",data:=.seq its.toArray },toks:=t' } :=
 I.laid (fun _ _ q=>Heap.get?_push_of_some _ q) (Nat.le_refl _) ⟨hz,its,0,hv,Heap.get?_push_size _ rfl⟩
theorem Inv.fresh (I:Inv X pins σ H s):H s.heap.objs.size = none:=I.hok.fresh (Nat.le_refl _)
theorem Inv.lstM (I:Inv X pins σ H s) (hH:H l = some (.lst xs)):xs.length ≤ sizeLine∧∃ (its:List Value) (n:Nat),Vals xs its∧xs.length = its.length∧s.heap.get? l = some { cls:=.type "list",data:=.seq its.toArray n }:=by
 obtain ⟨z,its,n,r,e⟩:=I.hok l _ hH
 exact ⟨z,its,n,r,r.length,e⟩
theorem Z60 {n:Nat} (h:n ≤ sizeLine):Builtin.List.listTooLong n = false:=by
 unfold Builtin.List.listTooLong
 exact decide_eq_false (by omega)
end
section
variable {X:Cx}
def Z7v:V→List V→Hp→VK→Prop:=fun x vs H Q=>∃ l xs y,x = .ref l∧vs = [y]∧H l = some (.lst xs)∧xs.length < sizeLine∧Q .non (upd H l (.lst (xs ++ [y])))
theorem Zu:MtM X "list.append" Z7v:=by
 intro pins s σ H x vs v us Q I rx rv h
 obtain ⟨l,xs,y,rfl,rfl,hH,hz,q⟩:=h
 cases rx
 obtain ⟨u,rfl,ru⟩:=rv.one
 obtain ⟨z,its,n,r,hl,e⟩:=I.lstM hH
 refine call_meets F.slot_list_append ⟨_,e,rfl⟩ F.entry_list_append (F.args_list_append_2 _ _) (PySem.list_append l its.toArray n u (by rw [List.size_toArray]; omega)) ⟨e,?_⟩
 refine ⟨.non,_,I.lset (its':=its ++ [u]) hH e (by simp) (r.append (.cons ru .nil)) ?_,rfl,q⟩
 rw [List.length_append,List.length_singleton]
 omega
def Z7u:V→List V→Hp→VK→Prop:=fun x vs H Q=>∃ l b xs zs,x = .ref l∧vs = [.ref b]∧H l = some (.lst xs)∧H b = some (.lst zs)∧xs.length + zs.length ≤ sizeLine∧Q .non (upd H l (.lst (xs ++ zs)))
theorem mt_extend:MtM X "list.extend" Z7u:=by
 intro pins s σ H x vs v us Q I rx rv h
 obtain ⟨l,b,xs,zs,rfl,rfl,hH,hB,hz,q⟩:=h
 cases rx
 obtain ⟨u,rfl,ru⟩:=rv.one
 cases ru
 obtain ⟨z,its,n,r,hl,e⟩:=I.lstM hH
 obtain ⟨z2,its2,n2,r2,hl2,e2⟩:=I.lstM hB
 have hsz:its.toArray.size + its2.toArray.size ≤ sizeLine:=by rw [List.size_toArray,List.size_toArray]; omega
 have hlong:¬ (!its.toArray.isEmpty && Builtin.List.listTooLong (its.toArray.size + its2.toArray.size)) = true:=by
  rw [Z60 hsz,Bool.and_false]
  exact Bool.false_ne_true
 refine call_meets F.slot_list_extend ⟨_,e,rfl⟩ F.entry_list_extend (F.args_list_extend_2 _ _)
  (AutoSeq1.list_extend_list_list_0 l its.toArray n b its2.toArray n2 hlong (by rw [List.size_toArray]; omega) (by omega)) ⟨e,e2,?_⟩
 refine ⟨.non,_,I.lset (its':=its ++ its2) hH e (by simp) (r.append r2) ?_,rfl,q⟩
 rw [List.length_append]
 omega
def Zcq:V→List V→Hp→VK→Prop:=fun x vs H Q=>∃ l xs y,x = .ref l∧vs = []∧H l = some (.lst xs)∧xs[xs.length - 1]? = some y∧Q y (upd H l (.lst xs.dropLast))
theorem Z74:MtM X "list.pop" Zcq:=by
 intro pins s σ H x vs v us Q I rx rv h
 obtain ⟨l,xs,y,rfl,rfl,hH,hy,q⟩:=h
 cases rx
 have hus:=rv.zero
 subst hus
 obtain ⟨z,its,n,r,hl,e⟩:=I.lstM hH
 obtain ⟨u,hu,ru⟩:=r.get hy
 have hy':its.toArray[its.toArray.size - 1]? = some u:=by
  show its.toArray[its.length - 1]? = some u
  rw [← Array.getElem?_toList,← hl]
  exact hu
 refine call_meets F.slot_list_pop ⟨_,e,rfl⟩ F.entry_list_pop (F.args_list_pop_1 _) (MeetsSeq.list_pop_last l its.toArray n u hy' (by rw [List.size_toArray]; omega)) ⟨e,?_⟩
 refine ⟨y,_,I.lset (its':=its.dropLast) hH e ?_ r.dropLast ?_,ru,q⟩
 ·show its.toArray.eraseIdxIfInBounds (its.toArray.size - 1) = its.dropLast.toArray
  rw [List.size_toArray,List.eraseIdxIfInBounds_toArray,Z2o]
 ·rw [List.length_dropLast]
  omega
def Z6v:V→List V→Hp→VK→Prop:=fun x vs H Q=>∃ l xs i k y,x = .ref l∧vs = [.int i]∧H l = some (.lst xs)∧-(2 ^ 63) ≤ i∧i < 2 ^ 63∧seqIndex? i xs.length = some k∧xs[k]? = some y∧Q y (upd H l (.lst (xs.eraseIdx k)))
theorem Z66:MtM X "list.pop" Z6v:=by
 intro pins s σ H x vs v us Q I rx rv h
 obtain ⟨l,xs,i,k,y,rfl,rfl,hH,h1,h2,hk,hy,q⟩:=h
 cases rx
 obtain ⟨u,rfl,ru⟩:=rv.one
 obtain ⟨t,rfl⟩:=ru
 obtain ⟨z,its,n,r,hl,e⟩:=I.lstM hH
 obtain ⟨w,hw,rw'⟩:=r.get hy
 refine call_meets F.slot_list_pop ⟨_,e,rfl⟩ F.entry_list_pop (F.args_list_pop_2 _ _)
  (MeetsSeq.list_pop_at l its.toArray n i t k w (fitsIndex_both h1 h2) (by rw [List.size_toArray,← hl]; exact hk) (by rw [← Array.getElem?_toList]; exact hw) (by rw [List.size_toArray]; omega)) ⟨e,?_⟩
 refine ⟨y,_,I.lset (its':=its.eraseIdx k) hH e ?_ (r.eraseIdx k) ?_,rw',q⟩
 ·show its.toArray.eraseIdxIfInBounds k = (its.eraseIdx k).toArray
  rw [List.eraseIdxIfInBounds_toArray]
 ·have:=J3 xs k
  omega
def Zcs:R2:=fun x y H Q=>∃ l b xs zs,x = .ref l∧y = .ref b∧H l = some (.lst xs)∧H b = some (.lst zs)∧xs.length + zs.length ≤ sizeLine∧∀ p,H p = none→Q (.ref p) (upd H p (.lst (xs ++ zs)))
theorem Zad:OpR X (binaryOp .Add) Zcs:=by
 intro pins s σ H x y v u Q I rx ry h
 obtain ⟨l,b,xs,zs,rfl,rfl,hH,hB,hz,q⟩:=h
 cases rx
 cases ry
 obtain ⟨z,its,n,r,hl,e⟩:=I.lstM hH
 obtain ⟨z2,its2,n2,r2,hl2,e2⟩:=I.lstM hB
 refine PySem.P.add_list e e2 ?_ (by rw [List.size_toArray,List.size_toArray]; omega)
 have ea:its.toArray ++ its2.toArray = (its ++ its2).toArray:=by simp
 rw [ea]
 exact ⟨.ref _,_,I.lnew (t':=s.toks) (r.append r2) (by rw [List.length_append]; omega),rfl,q _ I.fresh⟩
theorem Z4b {α:Type} (xs:List α) (k:Nat):(List.replicate k xs).flatten.length = k * xs.length:=by
 induction k with
 | zero=>simp
 | succ k ih=>rw [List.replicate_succ,List.flatten_cons,List.length_append,ih,Nat.succ_mul,Nat.add_comm]
end
section
variable {prog:Program} {w:World} {A:Around} {E:Value→Shared→Prop} {s:Shared}
end
section
variable {X:Cx}
end
end L2
namespace Att
open PySem PySem.W PySem.Calls PyProof.Rows
theorem Vi {P:Params} {h:Heap}:∀ (ns:List Int) (vs:List Value),WellAll P h vs (ns.map WData.int)→IntsAre vs ns:=by
 intro ns
 induction ns with
 | nil =>
  intro vs w
  rw [List.map_nil] at w
  cases w
  exact .nil
 | cons n ns ih =>
  intro vs w
  rw [List.map_cons] at w
  cases w with
  | cons a b =>
   cases a
   exact .cons _ _ (ih _ b)
theorem Z39 {l:OpenLaw} {n:Nat} (hn:l.most = some n) {P:Params} {h:Heap} {args:List WData} {vals:List Value}
  (hpre:l.row.toRowW.claim.pre args = true) (hwl:WellAll P h vals args) :
  ∃ a vs ns,vals = [Value.ref a]∧args = [WData.list (ns.map WData.int)]∧h.get? a = some { cls:=.type "list",data:=.seq vs.toArray }∧IntsAre vs ns∧ns.length ≤ n:=by
 have hsh:WShape.hasAll [] args [.list .int] = true:=(pre_splitW hpre).1
 have hc:l.pre.holds [] { args:=args } = true:=(pre_splitW hpre).2
 obtain ⟨d,r,rfl,h1,h2⟩:=hasAllW_cons hsh
 obtain rfl:=hasAllW_nil h2
 obtain ⟨xs,rfl,h3⟩:=hasW_list h1
 obtain ⟨ns,rfl⟩:=items_int h3
 have hlen:ns.length ≤ n:=by
  unfold OpenLaw.pre at hc
  have h4:(WTm.not (.lt (.lit (.int (n:Int))) (.len (.arg 0)))).holds [] { args:=[.list (ns.map .int)] } = true:=by
   have h4:=(holds_andW hc).1
   rw [hn] at h4
   exact h4
  have h5:=condW_of h4 (w_not (w_lt w_lit (w_len_list (w_arg rfl))))
  rw [List.length_map] at h5
  refine Nat.le_of_not_lt fun q=>?_
  have q':(n:Int) < ((ns.length:Nat):Int):=by omega
  first
   | (rw [decide_eq_true q'] at h5; exact absurd h5 (by decide))
   | (simp at h5; omega)
 cases hwl with
 | cons w1 w2 =>
  cases w2
  cases w1 with
  | list ho hall=>exact ⟨_,_,ns,rfl,rfl,ho,Vi ns _ hall,hlen⟩
theorem Z3r (l:OpenLaw) (args:List WData):l.row.toRowW.claim.post args (.bool true) args = true :=
 postW_of (r:=l.row.toRowW) (X:=(true == true))
  (show WShape.has [] (.bool true) .bool = true by first | rfl | decide | simp [WShape.has,WShape.arms,WShape.armsAll])
  (show (WTm.eq .res (.lit (.bool true))).value [] { args:=args,res:=some (.bool true),after:=args } = some (.bool (true == true)) from w_eq_bool (w_res rfl) w_lit) rfl
theorem attach_call {l:OpenLaw} {n:Nat} {q:Program} {loose:List Str} {XP:(Str→Option Value)→Heap→Prop} {YP:World→Heap→Prop} {d:DefRec}
  (hn:l.most = some n) (hdf:d.params.defaults = [])
  (call:∀ (w:World) (s₀ s₁:Shared) (mg mb:Str→Option Value) (fa:Addr) (o:Obj) (pm cd doc:Value) (a:Addr) (vs:List Value) (ns:List Int),
   Ground q loose [] XP w s₀ mg mb s₁.heap→YP w s₁.heap →
   s₁.heap.get? fa = some o→o.data = .func (docDef d.name d.params d.body d.scope pm cd doc)→s₁.heap.CodeRec cd d.name→mg d.name = some (.ref fa) →
   s₁.heap.get? a = some { cls:=.type "list",data:=.seq vs.toArray }→IntsAre vs ns→ns.length ≤ n→s₁.gens = #[] →
   codeAny (model l.prog w) callerA (.call (.ref fa) ⟨[.ref a],[]⟩) (fun r s'=>r = .ok (.ret (.bool true))∧OldK s₁.heap s'.heap∧s'.os = s₁.os∧AllBare s'.gens) s₁) :
  WalkO q loose XP YP l.row.toRowW d [] (fun f vs=>PySem.call f vs):=by
 intro w s₀ s₁ mg mb G Y fa o pm cd doc dV kV ho hd hcd hD hmg hg args vals as hpre hlay hrd hwl hlo
 obtain rfl:dV = .none:=Dflts.none hD hdf
 obtain rfl:kV = .none:=Dflts.noKw hD
 obtain ⟨a,vs,ns,rfl,rfl,hobj,hints,hlen⟩:=Z39 hn hpre hwl
 refine enter_call (codeAny_mono (call w s₀ s₁ mg mb fa o pm cd doc a vs ns G Y ho (fd_plain hd) hcd hmg hobj hints hlen hg) fun r s' hq=>?_)
 obtain ⟨rfl,h2,h3,h4⟩:=hq
 exact ⟨.inl ⟨.bool true,.bool true,[],rfl,fun _=>rfl,.bool true,Z3r l _,fun _=>⟨List.Pairwise.nil,fun _ hm=>(nomatch hm)⟩⟩,h2,h3,h4⟩
section
variable {prog:Program} {w:World} {A:Around} {E:Value→Shared→Prop} {s:Shared} {K:Frag}
def ledger (h:Heap) (L d:Addr):List (Addr × Obj):=(List.range h.objs.size).filterMap fun a=>if a = L ∨ a = d then none else (h.get? a).map fun o=>(a,o)
end
end Att
namespace L2
open PySem PySem.Spec PyProof.Rows
theorem T8:∀ {vs:List Value} {ns:List Int},IntsAre vs ns→Vals (ns.map V.int) vs
 | _,_,.nil=>.nil
 | _,_,.cons n t h=>.cons ⟨t,rfl⟩ (T8 h)
def Zc1 (H:Hp):Prop:=∀ b,H b = none ∨ ∃ o xs,H b = some (.frz o (.lst xs))
theorem Z6a {P:Program} {w:World} {K:PySem.W.Frag} {mg mb:Str→Option Value} {CX:CXT} {k:Nat} {fa a:Addr} {fd:FuncData} {x:Str} {sp:Sp} {s₁:Shared} {vs:List Value} {ns:List Int}
  (KX:K.In s₁.heap) (hns:s₁.heap.Ns mainGlobals mg) (hb:s₁.heap.Ns builtinsNs mb) (hbb:∀ x:Str,x ≠ "__name__"→mb x = bootBuiltins x) (hlim:s₁.heap.NoLimit) (hg:s₁.gens = #[])
  (ha:s₁.heap.get? a = some { cls:=.type "list",data:=.seq vs.toArray }) (hi:IntsAre vs ns) (hl:ns.length ≤ sizeLine) (hr:Room k callerA)
  (F:∀ base:Heap,K.In base→base.Ns mainGlobals mg→FnOk P w K mg base CX k fa fd [x] sp) (hbind:∀ (s:Shared) (u:Value),BindsTo s fd ⟨[u],[]⟩ [(x,u)])
  (hsp:∀ H:Hp,Zc1 H→SqL K H a (ns.map V.int)→sp [.ref a] H (fun v _=>v = .bl true) fun _ _ _=>False)
  (hCX:∀ H e s',CX [] H s₁ (fun _ _ _=>False) e s'→False) :
  codeAny (model P w) callerA (.call (.ref fa) ⟨[.ref a],[]⟩) (fun r s'=>r = .ok (.ret (.bool true))∧OldK s₁.heap s'.heap∧s'.os = s₁.os∧AllBare s'.gens) s₁:=by
 have rv:=T8 hi
 have lenV:=hi.length
 have core:∀ H:Hp,Zc1 H→SqL K H a (ns.map V.int)→HOk P w H s₁.heap→(∀ b,H b ≠ none→b = a)→(H a ≠ none→K.lookup a = none) →
   codeAny (model P w) callerA (.call (.ref fa) ⟨[.ref a],[]⟩) (fun r s'=>r = .ok (.ret (.bool true))∧OldK s₁.heap s'.heap∧s'.os = s₁.os∧AllBare s'.gens) s₁:=by
  intro H hO hS hok hA hK
  have base_of:∀ {b:Addr} {o:Obj},s₁.heap.get? b = some o→H b = none→(Z6f s₁.heap H).get? b = some o:=fun e n=>Z6e e n
  have noA:∀ {b:Addr} {o:Obj} {es:Array DictEntry} {ep:Nat},s₁.heap.get? b = some o→o.data = .dict es ep→H b = none:=fun {b o es ep} e d=>by
   cases q:H b with
   | none=>rfl
   | some u =>
    have e':b = a:=hA b (by rw [q]; simp)
    subst e'
    rw [ha] at e; cases e
    have d':Data.seq vs.toArray _ = Data.dict es ep:=d
    cases d'
  have nsK:∀ {b:Addr} {m:Str→Option Value},s₁.heap.Ns b m→(Z6f s₁.heap H).Ns b m:=fun {b m} ⟨o,es,ep,e,d,r⟩=>⟨o,es,ep,base_of e (noA e d),d,r⟩
  have hKb:K.In (Z6f s₁.heap H):=fun b o e=>base_of (KX b o e) (by
   cases q:H b with
   | none=>rfl
   | some u =>
    have e':b = a:=hA b (by rw [q]; simp)
    subst e'
    rw [hK (by rw [q]; simp)] at e; cases e)
  have hM:Mod K mg (Z6f s₁.heap H):=⟨hKb,nsK hns,⟨mb,nsK hb,hbb⟩,let ⟨mc,h1,h2⟩:=hlim; ⟨mc,nsK h1,h2⟩⟩
  have e0:Env0 P w K mg (Z6f s₁.heap H) callerA [] s₁ H:=⟨rfl,hM,fun b o e=>Z8k e,Nat.le_of_eq (Z4n _ _),trivial,fun b hb=>absurd (show b ∈ ([]:List Addr) from hb) (by simp),hok,.of_eq hg⟩
  refine codeAny_mono ((F _ hKb (nsK hns)).run callerA [] s₁ H ⟨[.ref a],[]⟩ [.ref a] [.ref a] _ _ hr e0 (hbind s₁ (.ref a)) (.cons rfl .nil) (hsp H hO hS)) fun r s' h=>?_
  cases r with
  | error e=>exact (hCX H e s' h).elim
  | ok fl =>
   cases fl with
   | next=>exact False.elim h
   | brk=>exact False.elim h
   | cont=>exact False.elim h
   | ret u =>
    obtain ⟨v,H',os,bare,un,hok',r',q⟩:=h
    have q':v = .bl true:=q
    subst q'
    obtain rfl:u = Value.bool true:=r'
    refine ⟨rfl,OldK.of_keep fun b o e=>?_,os,bare⟩
    cases q:H b with
    | none=>exact un.keep b o e q (by intro z; exact absurd (show b ∈ ([]:List Addr) from z) (by simp)) (by simp)
    | some u =>
     rcases hO b with z | ⟨ob,xs,z⟩
     ·rw [q] at z; cases z
     ·have z2:=un.frzs b ob _ z
      obtain ⟨e1,_⟩:=hok b _ z
      obtain ⟨e2,_⟩:=hok' b _ z2
      rw [e] at e1; cases e1
      exact e2
 cases hk:K.lookup a with
 | some o =>
  have e:=KX a o hk
  rw [ha] at e
  cases e
  refine core (fun _=>none) (fun _=>.inl rfl) (.inr ⟨_,vs.toArray,_,hk,rfl,rfl,rfl,by rw [List.size_toArray,lenV]; exact hl,by simpa using rv⟩) (fun b u z=>by have z':(none:Option HO) = some u:=z; cases z') (fun b z=>absurd rfl z) fun z=>absurd rfl z
 | none =>
  refine core (fun b=>if b = a then some (.frz { cls:=.type "list",data:=.seq vs.toArray } (.lst (ns.map V.int))) else none) (fun b=>?_) (.inl (.inr ⟨{ cls:=.type "list",data:=.seq vs.toArray },if_pos rfl⟩)) (fun b u z=>?_) (fun b z=>?_) fun _=>hk
  ·by_cases hb:b = a
   ·exact .inr ⟨_,_,if_pos hb⟩
   ·exact .inl (if_neg hb)
  ·by_cases hb:b = a
   ·have z':=(if_pos hb).symm.trans z
    cases z'
    subst hb
    exact ⟨ha,by rw [List.length_map]; exact hl,vs,_,rv,ha⟩
   ·have z':=(if_neg hb).symm.trans z
    cases z'
  ·by_cases hb:b = a
   ·exact hb
   ·exact absurd (if_neg hb) z
abbrev KOf {K:PySem.W.Frag} {h:Heap} (_:K.In h):PySem.W.Frag:=K
theorem walk_of {l:PySem.W.OpenLaw} {n k:Nat} {q:Program} {loose:List Str} {XP:(Str→Option Value)→Heap→Prop} {YP:World→Heap→Prop} {d:DefRec} {K:Params→PySem.W.Frag} {CX:World→CXT} {sp:World→Sp} {x:Str}
  (hn:l.most = some n) (hn2:n ≤ sizeLine) (hdf:d.params.defaults = []) (hr:Room k callerA)
  (hY:∀ (w:World) (h:Heap),YP w h→(K w.params).In h)
  (F:∀ (w:World) (mg:Str→Option Value) (fa:Addr) (h:Heap),(K w.params).In h→h.Ns mainGlobals mg→mg d.name = some (.ref fa) →
   ∃ fd:FuncData,(∀ (s:Shared) (u:Value),BindsTo s fd ⟨[u],[]⟩ [(x,u)]) ∧
    ∀ base:Heap,(K w.params).In base→base.Ns mainGlobals mg→FnOk l.prog w (K w.params) mg base (CX w) k fa fd [x] (sp w))
  (hsp:∀ (w:World) (H:Hp) (a:Addr) (ns:List Int),ns.length ≤ n→Zc1 H→SqL (K w.params) H a (ns.map V.int)→sp w [.ref a] H (fun v _=>v = .bl true) fun _ _ _=>False)
  (hCX:∀ (w:World) (H:Hp) (s:Shared) (e:Value) (s':Shared),CX w [] H s (fun _ _ _=>False) e s'→False) :
  PySem.W.WalkO q loose XP YP l.row.toRowW d [] (fun f vs=>PySem.call f vs):=by
 refine Att.attach_call hn hdf fun w s₀ s₁ mg mb fa o pm cd doc a vs ns G Y ho hd hcd hmg hobj hints hlen hg=>?_
 have KX:=hY w _ Y
 obtain ⟨fd,hb,hF⟩:=F w mg fa _ KX G.T.g hmg
 exact Z6a KX G.T.g G.T.b G.T.builtins G.T.nolimit hg hobj hints (Nat.le_trans hlen hn2) hr hF hb (fun H hO hS=>hsp w H a ns hlen hO hS) fun H e s'=>hCX w H s₁ e s'
def X0 (s:Stmt) (j:Nat):Stmt:=match s with
 | .ClassDef _ _ _ body _ _ _ _ _ _ _=>body.getD j (.Pass ⟨0,0,0,0⟩)
 | _=>.Pass ⟨0,0,0,0⟩
def Ys (s:Stmt):Arguments:=match s with
 | .FunctionDef _ a _ _ _ _ _ _ _ _=>a
 | _=>{ posonlyargs:=[],args:=[],vararg:=none,kwonlyargs:=[],kw_defaults:=[],kwarg:=none,defaults:=[] }
def Yk (s:Stmt):List Stmt:=match s with
 | .FunctionDef _ _ b _ _ _ _ _ _ _=>b
 | _=>[]
def Z5 (s:Stmt):Scope:=match s with
 | .FunctionDef _ _ _ _ _ _ sc _ _ _=>sc
 | _=>{ kind:=.function,names:=[],isGenerator:=false,isCoroutine:=false }
abbrev CX0:CXT:=fun _ _ _ _ _ _=>False
abbrev E0:XK:=fun _ _ _=>False
theorem Z3v {X:Cx}:Vp CX0 X E0:=fun _ _ _ _ _ _ _ h=>h.elim
structure Fun (K:PySem.W.Frag) (x qual:Str) (st:Stmt) (f:Addr) (fd:FuncData):Prop where
 ex:∃ (oc:Value) (od:Option Addr) (kV doc pm:Value) (an:Option Addr) (cdv ct:Value) (osl:Array (Option Value)),
  fd = PySem.W.fnOf x qual (Ys st) (Yk st) (Z5 st) .none kV doc pm an cdv ct∧K.lookup f = some ⟨oc,od,.func fd,osl⟩∧PySem.W.codeIn K cdv qual = true
 kp:PySem.W.keepIn K (.ref f) = true
section
variable {P:Program} {w:World} {K:PySem.W.Frag} {mg:Str→Option Value} {base:Heap}
theorem Fun.ok {x qual:Str} {st:Stmt} {f:Addr} {fd:FuncData} {N ps:List Str} {k:Nat} {sp:Sp} (F:Fun K x qual st f fd) (S:FnScope N ps (Z5 st)) (len:∀ vs H Q E,sp vs H Q E→vs.length = ps.length)
  (hbody:∀ (cdv:Value) (A:Around) (outer:List Env) (s:Shared) (H:Hp) (vs:List V) (Q:VK) (E:XK),Room k (A.deeper (envOfC qual (Z5 st) s.heap.objs.size f cdv))→sp vs H Q E →
   ∃ t,PSs (Z9a CX0 P w K mg base N qual (Z5 st) f cdv A outer s H E).nox (Yk st) t∧t { nx:=fun _ H'=>Q .non H',rt:=Q } (start N vs) H):FnOk P w K mg base CX0 (k + 1) f fd ps sp:=by
 obtain ⟨oc,od,kV,doc,pm,an,cdv,ct,osl,rfl,lk,hcd⟩:=F.ex
 refine Zbw lk hcd S len fun A outer s H vs Q E hr hsp=>?_
 obtain ⟨t,h,q⟩:=hbody cdv A outer s H vs Q E hr hsp
 exact ⟨t,h.nox,q⟩
theorem Fun.binds {x qual:Str} {st:Stmt} {f:Addr} {fd:FuncData} {ps:List Str} (F:Fun K x qual st f fd)
  (h:∀ (kV doc pm:Value) (an:Option Addr) (cdv ct:Value) (us:List Value),us.length = ps.length→bindArgs (PySem.W.fnOf x qual (Ys st) (Yk st) (Z5 st) .none kV doc pm an cdv ct) ⟨us,[]⟩ = pure (ps.zip us)):Binds K fd ps []:=by
 obtain ⟨oc,od,kV,doc,pm,an,cdv,ct,osl,rfl,lk,hcd⟩:=F.ex
 exact .all (h kV doc pm an cdv ct)
theorem Vj {x qual:Str} {st:Stmt} {f:Addr} {oc:Value} {od an:Option Addr} {osl:Array (Option Value)} {kV doc pm cdv ct:Value} (l:K.lookup f = some ⟨oc,od,.func (PySem.W.fnOf x qual (Ys st) (Yk st) (Z5 st) .none kV doc pm an cdv ct),osl⟩)
  (c:PySem.W.codeIn K cdv qual = true) (k:PySem.W.keepIn K (.ref f) = true):Fun K x qual st f (PySem.W.fnOf x qual (Ys st) (Yk st) (Z5 st) .none kV doc pm an cdv ct):=⟨⟨oc,od,kV,doc,pm,an,cdv,ct,osl,rfl,l,c⟩,k⟩
end
theorem Y7 {n:Nat} (h:n ≤ 1000):n < sizeLine:=Nat.lt_of_le_of_lt h (by decide)
section
variable {X:Cx}
theorem pv (i:Nat) {x:Str} {pos:Pos} (hN:X.N[i]? = some x:=by rfl) (hv:Vis X.env.scope x:=by first | exact Or.inl rfl | exact Or.inr (Or.inl rfl) | exact Or.inr (Or.inr rfl)) (hd:(x == ("__debug__":Str)) = false:=by decide)
  (hcd:(x == ("__classdict__":Str)) = false:=by decide):PE X (.Name x pos) (Jk i):=Za6 hN hv hd hcd
end
theorem Z76 {A B:Prop} (h:B):if false = true then A else B:=by
 rw [if_neg Bool.false_ne_true]
 exact h
theorem Z99 {A B:Prop} (h:A):if true = true then A else B:=by
 rw [if_pos rfl]
 exact h
theorem Wi {c A B:Prop} [Decidable c] (h1:c→A) (h2:¬ c→B):if c then A else B:=by
 by_cases h:c
 ·rw [if_pos h]
  exact h1 h
 ·rw [if_neg h]
  exact h2 h
def Xb (cells:List (Str × Addr)) (cs:List (Str × Addr)) (p:Str × NameKind):List (Str × Addr) :=
 if (p.2 == .free) = true then (match cells.lookup p.1 with | some c=>(p.1,c) :: cs | none=>cs) else cs
def Z7e (names:List (Str × NameKind)) (cells:List (Str × Addr)):List (Str × Addr):=names.foldl (Xb cells) []
theorem Z2n {α β:Type} {l:List α} {f:α→β→Sem (ForInStep β)} (g:β→α→β):∀ (c:β),(∀ x ∈ l,∀ c,f x c = pure (.yield (g c x)))→forIn l c f = pure (l.foldl g c):=by
 induction l with
 | nil=>intro c _; rfl
 | cons x l ih =>
  intro c h
  rw [List.forIn_cons,h x List.mem_cons_self,pure_bind]
  exact ih _ fun y hy=>h y (List.mem_cons_of_mem _ hy)
theorem We {scope:Scope} {env:Env} (h:∀ p ∈ scope.names,p.2 = .free→∃ c,env.cells.lookup p.1 = some c):closureFor scope env = pure (Z7e scope.names env.cells):=by
 simp only [closureFor]
 rw [Z2n (Xb env.cells) [] (fun p hp c=>by
  obtain ⟨n,k⟩:=p
  by_cases hk:k = .free
  ·subst hk
   obtain ⟨a,e⟩:=h _ hp rfl
   have e':env.cells.lookup n = some a:=e
   simp [Xb,cellOf,e']
  ·have hb:(k == NameKind.free) = false:=by simpa using hk
   simp [Xb,hb])]
 rfl
theorem Z2p {cells:List (Str × Addr)} {cs:List (Str × Addr)} {p:Str × NameKind} (h:∀ y c,cs.lookup y = some c→cells.lookup y = some c):∀ y c,(Xb cells cs p).lookup y = some c→cells.lookup y = some c:=by
 intro y c e
 unfold Xb at e
 split at e
 ·split at e
  ·rename_i c' hc'
   rw [List.lookup_cons] at e
   split at e
   ·rename_i hy
    have:y = p.1:=by simpa using hy
    rw [this,hc']
    exact e
   ·exact h y c e
  ·exact h y c e
 ·exact h y c e
theorem Z1m (names:List (Str × NameKind)) (cells:List (Str × Addr)):∀ y c,(Z7e names cells).lookup y = some c→cells.lookup y = some c:=by
 have all:∀ (names:List (Str × NameKind)) (cs:List (Str × Addr)),(∀ y c,cs.lookup y = some c→cells.lookup y = some c)→∀ y c,(names.foldl (Xb cells) cs).lookup y = some c→cells.lookup y = some c:=by
  intro names
  induction names with
  | nil=>intro cs h; exact h
  | cons p r ih=>intro cs h; exact ih _ (Z2p h)
 exact all names [] (fun y c e=>by simp at e)
theorem Z0e {cells cs:List (Str × Addr)} {p:Str × NameKind} {y:Str} (h:(cs.lookup y).isSome = true):((Xb cells cs p).lookup y).isSome = true:=by
 unfold Xb
 split
 ·split
  ·rw [List.lookup_cons]
   split
   ·rfl
   ·exact h
  ·exact h
 ·exact h
theorem Z6q {names:List (Str × NameKind)} {cells:List (Str × Addr)} {y:Str} {c:Addr} (hm:(y,NameKind.free) ∈ names) (hc:cells.lookup y = some c):∃ c,(Z7e names cells).lookup y = some c:=by
 have kp:∀ (names:List (Str × NameKind)) (cs:List (Str × Addr)),(cs.lookup y).isSome = true→((names.foldl (Xb cells) cs).lookup y).isSome = true:=by
  intro names
  induction names with
  | nil=>intro cs h; exact h
  | cons p r ih=>intro cs h; exact ih _ (Z0e h)
 have all:∀ (names:List (Str × NameKind)) (cs:List (Str × Addr)),(y,NameKind.free) ∈ names→((names.foldl (Xb cells) cs).lookup y).isSome = true:=by
  intro names
  induction names with
  | nil=>intro cs h; cases h
  | cons p r ih =>
   intro cs h
   rcases List.mem_cons.mp h with e | h
   ·subst e
    refine kp r _ ?_
    unfold Xb
    simp [hc]
   ·exact ih _ h
 exact Option.isSome_iff_exists.mp (all names [] hm)
theorem Yp (env:Env):∀ (names:List (Str × NameKind)) (y:Str),
  (names.map fun (n,k)=>if (k == NameKind.free && env.scope.kind == .function && env.kindOf n == some .cell) then (n,NameKind.cell) else (n,k)).lookup y =
   (names.lookup y).map fun k=>if (k == NameKind.free && env.scope.kind == .function && env.kindOf y == some .cell) then NameKind.cell else k
 | [],_=>rfl
 | (n,k) :: r,y=>by
  have ih:=Yp env r y
  show List.lookup y ((if (k == NameKind.free && env.scope.kind == .function && env.kindOf n == some .cell) = true then (n,NameKind.cell) else (n,k)) :: _) = _
  cases hx:y == n with
  | true =>
   have e:y = n:=by simpa using hx
   subst e
   by_cases hc:(k == NameKind.free && env.scope.kind == .function && env.kindOf y == some .cell) = true
   ·rw [if_pos hc]; simp only [List.lookup_cons,hx,Option.map_some]; rw [if_pos hc]
   ·rw [if_neg hc]; simp only [List.lookup_cons,hx,Option.map_some]; rw [if_neg hc]
  | false =>
   by_cases hc:(k == NameKind.free && env.scope.kind == .function && env.kindOf n == some .cell) = true
   ·rw [if_pos hc]; simp only [List.lookup_cons,hx]; exact ih
   ·rw [if_neg hc]; simp only [List.lookup_cons,hx]; exact ih
def Xx (X:Cx) (N':List Str) (scope:Scope) (x:Str) (C:Addr) (s:Shared) (H:Hp) (ex:List Addr):Cx :=
 { X with N:=x :: N',s₀:=s,H₀:=H,env:=compEnvC scope (Z7e scope.names X.env.cells) C X.env,outer:=X.stack,ex:=ex,fn:=fun _=>false,pn:=[],xe:=fun _ _=>False }
structure CScope3 (x:Str) (N N':List Str) (osc scope:Scope):Prop where
 kind:scope.kind = .function
 nd:(x :: N').Nodup
 own:scope.names.lookup x = some .local
 nocell:∀ y ∈ scope.names,y.2 ≠ .cell
 names:∀ y ∈ scope.names,y.2 = .local→scope.names.lookup y.1 = some .local
 free:∀ y ∈ scope.names,y.2 = .free→osc.names.lookup y.1 = some .cell
 nol:∀ y ∈ N',scope.names.lookup y ≠ some .local
 len:N'.length = N.length
 hid:∀ p ∈ N'.zip N,p.1 = p.2 ∨ scope.names.lookup p.1 = none
section
variable {X:Cx} {N':List Str} {pins:List (Addr × Obj)} {σ:St} {H:Hp} {s:Shared}
theorem CScope3.has {x:Str} {scope:Scope} (S:CScope3 x X.N N' X.env.scope scope) (ok:X.Ok):∀ p ∈ scope.names,p.2 = .free→∃ c,X.env.cells.lookup p.1 = some c:=fun p hp hk =>
 ok.has p.1 (.inl (S.free p hp hk))
theorem Z1p {x y:Str} {scope:Scope} {C:Addr} {H₀:Hp} {ex:List Addr} (S:CScope3 x X.N N' X.env.scope scope) (ok:X.Ok) (hk:(Xx X N' scope x C s H₀ ex).env.kindOf y = some .cell ∨ (Xx X N' scope x C s H₀ ex).env.kindOf y = some .free) :
  X.env.kindOf y = some .cell∧∃ c,(Z7e scope.names X.env.cells).lookup y = some c:=by
 have e:(Xx X N' scope x C s H₀ ex).env.kindOf y = (scope.names.lookup y).map fun k=>if (k == NameKind.free && X.env.scope.kind == .function && X.env.kindOf y == some .cell) then NameKind.cell else k:=Yp X.env scope.names y
 rw [e] at hk
 cases q:scope.names.lookup y with
 | none=>rw [q] at hk; simp at hk
 | some k =>
  rw [q] at hk
  have hm:=PySem.mem_of_lookup q
  have hfree:k = .free:=by
   cases k with
   | free=>rfl
   | cell=>exact absurd rfl (S.nocell _ hm)
   | _=>simp at hk
  subst hfree
  have h1:=S.free _ hm rfl
  obtain ⟨c,hc⟩:=ok.has y (.inl h1)
  exact ⟨h1,Z6q hm hc⟩
theorem Z2q {x:Str} {scope:Scope} {C acc:Addr} {fp:List Addr} {h':Heap} {t':Nat} {m:Str→Option Value} (S:CScope3 x X.N N' X.env.scope scope) (I:Inv X pins σ H s) (hf:∀ b ∈ fp,Z2t X pins H b) (ho:∀ b ∈ fp,∃ o,s.heap.get? b = some o)
  (hC:s.heap.objs.size ≤ C) (hn:h'.Ns C m) (old:∀ b o,s.heap.get? b = some o→h'.get? b = some o):Inv (Xx X N' scope x C s H fp) [] (none :: σ) H { s with heap:=h',toks:=t' }:=by
 have sub:=Z1m scope.names X.env.cells
 refine ⟨⟨I.ok.mod,S.kind,I.ok.glob,I.ok.blt,hC,fun y z c h1 h2=>I.ok.inj y z c (sub _ _ h1) (sub _ _ h2),fun y hy=>(Z1p S I.ok hy).2,fun y c z _=>absurd (show false = true from z) Bool.false_ne_true,I.ok.hd,I.ok.frames,.inl rfl,fun b hb=>⟨?_,fun y c e=>?_⟩,I.bs,Nat.le_trans I.ok.bsz I.sz,fun b o e hb=>?_,fun b hb z=>?_,I.stack,I.stkFree⟩,
  rfl,I.bare,Un.kept old,⟨m,hn,fun i y v h1 h2 h3=>?_⟩,fun y c e=>?_,I.hok.fresh hC,fun y c e=>I.freeC y c (sub _ _ e),fun p hp=>absurd (show p ∈ ([]:List (Addr × Obj)) from hp) (by simp),I.hok.kept old,?_⟩
 ·obtain ⟨o,e⟩:=ho b hb
  exact Nat.ne_of_lt (Nat.lt_of_lt_of_le (Heap.lt_size e) hC)
 ·exact (hf b hb).2.2.2.2.1 y c (sub _ _ e)
 ·rcases (hf b hb).2.2.2.1 with z | z
  ·exact I.ok.noex b o e z
  ·exact absurd (Nat.lt_of_lt_of_le (Heap.lt_size e) (Nat.le_trans I.ok.bsz z)) (Nat.lt_irrefl _)
 ·rcases List.mem_cons.mp (I.stkSub b z) with e | e
  ·exact (hf b hb).2.1 e
  ·exact (hf b hb).2.2.1 e
 ·cases i with
  | zero=>simp at h2
  | succ i =>
   have h0':N'[i]? = some y:=h1
   have h2':σ[i]? = some (some v):=by simpa using h2
   have hk:(Xx X N' scope x C s H fp).env.kindOf y = some .cell ∨ (Xx X N' scope x C s H fp).env.kindOf y = some .free:=by
    rcases h3 with h3 | h3
    ·exfalso
     have e:(Xx X N' scope x C s H fp).env.kindOf y = (scope.names.lookup y).map fun k=>if (k == NameKind.free && X.env.scope.kind == .function && X.env.kindOf y == some .cell) then NameKind.cell else k:=Yp X.env scope.names y
     have h3':(Xx X N' scope x C s H fp).env.kindOf y = some .local:=h3
     rw [e] at h3'
     cases q:scope.names.lookup y with
     | none=>rw [q] at h3'; cases h3'
     | some k =>
      rw [q] at h3'
      rw [Option.map_some] at h3'
      split at h3'
      ·cases h3'
      ·cases h3'
       exact S.nol y (List.mem_of_getElem? h0') q
    ·exact h3
   obtain ⟨hk1,c,hc⟩:=Z1p S I.ok hk
   have h1':X.N[i]? = some y:=by
    have hlt:i < N'.length:=(List.getElem?_eq_some_iff.mp h0').1
    have hlt2:i < X.N.length:=by rw [← S.len]; exact hlt
    have hz:(y,X.N[i]) ∈ N'.zip X.N:=by
     refine List.mem_iff_getElem?.mpr ⟨i,?_⟩
     rw [List.getElem?_zip_eq_some]
     exact ⟨h0',List.getElem?_eq_getElem hlt2⟩
    rcases S.hid _ hz with e | e
    ·have e':y = X.N[i]:=e
     rw [List.getElem?_eq_getElem hlt2,← e']
    ·exfalso
     have e':scope.names.lookup y = none:=e
     have e2:(Xx X N' scope x C s H fp).env.kindOf y = (scope.names.lookup y).map fun k=>if (k == NameKind.free && X.env.scope.kind == .function && X.env.kindOf y == some .cell) then NameKind.cell else k:=Yp X.env scope.names y
     rw [e2,e'] at hk
     rcases hk with hk | hk <;> cases hk
   obtain ⟨m1,hn1,hl⟩:=I.loc
   obtain ⟨u,r,l⟩:=hl i y v h1' h2' (.inr (.inl hk1))
   refine ⟨u,r,.inr ⟨hk,c,hc,?_⟩⟩
   rcases l with ⟨l,_⟩ | ⟨_,c',hc',z⟩
   ·rw [hk1] at l; cases l
   ·have:=sub _ _ hc
    rw [hc'] at this
    cases this
    obtain ⟨o,e,d⟩:=z
    exact ⟨o,old _ _ e,d⟩
 ·obtain ⟨v,o,e1,d⟩:=I.cell y c (sub _ _ e)
  exact ⟨v,o,old _ _ e1,d⟩
 ·show (none :: σ).length = (x :: N').length
  simp [I.len,S.len]
def PTs (X:Cx) (ifs:List Expr) (t:TT):Prop :=
 ∀ (pins:List (Addr × Obj)) (s:Shared) (σ:St) (H:Hp) (Q:Bool→Hp→Prop),Inv X pins σ H s→t σ H Q →
  wpAny (model X.prog X.w) X.A (forIn ifs true fun c r=>if r = true then do let ok ← isTrue c X.env (eval c X.env); pure (ForInStep.yield ok) else pure (ForInStep.yield r)) (TP X pins σ Q) X.xe s
def Zb1:TT:=fun _ H Q=>Q true H
theorem Xt:PTs X [] Zb1:=fun _ _ _ H _ I h=>wpAny_tests_nil ⟨H,I,h⟩
theorem Uw {c:Expr} {t:TT} (h:PT X c t):PTs X [c] t:=fun pins s σ H Q I hq=>wpAny_tests_one (h pins s σ H Q I hq)
def LCW (J:It) (σ:St) (tt:TT) (te:TE) (Fin:List V→Hp→Prop) (H1:Hp):Prop:=∃ W:Nat→Nat→List V→Hp→Prop,(∃ m,W 0 m [] H1)∧∀ i m ys H,W i m ys H →
 (J.stop i H∧Fin ys H) ∨ (J.go i H∧ys.length < sizeLine∧∃ N:List V→Hp→Prop,(∀ ys' H',N ys' H'→∃ m',m' < m∧W (i + 1) m' ys' H')∧∀ x H',J.yld i H x H'→tt (some x :: σ) H' fun b H2 =>
  if b = true then te (some x :: σ) H2 fun y H3=>N (ys ++ [y]) H3 else N ys H2)
def tLC (wi:TI) (tt:TT) (te:TE):TE:=fun σ H Q=>wi σ H fun J H1=>LCW J σ tt te (fun ys H=>∀ l,H l = none→Q (.ref l) (upd H l (.lst ys))) H1
theorem Uj {elt iter:Expr} {x:Str} {px pos:Pos} {scope:Scope} {ifs:List Expr} {tt:TT} {te:TE} {s2:Shared} {it:Addr} {fp:List Addr} {tn:Nat→Heap→Prop} {J:It} {H2:Hp} {E:Value→Shared→Prop} {Fin:List V→Hp→Prop} {RR:Value→Addr→Result→Shared→Prop}
  (hc:X.calm = true) (S:CScope3 x X.N N' X.env.scope scope) (I2:Inv X pins σ H2 s2) (T:Turn X.prog X.w X.K (.Name x px) J fp it tn) (st2:tn 0 s2.heap) (f2:∀ b ∈ fp,Z2t X pins H2 b) (hw:LCW J σ tt te Fin H2)
  (ht:∀ C s H ex,PTs (Xx X N' scope x C s H ex) ifs tt) (he:∀ C s H ex,PE (Xx X N' scope x C s H ex) elt te)
  (hRR:∀ D C s4 ys H3 m5,Inv X pins σ (upd H3 D (.lst ys)) s4→s4.heap.Ns C m5→Z2t X pins (upd H3 D (.lst ys)) C→H3 D = none→Fin ys H3→RR (.ref D) C (.ok .next) s4) :
  wpAny (model X.prog X.w) X.A (newList []) (fun acc s₃=>wpAny (model X.prog X.w) X.A (newFunctionEnv scope X.env.globals (Z7e scope.names X.env.cells) [] X.env.qual none .none (some X.env)) (fun cenv s₄ =>
   codeAny (model X.prog X.w) X.A (.compStart (.ListComp elt [⟨.Name x px,iter,ifs,0⟩] scope pos) 0 (.ref it) acc { cenv with scope:=relabel scope X.env }) (RR acc cenv.locals) s₄) E s₃) E s2:=by
 obtain ⟨W,⟨m0,w0⟩,turn⟩:=hw
 have hob:=T.obj 0 s2.heap st2
 refine wpAny_newObj_type (wpAny_newFunctionEnv S.nocell (by intro y hy; simp at hy) (fun h₁ hns₁ hsb₁=>?_) S.kind)
 dsimp only at hns₁ hsb₁ ⊢
 generalize hG2:s2.heap.push { cls:=.type "list",dict:=none,data:=.seq ([]:List Value).toArray } = G2 at hns₁ hsb₁ ⊢
 have hC:G2.objs.size = s2.heap.objs.size + 1:=by rw [← hG2,Heap.size_push]
 have hDC:s2.heap.objs.size ≠ G2.objs.size:=by rw [hC]; exact Nat.ne_of_lt (Nat.lt_succ_self _)
 have hCle:s2.heap.objs.size ≤ G2.objs.size:=by rw [hC]; exact Nat.le_succ _
 have below:∀ b,b < s2.heap.objs.size→b ≠ G2.objs.size∧b ≠ s2.heap.objs.size:=fun b hb=>⟨by rw [hC]; exact Nat.ne_of_lt (Nat.lt_succ_of_lt hb),Nat.ne_of_lt hb⟩
 have old:∀ b o,s2.heap.get? b = some o→h₁.get? b = some o:=fun b o e=>hsb₁.extBut b o (below b (Heap.lt_size e)).1 (Heap.get?_push_of_some _ (hG2 ▸ Heap.get?_push_of_some _ e))
 have hacc:h₁.get? s2.heap.objs.size = some { cls:=.type "list",data:=.seq ([]:List Value).toArray 0 }:=hsb₁.extBut _ _ hDC (Heap.get?_push_of_some _ (hG2 ▸ Heap.get?_push_size _ rfl))
 generalize hD:s2.heap.objs.size = D at *
 generalize hCC:G2.objs.size = C at *
 have hDf:D ∉ fp:=fun hm=>by
  obtain ⟨o,e,_⟩:=hob D hm
  exact absurd (Heap.lt_size e) (by rw [hD]; exact Nat.lt_irrefl _)
 have I4:Inv (Xx X N' scope x C s2 H2 fp) [] (none :: σ) H2 { s2 with heap:=h₁,toks:=s2.toks + ([]:List (Str × Value)).length } :=
  Z2q (acc:=D) S I2 f2 (fun b hb=>let ⟨o,e,_⟩:=hob b hb; ⟨o,e⟩) (by omega) hns₁ old
 have hDn:∀ {σ':St} {H':Hp} {s':Shared},Inv (Xx X N' scope x C s2 H2 fp) [] σ' H' s'→(∀ b ∈ fp,H' b = none)→∀ b ∈ fp,Z2t (Xx X N' scope x C s2 H2 fp) [] H' b:=fun {σ' H' s'} I' hn b hb=>by
  refine ⟨hn b hb,(I'.ok.exf b hb).1,I'.ok.exfs b hb,.inl hb,fun y c e=>(I'.ok.exf b hb).2 y c e,fun p hp=>absurd (show p ∈ ([]:List (Addr × Obj)) from hp) (by simp)⟩
 have hDfp:∀ {σ':St} {H':Hp} {s':Shared},Inv (Xx X N' scope x C s2 H2 fp) [] σ' H' s'→H' D = none→Z2t (Xx X N' scope x C s2 H2 fp) [] H' D:=fun {σ' H' s'} I' hn=>by
  refine ⟨hn,hDC,fun z=>?_,.inr (by show s2.heap.objs.size ≤ D; omega),fun y c e=>?_,fun p hp=>absurd (show p ∈ ([]:List (Addr × Obj)) from hp) (by simp)⟩
  ·obtain ⟨_,o,e,_⟩:=I'.ok.funs.mem z
   exact absurd (show D < s2.heap.objs.size from Heap.lt_size e) (by rw [hD]; exact Nat.lt_irrefl _)
  ·obtain ⟨v,z⟩:=I2.cell y c (Z1m _ _ _ _ e)
   intro e2
   exact absurd z.lt (by rw [hD,e2]; exact Nat.lt_irrefl _)
 have hgt:∀ b o,s2.heap.get? b = some o→b ≠ C∧b ≠ D:=fun b o e=>by
  have z:=below b (by rw [← hD]; exact Heap.lt_size e)
  exact z
 let LI:Nat→Shared→Prop:=fun n s'=>∃ i ys its k σ0 H',Inv (Xx X N' scope x C s2 H2 fp) [] (σ0 :: σ) H' s'∧tn i s'.heap∧(∀ b ∈ fp,H' b = none)∧H' D = none∧Vals ys its∧ys.length ≤ sizeLine∧s'.heap.get? D = some { cls:=.type "list",data:=.seq its.toArray k }∧W i n ys H'
 have loop:∀ s₃:Shared,s₃ = { s2 with heap:=h₁,toks:=s2.toks + ([]:List (Str × Value)).length } →
   codeAny (model X.prog X.w) X.A (.compLoop (.ListComp elt [⟨.Name x px,iter,ifs,0⟩] scope pos) 0 (.ref it) (.ref D) (compEnvC scope (Z7e scope.names X.env.cells) C X.env))
    (RR (.ref D) C) s₃:=by
  rintro s₃ rfl
  refine codeAny_compLoop_tests LI ?_ m0 ⟨0,[],[],0,none,H2,I4,T.keep _ _ _ st2 (fun b _ o e=>old b o e),fun b hb=>(f2 b hb).1,I2.hok.fresh (by rw [hD]; exact Nat.le_refl _),.nil,Nat.zero_le _,hacc,w0⟩
  rintro n s3 ⟨i,ys,its,k,σ0,H3,I3,st3,fr3,frD,rv,hysz,ha3,w3⟩
  have IP:Inv (Xx X N' scope x C s2 H2 fp) [(D,{ cls:=.type "list",data:=.seq its.toArray k })] (σ0 :: σ) H3 s3:=I3.pins_of fun p hp=>by
   have e:p = (D,{ cls:=.type "list",data:=.seq its.toArray k }):=by simpa using hp
   subst e
   obtain ⟨f0,f1,f3,_⟩:=hDfp I3 frD
   exact ⟨ha3,f0,f1,f3,fun v z=>by cases z⟩
  have fpP:∀ {H':Hp},(∀ b ∈ fp,H' b = none)→∀ b ∈ fp,Z2t (Xx X N' scope x C s2 H2 fp) [(D,{ cls:=.type "list",data:=.seq its.toArray k })] H' b:=fun {H'} hn b hb=>by
   refine ⟨hn b hb,(I3.ok.exf b hb).1,I3.ok.exfs b hb,.inl hb,fun y c e=>(I3.ok.exf b hb).2 y c e,fun p hp=>?_⟩
   have e:p = (D,{ cls:=.type "list",data:=.seq its.toArray k }):=by
    have hp':p ∈ [(D,({ cls:=.type "list",data:=.seq its.toArray k }:Obj))]:=hp
    simpa using hp'
   subst e
   exact fun z=>hDf (by rw [show D = b from z]; exact hb)
  rcases turn i n ys H3 w3 with ⟨stop,qn⟩ | ⟨go,hlen,N,hN,step⟩
  ·refine wpAny_mono (T.done (Xx X N' scope x C s2 H2 fp) rfl rfl rfl hc i _ s3 (σ0 :: σ) H3 (fun _ _=>False) IP (fpP fr3) st3 stop) (fun r s4 ⟨hr,I5⟩=>?_) fun _ _ z=>z.elim
   subst hr
   obtain ⟨m5,hn5,_⟩:=I5.loc
   have hD4:=(I5.pin _ (List.mem_append_right _ (List.mem_singleton.mpr rfl))).1
   have hcn:H3 C = none:=I5.free
   have hok':HOk X.prog X.w (upd H3 D (.lst ys)) s4.heap:=fun b u e=>by
    by_cases hb:b = D
    ·subst hb
     rw [Z1] at e
     cases e
     exact ⟨hysz,its,k,rv,hD4⟩
    ·rw [Zf hb] at e
     exact (I5.hok b u e).stay (fun c v hc q=>q) (fun c q=>by rw [Zf (Z7 q frD)]; exact q) fun c xs q=>by rw [Zf (Z7 q frD)]; exact q
   have un':Un (frs X.stack) fp H2 (upd H3 D (.lst ys)) s2.heap s4.heap:=by
    have u:=I5.base
    refine ⟨u.keep,u.slot,fun b o q n hx=>?_,u.there,fun b xs q=>?_,fun b o xs q=>?_,fun b ps q=>?_⟩
    ·rw [Zf (hgt b o q).2]
     exact u.free b o q n hx
    ·have e:=u.tups b xs q
     rw [Zf (Z7 e frD)]
     exact e
    ·have e:=u.frzs b o xs q
     rw [Zf (Z7 e frD)]
     exact e
    ·obtain ⟨more,e⟩:=u.tbls b ps q
     exact ⟨more,by rw [Zf (Z7 e frD)]; exact e⟩
   have I6:Inv X pins σ (upd H3 D (.lst ys)) s4:=I2.call' (ch:=fp) I5.os un' hok' I5.bare (fun b hb=>⟨(f2 b hb).2.2.2.1,(f2 b hb).2.1,(f2 b hb).2.2.2.2.1,(f2 b hb).2.2.2.2.2⟩)
   exact hRR D C s4 ys H3 m5 I6 hn5 (I2.fpOk (by rw [hD]; exact hCle) (by rw [Zf (Ne.symm hDC)]; exact hcn)) frD qn
  ·refine wpAny_mono (T.item (Xx X N' scope x C s2 H2 fp) rfl rfl rfl hc i _ s3 (σ0 :: σ) H3 (fun _ _=>False) IP (fpP fr3) st3 go) (fun r s4 ⟨u,hr,h4⟩=>?_) fun _ _ z=>z.elim
   subst hr
   show wpAny (model X.prog X.w) X.A (letOwnedTupleGo (.Name x px) (.ref it) u >>= fun _=>assign (.Name x px) (compEnvC scope (Z7e scope.names X.env.cells) C X.env) u) _ _ s4
   refine wpAny_bind (wpAny_mono h4 (fun _ s5 ⟨xv,H5,I5,r5,y5,st5,fr5⟩=>?_) fun _ _ z=>z.elim)
   have I5':=I5.pinned (fpP fr5) (T.obj _ _ st5)
   have hloc:Loc (Xx X N' scope x C s2 H2 fp).env.scope x:=.inl (lookup_relabel_local S.own)
   refine wpAny_mono (Z3s (X:=Xx X N' scope x C s2 H2 fp) (i:=0) S.nd rfl hloc (.inr (lookup_relabel_local S.own)) _ s5 (σ0 :: σ) H5 xv u (fun σ' H'=>σ' = some xv :: σ∧H' = H5) I5' r5 ⟨rfl,rfl⟩) (fun _ s6 ⟨σ6,H6,I6,e1,e2⟩=>?_) fun _ _ z=>z.elim
   subst e1 e2
   refine wpAny_mono (ht C s2 H2 fp _ s6 (some xv :: σ) H6 _ I6 (step xv H6 y5)) (fun b s7 ⟨H7,I7,q7⟩=>?_) fun _ _ z=>z.elim
   have hpD:∀ {σ':St} {H':Hp} {s':Shared},Inv (Xx X N' scope x C s2 H2 fp) ([(D,{ cls:=.type "list",data:=.seq its.toArray k })] ++ U3 fp s5.heap) σ' H' s'→s'.heap.get? D = some { cls:=.type "list",data:=.seq its.toArray k }∧H' D = none:=fun {σ' H' s'} I'=>by
    have z:=I'.pin (D,{ cls:=.type "list",data:=.seq its.toArray k }) (List.mem_append_right _ (List.mem_append_left _ (List.mem_singleton.mpr rfl)))
    exact ⟨z.1,z.2.1⟩
   have hpF:∀ {σ':St} {H':Hp} {s':Shared},Inv (Xx X N' scope x C s2 H2 fp) ([(D,{ cls:=.type "list",data:=.seq its.toArray k })] ++ U3 fp s5.heap) σ' H' s'→(∀ b ∈ fp,∀ o,s5.heap.get? b = some o→s'.heap.get? b = some o)∧∀ b ∈ fp,H' b = none:=fun {σ' H' s'} I'=>by
    refine ⟨fun b hb o e=>(I'.pin (b,o) (List.mem_append_right _ (List.mem_append_right _ (Xn hb e)))).1,fun b hb=>?_⟩
    obtain ⟨o,e,d⟩:=T.obj _ _ st5 b hb
    exact (I'.pin (b,o) (List.mem_append_right _ (List.mem_append_right _ (Xn hb e)))).2.1
   cases b with
   | false =>
    rw [if_neg Bool.false_ne_true] at q7 ⊢
    obtain ⟨m',hm,w7⟩:=hN _ _ q7
    exact ⟨m',hm,i + 1,ys,its,k,some xv,H7,I7.pins_of (pins':=[]) (fun p hp=>absurd hp (by simp)),T.keep _ _ _ st5 (hpF I7).1,(hpF I7).2,(hpD I7).2,rv,hysz,(hpD I7).1,w7⟩
   | true =>
    rw [if_pos rfl] at q7 ⊢
    refine wpAny_mono (he C s2 H2 fp _ s7 (some xv :: σ) H7 _ I7 q7) (fun u8 s8 ⟨y,H8,I8,r8,q8⟩=>?_) fun _ _ z=>z.elim
    obtain ⟨m',hm,w8⟩:=hN _ _ q8
    obtain ⟨hd1,hd2⟩:=hpD I8
    have hl:=rv.length
    refine append_at hd1 (fun h' hs' e'=>?_) (by rw [List.size_toArray]; omega)
    have I9:Inv (Xx X N' scope x C s2 H2 fp) [] (some xv :: σ) H8 s8:=I8.pins_of (pins':=[]) (fun p hp=>absurd hp (by simp))
    obtain ⟨f0,f1,f3,f4,f5,f6⟩:=hDfp I9 hd2
    refine ⟨m',hm,i + 1,ys ++ [y],its ++ [u8],k + 1,some xv,H8,I9.turned (it:=D) (t':=s8.toks) (fun b o hb e=>(hs'.2 b hb).trans e) f0 f1 f4 f5 f6,
     T.keep _ _ _ st5 (fun b hb o e=>(hs'.2 b (fun z=>hDf (by rw [← z]; exact hb))).trans ((hpF I8).1 b hb o e)),(hpF I8).2,hd2,rv.append (.cons r8 .nil),by rw [List.length_append,List.length_singleton]; omega,?_,w8⟩
    rw [e',List.push_toArray]
 exact codeAny_compStart_list (loop _ rfl) (T.self _ 0 _ _ _ (T.keep _ _ _ st2 (fun b _ o e=>old b o e)) (loop _ rfl))
theorem Z3t {elt iter:Expr} {x:Str} {px pos:Pos} {scope:Scope} {ifs:List Expr} {wi:TI} {tt:TT} {te:TE} (hc:X.calm = true) (S:CScope3 x X.N N' X.env.scope scope) (hi:PI X (.Name x px) iter wi)
  (ht:∀ C s H ex,PTs (Xx X N' scope x C s H ex) ifs tt) (he:∀ C s H ex,PE (Xx X N' scope x C s H ex) elt te) (hs:∀ v,foldedSetIterable iter X.env v = pure v:=by intro _; rfl) :
  PE X (.ListComp elt [⟨.Name x px,iter,ifs,0⟩] scope pos) (tLC wi tt te):=by
 intro pins s σ H Q I h
 rw [eval_ListComp]
 refine wpAny_comprehension_free (use:=none) rfl hs (We (S.has I.ok)) S.kind S.names (thn (hi pins s σ H _ I h) fun v s1 h1=>thn h1 fun itv s2 h2=>?_)
 obtain ⟨it,fp,tn,J,H2,e,I2,T,st2,f2,hw⟩:=h2
 subst e
 refine Uj (RR:=fun acc C=>compPost (model X.prog X.w) X.A X.xe none (EP X pins σ Q) acc C) hc S I2 T st2 f2 hw ht he fun D C s4 ys H3 m5 I5 hn5 fC frD qn=>⟨m5,hn5,fun h' hs'=>?_⟩
 obtain ⟨f0,f1,f3,f4,f5,f6⟩:=fC
 exact ⟨.ref D,_,I5.turned (it:=C) (t':=s4.toks) (fun b o hb e=>(hs'.2 b hb).trans e) f0 f1 f4 f5 f6,rfl,qn D frD⟩
theorem Tq {i:Nat} {y:Str} {elt iter:Expr} {x:Str} {px py pos spos:Pos} {scope:Scope} {ifs:List Expr} {wi:TI} {tt:TT} {te:TE} (hN:X.N.Nodup) (hi':X.N[i]? = some y) (hy:X.env.scope.names.lookup y = some .local) (hc:X.calm = true) (S:CScope3 x X.N N' X.env.scope scope) (hi:PI X (.Name x px) iter wi)
  (ht:∀ C s H ex,PTs (Xx X N' scope x C s H ex) ifs tt) (he:∀ C s H ex,PE (Xx X N' scope x C s H ex) elt te)
  (hsw:swapsWith (.ListComp elt [⟨.Name x px,iter,ifs,0⟩] scope pos) (some (.Name y py)) spos.line X.env = pure true) (hs:∀ v,foldedSetIterable iter X.env v = pure v:=by intro _; rfl) :
  PS X (.Assign [.Name y py] (.ListComp elt [⟨.Name x px,iter,ifs,0⟩] scope pos) spos) (Z9f (tLC wi tt te) (Z0a i)):=by
 intro pins s σ H D0 I h
 rw [exec_Assign_Name_used _ _ _ _ hsw]
 refine wpAny_bind (wpAny_standAt (wpAny_bind ?_))
 show wpAny _ X.A (do let _ ← comprehension (.ListComp elt [⟨.Name x px,iter,ifs,0⟩] scope pos) scope X.env _ (newList []) false (eval iter X.env) (some (assign (.Name y py) X.env))) _ _ s
 refine wpAny_bind (wpAny_mono (wpAny_comprehension_free (use:=some (assign (.Name y py) X.env)) (Q:=fun _ s'=>SP X pins D0 .next s') rfl hs (We (S.has I.ok)) S.kind S.names
  (thn (hi pins s σ H _ I h) fun v s1 h1=>thn h1 fun itv s2 h2=>?_)) (fun _ s' hq=>wpAny_pure (wpAny_pure hq)) fun _ _ e=>e)
 obtain ⟨it,fp,tn,J,H2,e,I2,T,st2,f2,hw⟩:=h2
 subst e
 refine Uj (RR:=fun acc C=>compPost (model X.prog X.w) X.A X.xe (some (assign (.Name y py) X.env)) (fun _ s'=>SP X pins D0 .next s') acc C) hc S I2 T st2 f2 hw ht he fun D C s4 ys H3 m5 I5 hn5 fC frD qn=>?_
 show wpAny _ X.A (assign (.Name y py) X.env (.ref D)) _ _ _
 obtain ⟨f0,f1,f3,f4,f5,f6⟩:=fC
 refine wpAny_assign_Name (Ta I5 hN hi' (.inl hy) (v:=.ref D) rfl (fun s' I' ⟨a,sb,ha⟩=>?_) (.inr hy))
 have hCa:C ≠ a:=by
  rcases ha with e | e
  ·rw [e]; exact f1
  ·exact Ne.symm (f5 _ _ e)
 refine ⟨m5,hn5.sameBut sb hCa,fun h' hs'=>?_⟩
 exact ⟨_,_,I'.turned (it:=C) (t':=s'.toks) (fun b o hb e=>(hs'.2 b hb).trans e) f0 f1 f4 f5 f6,qn D frD⟩
abbrev blk (X:Cx) (scope:Scope) (x:Str) (C:Addr) (s:Shared) (H:Hp) (ex:List Addr):Cx:=Xx X X.N scope x C s H ex
structure CScope (x:Str) (N:List Str) (osc scope:Scope):Prop where
 kind:scope.kind = .function
 nd:(x :: N).Nodup
 own:scope.names.lookup x = some .local
 nocell:∀ y ∈ scope.names,y.2 ≠ .cell
 names:∀ y ∈ scope.names,y.2 = .local→scope.names.lookup y.1 = some .local
 free:∀ y ∈ scope.names,y.2 = .free→osc.names.lookup y.1 = some .cell
 nol:∀ y ∈ N,scope.names.lookup y ≠ some .local
theorem Z0i {α:Type}:∀ (l:List α),∀ p ∈ l.zip l,p.1 = p.2
 | [],p,h=>by simp at h
 | a :: l,p,h=>by
  rw [List.zip_cons_cons] at h
  rcases List.mem_cons.mp h with rfl | h
  ·rfl
  ·exact Z0i l p h
theorem CScope.to3 {x:Str} {N:List Str} {osc scope:Scope} (S:CScope x N osc scope):CScope3 x N N osc scope:=⟨S.kind,S.nd,S.own,S.nocell,S.names,S.free,S.nol,rfl,fun p hp=>.inl (Z0i N p hp)⟩
theorem Xl {elt iter:Expr} {x:Str} {px pos:Pos} {scope:Scope} {ifs:List Expr} {wi:TI} {tt:TT} {te:TE} (hc:X.calm = true) (S:CScope x X.N X.env.scope scope) (hi:PI X (.Name x px) iter wi)
  (ht:∀ C s H ex,PTs (blk X scope x C s H ex) ifs tt) (he:∀ C s H ex,PE (blk X scope x C s H ex) elt te) (hs:∀ v,foldedSetIterable iter X.env v = pure v:=by intro _; rfl) :
  PE X (.ListComp elt [⟨.Name x px,iter,ifs,0⟩] scope pos) (tLC wi tt te):=Z3t hc S.to3 hi ht he hs
theorem Ws {i:Nat} {y:Str} {elt iter:Expr} {x:Str} {px py pos spos:Pos} {scope:Scope} {ifs:List Expr} {wi:TI} {tt:TT} {te:TE} (hN:X.N.Nodup) (hi':X.N[i]? = some y) (hy:X.env.scope.names.lookup y = some .local) (hc:X.calm = true) (S:CScope x X.N X.env.scope scope) (hi:PI X (.Name x px) iter wi)
  (ht:∀ C s H ex,PTs (blk X scope x C s H ex) ifs tt) (he:∀ C s H ex,PE (blk X scope x C s H ex) elt te)
  (hsw:swapsWith (.ListComp elt [⟨.Name x px,iter,ifs,0⟩] scope pos) (some (.Name y py)) spos.line X.env = pure true) (hs:∀ v,foldedSetIterable iter X.env v = pure v:=by intro _; rfl) :
  PS X (.Assign [.Name y py] (.ListComp elt [⟨.Name x px,iter,ifs,0⟩] scope pos) spos) (Z9f (tLC wi tt te) (Z0a i)):=Tq hN hi' hy hc S.to3 hi ht he hsw hs
theorem Z1b {J:It} {n:Nat} {σ:St} {tt:TT} {te:TE} {Fin:List V→Hp→Prop} {H1:Hp} (Pv:Nat→List V→Hp→Prop) (h0:Pv 0 [] H1) (hz:n < sizeLine) (hlen:∀ i ys H,Pv i ys H→ys.length ≤ i)
  (hgo:∀ i ys H,i < n→Pv i ys H→J.go i H) (hst:∀ ys H,Pv n ys H→J.stop n H)
  (hs:∀ i ys H x H',i < n→Pv i ys H→J.yld i H x H'→tt (some x :: σ) H' fun b H2=>if b = true then te (some x :: σ) H2 fun y H3=>Pv (i + 1) (ys ++ [y]) H3 else Pv (i + 1) ys H2)
  (hd:∀ ys H,Pv n ys H→Fin ys H):LCW J σ tt te Fin H1:=by
 refine ⟨fun i m ys H=>m = n - i∧i ≤ n∧Pv i ys H,⟨n,by simp,Nat.zero_le _,h0⟩,?_⟩
 rintro i m ys H ⟨rfl,hi,p⟩
 by_cases hlt:i < n
 ·have hl:=hlen i ys H p
  exact .inr ⟨hgo i ys H hlt p,by omega,fun ys' H'=>Pv (i + 1) ys' H',fun ys' H' p'=>⟨n - (i + 1),by omega,rfl,hlt,p'⟩,fun x H' y=>hs i ys H x H' hlt p y⟩
 ·have e:i = n:=by omega
  subst e
  exact .inl ⟨hst ys H p,hd ys H p⟩
theorem Z4f {K:PySem.W.Frag} {a:Addr} {xs:List V} {σ:St} {te:TE} {Fin:List V→Hp→Prop} {H1:Hp} (Pv:Nat→List V→Hp→Prop) (h0:Pv 0 [] H1) (hz:xs.length < sizeLine) (hlen:∀ i ys H,Pv i ys H→ys.length ≤ i)
  (hl:∀ i ys H,Pv i ys H→SqL K H a xs) (hs:∀ i ys H x,xs[i]? = some x→Pv i ys H→te (some x :: σ) H fun y H3=>Pv (i + 1) (ys ++ [y]) H3) (hd:∀ ys H,Pv xs.length ys H→Fin ys H) :
  LCW (Itl K a) σ Zb1 te Fin H1:=by
 refine Z1b (n:=xs.length) Pv h0 hz hlen (fun i ys H hi p=>⟨xs,xs[i],hl i ys H p,by simp [hi]⟩) (fun ys H p=>⟨xs,hl _ ys H p,Nat.le_refl _⟩) (fun i ys H x H' hi p y=>?_) hd
 obtain ⟨e,y⟩:=y
 subst e
 exact hs i ys _ x (y xs (hl i ys _ p)) p
theorem T1 {K:PySem.W.Frag} {a:Addr} {xs:List V} {σ:St} {tt:TT} {te:TE} {Fin:List V→Hp→Prop} {H1:Hp} (Pv:Nat→List V→Hp→Prop) (h0:Pv 0 [] H1) (hz:xs.length < sizeLine) (hlen:∀ i ys H,Pv i ys H→ys.length ≤ i)
  (hl:∀ i ys H,Pv i ys H→SqL K H a xs) (hs:∀ i ys H x,xs[i]? = some x→Pv i ys H→tt (some x :: σ) H fun b H2=>if b = true then te (some x :: σ) H2 fun y H3=>Pv (i + 1) (ys ++ [y]) H3 else Pv (i + 1) ys H2) (hd:∀ ys H,Pv xs.length ys H→Fin ys H) :
  LCW (Itl K a) σ tt te Fin H1:=by
 refine Z1b (n:=xs.length) Pv h0 hz hlen (fun i ys H hi p=>⟨xs,xs[i],hl i ys H p,by simp [hi]⟩) (fun ys H p=>⟨xs,hl _ ys H p,Nat.le_refl _⟩) (fun i ys H x H' hi p y=>?_) hd
 obtain ⟨e,y⟩:=y
 subst e
 exact hs i ys _ x (y xs (hl i ys _ p)) p
theorem Wb {lo:Int} {n:Nat} {σ:St} {te:TE} {Fin:List V→Hp→Prop} {H1:Hp} (Pv:Nat→List V→Hp→Prop) (h0:Pv 0 [] H1) (hz:n < sizeLine) (hlen:∀ i ys H,Pv i ys H→ys.length ≤ i)
  (hs:∀ i ys H,i < n→Pv i ys H→te (some (.int (lo + i)) :: σ) H fun y H3=>Pv (i + 1) (ys ++ [y]) H3) (hd:∀ ys H,Pv n ys H→Fin ys H) :
  LCW (Itr lo n) σ Zb1 te Fin H1:=by
 refine Z1b (n:=n) Pv h0 hz hlen (fun i ys H hi p=>hi) (fun ys H p=>Nat.le_refl n) (fun i ys H x H' hi p y=>?_) hd
 obtain ⟨e,y⟩:=y
 subst e y
 exact hs i ys _ hi p
end
section
variable {X:Cx}
theorem Z2z:∀ {ns:List Int} {us:List Value},Vals (ns.map V.int) us→∃ ps:List (Int × Tok),us = ps.map (fun p=>Value.int p.1 p.2)∧ps.map (·.1) = ns
 | [],us,r=>by rw [List.map_nil] at r; cases r; exact ⟨[],rfl,rfl⟩
 | n :: ns,us,r=>by
  rw [List.map_cons] at r
  cases r with
  | cons r1 r2 =>
   obtain ⟨t,e⟩:=r1
   obtain ⟨ps,e1,e2⟩:=Z2z r2
   exact ⟨(n,t) :: ps,by rw [e,e1]; rfl,by rw [List.map_cons,e2]⟩
theorem Z5w (hu:X.A.units < cLine):OpR X (compareOp .Eq) (fun x y H Q=>∃ (p r:Addr) (xs:List V),x = .ref p∧y = .ref r∧SqL X.K H p xs∧SqL X.K H r []∧Q (.bl xs.isEmpty) H):=by
 intro pins s σ H x y v u Q I rx ry h
 obtain ⟨p,r,xs,rfl,rfl,hp,hr,q⟩:=h
 cases rx
 cases ry
 obtain ⟨its,rv,pl,hz⟩:=I.list hp
 obtain ⟨its2,rv2,pl2,hz2⟩:=I.list hr
 cases rv2
 cases rv with
 | nil=>exact SeqAt.eq_listAt (e:=fun _=>true) pl.isList pl2.isList (by simp) hu (fun j h1 h2=>absurd h1 (by simp)) ⟨.bl true,H,I,rfl,q⟩
 | cons r1 r2=>exact SeqAt.eq_list_lengthsAt pl.isList pl2.isList (by simp) hu ⟨.bl false,H,I,rfl,q⟩
theorem Zz {T:String} {f:V→Hp→Bool→Prop} (hf:∀ x H b,f x H b→∃ t,TyOf X.K H x t∧PySem.W.kitOne X.K t (.type T) = some b) :
  Ji X (.builtin "isinstance") (fun xs H Q=>∃ x b,xs = [x,.ty T]∧f x H b∧Q (.bl b) H):=by
 intro pins s σ H xs us Q I r h
 obtain ⟨x,b,rfl,hx,q⟩:=h
 obtain ⟨u,w',rfl,r1,r2⟩:=Z9b r
 cases (show w' = Value.type T from r2)
 obtain ⟨t,ty,e⟩:=hf x H b hx
 exact Z4j I r1 ty e fun tk=>⟨.bl b,H,I.tok _,rfl,q⟩
def isT (T:String):V→Hp→Bool→Prop:=fun x H b=>match x with
 | .non=>b = (T == "NoneType")
 | .bl _=>b = (T == "bool" || T == "int")
 | .int _=>b = (T == "int")
 | .str _=>b = (T == "str")
 | .ref a=>(∃ xs,H a = some (.tup xs)∧b = (T == "tuple")) ∨ (∃ xs,H a = some (.lst xs)∧b = (T == "list"))
 | _=>False
theorem Xk {K:PySem.W.Frag} {T:String} (hT:T = "bool" ∨ T = "int" ∨ T = "str" ∨ T = "tuple" ∨ T = "list"):∀ x H b,isT T x H b→∃ t,TyOf K H x t∧PySem.W.kitOne K t (.type T) = some b:=by
 intro x H b h
 cases x with
 | non=>refine ⟨_,.non,?_⟩; rcases hT with rfl | rfl | rfl | rfl | rfl <;> cases h <;> rfl
 | bl y=>refine ⟨_,.bl y,?_⟩; rcases hT with rfl | rfl | rfl | rfl | rfl <;> cases h <;> rfl
 | int i=>refine ⟨_,.int i,?_⟩; rcases hT with rfl | rfl | rfl | rfl | rfl <;> cases h <;> rfl
 | str z=>refine ⟨_,.str z,?_⟩; rcases hT with rfl | rfl | rfl | rfl | rfl <;> cases h <;> rfl
 | ref a =>
  rcases h with ⟨xs,e,h⟩ | ⟨xs,e,h⟩
  ·refine ⟨_,.tup e,?_⟩; rcases hT with rfl | rfl | rfl | rfl | rfl <;> cases h <;> rfl
  ·refine ⟨_,.lst e,?_⟩; rcases hT with rfl | rfl | rfl | rfl | rfl <;> cases h <;> rfl
 | _=>exact (show False from h).elim
end
end L2
namespace Seek
open PySem PySem.Spec PyProof.Rows L2
structure Own (P:Program) (w:World) (K:PySem.W.Frag) (mg:Str→Option Value) (base:Heap) (k:Nat) (x:Str) (ps:List Str) (sp:Sp):Prop where
 ex:∃ f fd,FnOk P w K mg base CX0 k f fd ps sp∧mg x = some (.ref f)∧PySem.W.keepIn K (.ref f) = true∧Binds K fd ps []
theorem Own.mono {P:Program} {w:World} {K:PySem.W.Frag} {mg:Str→Option Value} {base:Heap} {j k:Nat} {x:Str} {ps:List Str} {sp:Sp} (O:Own P w K mg base j x ps sp) (h:j ≤ k):Own P w K mg base k x ps sp:=by
 obtain ⟨f,fd,F,r⟩:=O.ex
 exact ⟨f,fd,F.mono h,r⟩
theorem Zo {X:Cx} {k:Nat} {x:Str} {ps:List Str} {sp:Sp} {p pos:Pos} {e:Expr} {es:List Expr} {t:TA} (O:Own X.prog X.w X.K X.mg X.base k x ps sp) (hr:Room k X.A) (hg:Gl X x) (ha:PA X (e :: es) t)
  (hdb:(x == ("__debug__":Str)) = false:=by decide) (he:starEach (e :: es) X.env = (false,eval e X.env) :: starEach es X.env:=by rfl) (hpl:(backTo pos (starEach es X.env)).any (·.1) = false:=by rfl) :
  PE X (.Call (.Name x p) (e :: es) [] pos) (Z9e sp [] E0 t):=by
 obtain ⟨f,fd,F,hm,hk,hb⟩:=O.ex
 exact Z85 F hr hg hm hk hb .nil Z3v ha hdb he hpl
structure Blt (mg:Str→Option Value):Prop where
 b_len:mg "len" = none
 b_range:mg "range" = none
 b_sum:mg "sum" = none
 b_all:mg "all" = none
 b_ord:mg "ord" = none
 b_max:mg "max" = none
 b_min:mg "min" = none
 b_int:mg "int" = none
 b_list:mg "list" = none
 b_tuple:mg "tuple" = none
 b_str:mg "str" = none
 b_bool:mg "bool" = none
 b_isinstance:mg "isinstance" = none
structure Gro (S:List Addr) (H H':Hp):Prop where
 keep:∀ b o,H b = some o→b ∉ S→H' b = some o
 tups:∀ b xs,H b = some (.tup xs)→H' b = some (.tup xs)
theorem Gro.refl {S:List Addr} {H:Hp}:Gro S H H:=⟨fun _ _ h _=>h,fun _ _ h=>h⟩
theorem Gro.trans {S:List Addr} {H H1 H2:Hp} (a:Gro S H H1) (b:Gro S H1 H2):Gro S H H2:=⟨fun c o h hc=>b.keep c o (a.keep c o h hc) hc,fun c xs h=>b.tups c xs (a.tups c xs h)⟩
theorem Gro.mono {S S':List Addr} {H H':Hp} (a:Gro S H H') (h:∀ b ∈ S,b ∈ S'):Gro S' H H':=⟨fun c o q hc=>a.keep c o q fun z=>hc (h c z),a.tups⟩
theorem Gro.new {S:List Addr} {H:Hp} {p:Addr} (h:H p = none) (o:HO):Gro S H (upd H p o):=⟨fun b u q _=>by rw [Zf (Z7 q h)]; exact q,fun b xs q=>by rw [Zf (Z7 q h)]; exact q⟩
theorem Gro.set {S:List Addr} {H:Hp} {p:Addr} {xs:List V} (hp:p ∈ S) (h:H p = some (.lst xs)) (o:HO):Gro S H (upd H p o) :=
 ⟨fun b u q hb=>by rw [Zf (fun z=>hb (by rw [z]; exact hp))]; exact q,fun b ys q=>by rw [Zf (Z61 q h (by intro z; cases z))]; exact q⟩
def BoxAt (H:Hp) (b:Addr):Prop:=∃ ns:List Int,H b = some (.lst (ns.map V.int))∧ns.length ≤ 63
def LetAt (H:Hp) (l:Addr):Prop:=∃ x y z:Str,H l = some (.lst [.str x,.str y,.str z])∧x.length = 1∧y.length = 1∧z.length = 1
theorem BoxAt.ne_let {H:Hp} {b l:Addr} (h:BoxAt H b) (h':LetAt H l):b ≠ l:=by
 obtain ⟨ns,e,_⟩:=h
 obtain ⟨x,y,z,e',_⟩:=h'
 refine Z61 e e' fun q=>?_
 have q':ns.map V.int = [.str x,.str y,.str z]:=by injection q
 cases ns with
 | nil=>cases q'
 | cons n r=>rw [List.map_cons] at q'; injection q' with q1 _; cases q1
theorem LetAt.gro {S:List Addr} {H H':Hp} {l:Addr} (h:LetAt H l) (g:Gro S H H') (hl:l ∉ S):LetAt H' l:=by
 obtain ⟨x,y,z,e,r⟩:=h
 exact ⟨x,y,z,g.keep _ _ e hl,r⟩
theorem BoxAt.gro {S:List Addr} {H H':Hp} {l:Addr} (h:BoxAt H l) (g:Gro S H H') (hl:l ∉ S):BoxAt H' l:=by
 obtain ⟨x,e,r⟩:=h
 exact ⟨x,g.keep _ _ e hl,r⟩
theorem LetAt.new {H:Hp} {l p:Addr} {o:HO} (h:LetAt H l) (hp:H p = none):LetAt (upd H p o) l:=h.gro (S:=[]) (Gro.new hp o) (by simp)
theorem BoxAt.new {H:Hp} {l p:Addr} {o:HO} (h:BoxAt H l) (hp:H p = none):BoxAt (upd H p o) l:=h.gro (S:=[]) (Gro.new hp o) (by simp)
theorem Zak {x y z:Str} {i:Int} (h0:0 ≤ i) (h1:i < 3) (hx:x.length = 1) (hy:y.length = 1) (hz:z.length = 1):∃ s:Str,s.length = 1∧atI [V.str x,V.str y,V.str z] i = some (.str s):=by
 have:i = 0 ∨ i = 1 ∨ i = 2:=by omega
 rcases this with rfl | rfl | rfl
 ·exact ⟨x,hx,rfl⟩
 ·exact ⟨y,hy,rfl⟩
 ·exact ⟨z,hz,rfl⟩
theorem Yy {n:Nat} (h:n ≤ 1000):n ≤ sizeLine:=Nat.le_of_lt (Y7 h)
inductive How where | much | little | keep
 deriving DecidableEq
def How.text:How→Str
 | .much => "much" | .little => "little" | .keep => "keep"
inductive Lk where | once | ahead | notahead | behind | notbehind
 deriving DecidableEq
def Lk.text:Lk→Str
 | .once => "once" | .ahead => "ahead" | .notahead => "notahead" | .behind => "behind" | .notbehind => "notbehind"
inductive Hd where
 | sign (s:Str) | any | inn (rs:List (Str × Str)) | out (rs:List (Str × Str)) | beg | fin | row | alt
 | times (lo:Int) (hi:Option Int) (how:How) | grp (k:Int) | again (k:Int) | hav (k:Int) | look (w:Lk)
inductive Pat where
 | node (h:Hd) (ks:List Pat)
def Hd.word:Hd→Str
 | .sign _ => "sign" | .any => "any" | .inn _ => "in" | .out _ => "out" | .beg => "begin" | .fin => "end" | .row => "row" | .alt => "or"
 | .times _ _ _ => "times" | .grp _ => "group" | .again _ => "again" | .hav _ => "have" | .look w=>w.text
def Z98:Option Int→V
 | some i=>.int i
 | none=>.non
def RunsAt (H:Hp) (r:Addr) (rs:List (Str × Str)):Prop:=∃ vs:List V,H r = some (.tup vs)∧Paired (fun (v:V) (p:Str × Str)=>p.1.length = 1∧p.2.length = 1∧∃ a,v = .ref a∧H a = some (.tup [.str p.1,.str p.2])) vs rs∧rs.length ≤ 20
def Lay (H:Hp) (a:Addr):Hd→List V→Prop
 | .sign s,kv=>kv = []∧s.length = 1∧H a = some (.tup [.str "sign",.str s])
 | .any,kv=>kv = []∧H a = some (.tup [.str "any"])
 | .inn rs,kv=>kv = []∧∃ r,H a = some (.tup [.str "in",.ref r])∧RunsAt H r rs
 | .out rs,kv=>kv = []∧∃ r,H a = some (.tup [.str "out",.ref r])∧RunsAt H r rs
 | .beg,kv=>kv = []∧H a = some (.tup [.str "begin"])
 | .fin,kv=>kv = []∧H a = some (.tup [.str "end"])
 | .row,kv=>kv.length ≤ 10∧∃ r,H a = some (.tup [.str "row",.ref r])∧H r = some (.tup kv)
 | .alt,kv=>1 ≤ kv.length∧kv.length ≤ 10∧∃ r,H a = some (.tup [.str "or",.ref r])∧H r = some (.tup kv)
 | .times lo hi how,kv=>(0 ≤ lo∧lo ≤ 20∧∀ h,hi = some h→0 ≤ h∧h ≤ 20)∧∃ k,kv = [k]∧H a = some (.tup [.str "times",.int lo,Z98 hi,.str how.text,k])
 | .grp n,kv=>(0 ≤ n∧n ≤ 20)∧∃ k,kv = [k]∧H a = some (.tup [.str "group",.int n,k])
 | .again n,kv=>(0 ≤ n∧n ≤ 20)∧kv = []∧H a = some (.tup [.str "again",.int n])
 | .hav n,kv=>(0 ≤ n∧n ≤ 20)∧∃ y z,kv = [y,z]∧H a = some (.tup [.str "have",.int n,y,z])
 | .look w,kv=>∃ k,kv = [k]∧H a = some (.tup [.str w.text,k])
def PatAt (H:Hp):Nat→V→Pat→Prop
 | 0,_,_=>False
 | d + 1,v,.node h ks=>∃ a kv,v = .ref a∧Lay H a h kv∧Paired (PatAt H d) kv ks
theorem RunsAt.mono {H H':Hp} (t:∀ b xs,H b = some (.tup xs)→H' b = some (.tup xs)) {r:Addr} {rs:List (Str × Str)} (h:RunsAt H r rs):RunsAt H' r rs:=by
 obtain ⟨vs,e,p,z⟩:=h
 exact ⟨vs,t _ _ e,Paired.mapP p fun v q ⟨h1,h2,a,e1,e2⟩=>⟨h1,h2,a,e1,t _ _ e2⟩,z⟩
theorem Lay.mono {H H':Hp} (t:∀ b xs,H b = some (.tup xs)→H' b = some (.tup xs)) {a:Addr} {kv:List V}:∀ {h:Hd},Lay H a h kv→Lay H' a h kv
 | .sign _,⟨x,y,z⟩=>⟨x,y,t _ _ z⟩
 | .any,⟨x,z⟩=>⟨x,t _ _ z⟩
 | .inn _,⟨x,r,z,q⟩=>⟨x,r,t _ _ z,q.mono t⟩
 | .out _,⟨x,r,z,q⟩=>⟨x,r,t _ _ z,q.mono t⟩
 | .beg,⟨x,z⟩=>⟨x,t _ _ z⟩
 | .fin,⟨x,z⟩=>⟨x,t _ _ z⟩
 | .row,⟨x,r,z,q⟩=>⟨x,r,t _ _ z,t _ _ q⟩
 | .alt,⟨x,y,r,z,q⟩=>⟨x,y,r,t _ _ z,t _ _ q⟩
 | .times _ _ _,⟨x,k,y,z⟩=>⟨x,k,y,t _ _ z⟩
 | .grp _,⟨x,k,y,z⟩=>⟨x,k,y,t _ _ z⟩
 | .again _,⟨x,y,z⟩=>⟨x,y,t _ _ z⟩
 | .hav _,⟨x,k,l,y,z⟩=>⟨x,k,l,y,t _ _ z⟩
 | .look _,⟨k,y,z⟩=>⟨k,y,t _ _ z⟩
theorem PatAt.mono {H H':Hp} (t:∀ b xs,H b = some (.tup xs)→H' b = some (.tup xs)):∀ {d:Nat} {v:V} {p:Pat},PatAt H d v p→PatAt H' d v p
 | 0,_,_,h=>h.elim
 | d + 1,v,.node h ks,⟨a,kv,e,l,p⟩=>⟨a,kv,e,l.mono t,Paired.mapP p fun _ _ q=>PatAt.mono t q⟩
theorem PatAt.deep {H:Hp}:∀ {d d':Nat} {v:V} {p:Pat},PatAt H d v p→d ≤ d'→PatAt H d' v p
 | 0,_,_,_,h,_=>h.elim
 | d + 1,0,_,_,_,hd=>absurd hd (by omega)
 | d + 1,d' + 1,v,.node h ks,⟨a,kv,e,l,p⟩,hd=>⟨a,kv,e,l,Paired.mapP p fun _ _ q=>PatAt.deep q (by omega)⟩
theorem Lay.head {H:Hp} {a:Addr} {kv:List V}:∀ {h:Hd},Lay H a h kv→∃ r,H a = some (.tup (.str h.word :: r))
 | .sign _,⟨x,y,z⟩=>⟨_,z⟩
 | .any,⟨x,z⟩=>⟨_,z⟩
 | .inn _,⟨x,r,z,q⟩=>⟨_,z⟩
 | .out _,⟨x,r,z,q⟩=>⟨_,z⟩
 | .beg,⟨x,z⟩=>⟨_,z⟩
 | .fin,⟨x,z⟩=>⟨_,z⟩
 | .row,⟨x,r,z,q⟩=>⟨_,z⟩
 | .alt,⟨x,y,r,z,q⟩=>⟨_,z⟩
 | .times _ _ _,⟨x,k,y,z⟩=>⟨_,z⟩
 | .grp _,⟨x,k,y,z⟩=>⟨_,z⟩
 | .again _,⟨x,y,z⟩=>⟨_,z⟩
 | .hav _,⟨x,k,l,y,z⟩=>⟨_,z⟩
 | .look _,⟨k,y,z⟩=>⟨_,z⟩
mutual
def Pat.groups:Pat→Int
 | .node h ks=>(match h with | .grp _=>1 | _=>0) + Z4r ks
def Z4r:List Pat→Int
 | []=>0
 | k :: ks=>k.groups + Z4r ks
end
mutual
def Pat.size:Pat→Nat
 | .node _ ks=>1 + Zt ks
def Zt:List Pat→Nat
 | []=>0
 | k :: ks=>k.size + Zt ks
end
theorem Yd (h:Hd) (ks:List Pat):(Pat.node h ks).size = 1 + Zt ks:=by rw [Pat.size]
theorem Wl (xs ys:List Pat):Zt (xs ++ ys) = Zt xs + Zt ys:=by
 induction xs with
 | nil=>simp [Zt]
 | cons k ks ih=>rw [List.cons_append,Zt,Zt,ih]; omega
theorem Xg (p:Pat):Zt [p] = p.size:=by simp [Zt]
theorem U8 {α β:Type} {F:α→β→Prop}:∀ {xs:List α} {ys:List β},Paired F xs ys→∀ y ∈ ys,∃ x ∈ xs,F x y
 | _,_,.nil,y,hy=>by simp at hy
 | _,_,.cons r t,y,hy=>by
  rcases List.mem_cons.mp hy with rfl | hy
  ·exact ⟨_,by simp,r⟩
  ·obtain ⟨x,hx,h⟩:=U8 t y hy
   exact ⟨x,by simp [hx],h⟩
def B (n:Nat):Nat:=3 ^ (n + 1)
theorem sz {n:Nat} (h:Nat.ble n 1000 = true:=by rfl):n ≤ sizeLine:=Yy (Nat.le_of_ble_eq_true h)
theorem at0 {x:V} {r:List V}:atI (x :: r) 0 = some x:=Xy (j:=0) rfl
theorem ix0 {x:V} {r:List V}:ixN (x :: r).length 0 = some 0:=by
 unfold ixN
 rw [if_pos (Int.le_refl 0),if_pos (by rw [List.length_cons]; omega)]
 rfl
theorem Gro.tup {S:List Addr} {H H':Hp} {p:Addr} {o:HO} (g:Gro S H H') (hp:H' p = none):Gro S H (upd H' p o):=g.trans (Gro.new hp o)
section
variable {K:PySem.W.Frag}
theorem Zcd {H:Hp} {l:Addr} {r:Int} {Q:V→Hp→Prop} (h:LetAt H l) (h0:0 ≤ r) (h1:r < 3) (q:∀ s:Str,s.length = 1→Q (.str s) H):Zb3 K (.ref l) (.int r) H Q:=by
 obtain ⟨x,y,z,hl,hx,hy,hz⟩:=h
 obtain ⟨s,hs,e⟩:=Zak h0 h1 hx hy hz
 exact ⟨l,_,_,_,rfl,rfl,SqL.of hl,e,q s hs⟩
end
theorem Ux {X:Cx} {sts:List Stmt} {t:TS} (t2:TS) (h:PSs X sts t) (imp:∀ D σ H,t2 D σ H→t D σ H):PSs X sts t2:=fun pins s σ H D I q=>h pins s σ H D I (imp D σ H q)
theorem Tv {H H':Hp} {d:Nat} (t:∀ b xs,H b = some (.tup xs)→H' b = some (.tup xs)) {vs:List V} {ps:List Pat} (h:Paired (PatAt H d) vs ps):Paired (PatAt H' d) vs ps:=Paired.mapP h fun _ _ q=>q.mono t
section
variable {P:Program} {w:World} {K:PySem.W.Frag} {mg:Str→Option Value} {base:Heap} {f:Addr} {fd:FuncData}
structure Def (K:PySem.W.Frag) (mg:Str→Option Value) (x:Str) (st:Stmt) (ps:List Str):Prop where
 ex:∃ f fd,Fun K x x st f fd∧mg x = some (.ref f)∧Binds K fd ps []
theorem Def.own {x:Str} {st:Stmt} {ps:List Str} {k:Nat} {sp:Sp} (D:Def K mg x st ps) (h:∀ f fd,Fun K x x st f fd→FnOk P w K mg base CX0 k f fd ps sp):Own P w K mg base k x ps sp:=by
 obtain ⟨f,fd,F,m,b⟩:=D.ex
 exact ⟨f,fd,h f fd F,m,F.kp,b⟩
theorem FnOk.never {ps:List Str} {k:Nat} {sp:Sp} (no:∀ vs H Q E,¬ sp vs H Q E):FnOk P w K mg base CX0 k f fd ps sp :=
 ⟨fun vs H Q E h=>absurd h (no vs H Q E),fun A outer s H args us vs Q E _ _ _ _ h=>absurd h (no vs H Q E)⟩
end
theorem X7 {α β:Type} {F:α→β→Prop}:∀ {xs:List α} {ys:List β} (n:Nat),Paired F xs ys→Paired F (xs.take n) (ys.take n)
 | _,_,0,_=>.nil
 | _,_,_ + 1,.nil=>.nil
 | _,_,n + 1,.cons r t=>.cons r (X7 n t)
theorem ixT {K:PySem.W.Frag} {σ:L2.St} {H:Hp} {Q:VK} {i:Nat} {p:Addr} {xs:List V} {j:Int} {v:V} (h:H p = some (.tup xs)) (e:atI xs j = some v) (q:Q v H) (hs:σ[i]? = some (some (V.ref p)):=by rfl):tOp (Z3k K) (Jk i) (tC (.int j)) σ H Q:=⟨_,hs,p,xs,j,v,rfl,rfl,SqT.of h,e,q⟩
theorem ixL {K:PySem.W.Frag} {σ:L2.St} {H:Hp} {Q:VK} {i:Nat} {p:Addr} {xs:List V} {j:Int} {v:V} (h:H p = some (.lst xs)) (e:atI xs j = some v) (q:Q v H) (hs:σ[i]? = some (some (V.ref p)):=by rfl):tOp (Zb3 K) (Jk i) (tC (.int j)) σ H Q:=⟨_,hs,p,xs,j,v,rfl,rfl,SqL.of h,e,q⟩
theorem exA {α:Type} {A R:α→Prop} {v:α} (e:A v) (h:R v):∃ x,A x∧R x:=⟨v,e,h⟩
theorem exB {α β:Type} {A:α→Prop} {B:β→Prop} {R:α→β→Prop} {a:α} {b:β} (e:A a) (e':B b) (h:R a b):∃ x y,A x∧B y∧R x y:=⟨a,b,e,e',h⟩
theorem genD {t:TS} {D':Ends} {σ:L2.St} {H:Hp} {Q:VK} (h:∀ D:Ends,D.rt = Q→t D σ H) (e:D'.rt = Q:=by rfl):t D' σ H:=h D' e
theorem pS {X:Cx} (i:Nat) {x:Str} {e:PySem.Expr} {te:TE} {pos pos':Pos} (hN:X.N.Nodup) (he:PE X e te) (hi:X.N[i]? = some x:=by rfl) (hx:Loc X.env.scope x:=by first | exact .inl rfl | exact .inr rfl) (hs:swapsWith e (some (.Name x pos')) pos.line X.env = pure false:=by rfl) (hf:X.fn x = true ∨ X.env.scope.names.lookup x = some .local:=by first | exact .inl rfl | exact .inr rfl | assumption):PS X (.Assign [.Name x pos'] e pos) (Z9f te (Z0a i)):=Za2 hN hi hx he hs hf
theorem pN {X:Cx} (i:Nat) {x:Str} {pos:Pos} (hN:X.N.Nodup) (hi:X.N[i]? = some x:=by rfl) (hx:Loc X.env.scope x:=by first | exact .inl rfl | exact .inr rfl) (hf:X.fn x = true ∨ X.env.scope.names.lookup x = some .local:=by first | exact .inl rfl | exact .inr rfl | assumption):PG X (.Name x pos) (Z0a i):=Z3s hN hi hx hf
theorem fsc {N P:List Str} {sc:Scope} (a:sc.kind = .function:=by rfl) (b:sc.isCoroutine = false:=by rfl) (c:sc.isGenerator = false:=by rfl) (d:N.Nodup:=by decide +kernel) (e:N.take P.length = P:=by rfl) (f:∀ x ∈ P,sc.names.lookup x = some .local ∨ sc.names.lookup x = some .cell:=by decide +kernel) (g:∀ y ∈ sc.names,y.2 ≠ .free:=by decide +kernel):FnScope N P sc:=⟨a,b,c,d,e,f,g⟩
theorem ltX {Y:Cx} {b:List Stmt} {D:Ends} {σ:L2.St} {H:Hp} (h:let X:=Y; ∃ t,PSs X b t∧t D σ H):∃ t,PSs Y b t∧t D σ H:=h
inductive Wd where
 | sign | any | inn | out | beg | fin | row | alt | times | grp | again | hav | once | ahead | notahead | behind | notbehind
def Wd.text:Wd→Str
 | .sign => "sign" | .any => "any" | .inn => "in" | .out => "out" | .beg => "begin" | .fin => "end" | .row => "row" | .alt => "or" | .times => "times" | .grp => "group" | .again => "again" | .hav => "have"
 | .once => "once" | .ahead => "ahead" | .notahead => "notahead" | .behind => "behind" | .notbehind => "notbehind"
def Hd.wd:Hd→Wd
 | .sign _=>.sign | .any=>.any | .inn _=>.inn | .out _=>.out | .beg=>.beg | .fin=>.fin | .row=>.row | .alt=>.alt
 | .times _ _ _=>.times | .grp _=>.grp | .again _=>.again | .hav _=>.hav | .look .once=>.once | .look .ahead=>.ahead | .look .notahead=>.notahead | .look .behind=>.behind | .look .notbehind=>.notbehind
theorem Hd.word_wd (h:Hd):h.word = h.wd.text:=by
 cases h with
 | look lk=>cases lk <;> rfl
 | _=>rfl
def isw (x y:Str):Bool:=decide (V.str x = V.str y)
theorem Zd {c A B:Prop} [Decidable c] (h:¬ c) (b:B):if c then A else B:=by rw [if_neg h]; exact b
theorem Zq {c A B:Prop} [Decidable c] (h:c) (a:A):if c then A else B:=by rw [if_pos h]; exact a
theorem Zx {α β:Type} {F:α→β→Prop}:∀ {xs:List α} {ys:List β} {i:Nat} {x:α},Paired F xs ys→xs[i]? = some x→∃ y,ys[i]? = some y∧F x y
 | _,_,_,_,.nil,e=>by simp at e
 | _,_,0,_,.cons r _,e=>by simp at e; subst e; exact ⟨_,rfl,r⟩
 | _,_,i + 1,x,.cons _ t,e=>by
  obtain ⟨y,h1,h2⟩:=Zx (i:=i) (x:=x) t (by simpa using e)
  exact ⟨y,by simpa using h1,h2⟩
theorem Yb {α:Type} {l:List α} {i:Nat} {x:α} (h:l[i]? = some x):l.take (i + 1) = l.take i ++ [x]:=by rw [List.take_add_one,h]; rfl
def mxL (ns:List Int):Int:=ns.getD (argBest (fun i j=>decide (ns.getD i 0 > ns.getD j 0)) (ns.length - 1)) 0
theorem Z15 {ps:List (Int × Tok)} {ns:List Int} (e:ps.map (·.1) = ns):numAt ps.toArray = fun i=>ns.getD i 0:=by
 funext i
 subst e
 simp [numAt,List.getD_eq_getElem?_getD,List.getElem?_map]
theorem Z8q {ps:List (Int × Tok)} {ns:List Int} (e:ps.map (·.1) = ns) {k:Nat} {v:Value} (h:(intItems ps.toArray)[k]? = some v):∃ t,v = .int (ns.getD k 0) t:=by
 obtain ⟨t,q⟩:=intItems_at h
 rw [Z15 e] at q
 exact ⟨t,q⟩
section
variable {X:Cx}
end
def Za3:V→Bool
 | .non=>true | .bl _=>true | .int _=>true | .str _=>true | _=>false
def Wg (H:Hp):Nat→V→V→Prop
 | 0,_,_=>False
 | n + 1,x,y=>(x = y∧Za3 x = true) ∨ (∃ (a b:Addr) (xs ys:List V),x = .ref a∧y = .ref b∧H a = some (.tup xs)∧H b = some (.tup ys)∧xs.length ≤ 1000000∧Paired (Wg H n) xs ys)
end Seek
namespace L2
open PySem PySem.Spec PyProof.Rows
section
variable {κ:Type} [DecidableEq κ]
def Z2v (kvs:List (κ × V)) (k:κ):Option V:=(kvs.find? fun kv=>decide (kv.1 = k)).map (·.2)
theorem Z5b {p:κ × V} {r:List (κ × V)} {k:κ} (e:p.1 = k):Z2v (p :: r) k = some p.2:=by simp [Z2v,List.find?_cons,e]
theorem Z5c {p:κ × V} {r:List (κ × V)} {k:κ} (e:¬ p.1 = k):Z2v (p :: r) k = Z2v r k:=by simp [Z2v,List.find?_cons,e]
theorem RelO.getD {o:Option V} {u:Option Value} {d:V} {d':Value} (r:RelO o u) (rd:RelV d d'):RelV (o.getD d) (u.getD d'):=by
 cases o with
 | none=>cases u with
  | none=>exact rd
  | some _=>exact (show False from r).elim
 | some _=>cases u with
  | none=>exact (show False from r).elim
  | some _=>exact r
theorem KV.val {kvs:List (κ × V)} {vs:List (κ × Value)} (r:KV kvs vs) (k:κ):RelO (Z2v kvs k) (valueAt vs k):=by
 unfold KV at r
 induction r with
 | nil=>exact True.intro
 | @cons p q ps qs h t ih =>
  obtain ⟨h1,h2⟩:=h
  by_cases e:p.1 = k
  ·have e':q.1 = k:=h1.symm.trans e
   have b:valueAt (q :: qs) k = some q.2:=by simp [valueAt,List.find?_cons,e']
   rw [Z5b e,b]; exact h2
  ·have e':¬ q.1 = k:=fun z=>e (h1.trans z)
   have b:valueAt (q :: qs) k = valueAt qs k:=by simp [valueAt,List.find?_cons,e']
   rw [Z5c e,b]; exact ih
theorem KV.length {kvs:List (κ × V)} {vs:List (κ × Value)} (r:KV kvs vs):kvs.length = vs.length:=Paired.length r
end
theorem Zbq {P:Program} {w:World} {k:Key} {u:Value} (r:RelV (kV k) u):(X8 P w).is k u = true:=by
 cases k with
 | inl i=>obtain ⟨t,e⟩:=(show ∃ t,u = Value.int i t from r); subst e; exact Z03 P w i t
 | inr x=>obtain ⟨t,e⟩:=(show ∃ t,u = Value.str x t from r); subst e; exact Z02 P w x t
section
variable {P:Program} {w:World} {H:Hp} {h:Heap} {a:Addr}
end
section
variable {X:Cx} {pins:List (Addr × Obj)} {σ:St} {H:Hp} {s:Shared} {a:Addr} {y v:V} {u r:Value} {o:Option V} {A:Around} {E:Value→Shared→Prop}
end
section
variable {X:Cx} {pins:List (Addr × Obj)} {σ:St} {H:Hp} {s:Shared} {a:Addr} {kvs:List (Key × V)} {k:Key} {u:Value} {A:Around} {E:Value→Shared→Prop}
end
def Zcg (i:Expr):Prop:=∀ ov iv,subscripted i false ov iv = operate [ov,iv] (getItem ov iv)
theorem Z7l {prog:Program} {w:World} {A:Around} {E:Value→Shared→Prop} {s:Shared} {env:Env} {value slice:Expr} {pos:Pos} {T id:String} {Q:Value→Shared→Prop}
  (hl:typeLookup (.type T) "__getitem__" = pure (some (.builtin id))) (hs:Zcg slice)
  (h:wpAny (model prog w) A (eval value env) (fun o s₁=>wpAny (model prog w) A (eval slice env) (fun i s₂=>s₂.TypeIs o T∧wpAny (model prog w) A (getItem o i) Q E s₂) E s₁) E s) :
  wpAny (model prog w) A (eval (.Subscript value slice pos) env) Q E s:=by
 refine Subscript_ (wpAny_mono h (fun o s₁ h₁=>wpAny_mono h₁ (fun i s₂ h₂=>?_) fun _ _ x=>x) fun _ _ x=>x)
 obtain ⟨hT,h₂⟩:=h₂
 unfold subscriptTail
 refine wpAny_bind ?_
 rw [getitemInPython_of_ne hT.not_modules]
 refine wpAny_bind (wpAny_specialOf hT hl ?_)
 have fin:wpAny (model prog w) A (subscripted slice false o i) (fun r s₃=>wpAny (model prog w) A (letTemporaryGo value o r >>= fun _=>pure r) Q E s₃) E s₂:=by
  rw [hs o i]
  exact wpAny_operating (wpAny_mono h₂ (fun r s₃ h₃=>wpAny_bind (wpAny_letTemporaryGo (wpAny_pure h₃))) fun _ _ x=>x)
 first
  | exact wpAny_pure (wpAny_bind fin)
  | exact wpAny_bind (wpAny_pure (wpAny_bind fin))
  | exact wpAny_bind fin
section
variable {X:Cx} {o i e value:Expr} {pos pos' tpos:Pos} {td ty tv:TE}
end
section
variable {X:Cx} {pos:Pos}
end
def Zb0 (w:World) (e:DictEntry) (kv:Key × V):Prop:=Z06 kv.1 e.key = true∧e.hash = Zce w kv.1∧RelV kv.2 e.val
def DcK (K:PySem.W.Frag) (w:World) (a:Addr) (kvs:List (Key × V)):Prop:=(a == sysModules) = false∧∃ (o:Obj) (es:Array DictEntry) (ep:Nat),K.lookup a = some o∧o.ExactDict∧o.data = .dict es ep∧Paired (Zb0 w) es.toList kvs∧(kvs.map (·.1)).Nodup
theorem Uh {P:Program} {w:World}:∀ {es:List DictEntry} {kvs:List (Key × V)},Paired (Zb0 w) es kvs→∃ vs:List (Key × Value),KV kvs vs∧PySem.Pairs (X8 P w) es vs∧vs.map (·.1) = kvs.map (·.1)∧∀ e ∈ es,∃ k,(X8 P w).is k e.key = true∧e.hash = (X8 P w).hash k
 | _,_,.nil=>⟨[],.nil,.nil,rfl,fun e he=>by simp at he⟩
 | e :: es,kv :: kvs,.cons ⟨h1,h2,h3⟩ t=>by
  obtain ⟨vs,r,p,m,k⟩:=Uh (P:=P) t
  refine ⟨(kv.1,e.val) :: vs,.cons ⟨rfl,h3⟩ r,.cons h1 rfl p,by simp [m],fun e' he'=>?_⟩
  rcases List.mem_cons.mp he' with rfl | he'
  ·exact ⟨kv.1,h1,h2⟩
  ·exact k e' he'
section
variable {X:Cx} {pins:List (Addr × Obj)} {σ:St} {H:Hp} {s:Shared} {a:Addr} {kvs:List (Key × V)}
theorem Inv.dcK (I:Inv X pins σ H s) (h:DcK X.K X.w a kvs):∃ vs:List (Key × Value),KV kvs vs∧s.heap.DictOf (X8 X.prog X.w) a vs:=by
 obtain ⟨_,o,es,ep,l,x,d,p,nd⟩:=h
 obtain ⟨vs,r,pr,m,k⟩:=Uh (P:=X.prog) p
 exact ⟨vs,r,o,es,ep,I.kIn a o l,x,d,fun e he=>k e (by simpa using he),pr,by rw [m]; exact nd⟩
end
def rCG (K:PySem.W.Frag) (w:World):R2:=fun x y H Q=>∃ a kvs k v,x = .ref a∧DcK K w a kvs∧y = kV k∧Z2v kvs k = some v∧Q v H
def Zbd (K:PySem.W.Frag) (w:World) (td ty:TE):TE:=tOp (rCG K w) td ty
section
variable {X:Cx} {o i:Expr} {pos:Pos} {td ty:TE}
theorem Js (ho:PE X o td) (hi:PE X i ty) (hs:Zcg i):PE X (.Subscript o i pos) (Zbd X.K X.w td ty):=by
 intro pins s σ H Q I h
 refine Z7l PySem.F.slot_dict_getitem.lookup hs (thn (ho pins s σ H _ I h) fun u s1 ⟨x,H1,I1,rx,q1⟩=>thn (hi pins s1 σ H1 _ I1 q1) fun iv s2 ⟨y,H2,I2,ry,a,kvs,k,v,ex,dc,ey,hv,q2⟩=>?_)
 subst ex ey
 obtain rfl:u = Value.ref a:=rx
 obtain ⟨vs,rel,dd⟩:=I2.dcK dc
 obtain ⟨w',hw,rw'⟩:=RelO.some_of (v:=v) (o:=valueAt vs k) (by rw [← hv]; exact rel.val k)
 exact ⟨dd.typeIs,wpAny_getItem_of (Zbq ry) dd.mapOf hw ⟨v,H2,I2.tok _,rw',q2⟩⟩
end
theorem dcK_of {K:PySem.W.Frag} {w:World} {a:Addr} {es:Array DictEntry} {ep:Nat} {kvs:List (Key × V)} (l:K.lookup a = some ⟨.type "dict",none,.dict es ep,#[]⟩) (hd:(a == sysModules) = false) (p:Paired (Zb0 w) es.toList kvs) (nd:(kvs.map (·.1)).Nodup):DcK K w a kvs :=
 ⟨hd,_,es,ep,l,⟨rfl,rfl,rfl⟩,rfl,p,nd⟩
theorem Wc {w:World} {h:Int} {x y:Str} {t u:Tok} (e:h = PyData.keyHash w.params x):Zb0 w ⟨h,.str x t,.str y u⟩ (.inr x,.str y):=⟨Vh x t,e,⟨u,rfl⟩⟩
section
variable {X:Cx} {pins:List (Addr × Obj)} {σ:St} {H:Hp} {s:Shared}
end
theorem Vu:∀ {xs:List Str} {us:List Value},Vals (xs.map V.str) us→StrsAre us xs
 | [],_,r=>by cases r; exact .nil
 | x :: xs,_,r=>by
  rw [List.map_cons] at r
  cases r with
  | cons q t =>
   obtain ⟨k,rfl⟩:=q
   exact .cons x k (Vu t)
def Zbj (K:PySem.W.Frag):V→List V→Hp→VK→Prop:=fun x vs H Q=>∃ (sep:Str) (l:Addr) (xs:List Str),x = .str sep∧vs = [.ref l]∧SqL K H l (xs.map V.str)∧(xs.map (·.length)).sum + xs.length * sep.length ≤ 16777216∧Q (.str (Txt.join sep xs)) H
section
variable {X:Cx}
theorem Z8n:MtR X "str.join" (Zbj X.K):=by
 intro pins s σ H x vs v us Q I rx rv h
 obtain ⟨sep,l,xs,rfl,rfl,hl,hz,q⟩:=h
 obtain ⟨t,rfl⟩:=rx
 obtain ⟨u,rfl,ru⟩:=Vals.one rv
 obtain rfl:u = Value.ref l:=ru
 obtain ⟨its,r,pl,_⟩:=I.list hl
 exact join_list pl.isList (by simpa using Vu r) hz fun t' k=>⟨.str (Txt.join sep xs),H,I.tok _,⟨_,rfl⟩,q⟩
end
theorem Z4c (a b:Str):(a ++ b).length = a.length + b.length:=by
 show (a.cps ++ b.cps).size = _
 rw [Array.size_append]
 rfl
open Builtin
theorem Vr:fillsNumberSlot (.type "tuple") "mul" = pure false :=
 PySem.fillsNumberSlot_seq (id := "tuple.__mul__") (r:=some (.builtin "tuple.__rmul__")) F.slot_tuple_mul.lookup (by decide +kernel) F.slot_tuple_rmul.lookup (by decide +kernel)
theorem Z7t:seqRepeat? (.type "tuple") = pure (some (.builtin "tuple.__mul__")):=by
 unfold seqRepeat?
 rw [PySem.seqSlot_of (T := "tuple") (name := "__mul__") (id := "tuple.__mul__") F.slot_tuple_mul.lookup (by decide +kernel),PySem.seqSlot_of (T := "tuple") (name := "__rmul__") (id := "tuple.__rmul__") F.slot_tuple_rmul.lookup (by decide +kernel)]
 rfl
theorem Z5k (a:Int) (t:Tok) (l:Addr) (od:Option Addr) (items:Array Value) (n:Nat) (sl:Array (Option Value)) :
  Meets (Builtin.«int.__rmul__» ⟨[.int a t,.ref l],[]⟩) (fun _ R s=>s.heap.get? l = some ⟨.type "tuple",od,.seq items n,sl⟩∧R (.ok (.ret Value.notImplemented)) s) :=
 .of_wp fun prog w A R s h=>by obtain ⟨hp,g,d,tk,os⟩:=s; obtain ⟨hl,h⟩:=h; wp_walk; exact ⟨_,rfl,h⟩
theorem Z65 (k:Int) (t:Tok) (l:Addr) (od:Option Addr) (items:Array Value) (n:Nat) (sl:Array (Option Value)) (h1:¬ (decide (k < -(2 ^ 63)) || decide (k ≥ 2 ^ 63)) = true) (h2:¬ (items.isEmpty || k == 1) = true) (h3:(decide (k ≤ 0) || items.isEmpty) = true) :
  Meets (Builtin.«tuple.__mul__» ⟨[.ref l,.int k t],[]⟩) (fun _ R s=>s.heap.get? l = some ⟨.type "tuple",od,.seq items n,sl⟩∧R (.ok (.ret (Value.ref s.heap.objs.size))) { s with heap:=s.heap.push { cls:=Value.type "tuple",data:=.seq #[] } }) :=
 .of_wp fun prog w A R s h=>by
  obtain ⟨hp,g,d,tk,os⟩:=s; obtain ⟨hl,h⟩:=h; have f1:=AutoSeq1.idx_int; wp_walk
  rw [if_neg h1]
  wp_walk
  exact ⟨_,rfl,h⟩
theorem Z64 (k:Int) (t:Tok) (l:Addr) (od:Option Addr) (items:Array Value) (n:Nat) (sl:Array (Option Value)) (h1:¬ (decide (k < -(2 ^ 63)) || decide (k ≥ 2 ^ 63)) = true) (h2:(items.isEmpty || k == 1) = true) :
  Meets (Builtin.«tuple.__mul__» ⟨[.ref l,.int k t],[]⟩) (fun _ R s=>s.heap.get? l = some ⟨.type "tuple",od,.seq items n,sl⟩∧R (.ok (.ret (Value.ref l))) s) :=
 .of_wp fun prog w A R s h=>by
  obtain ⟨hp,g,d,tk,os⟩:=s; obtain ⟨hl,h⟩:=h; have f1:=AutoSeq1.idx_int; wp_walk
  rw [if_neg h1]
  wp_walk
  exact ⟨_,rfl,h⟩
theorem Z63 (k:Int) (t:Tok) (l:Addr) (od:Option Addr) (items:Array Value) (n:Nat) (sl:Array (Option Value)) (h1:¬ (decide (k < -(2 ^ 63)) || decide (k ≥ 2 ^ 63)) = true) (h2:¬ (items.isEmpty || k == 1) = true) (h3:¬ (decide (k ≤ 0) || items.isEmpty) = true)
  (h4:¬ (items.size:Int) * k > (2 ^ 63 - 1) / 8) (h5:¬ Tuple.tupleTooMany (items.size * k) = true) (h6:(List.foldl (fun x1 x2=>x1 ++ x2) #[] (List.replicate k.toNat items)).size ≤ sizeLine) :
  Meets (Builtin.«tuple.__mul__» ⟨[.ref l,.int k t],[]⟩) (fun _ R s=>s.heap.get? l = some ⟨.type "tuple",od,.seq items n,sl⟩∧R (.ok (.ret (Value.ref s.heap.objs.size))) { s with heap:=s.heap.push { cls:=Value.type "tuple",data:=.seq (List.foldl (fun x1 x2=>x1 ++ x2) #[] (List.replicate k.toNat items)) } }) :=
 .of_wp fun prog w A R s h=>by
  obtain ⟨hp,g,d,tk,os⟩:=s; obtain ⟨hl,h⟩:=h; have f1:=AutoSeq1.idx_int; wp_walk
  rw [if_neg h1]
  wp_walk
  rw [if_neg h4]
  wp_walk
  exact ⟨_,rfl,h⟩
def Zbi:R2:=fun x y H Q=>∃ a k xs,x = .ref a∧y = .int k∧H a = some (.tup xs)∧0 ≤ k∧xs.length * k.toNat ≤ 1000∧k ≤ 1000 ∧
 (k = 1→Q (.ref a) H)∧((xs = []→k = 1)→k ≠ 1→∀ p,H p = none→Q (.ref p) (upd H p (.tup (List.replicate k.toNat xs).flatten)))∧(xs ≠ [])
section
variable {X:Cx}
theorem Z88:OpR X (binaryOp .Mult) Zbi:=by
 intro pins s σ H x y v u Q I rx ry h
 obtain ⟨a,k,xs,rfl,rfl,hH,h0,hz,hk,q1,q2,hne⟩:=h
 cases rx
 obtain ⟨t,rfl⟩:=ry
 obtain ⟨its,r,⟨o,ho,hc,n,hd⟩,_⟩:=I.tuple (SqT.of hH)
 obtain ⟨oc,od,odt,osl⟩:=o
 cases hc
 cases hd
 have hl:=r.length
 have hlen:0 < its.length:=by
  rw [← hl]
  exact List.length_pos_iff.mpr hne
 have hem:its.toArray.isEmpty = false:=by
  cases its with
  | nil=>simp at hlen
  | cons _ _=>rfl
 have c1:¬ (decide (k < -(2 ^ 63)) || decide (k ≥ 2 ^ 63)) = true:=by simp; omega
 refine wpAny_binaryOp_repeat_ref (T := "tuple") (U := "int") (by decide) ⟨_,ho,rfl⟩ (fun s'=>typeIs_int s' k t) Vr F.fills_int_mul F.slot_int_rmul Z7t F.slot_int_index.lookup
  (call_meets F.slot_int_rmul (typeIs_int s k t) F.entry_int_rmul (F.args_int_rmul_2 _ _) (Z5k k t a od its.toArray n osl) ⟨ho,rfl,⟨_,ho,rfl⟩,?_⟩)
 by_cases e1:k = 1
 ·exact call_meets F.slot_tuple_mul ⟨_,ho,rfl⟩ F.entry_tuple_mul (F.args_tuple_mul_2 _ _) (Z64 k t a od its.toArray n osl c1 (by simp [e1])) ⟨ho,.ref a,H,I,rfl,q1 e1⟩
 have c2:¬ (its.toArray.isEmpty || k == 1) = true:=by rw [hem]; simpa using e1
 have q2':=q2 (fun z=>absurd z hne) e1
 by_cases e0:k = 0
 ·refine call_meets F.slot_tuple_mul ⟨_,ho,rfl⟩ F.entry_tuple_mul (F.args_tuple_mul_2 _ _) (Z65 k t a od its.toArray n osl c1 c2 (by simp [e0])) ⟨ho,?_⟩
  have hn:=I.hok.fresh (Nat.le_refl s.heap.objs.size)
  have:=q2' _ hn
  rw [e0] at this
  refine ⟨.ref s.heap.objs.size,_,I.laid (a:=s.heap.objs.size) (o:=.tup []) (t':=s.toks) (fun _ _ q=>Heap.get?_push_of_some _ q) (Nat.le_refl _) ⟨Nat.zero_le _,[],.nil,⟨_,Heap.get?_push_size _ rfl,rfl,0,rfl⟩⟩,rfl,?_⟩
  exact this
 ·have hrep:List.foldl (fun x1 x2=>x1 ++ x2) #[] (List.replicate k.toNat its.toArray) = (List.replicate k.toNat its).flatten.toArray:=by
   have:=J7 its k.toNat []
   rw [List.nil_append] at this
   exact this
  have hzi:its.length * k.toNat ≤ 1000:=by rw [← hl]; exact hz
  have hzk:(its.length:Int) * k ≤ 1000:=by
   have:((its.length * k.toNat:Nat):Int) ≤ 1000:=by omega
   rw [Int.natCast_mul,Int.toNat_of_nonneg h0] at this
   exact this
  have hsl:(sizeLine:Int) = 16777216:=by rw [sizeLine_eq]; rfl
  refine call_meets F.slot_tuple_mul ⟨_,ho,rfl⟩ F.entry_tuple_mul (F.args_tuple_mul_2 _ _) (Z63 k t a od its.toArray n osl c1 c2 (by rw [hem]; simp; omega) (by rw [List.size_toArray]; omega) (by rw [List.size_toArray]; unfold Tuple.tupleTooMany; simp; omega) (by rw [hrep,List.size_toArray,Z4b,sizeLine_eq,Nat.mul_comm]; omega)) ⟨ho,?_⟩
  have hn:=I.hok.fresh (Nat.le_refl s.heap.objs.size)
  rw [hrep]
  refine ⟨.ref s.heap.objs.size,_,I.laid (a:=s.heap.objs.size) (o:=.tup (List.replicate k.toNat xs).flatten) (t':=s.toks) (fun _ _ q=>Heap.get?_push_of_some _ q) (Nat.le_refl _) ⟨by rw [Z4b,sizeLine_eq,Nat.mul_comm]; omega,_,r.rep k.toNat,⟨_,Heap.get?_push_size _ rfl,rfl,0,rfl⟩⟩,rfl,q2' _ hn⟩
theorem Ty:OpR X (compareOp .LtE) (fun x y H Q=>∃ i j,x = .str i∧y = .str j∧Q (.bl (!decide (j.cps.toList < i.cps.toList))) H):=by
 intro pins s σ H x y v u Q I rx ry h
 obtain ⟨i,j,rfl,rfl,q⟩:=h
 obtain ⟨t,rfl⟩:=rx
 obtain ⟨t',rfl⟩:=ry
 exact PySem.P.le_str (Zy I q rfl)
def Zcj (P:Program) (w:World) (K:PySem.W.Frag) (mg:Str→Option Value) (base:Heap) (k:Nat) (tf:TE) (t:TA):TE:=fun σ H Q=>tf σ H fun x H1=>∃ f fd ps sp,x = .ref f∧FnOk P w K mg base CX0 k f fd ps sp∧PySem.W.keepIn K (.ref f) = true∧Binds K fd ps []∧t σ H1 fun vs H2=>sp vs H2 Q E0
theorem Za8 {k:Nat} {o i e:Expr} {es:List Expr} {p pos:Pos} {tf:TE} {t:TA} (hr:Room k X.A) (hf:PE X (.Subscript o i p) tf) (ha:PA X (e :: es) t) (he:starEach (e :: es) X.env = (false,eval e X.env) :: starEach es X.env:=by rfl) (hpl:(backTo pos (starEach es X.env)).any (·.1) = false:=by rfl) :
  PE X (.Call (.Subscript o i p) (e :: es) [] pos) (Zcj X.prog X.w X.K X.mg X.base k tf t):=by
 intro pins s σ H Q I h
 show wpAny _ _ (eval (.Subscript o i p) X.env >>= fun f=>callWith pos f [] (backTo pos (starEach (e :: es) X.env)) (backToKw pos (keywordEach [] X.env))) _ _ _
 refine wpAny_bind (thn (hf pins s σ H _ I h) fun u s1 ⟨x,H1,I1,r1,f,fd,ps,sp,ex,F,hk,hb,q1⟩=>?_)
 subst ex
 obtain rfl:u = Value.ref f:=r1
 refine PySem.W.callWith_K (h₀:=X.base) I1.ok.mod.kin hk (thn (ha pos pins s1 σ H1 _ I1 q1) fun us s2 ⟨vs,H2,I2,r2,q2⟩=>⟨I2.kIn,?_⟩) he hpl
 exact Z0t F hr hb .nil Z3v I2 r2 (by rw [List.append_nil]; exact q2)
end
section
variable {prog:Program} {w:World} {A:Around} {R:Result→Shared→Prop} {it:Addr} {fp wr:List Addr} {m:Nat} {P:Nat→Value→Prop} {St:Nat→Heap→Prop}
theorem Z8m {kw:List (Str × Value)} (Wk:Walks prog w A.in1 it fp wr m P St) (bt:Nat→Nat→Bool) (cmp:CmpOf prog w A.in1 .Gt P bt) (B:Addr) (nB:B ∉ fp) :
  ∀ (k j:Nat) (z:Shared) (u:Value) (c:Nat),m - (j + 1) = k→j + 1 ≤ m→St (j + 1) z.heap→P (argBest bt j) u→z.heap.get? B = some ⟨.type "list",none,.seq #[u,u] c,#[]⟩ →
  (∀ v h' tk,P (argBest bt (m - 1)) v→(∀ b o,b ∉ wr→b ≠ B→z.heap.get? b = some o→h'.get? b = some o)→R (.ok (.ret v)) { z with heap:=h',toks:=tk }) →
  codeAny (model prog w) A (.builtin "max.loop" ⟨[.ref it,.none,.ref B],kw⟩) R z:=by
 have nW:B ∉ wr:=fun h=>nB (Wk.sub _ h)
 have nm:(toString "max" ++ toString ".loop":String) = "max.loop":=by decide
 intro k
 induction k with
 | zero =>
  intro j z u c ek lej sj pj gB fin
  have ej:j + 1 = m:=by omega
  refine codeAny_builtin PySem.F.entry_max_loop ?_
  rw [Around.under_plainId PySem.F.plain_max_loop _]
  show wpAny _ A.in1 (seqItems? (.ref B) >>= _) _ _ z
  refine wpAny_bind (wpAny_seqItems gB rfl ?_)
  show wpAny _ A.in1 (tryCatch (pyNext (.ref it)) _ >>= _) _ _ z
  refine wpAny_bind (wpAny_tryCatch (Wk.done z _ _ (ej ▸ sj) fun g tk kp=>?_))
  have gB':=kp B _ nW gB
  show wpAny _ A.in1 (updateSeq B (fun _=>#[]) >>= _) _ _ _
  refine wpAny_bind ?_
  refine wpAny_updateSeq gB' rfl (wpAny_bind (wpAny_letGo (wpAny_pure ?_)))
  exact fin u _ tk (by rw [← ej]; exact pj) fun b o b1 b2 e=>(Heap.get?_update_other _ _ (Ne.symm b2)).trans (kp b o b1 e)
 | succ k ih =>
  intro j z u c ek lej sj pj gB fin
  have lt:j + 1 < m:=by omega
  refine codeAny_builtin PySem.F.entry_max_loop ?_
  rw [Around.under_plainId PySem.F.plain_max_loop _]
  show wpAny _ A.in1 (seqItems? (.ref B) >>= _) _ _ z
  refine wpAny_bind (wpAny_seqItems gB rfl ?_)
  show wpAny _ A.in1 (tryCatch (pyNext (.ref it)) _ >>= _) _ _ z
  refine wpAny_bind (wpAny_tryCatch (Wk.item (j + 1) z _ _ lt sj fun v g tk pv sv kp=>?_))
  have gB':=kp B _ nW gB
  show wpAny _ A.in1 (tryCatch (holding [v,v] (richCompare .Gt v u >>= _)) _ >>= _) _ _ _
  refine wpAny_bind (wpAny_tryCatch (wpAny_holding (wpAny_bind (cmp (j + 1) (argBest bt j) v u _ _ _ pv pj ?_))))
  refine wpAny_bind (wpAny_holding (wpAny_truthy_bool ?_))
  refine wpAny_bind (wpAny_letGo (wpAny_pure ?_))
  cases eb:bt (j + 1) (argBest bt j) with
  | true =>
   simp only [if_true]
   refine wpAny_bind ?_
   refine wpAny_updateSeq gB' rfl (wpAny_bind (wpAny_letGo ?_))
   rw [nm]
   refine wpAny_pure ⟨plainId_quiet PySem.F.plain_max_loop _,ih (j + 1) _ v _ (by omega) lt (Wk.frame _ _ _ sv fun b bf o e=>?_) (by simp only [argBest,eb,if_true]; exact pv) (Heap.get?_update_self _ gB' rfl) fun v' g' tk' p' k'=>?_⟩
   ·exact (Heap.get?_update_other _ _ (fun q:B = b=>nB (by rw [q]; exact bf))).trans e
   ·exact fin v' g' tk' p' fun b o b1 b2 e=>k' b o b1 b2 ((Heap.get?_update_other _ _ (Ne.symm b2)).trans (kp b o b1 e))
  | false =>
   simp only [Bool.false_eq_true,if_false]
   refine wpAny_bind (wpAny_letGo ?_)
   rw [nm]
   refine wpAny_pure ⟨plainId_quiet PySem.F.plain_max_loop _,ih (j + 1) _ u c (by omega) lt sv (by simp only [argBest,eb,Bool.false_eq_true,if_false]; exact pj) gB' fun v' g' tk' p' k'=>?_⟩
   exact fin v' g' tk' p' fun b o b1 b2 e=>k' b o b1 b2 (kp b o b1 e)
theorem Z62 {kw:List (Str × Value)} {d:Value} (hkw:kw = [(("default":Str),d)]) (Wk:Walks prog w A.in1 it fp wr m P St) (bt:Nat→Nat→Bool) (cmp:CmpOf prog w A.in1 .Gt P bt) (B:Addr) (nB:B ∉ fp) {z:Shared} {c:Nat} (s0:St 0 z.heap) (gB:z.heap.get? B = some ⟨.type "list",none,.seq #[] c,#[]⟩)
  (fin:∀ v h' tk,((m = 0∧v = d) ∨ (0 < m∧P (argBest bt (m - 1)) v))→(∀ b o,b ∉ wr→b ≠ B→z.heap.get? b = some o→h'.get? b = some o)→R (.ok (.ret v)) { z with heap:=h',toks:=tk }) :
  codeAny (model prog w) A (.builtin "max.loop" ⟨[.ref it,.none,.ref B],kw⟩) R z:=by
 subst hkw
 have nW:B ∉ wr:=fun h=>nB (Wk.sub _ h)
 have nm:(toString "max" ++ toString ".loop":String) = "max.loop":=by decide
 refine codeAny_builtin PySem.F.entry_max_loop ?_
 rw [Around.under_plainId PySem.F.plain_max_loop _]
 show wpAny _ A.in1 (seqItems? (.ref B) >>= _) _ _ z
 refine wpAny_bind (wpAny_seqItems gB rfl ?_)
 show wpAny _ A.in1 (tryCatch (pyNext (.ref it)) _ >>= _) _ _ z
 by_cases e0:m = 0
 ·refine wpAny_bind (wpAny_tryCatch (Wk.done z _ _ (e0 ▸ s0) fun g tk kp=>?_))
  show wpAny _ A.in1 (rule _ >>= _) _ _ _
  refine wpAny_bind (wpAny_rule (wpAny_pure ?_))
  exact fin d g tk (.inl ⟨e0,rfl⟩) fun b o b1 _ e=>kp b o b1 e
 ·refine wpAny_bind (wpAny_tryCatch (Wk.item 0 z _ _ (by omega) s0 fun v g tk pv sv kp=>?_))
  have gB':=kp B _ nW gB
  show wpAny _ A.in1 (updateSeq B (fun _=>#[v,v]) >>= _) _ _ _
  refine wpAny_bind ?_
  refine wpAny_updateSeq gB' rfl ?_
  rw [nm]
  refine wpAny_pure ⟨plainId_quiet PySem.F.plain_max_loop _,Z8m Wk bt cmp B nB _ 0 _ v _ rfl (by omega) (Wk.frame _ _ _ sv fun b bf o e=>?_) pv (Heap.get?_update_self _ gB' rfl) fun v' g' tk' p' k'=>?_⟩
  ·exact (Heap.get?_update_other _ _ (fun q:B = b=>nB (by rw [q]; exact bf))).trans e
  ·exact fin v' g' tk' (.inr ⟨by omega,p'⟩) fun b o b1 b2 e=>k' b o b1 b2 ((Heap.get?_update_other _ _ (Ne.symm b2)).trans (kp b o b1 e))
theorem Z91 (a d:Value):argsOk "max" ⟨[a],[(("default":Str),d)]⟩:=by unfold argsOk; kernel_rfl
theorem Ja {E:Value→Shared→Prop} {s:Shared} {id:String} {b:Builtin} {as:List Value} {kw:List (Str × Value)} {Q:Value→Shared→Prop} (hk:builtinKind id = none) (hp:plainId id = true) (hb:entryFor table id = some b) (ha:argsOk id ⟨as,kw⟩)
  (hc:wpAny (model prog w) A.in1 (b ⟨as,kw⟩) (fun fin s'=>match fin with
   | .done f=>(match (Except.ok f:Result) with | .ok (.ret v)=>Q v s' | .ok _=>False | .error e=>E e s')
   | .again c=>c.quiet = true∧codeAny (model prog w) A c (fun r s'=>match r with | .ok (.ret v)=>Q v s' | .ok _=>False | .error e=>E e s') s') E s):wpAny (model prog w) A (call (.builtin id) as kw) Q E s:=by
 refine wpAny_call (codeAny_call_builtin hp hb ?_)
 simp only [checkBuiltinCall,hk]
 cases sg:Manifest.signature? id with
 | none=>exact wpAny_pure hc
 | some sig =>
  simp only [argsOk,sg] at ha
  have h2:Bind.checkArgs id sig ⟨as,kw⟩ = pure ():=ha
  show wpAny _ A.in1 (Bind.checkArgs id sig ⟨as,kw⟩) _ _ s
  rw [h2]
  exact wpAny_pure hc
theorem Z04 {E:Value→Shared→Prop} {s:Shared} {l:Addr} {xs:Array (Int × Tok)} {d:Value} {Q:Value→Shared→Prop} (hh:A.handled = none) (hl:s.heap.IsList l (intItems xs))
  (h:∀ v h' tk,((xs.size = 0∧v = d) ∨ (0 < xs.size∧(intItems xs)[argBest (fun i j=>decide (numAt xs i > numAt xs j)) (xs.size - 1)]? = some v))→(∀ b o,s.heap.get? b = some o→h'.get? b = some o)→Q v { s with heap:=h',toks:=tk }) :
  wpAny (model prog w) A (call (.builtin "max") [.ref l] [(("default":Str),d)]) Q E s:=by
 have nm:(toString "max" ++ toString ".loop":String) = "max.loop":=by decide
 refine Ja PySem.F.kind_max PySem.F.plain_max PySem.F.entry_max (Z91 _ _) ?_
 show wpAny _ A.in1 (Builtin.Builtins.bindParams "max" ["key", "default"] 0 ⟨[],[(("default":Str),d)]⟩ >>= _) _ _ s
 refine wpAny_bind (wpAny_of_eq (show Builtin.Builtins.bindParams "max" ["key", "default"] 0 ⟨[],[(("default":Str),d)]⟩ = pure [none,some d] from rfl) ?_)
 refine wpAny_bind (wpAny_pure ?_)
 refine wpAny_bind (iter_intList hl fun s₂ e st hfp hlI=>?_)
 subst e
 refine wpAny_bind (wpAny_newObj_type ?_)
 rw [nm]
 have Wk:=Walks.list (prog:=prog) (w:=w) (A:=A.in1) hh _ l hlI (intItems xs)
 refine wpAny_pure ⟨plainId_quiet PySem.F.plain_max_loop _,Z62 (d:=d) (kw:=[(("default":Str),d)]) rfl Wk (fun i j=>decide (numAt xs i > numAt xs j)) (CmpOf.ints_gt (numAt xs) (fun _ _=>intItems_at)) _ (fun hm=>Nat.lt_irrefl _ (hfp _ hm)) (Wk.frame _ _ _ st fun b _ o e=>Heap.get?_push_of_some _ e) (Heap.get?_push_size _ rfl) ?_⟩
 intro v h' tk hv hk
 refine h v h' tk (by simpa [intItems] using hv) fun b o e=>?_
 have lt:=Heap.lt_size e
 refine hk b o (by simpa using Nat.ne_of_lt lt) ?_ (Heap.get?_push_of_some _ (Heap.get?_push_of_some _ e))
 show b ≠ (s.heap.push _).objs.size
 rw [Heap.size_push]
 exact Nat.ne_of_lt (Nat.lt_succ_of_lt lt)
end
end L2
namespace Seek
open PySem PySem.Spec PyProof.Rows L2
section
variable {X:Cx}
def Zbb (K:PySem.W.Frag) (t tk:TA):TE:=fun σ H Q=>t σ H fun vs H1=>tk σ H1 fun zs H2=>∃ (l:Addr) (ns:List Int) (z:V),vs = [.ref l]∧zs = [z]∧SqL K H2 l (ns.map V.int)∧Q (if ns = [] then z else .int (mxL ns)) H2
theorem Z83 {e d:Expr} {t tk:TA} {p pos kp:Pos} (hc:X.calm = true) (hg:Gl X "max") (hm:X.mg "max" = none) (ha:PA X [e] t) (hk:PK X [⟨some "default",d,kp⟩] tk) (he:backTo pos (starEach [e] X.env) = (false,eval e X.env) :: backTo pos (starEach [] X.env):=by rfl) (hpl:(backTo pos (starEach [e] X.env)).any (·.1) = false:=by rfl) :
  PE X (.Call (.Name "max" p) [e] [⟨some "default",d,kp⟩] pos) (Zbb X.K t tk):=by
 intro pins s σ H Q I h
 refine wpAny_Call_Name_kw (J4 I hg hm PyProof.Rows.Boot.«max» ?_)
 refine PyProof.Rows.callWith_kw (thn (ha pos pins s σ H _ I h) fun us s1 ⟨vs,H1,I1,r,q⟩=>thn (hk pos pins s1 σ H1 _ I1 q) fun ws s2 ⟨zs,H2,I2,rz,l,ns,z,ev,ez,hl,q2⟩=>?_) he hpl
 subst ev ez
 obtain ⟨u,rfl,ru⟩:=Z1r r
 obtain ⟨y,rfl,ry⟩:=Z1r rz
 obtain rfl:u = Value.ref l:=ru
 obtain ⟨its,rv,pl,hz⟩:=I2.list hl
 obtain ⟨ps,e1,e2⟩:=Z2z rv
 have hlist:s2.heap.IsList l (intItems ps.toArray):=by
  have e:intItems ps.toArray = its.toArray:=by rw [e1]; simp [intItems]
  rw [e]; exact pl.isList
 have hlen:ps.length = ns.length:=by rw [← e2,List.length_map]
 refine Z04 (d:=y) (I2.ok.hd hc) hlist fun v h' tk hv hk=>?_
 rcases hv with ⟨h0,rfl⟩ | ⟨h0,hv⟩
 ·have hn:ns = []:=List.length_eq_zero_iff.mp (by rw [← hlen]; simpa using h0)
  rw [if_pos hn] at q2
  exact ⟨z,H2,I2.kept hk,ry,q2⟩
 ·have hn:ns ≠ []:=fun e=>by rw [e] at hlen; simp [hlen] at h0
  rw [if_neg hn] at q2
  obtain ⟨t,e⟩:=Z8q e2 hv
  rw [Z15 e2,show ps.toArray.size = ns.length by simp [hlen]] at e
  exact ⟨.int (mxL ns),H2,I2.kept hk,⟨t,e⟩,q2⟩
end
structure MS where
 rows:V
 text:Str
 row:Int
 place:Int
 groups:V
 held:V
 choices:Addr
 made:Int
 found:Bool
 ended:Bool
def MS.fs (s:MS):List (Str × V):=[("rows",s.rows),("text",.str s.text),("row",.int s.row),("at",.int s.place),("groups",s.groups),("held",s.held),("choices",.ref s.choices),("made",.int s.made),("found",.bl s.found),("ended",.bl s.ended)]
theorem Zi {x y:Str} {v:V} {l:List (Str × V)} (h:(x == y) = false):((y,v) :: l).lookup x = l.lookup x:=by rw [List.lookup_cons,h]
theorem Xq {x:Str} {v:V} {l:List (Str × V)}:((x,v) :: l).lookup x = some v:=by simp
theorem Z8 {x y:Str} {v u:V} {l:List (Str × V)} (h:¬ y = x):Yg x v ((y,u) :: l) = (y,u) :: Yg x v l:=by
 show (if y = x then (y,v) :: l else (y,u) :: Yg x v l) = _
 rw [if_neg h]
theorem V9 {x:Str} {v u:V} {l:List (Str × V)}:Yg x v ((x,u) :: l) = (x,v) :: l:=by
 show (if x = x then (x,v) :: l else (x,u) :: Yg x v l) = _
 rw [if_pos rfl]
theorem W5 {x:Str} {v:V}:Yg x v [] = [(x,v)]:=rfl
theorem Z8w (s:MS):s.fs.lookup ("rows":Str) = some s.rows:=Xq
theorem T4 (s:MS):s.fs.lookup ("text":Str) = some (.str s.text):=by unfold MS.fs; rw [Zi (by decide +kernel),Xq]
theorem Z1i (s:MS):s.fs.lookup ("row":Str) = some (.int s.row):=by unfold MS.fs; rw [Zi (by decide +kernel),Zi (by decide +kernel),Xq]
theorem Xc (s:MS):s.fs.lookup ("at":Str) = some (.int s.place):=by unfold MS.fs; rw [Zi (by decide +kernel),Zi (by decide +kernel),Zi (by decide +kernel),Xq]
theorem Yr (s:MS):s.fs.lookup ("groups":Str) = some s.groups:=by unfold MS.fs; rw [Zi (by decide +kernel),Zi (by decide +kernel),Zi (by decide +kernel),Zi (by decide +kernel),Xq]
theorem Xw (s:MS):s.fs.lookup ("held":Str) = some s.held:=by unfold MS.fs; rw [Zi (by decide +kernel),Zi (by decide +kernel),Zi (by decide +kernel),Zi (by decide +kernel),Zi (by decide +kernel),Xq]
theorem Y9 (s:MS):s.fs.lookup ("choices":Str) = some (.ref s.choices):=by unfold MS.fs; rw [Zi (by decide +kernel),Zi (by decide +kernel),Zi (by decide +kernel),Zi (by decide +kernel),Zi (by decide +kernel),Zi (by decide +kernel),Xq]
theorem Z0b (s:MS):s.fs.lookup ("made":Str) = some (.int s.made):=by unfold MS.fs; rw [Zi (by decide +kernel),Zi (by decide +kernel),Zi (by decide +kernel),Zi (by decide +kernel),Zi (by decide +kernel),Zi (by decide +kernel),Zi (by decide +kernel),Xq]
theorem Z1j (s:MS):s.fs.lookup ("found":Str) = some (.bl s.found):=by unfold MS.fs; rw [Zi (by decide +kernel),Zi (by decide +kernel),Zi (by decide +kernel),Zi (by decide +kernel),Zi (by decide +kernel),Zi (by decide +kernel),Zi (by decide +kernel),Zi (by decide +kernel),Xq]
theorem Z1k (s:MS):s.fs.lookup ("ended":Str) = some (.bl s.ended):=by unfold MS.fs; rw [Zi (by decide +kernel),Zi (by decide +kernel),Zi (by decide +kernel),Zi (by decide +kernel),Zi (by decide +kernel),Zi (by decide +kernel),Zi (by decide +kernel),Zi (by decide +kernel),Zi (by decide +kernel),Xq]
theorem U4 (s:MS) (i:Int):Yg "row" (.int i) s.fs = ({ s with row:=i }:MS).fs:=by unfold MS.fs; rw [Z8 (by decide +kernel),Z8 (by decide +kernel),V9]
theorem Z5q (s:MS) (i:Int):Yg "at" (.int i) s.fs = ({ s with place:=i }:MS).fs:=by unfold MS.fs; rw [Z8 (by decide +kernel),Z8 (by decide +kernel),Z8 (by decide +kernel),V9]
theorem Tt (s:MS) (v:V):Yg "groups" v s.fs = ({ s with groups:=v }:MS).fs:=by unfold MS.fs; rw [Z8 (by decide +kernel),Z8 (by decide +kernel),Z8 (by decide +kernel),Z8 (by decide +kernel),V9]
theorem Va (s:MS) (v:V):Yg "held" v s.fs = ({ s with held:=v }:MS).fs:=by unfold MS.fs; rw [Z8 (by decide +kernel),Z8 (by decide +kernel),Z8 (by decide +kernel),Z8 (by decide +kernel),Z8 (by decide +kernel),V9]
theorem Z7z (s:MS) (i:Int):Yg "made" (.int i) s.fs = ({ s with made:=i }:MS).fs:=by unfold MS.fs; rw [Z8 (by decide +kernel),Z8 (by decide +kernel),Z8 (by decide +kernel),Z8 (by decide +kernel),Z8 (by decide +kernel),Z8 (by decide +kernel),Z8 (by decide +kernel),V9]
theorem Z0z (s:MS) (b:Bool):Yg "found" (.bl b) s.fs = ({ s with found:=b }:MS).fs:=by unfold MS.fs; rw [Z8 (by decide +kernel),Z8 (by decide +kernel),Z8 (by decide +kernel),Z8 (by decide +kernel),Z8 (by decide +kernel),Z8 (by decide +kernel),Z8 (by decide +kernel),Z8 (by decide +kernel),V9]
theorem Z5p (s:MS) (b:Bool):Yg "ended" (.bl b) s.fs = ({ s with ended:=b }:MS).fs:=by unfold MS.fs; rw [Z8 (by decide +kernel),Z8 (by decide +kernel),Z8 (by decide +kernel),Z8 (by decide +kernel),Z8 (by decide +kernel),Z8 (by decide +kernel),Z8 (by decide +kernel),Z8 (by decide +kernel),Z8 (by decide +kernel),V9]
theorem Ye (s:MS):s.fs.length < 1000:=by show 10 < 1000; decide
def NoM (m:Str):Prop:=∀ s:MS,s.fs.lookup m = none
theorem noM {m:Str} (h:(m == "rows") = false∧(m == "text") = false∧(m == "row") = false∧(m == "at") = false∧(m == "groups") = false∧(m == "held") = false∧(m == "choices") = false∧(m == "made") = false∧(m == "found") = false∧(m == "ended") = false):NoM m:=fun s=>by
 obtain ⟨h1,h2,h3,h4,h5,h6,h7,h8,h9,h10⟩:=h
 unfold MS.fs
 rw [Zi h1,Zi h2,Zi h3,Zi h4,Zi h5,Zi h6,Zi h7,Zi h8,Zi h9,Zi h10]
 rfl
theorem Y8:NoM "go_back":=noM (by decide +kernel)
theorem Wa:NoM "enter":=noM (by decide +kernel)
theorem Z8l:NoM "move":=noM (by decide +kernel)
theorem Z73:NoM "way":=noM (by decide +kernel)
theorem Z00:NoM "hold":=noM (by decide +kernel)
theorem Xi:NoM "let_go":=noM (by decide +kernel)
theorem Z01:NoM "drop_choices":=noM (by decide +kernel)
theorem Z19:NoM "entry":=noM (by decide +kernel)
abbrev Chc:=Int × Int × V × V
def ChAt (H:Hp) (v:V) (q:Chc):Prop:=∃ t,v = .ref t∧H t = some (.tup [.int q.1,.int q.2.1,q.2.2.1,q.2.2.2])
theorem ChAt.mono {H H':Hp} (t:∀ b xs,H b = some (.tup xs)→H' b = some (.tup xs)) {v:V} {q:Chc} (h:ChAt H v q):ChAt H' v q:=by
 obtain ⟨a,e,h⟩:=h
 exact ⟨a,e,t _ _ h⟩
structure MM where
 s:MS
 cs:List Chc
def MM.enter (M:MM) (q:Chc):MM:={ M with s:={ M.s with row:=q.1,place:=q.2.1,groups:=q.2.2.1,held:=q.2.2.2 } }
def MM.back (M:MM):MM:=match M.cs.getLast? with
 | none=>{ M with s:={ M.s with ended:=true } }
 | some q=>MM.enter { M with cs:=M.cs.dropLast } q
structure MAt (C:Addr) (H:Hp) (m:Addr) (M:MM):Prop where
 ob:∃ dx,H m = some (.ins C dx M.s.fs)
 ch:∃ vs,H M.s.choices = some (.lst vs)∧Paired (ChAt H) vs M.cs
theorem MAt.ne {C:Addr} {H:Hp} {m:Addr} {M:MM} (h:MAt C H m M):m ≠ M.s.choices:=by
 obtain ⟨⟨dx,e⟩,vs,e',_⟩:=h
 exact Z61 e e' (by intro z; cases z)
theorem MAt.gro {S:List Addr} {C:Addr} {H H':Hp} {m:Addr} {M:MM} (h:MAt C H m M) (g:Gro S H H') (h1:m ∉ S) (h2:M.s.choices ∉ S):MAt C H' m M:=by
 obtain ⟨⟨dx,e⟩,vs,e',p⟩:=h
 exact ⟨⟨dx,g.keep _ _ e h1⟩,vs,g.keep _ _ e' h2,Paired.mapP p fun _ _ q=>q.mono g.tups⟩
theorem MAt.new {C:Addr} {H:Hp} {m p:Addr} {M:MM} {o:HO} (h:MAt C H m M) (hp:H p = none):MAt C (upd H p o) m M:=h.gro (S:=[]) (Gro.new hp o) (by simp) (by simp)
theorem Gro.ins {S:List Addr} {H:Hp} {p C dx:Addr} {fs:List (Str × V)} (hp:p ∈ S) (h:H p = some (.ins C dx fs)) (o:HO):Gro S H (upd H p o) :=
 ⟨fun b u q hb=>by rw [Zf (fun z=>hb (by rw [z]; exact hp))]; exact q,fun b ys q=>by rw [Zf (Z61 q h (by intro z; cases z))]; exact q⟩
theorem MAt.put {C:Addr} {H:Hp} {m dx:Addr} {M:MM} {s':MS} (h:MAt C H m M) (hx:H m = some (.ins C dx M.s.fs)) (hc:s'.choices = M.s.choices):MAt C (upd H m (.ins C dx s'.fs)) m ⟨s',M.cs⟩:=by
 have hne:=h.ne
 obtain ⟨_,vs,e',p⟩:=h
 have g:Gro [m] H (upd H m (.ins C dx s'.fs)):=Gro.ins (by simp) hx _
 refine ⟨⟨dx,Z1⟩,vs,?_,Paired.mapP p fun _ _ q=>q.mono g.tups⟩
 show (upd H m (.ins C dx s'.fs)) s'.choices = _
 rw [hc,Zf (Ne.symm hne)]
 exact e'
structure Txt (K:PySem.W.Frag) (mg:Str→Option Value) (C:Addr):Prop where
 cl:Cls K C
 a1:NoAttr K C "rows"
 a2:NoAttr K C "text"
 a3:NoAttr K C "row"
 a4:NoAttr K C "at"
 a5:NoAttr K C "groups"
 a6:NoAttr K C "held"
 a7:NoAttr K C "choices"
 a8:NoAttr K C "made"
 a9:NoAttr K C "found"
 a10:NoAttr K C "ended"
structure OwnM (P:Program) (w:World) (K:PySem.W.Frag) (mg:Str→Option Value) (base:Heap) (k:Nat) (C:Addr) (m:Str) (ps:List Str) (sp:Sp):Prop where
 ex:∃ f fd,FnOk P w K mg base CX0 k f fd ps sp∧Meth K C m f∧Binds K fd ps []
theorem OwnM.mono {P:Program} {w:World} {K:PySem.W.Frag} {mg:Str→Option Value} {base:Heap} {j k:Nat} {C:Addr} {x:Str} {ps:List Str} {sp:Sp} (O:OwnM P w K mg base j C x ps sp) (h:j ≤ k):OwnM P w K mg base k C x ps sp:=by
 obtain ⟨f,fd,F,r⟩:=O.ex
 exact ⟨f,fd,F.mono h,r⟩
theorem Yh {X:Cx} {k:Nat} {C:Addr} {m:Str} {ps:List Str} {sp:Sp} {o e:Expr} {es:List Expr} {ta:TE} {t:TA} {apos pos:Pos} {pl:Sem Bool} (O:OwnM X.prog X.w X.K X.mg X.base k C m ps sp) (c:Cls X.K C) (hr:Room k X.A) (he:PE X o ta) (ha:PA X (e :: es) t)
  (hst:starEach (e :: es) X.env = (false,eval e X.env) :: starEach es X.env:=by rfl) (hpl:(backTo pos (starEach es X.env)).any (·.1) = false:=by rfl)
  (ht:eval (.Call (.Attribute o m apos) (e :: es) [] pos) X.env = (do
   let ov ← eval o X.env
   standAt apos.atName
   let (f,first) ← holding [ov] (getMethod ov m pl)
   callWith pos f first (backTo pos (starEach (e :: es) X.env)) (backToKw pos (keywordEach [] X.env))):=by rfl):PE X (.Call (.Attribute o m apos) (e :: es) [] pos) (Z5e C m sp [] E0 ta t):=by
 obtain ⟨f,fd,F,hm,hb⟩:=O.ex
 exact Z82 he c hm F hr hb .nil Z3v ha hst hpl ht
theorem Y2 {X:Cx} {k:Nat} {C:Addr} {m:Str} {ps:List Str} {sp:Sp} {o:Expr} {ta:TE} {apos pos:Pos} {pl:Sem Bool} (O:OwnM X.prog X.w X.K X.mg X.base k C m ps sp) (c:Cls X.K C) (hr:Room k X.A) (he:PE X o ta)
  (ht:eval (.Call (.Attribute o m apos) [] [] pos) X.env = (do
   let ov ← eval o X.env
   standAt apos.atName
   let (f,first) ← holding [ov] (getMethod ov m pl)
   callWith pos f first (backTo pos (starEach [] X.env)) (backToKw pos (keywordEach [] X.env))):=by rfl):PE X (.Call (.Attribute o m apos) [] [] pos) (Z5e C m sp [] E0 ta Z5d):=by
 obtain ⟨f,fd,F,hm,hb⟩:=O.ex
 exact Z5r he c hm F hr hb .nil Z3v ht
structure OwnC (P:Program) (w:World) (K:PySem.W.Frag) (mg:Str→Option Value) (base:Heap) (k:Nat) (C:Addr) (x:Str) (ps:List Str) (sp:Sp):Prop where
 ex:∃ f fd,FnOk P w K mg base CX0 k f fd ps sp∧Mk K C f∧mg x = some (.ref C)∧Binds K fd ps []
end Seek
namespace L2
open PySem PySem.Spec PyProof.Rows
section
variable {X:Cx}
end
end L2
namespace Seek
open PySem PySem.Spec PyProof.Rows L2
theorem OwnC.mono {P:Program} {w:World} {K:PySem.W.Frag} {mg:Str→Option Value} {base:Heap} {j k:Nat} {C:Addr} {x:Str} {ps:List Str} {sp:Sp} (O:OwnC P w K mg base j C x ps sp) (h:j ≤ k):OwnC P w K mg base k C x ps sp:=by
 obtain ⟨f,fd,F,r⟩:=O.ex
 exact ⟨f,fd,F.mono h,r⟩
theorem Z81 {X:Cx} {k:Nat} {C:Addr} {x:Str} {ps:List Str} {sp:Sp} {p pos:Pos} {e:Expr} {es:List Expr} {t:TA} (O:OwnC X.prog X.w X.K X.mg X.base k C x ps sp) (hr:Room (k + 1) X.A) (hg:Gl X x) (ha:PA X (e :: es) t)
  (hdb:(x == ("__debug__":Str)) = false:=by decide) (he:starEach (e :: es) X.env = (false,eval e X.env) :: starEach es X.env:=by rfl) (hpl:(backTo pos (starEach es X.env)).any (·.1) = false:=by rfl) :
  PE X (.Call (.Name x p) (e :: es) [] pos) (Z9d C sp [] E0 t):=by
 obtain ⟨f,fd,F,M,hm,hb⟩:=O.ex
 exact Z84 M F hr hg hm hb .nil Z3v ha hdb he hpl
end Seek
namespace L2
open PySem PySem.Spec PyProof.Rows
def sub (x:Str) (a b:Nat):Str:=⟨((x.cps.toList.drop a).take (b - a)).toArray⟩
theorem Zbx {k:Int} {L:Nat} (h:0 ≤ k):min k (L:Int) = min ((min k.toNat L:Nat):Int) (L:Int):=by
 obtain ⟨a,rfl⟩:=Int.eq_ofNat_of_zero_le h
 rw [Int.toNat_natCast]
 by_cases e:a ≤ L
 ·rw [Nat.min_eq_left e]
 ·rw [Nat.min_eq_right (Nat.le_of_not_le e),Int.min_eq_right (Int.ofNat_le.mpr (Nat.le_of_not_le e)),Int.min_self]
theorem J2 {a b L:Nat} (h:¬ min a L ≤ min b L):b < a∧b < L:=by omega
theorem Xf {x:Str} {i j:Int} (h0:0 ≤ i) (h1:0 ≤ j):Txt.slice x (some i) (some j) = sub x i.toNat j.toNat:=by
 have hl:x.cps.toList.length = x.length:=by simp [Str.length]
 have clip:Builtin.Str.strSliceIndices (some i) (some j) 1 x.length = Builtin.Str.strSliceIndices (some ((min i.toNat x.length:Nat):Int)) (some ((min j.toNat x.length:Nat):Int)) 1 x.length:=by
  unfold Builtin.Str.strSliceIndices
  have e1:¬ i < 0:=by omega
  have e2:¬ j < 0:=by omega
  have e3:¬ ((min i.toNat x.length:Nat):Int) < 0:=Int.not_lt.mpr (Int.natCast_nonneg _)
  have e4:¬ ((min j.toNat x.length:Nat):Int) < 0:=Int.not_lt.mpr (Int.natCast_nonneg _)
  simp only [e1,e2,e3,e4,if_false,show (1:Int) > 0 by decide,if_true]
  congr 1 <;> rw [Zbx (by assumption)]
 have ed:(x.cps.toList.drop (min i.toNat x.length)).take (min j.toNat x.length - min i.toNat x.length) = (x.cps.toList.drop i.toNat).take (j.toNat - i.toNat):=by
  by_cases hi:i.toNat ≤ x.length
  ·rw [Nat.min_eq_left hi]
   by_cases hj:j.toNat ≤ x.length
   ·rw [Nat.min_eq_left hj]
   ·rw [Nat.min_eq_right (by omega),List.take_of_length_le (by rw [List.length_drop]; omega),List.take_of_length_le (by rw [List.length_drop]; omega)]
  ·have e5:min i.toNat x.length = x.length:=by omega
   rw [e5,List.drop_of_length_le (show x.cps.toList.length ≤ x.length by omega),List.drop_of_length_le (show x.cps.toList.length ≤ i.toNat by omega)]
   simp
 by_cases hab:min i.toNat x.length ≤ min j.toNat x.length
 ·have e:Txt.slice x (some i) (some j) = StrLaws.sliceText x (some ((min i.toNat x.length:Nat):Int)) (some ((min j.toNat x.length:Nat):Int)):=by
   unfold Txt.slice StrLaws.sliceText
   rw [clip]
  rw [e,StrLaws.sliceText_nat x hab (Nat.min_le_right _ _),ed]
  rfl
 ·have em:Builtin.Str.strSliceIndices (some i) (some j) 1 x.length = []:=by
   rw [clip]
   unfold Builtin.Str.strSliceIndices sliceRange
   have e3:¬ ((min i.toNat x.length:Nat):Int) < 0:=Int.not_lt.mpr (Int.natCast_nonneg _)
   have e4:¬ ((min j.toNat x.length:Nat):Int) < 0:=Int.not_lt.mpr (Int.natCast_nonneg _)
   simp only [e3,e4,if_false,show (1:Int) > 0 by decide,if_true]
   rw [if_neg (by omega)]
   rfl
  have hlt:j.toNat - i.toNat = 0:=Nat.sub_eq_zero_of_le (Nat.le_of_lt (J2 hab).1)
  have hp:0 < x.length:=Nat.lt_of_le_of_lt (Nat.zero_le _) (J2 hab).2
  unfold Txt.slice sub
  rw [em,hlt,if_neg (by simp; omega)]
  simp
def Zco:V→Option Int→Option Int→Hp→VK→Prop:=fun x lo hi H Q=>∃ z:Str,x = .str z∧z.length ≤ sizeLine∧Q (.str (Txt.slice z lo hi)) H
section
variable {X:Cx}
theorem Th:SlR X Zco:=by
 intro pins s σ H x v vl vu lo hi sl Q I rx hs pl pu h
 obtain ⟨z,rfl,hz,q⟩:=h
 obtain ⟨t,rfl⟩:=rx
 have part:∀ {v:Value} {o:Option Int},IsPart v o→∃ p:Option (Int × Tok),v = partValue p∧p.map (·.1) = o:=by
  intro v o h
  cases h with
  | none=>exact ⟨none,rfl,rfl⟩
  | int i t=>exact ⟨some (i,t),rfl,rfl⟩
 obtain ⟨l,rfl,rfl⟩:=part pl
 obtain ⟨u,rfl,rfl⟩:=part pu
 exact ⟨"str",_,F.slot_str_getitem.lookup,typeIs_str _ _ _,wpAny_getItem_str_slice (l:=l) (u:=u) (st:=none) hs rfl (post_val_or_str ⟨Nat.le_trans (Txt.slice_le z _ _) hz,fun t' k=>⟨.str _,H,I.tok _,⟨_,rfl⟩,q⟩⟩)⟩
end
end L2
namespace HT
open PySem PySem.Spec PyProof.Rows
section
variable {prog:Program} {w:World} {A:Around} {E:Value→Shared→Prop} {s:Shared}
theorem cat_tup0 {t b:Addr} {vs ws:List Value} {Q:Value→Shared→Prop} (ht:IsTup s.heap t vs.toArray) (hb:IsTup s.heap b ws.toArray) (hv:vs = []) (h1:Q (.ref b) s):wpAny (model prog w) A (binaryOp .Add (.ref t) (.ref b)) Q E s:=by
 obtain ⟨⟨cls,dd,data,sl⟩,ho,hc,n,hd⟩:=id ht
 obtain ⟨⟨cls2,dd2,data2,sl2⟩,ho2,hc2,n2,hd2⟩:=id hb
 simp only at hc hd hc2 hd2
 subst hc hd hc2 hd2
 exact concat_meets ⟨_,ho,rfl⟩ ⟨_,ho2,rfl⟩ noFill_tuple_add seq_tuple_add PySem.F.slot_tuple_add PySem.F.entry_tuple_add (PySem.F.args_tuple_add_2 _ _)
  (tuple_addW0 t b vs.toArray ws.toArray n n2 dd dd2 sl sl2 (by simp [hv])) ⟨ho,ho2,h1⟩
end
end HT
namespace L2
open PySem PySem.Spec PyProof.Rows
section
variable {X:Cx}
def Z9i (K:PySem.W.Frag):R2:=fun x y H Q=>∃ a b xs ys,x = .ref a∧y = .ref b∧SqT K H a xs∧SqT K H b ys∧xs.length + ys.length ≤ sizeLine ∧
 (xs = []→Q (.ref b) H)∧(xs ≠ []→ys = []→Q (.ref a) H)∧(xs ≠ []→ys ≠ []→∀ p,H p = none→Q (.ref p) (upd H p (.tup (xs ++ ys))))
theorem Z41:OpR X (binaryOp .Add) (Z9i X.K):=by
 intro pins s σ H x y v u Q I rx ry h
 obtain ⟨a,b,xs,ys,e1,e2,ha,hb,hz,q0,q1,q2⟩:=h
 by_cases hx:xs = []
 ·subst e1 e2
  cases rx
  cases ry
  obtain ⟨its,r1,p1,_⟩:=I.tuple ha
  obtain ⟨its2,r2,p2,_⟩:=I.tuple hb
  exact HT.cat_tup0 p1 p2 (r1.nil_iff.mpr hx) ⟨.ref b,H,I,rfl,q0 hx⟩
 ·exact Z8b pins s σ H x y v u Q I rx ry ⟨a,b,xs,ys,e1,e2,ha,hb,hx,hz,q1 hx,q2 hx⟩
end
end L2
namespace Seek
open PySem PySem.Spec PyProof.Rows L2
theorem Zas {xs:List V} {k:Nat} (h:k ≤ xs.length):Ui xs none (some (k:Int)) = xs.take k:=by
 unfold Ui
 rw [HT.sIx_none,HT.sIx_nat,List.drop_zero,Nat.min_eq_left h,Nat.sub_zero]
theorem Z6n {xs:List V} {k:Nat} (h:k ≤ xs.length):Ui xs (some (k:Int)) none = xs.drop k:=by
 unfold Ui
 rw [HT.sIx_none,HT.sIx_nat,Nat.min_eq_left h]
 exact List.take_of_length_le (by rw [List.length_drop]; exact Nat.le_refl _)
theorem Z4y (xs:List V):Ui xs none (some 1) = xs.take 1:=by
 unfold Ui
 have:HT.sIx xs.length xs.length (some 1) = min 1 xs.length:=HT.sIx_nat _ _ 1
 rw [HT.sIx_none,this,List.drop_zero,Nat.sub_zero]
 by_cases h:1 ≤ xs.length
 ·rw [Nat.min_eq_left h]
 ·match xs,h with
  | [],_=>rfl
  | x :: xs,h=>exact absurd (show 1 ≤ xs.length + 1 by omega) h
inductive Rw where
 | pat (h:Hd) | tup (xs:List V)
abbrev Cd:=Nat→List Rw
def To:List Cd→Cd
 | [],_=>[]
 | c :: cs,b=>c b ++ To cs (b + (c b).length)
def X2 (g:List V):List Cd→Cd
 | [],_=>[]
 | [c],b=>c b
 | c :: d :: cs,b=>.tup [.str "try",.int ((b:Int) + (c (b + 1)).length + 2)] :: (c (b + 1) ++ .tup g :: X2 g (d :: cs) (b + (c (b + 1)).length + 2))
def goes:List Cd→Nat→Nat→List Nat
 | [],_,_=>[]
 | [_],_,_=>[]
 | c :: d :: cs,b,s=>(s + 1 + (c (b + 1)).length) :: goes (d :: cs) (b + (c (b + 1)).length + 2) (s + (c (b + 1)).length + 2)
def T9 (lo:Int) (hi:Option Int) (how:Str) (c:Cd):Cd:=fun b =>
 .tup [.str "turns"] :: .tup [.str "turn",.int lo,Z98 hi,.str how,.int ((b:Int) + 3 + (c (b + 2)).length)] :: (c (b + 2) ++ [.tup [.str "next",.int lo,.int ((b:Int) + 1)]])
def Wt (lo:Int) (hi:Option Int) (how:How) (c:Cd):Cd:=match how with
 | .keep=>fun b=>.tup [.str "once"] :: (T9 lo hi "much" c (b + 1) ++ [.tup [.str "kept"]])
 | h=>T9 lo hi h.text c
def Z8s (k:Int) (y n:Cd):Cd:=fun b =>
 .tup [.str "have",.int k,.int ((b:Int) + (y (b + 1)).length + 2)] :: (y (b + 1) ++ .tup [.str "go",.int ((b:Int) + (y (b + 1)).length + 2 + (n (b + (y (b + 1)).length + 2)).length)] :: n (b + (y (b + 1)).length + 2))
def Lk.last:Lk→Str
 | .once => "kept" | .ahead => "peeked" | .behind => "peeked" | .notahead => "barred" | .notbehind => "barred"
def Lk.leans:Lk→Bool
 | .behind=>true | .notbehind=>true | _=>false
def Lk.inner (l:Lk) (c:Cd):Cd:=fun b=>match l.leans with
 | true=>.tup [.str "lean"] :: (c (b + 2) ++ [.tup [.str "here"]])
 | false=>c (b + 1)
def Wr (l:Lk) (c:Cd):Cd:=fun b=>(match l.last == "barred" with
 | true=>Rw.tup [.str "bar",.int ((b:Int) + 2 + (l.inner c b).length)]
 | false=>.tup [.str "once"]) :: (l.inner c b ++ [.tup [.str l.last]])
def hd0 (cs:List Cd):Cd:=cs.headD fun _=>[]
def goV (z:Int):List V:=[.str "go",.int z]
def orC (cs:List Cd):Cd:=fun b=>X2 (goV ((b:Int) + (X2 [] cs b).length)) cs b
def Hd.code (h:Hd) (cs:List Cd):Cd:=match h with
 | .row=>To cs
 | .alt=>orC cs
 | .times lo hi how=>Wt lo hi how (hd0 cs)
 | .grp k=>fun b=>.tup [.str "open"] :: (hd0 cs (b + 1) ++ [.tup [.str "close",.int k]])
 | .hav k=>Z8s k (hd0 cs) (hd0 cs.tail)
 | .look l=>Wr l (hd0 cs)
 | h=>fun _=>[.pat h]
mutual
def Pat.code:Pat→Cd
 | .node h ks=>h.code (Z6o ks)
def Z6o:List Pat→List Cd
 | []=>[]
 | k :: ks=>k.code :: Z6o ks
end
theorem Z4z (ks:List Pat):Z6o ks = ks.map Pat.code:=by
 induction ks with
 | nil=>rfl
 | cons k ks ih=>rw [Z6o,ih]; rfl
theorem Vn (h:Hd) (ks:List Pat):(Pat.node h ks).code = h.code (ks.map Pat.code):=by rw [Pat.code,Z4z]
def Zay (c:Cd) (n:Nat):Prop:=∀ b,(c b).length + 2 ≤ 7 * n
theorem T7 (g:List V):∀ (cs:List Cd) (b:Nat),(X2 g cs b).length = (X2 [] cs b).length
 | [],_=>rfl
 | [_],_=>rfl
 | c :: d :: cs,b=>by
  have:=T7 g (d :: cs) (b + (c (b + 1)).length + 2)
  simp only [X2,List.length_cons,List.length_append] at this ⊢
  omega
theorem Z87 (cs:List Cd) (b:Nat):(orC cs b).length = (X2 [] cs b).length:=T7 _ cs b
theorem W0 (lo:Int) (hi:Option Int) (how:Str) (c:Cd) (b:Nat):(T9 lo hi how c b).length = (c (b + 2)).length + 3:=by simp [T9]
theorem Z6c (l:Lk) (c:Cd) (b:Nat):∃ j,(l.inner c b).length ≤ (c j).length + 2:=by
 unfold Lk.inner
 cases l.leans
 ·exact ⟨_,Nat.le_add_right _ 2⟩
 ·exact ⟨b + 2,by simp⟩
theorem V1:∀ {ks:List Pat},(∀ k ∈ ks,Zay k.code k.size)→∀ b,(To (ks.map Pat.code) b).length ≤ 7 * Zt ks
 | [],_,b=>by simp [To,Zt]
 | k :: ks,h,b=>by
  have h1:=h k (by simp) b
  have h2:=V1 (ks:=ks) (fun z hz=>h z (by simp [hz])) (b + (k.code b).length)
  rw [List.map_cons,To,List.length_append,Zt]
  omega
theorem Jh:∀ {ks:List Pat},(∀ k ∈ ks,Zay k.code k.size)→∀ b,(X2 [] (ks.map Pat.code) b).length ≤ 7 * Zt ks
 | [],_,b=>by simp [X2,Zt]
 | [k],h,b=>by
  have h1:=h k (by simp) b
  simp only [List.map_cons,List.map_nil,X2,Zt]
  omega
 | k :: l :: ks,h,b=>by
  have h1:=h k (by simp) (b + 1)
  have h2:=Jh (ks:=l :: ks) (fun z hz=>h z (by simp at hz; simp [hz])) (b + (k.code (b + 1)).length + 2)
  simp only [List.map_cons,X2,List.length_cons,List.length_append] at h2 ⊢
  rw [Zt]
  omega
theorem Z1f {ks:List Pat} (h:∀ k ∈ ks,Zay k.code k.size):∀ b,(hd0 (ks.map Pat.code) b).length + 2 ≤ 7 * Zt ks + 2:=fun b=>by
 cases ks with
 | nil=>simp [hd0]
 | cons k ks =>
  have h1:=h k (by simp) b
  simp only [hd0,List.map_cons,List.headD_cons,Zt]
  omega
mutual
theorem Pat.code_fits:∀ p:Pat,Zay p.code p.size
 | .node h ks=>by
  have ih:=Uk ks
  intro b
  rw [Vn,Yd]
  have hh:=Z1f ih
  cases h with
  | row=>have:=V1 ih b; show (To _ b).length + 2 ≤ _; omega
  | alt=>have:=Jh ih b; show (orC _ b).length + 2 ≤ _; rw [Z87]; omega
  | times lo hi how =>
   show (Wt lo hi how (hd0 (ks.map Pat.code)) b).length + 2 ≤ _
   cases how with
   | keep =>
    have:=hh (b + 1 + 2)
    simp only [Wt,List.length_cons,List.length_append,W0,List.length_nil]
    omega
   | much=>have:=hh (b + 2); simp only [Wt,W0]; omega
   | little=>have:=hh (b + 2); simp only [Wt,W0]; omega
  | grp k =>
   have:=hh (b + 1)
   simp only [Hd.code,List.length_cons,List.length_append,List.length_nil]
   omega
  | hav k =>
   show (Z8s k _ _ b).length + 2 ≤ _
   cases ks with
   | nil=>simp [Z8s,hd0,Zt]
   | cons y r =>
    have h1:=ih y (by simp) (b + 1)
    have h2:=Z1f (ks:=r) (fun z hz=>ih z (by simp [hz]))
    have h3:=h2 (b + (y.code (b + 1)).length + 2)
    simp only [Z8s,List.map_cons,List.length_cons,List.length_append,Zt,List.tail_cons,hd0,List.headD_cons] at h3 ⊢
    omega
  | look l =>
   show (Wr l _ b).length + 2 ≤ _
   obtain ⟨j,hj⟩:=Z6c l (hd0 (ks.map Pat.code)) b
   have:=hh j
   simp only [Wr,List.length_cons,List.length_append,List.length_nil]
   omega
  | _=>simp [Hd.code]; omega
theorem Uk:∀ (ks:List Pat),∀ k ∈ ks,Zay k.code k.size
 | [],k,hk=>by simp at hk
 | k :: ks,z,hz=>by
  rcases List.mem_cons.mp hz with e | hz
  ·rw [e]; exact Pat.code_fits k
  ·exact Uk ks z hz
end
def W2 (G:Rw) (ps:List Nat) (l:List Rw):List Rw:=ps.foldl (fun l p=>l.set p G) l
theorem Z7n (a b:List Rw) (x G:Rw) (p:Nat) (h:p = a.length):(a ++ x :: b).set p G = a ++ G :: b:=by
 subst h
 simp
theorem Wx (g G:List V):∀ (cs:List Cd) (b:Nat) (pre:List Rw),W2 (.tup G) (goes cs b pre.length) (pre ++ X2 g cs b) = pre ++ X2 G cs b
 | [],b,pre=>rfl
 | [c],b,pre=>rfl
 | c :: d :: cs,b,pre=>by
  have ih:=Wx g G (d :: cs) (b + (c (b + 1)).length + 2) (pre ++ .tup [.str "try",.int ((b:Int) + (c (b + 1)).length + 2)] :: (c (b + 1) ++ [.tup G]))
  have e:(pre ++ Rw.tup [.str "try",.int ((b:Int) + (c (b + 1)).length + 2)]   :: (c (b + 1) ++ [Rw.tup G])).length = pre.length + (c (b + 1)).length + 2:=by simp; omega
  rw [e] at ih
  simp only [goes,X2]
  show W2 (.tup G) (goes (d :: cs) _ _) ((pre ++ _ :: (c (b + 1) ++ .tup g :: X2 g (d :: cs) _)).set _ _) = _
  rw [show pre ++ Rw.tup [.str "try",.int ((b:Int) + (c (b + 1)).length + 2)] :: (c (b + 1) ++ .tup g :: X2 g (d :: cs) (b + (c (b + 1)).length + 2)) = (pre ++ .tup [.str "try",.int ((b:Int) + (c (b + 1)).length + 2)] :: c (b + 1)) ++ .tup g :: X2 g (d :: cs) (b + (c (b + 1)).length + 2) by simp]
  rw [Z7n _ _ _ _ _ (by simp; omega)]
  simpa using ih
theorem Z4s:∀ (cs:List Cd) (b s:Nat),∀ p ∈ goes cs b s,s ≤ p∧p < s + (X2 [] cs b).length
 | [],_,_,p,h=>by simp [goes] at h
 | [_],_,_,p,h=>by simp [goes] at h
 | c :: d :: cs,b,s,p,h=>by
  simp only [goes] at h
  simp only [X2,List.length_cons,List.length_append]
  rcases List.mem_cons.mp h with e | h
  ·omega
  ·have:=Z4s (d :: cs) _ _ p h
   omega
theorem U1 (G:Rw):∀ (ps:List Nat) (l:List Rw),(W2 G ps l).length = l.length
 | [],_=>rfl
 | p :: ps,l=>by
  show (W2 G ps (l.set p G)).length = _
  rw [U1,List.length_set]
def RowAt (H:Hp) (v:V):Rw→Prop
 | .pat h=>PatAt H 1 v (.node h [])
 | .tup xs=>∃ a,v = .ref a∧H a = some (.tup xs)
theorem RowAt.mono {H H':Hp} (t:∀ b xs,H b = some (.tup xs)→H' b = some (.tup xs)) {v:V}:∀ {r:Rw},RowAt H v r→RowAt H' v r
 | .pat _,h=>PatAt.mono t h
 | .tup _,⟨a,e,q⟩=>⟨a,e,t _ _ q⟩
theorem Zp {H H':Hp} (t:∀ b xs,H b = some (.tup xs)→H' b = some (.tup xs)) {vs:List V} {rs:List Rw} (h:Paired (RowAt H) vs rs):Paired (RowAt H') vs rs:=Paired.mapP h fun _ _ q=>q.mono t
theorem U6 {α β:Type} {F:α→β→Prop} {x:α} {y:β} (q:F x y):∀ {xs:List α} {ys:List β} (i:Nat),Paired F xs ys→Paired F (xs.set i x) (ys.set i y)
 | _,_,_,.nil=>.nil
 | _,_,0,.cons _ t=>.cons q t
 | _,_,i + 1,.cons r t=>.cons r (U6 q i t)
theorem Zg {α β:Type} {F:α→β→Prop}:∀ {xs xs':List α} {ys ys':List β},Paired F xs ys→Paired F xs' ys'→Paired F (xs ++ xs') (ys ++ ys')
 | _,_,_,_,.nil,s=>s
 | _,_,_,_,.cons r t,s=>.cons r (Zg t s)
def W4 (g:List V):List Cd→Cd
 | [],_=>[]
 | c :: cs,b=>.tup [.str "try",.int ((b:Int) + (c (b + 1)).length + 2)] :: (c (b + 1) ++ .tup g :: W4 g cs (b + (c (b + 1)).length + 2))
def Jr:List Cd→Nat→Nat→List Nat
 | [],_,_=>[]
 | c :: cs,b,s=>(s + 1 + (c (b + 1)).length) :: Jr cs (b + (c (b + 1)).length + 2) (s + (c (b + 1)).length + 2)
theorem Jg (g:List V):∀ (cs:List Cd) (d:Cd) (b:Nat),X2 g (cs ++ [d]) b = W4 g cs b ++ d (b + (W4 g cs b).length)
 | [],d,b=>rfl
 | [c],d,b=>by
  simp only [List.cons_append,List.nil_append,X2,W4,List.append_assoc,List.length_cons,List.length_append,List.length_nil]
  rw [show b + (c (b + 1)).length + 2 = b + ((c (b + 1)).length + (0 + 1) + 1) by omega]
 | c :: e :: cs,d,b=>by
  have ih:=Jg g (e :: cs) d (b + (c (b + 1)).length + 2)
  rw [List.cons_append] at ih
  have e1:W4 g (c :: e :: cs) b = .tup [.str "try",.int ((b:Int) + (c (b + 1)).length + 2)] :: (c (b + 1) ++ .tup g :: W4 g (e :: cs) (b + (c (b + 1)).length + 2)):=rfl
  rw [List.cons_append,List.cons_append,X2,ih,e1]
  generalize W4 g (e :: cs) (b + (c (b + 1)).length + 2) = Z
  simp only [List.cons_append,List.append_assoc,List.length_cons,List.length_append]
  rw [show b + (c (b + 1)).length + 2 + Z.length = b + ((c (b + 1)).length + (Z.length + 1) + 1) by omega]
theorem J5:∀ (cs:List Cd) (d:Cd) (b s:Nat),goes (cs ++ [d]) b s = Jr cs b s
 | [],d,b,s=>rfl
 | [c],d,b,s=>rfl
 | c :: e :: cs,d,b,s=>by
  have ih:=J5 (e :: cs) d (b + (c (b + 1)).length + 2) (s + (c (b + 1)).length + 2)
  rw [List.cons_append] at ih
  rw [List.cons_append,List.cons_append,goes,ih]
  rfl
theorem Ts (g:List V):∀ (cs:List Cd) (c:Cd) (b m:Nat),m = b + (W4 g cs b).length→W4 g (cs ++ [c]) b = W4 g cs b ++ (.tup [.str "try",.int ((m:Int) + (c (m + 1)).length + 2)] :: (c (m + 1) ++ [.tup g]))
 | [],c,b,m,h=>by rw [show m = b from h]; rfl
 | d :: cs,c,b,m,h=>by
  have ih:=Ts g cs c (b + (d (b + 1)).length + 2) m (by rw [h]; simp only [W4,List.length_cons,List.length_append]; omega)
  rw [List.cons_append,W4,ih,W4]
  simp
theorem Tr:∀ (cs:List Cd) (c:Cd) (b s m:Nat),m = b + (W4 [] cs b).length→Jr (cs ++ [c]) b s = Jr cs b s ++ [s + (W4 [] cs b).length + 1 + (c (m + 1)).length]
 | [],c,b,s,m,h=>by rw [show m = b from h]; simp [Jr,W4]
 | d :: cs,c,b,s,m,h=>by
  have ih:=Tr cs c (b + (d (b + 1)).length + 2) (s + (d (b + 1)).length + 2) m (by rw [h]; simp only [W4,List.length_cons,List.length_append]; omega)
  rw [List.cons_append,Jr,ih,Jr]
  simp only [List.cons_append,W4,List.length_cons,List.length_append]
  rw [show s + (d (b + 1)).length + 2 + (W4 [] cs (b + (d (b + 1)).length + 2)).length + 1 + (c (m + 1)).length = s + ((d (b + 1)).length + ((W4 [] cs (b + (d (b + 1)).length + 2)).length + 1) + 1) + 1 + (c (m + 1)).length by omega]
theorem V6:∀ (ks:List Pat) (b:Nat),(W4 [] (ks.map Pat.code) b).length ≤ 7 * Zt ks
 | [],b=>by simp [W4,Zt]
 | k :: ks,b=>by
  have h1:=Pat.code_fits k (b + 1)
  have h2:=V6 ks (b + (k.code (b + 1)).length + 2)
  simp only [List.map_cons,W4,List.length_cons,List.length_append] at h2 ⊢
  rw [Zt]
  omega
theorem Z6h (cs:List Cd) (b:Nat):∀ p ∈ goes cs b 0,p < (X2 [] cs b).length:=fun p h=>by have:=Z4s cs b 0 p h; omega
abbrev itself:List V:=[.str "sign",.str "any",.str "in",.str "out",.str "begin",.str "end",.str "again"]
abbrev leaning:List V:=[.str "behind",.str "notbehind"]
abbrev lastRows:List (Key × V):=[(.inr "once",.str "kept"),(.inr "ahead",.str "peeked"),(.inr "behind",.str "peeked"),(.inr "notahead",.str "barred"),(.inr "notbehind",.str "barred")]
def Wd.leaf:Wd→Bool
 | .sign=>true | .any=>true | .inn=>true | .out=>true | .beg=>true | .fin=>true | .again=>true | _=>false
theorem Z5a (h:Hd):inV (.str h.word) itself = h.wd.leaf:=by rw [h.word_wd]; cases h.wd <;> decide +kernel
theorem Z4d (l:Lk):inV (.str l.text) leaning = l.leans:=by cases l <;> decide +kernel
theorem Z4g (l:Lk):Z2v lastRows (Sum.inr l.text) = some (.str l.last):=by cases l <;> decide +kernel
theorem Z4e {h:Hd} (e:h.wd.leaf = true) (cs:List Cd) (b:Nat):h.code cs b = [.pat h]:=by
 cases h with
 | look l=>cases l <;> exact absurd e (by decide)
 | row=>exact absurd e (by decide)
 | alt=>exact absurd e (by decide)
 | times _ _ _=>exact absurd e (by simp [Hd.wd,Wd.leaf])
 | grp _=>exact absurd e (by simp [Hd.wd,Wd.leaf])
 | hav _=>exact absurd e (by simp [Hd.wd,Wd.leaf])
 | _=>rfl
theorem PatAt.leafy {H:Hp} {n:Nat} {v:V} {h:Hd} {ks:List Pat} (p:PatAt H (n + 1) v (.node h ks)) (e:h.wd.leaf = true):PatAt H 1 v (.node h []):=by
 obtain ⟨a,kv,rfl,l,k⟩:=p
 have z:kv = []:=by
  cases h with
  | look lk=>cases lk <;> exact absurd e (by decide)
  | row=>exact absurd e (by decide)
  | alt=>exact absurd e (by decide)
  | times _ _ _=>exact absurd e (by simp [Hd.wd,Wd.leaf])
  | grp _=>exact absurd e (by simp [Hd.wd,Wd.leaf])
  | hav _=>exact absurd e (by simp [Hd.wd,Wd.leaf])
  | again n=>exact l.2.1
  | _=>exact l.1
 subst z
 exact ⟨a,[],rfl,l,.nil⟩
theorem big {n:Nat} (h:n ≤ 1000000):n < sizeLine:=Nat.lt_of_le_of_lt h (by rw [sizeLine_eq]; decide)
theorem Xv {n j:Nat} (h:j < n):ixN n (j:Int) = some j:=by
 unfold ixN
 rw [if_pos (by omega),if_pos (by omega)]
 simp
theorem Yz {H:Hp} {r t:Addr} {xs:List V} {o:HO} (hr:H r = some (.lst xs)) (ht:H t = none):(upd H t o) r = some (.lst xs):=by rw [Zf (Z7 hr ht)]; exact hr
theorem Xe {H:Hp} {r t:Addr} {xs zs:List V} {o:HO} (hr:H r = some (.lst xs)) (ht:H t = none):Gro [r] H (upd (upd H t o) r (.lst zs)):=(Gro.new ht _).trans (Gro.set (by simp) (Yz hr ht) _)
theorem Xd {H:Hp} {r t:Addr} {xs ys zs:List V} (hr:H r = some (.lst xs)) (ht:H t = none):(upd (upd H t (.tup ys)) r (.lst zs)) t = some (.tup ys):=by rw [Zf (Ne.symm (Z7 hr ht))]; exact Z1
theorem Ti {a b:List V} {x y:V} {p:Nat} (h:p = a.length):(a ++ x :: b).set p y = a ++ y :: b:=by subst h; simp
theorem Z6m {kv:List V} (h:1 ≤ kv.length):Ui kv none (some (-1)) = kv.take (kv.length - 1)∧¬ (HT.sIx kv.length 0 none = 0∧HT.sIx kv.length kv.length (some (-1)) = kv.length):=by
 have e0:HT.sIx kv.length 0 none = 0:=rfl
 have e1:HT.sIx kv.length kv.length (some (-1)) = kv.length - 1:=by
  unfold HT.sIx
  simp
  omega
 refine ⟨?_,fun z=>?_⟩
 ·unfold Ui
  rw [e0,e1]
  simp
 ·rw [e1] at z
  omega
theorem Z90 {kv:List V} {d:V} (h:kv.getLast? = some d):atI kv (-1) = some d:=by
 have hl:kv ≠ []:=fun z=>by rw [z] at h; simp at h
 have hp:=List.length_pos_iff.mpr hl
 unfold atI ixN
 rw [if_neg (by decide),if_pos (by omega)]
 rw [List.getLast?_eq_getElem?] at h
 show kv[((-1:Int) + kv.length).toNat]? = some d
 rw [show ((-1:Int) + kv.length).toNat = kv.length - 1 by omega]
 exact h
def chr (t:Str) (i:Nat):Str:=⟨#[t.cps.toList.getD i 0]⟩
def X9 (rs:List (Str × Str)) (c:Str):Bool:=rs.any fun r=>!decide (c.cps.toList < r.1.cps.toList) && !decide (r.2.cps.toList < c.cps.toList)
def Hd.one:Hd→Bool
 | .sign _=>true | .any=>true | .inn _=>true | .out _=>true | _=>false
def Hd.eats (h:Hd) (c:Str):Bool:=match h with
 | .sign s=>decide (V.str s = V.str c) | .any=>true | .inn rs=>X9 rs c | .out rs=>!X9 rs c | _=>false
def Zv (h:Hd) (t:Str) (i:Int):Bool:=if i < t.length then h.eats (chr t i.toNat) else false
theorem Z7f {t:Str} {i:Int} (h0:0 ≤ i) (h1:i < t.length):atI t.cps.toList i = some (t.cps.toList.getD i.toNat 0):=by
 have hl:i.toNat < t.cps.toList.length:=by
  have:t.cps.toList.length = t.length:=by simp [Str.length]
  omega
 have:=Xy (xs:=t.cps.toList) (j:=i.toNat) (v:=t.cps.toList.getD i.toNat 0) (by rw [List.getD_eq_getElem?_getD,List.getElem?_eq_getElem hl]; rfl)
 rw [Int.toNat_of_nonneg h0] at this
 exact this
abbrev En:=Option (Nat × Nat)
abbrev Gs:=List En
abbrev Hl:=List (Nat × Nat)
abbrev Ch:=Nat × Nat × Gs × Hl
abbrev Way:=Nat × Gs
inductive Op where
 | pat (h:Hd) | try_ (z:Nat) | go (z:Nat) | have_ (k:Int) (z:Nat) | turns | open_ | close (k:Int) | turn (lo:Int) (hi:Option Int) (how:How) (z:Nat) | next (lo:Int) (z:Nat)
 | once | kept | peeked | bar (z:Nat) | barred | lean | here | found
def Op.rw:Op→Rw
 | .pat h=>.pat h
 | .try_ z=>.tup [.str "try",.int z]
 | .go z=>.tup [.str "go",.int z]
 | .have_ k z=>.tup [.str "have",.int k,.int z]
 | .turns=>.tup [.str "turns"]
 | .open_=>.tup [.str "open"]
 | .close k=>.tup [.str "close",.int k]
 | .turn lo hi how z=>.tup [.str "turn",.int lo,Z98 hi,.str how.text,.int z]
 | .next lo z=>.tup [.str "next",.int lo,.int z]
 | .once=>.tup [.str "once"]
 | .kept=>.tup [.str "kept"]
 | .peeked=>.tup [.str "peeked"]
 | .bar z=>.tup [.str "bar",.int z]
 | .barred=>.tup [.str "barred"]
 | .lean=>.tup [.str "lean"]
 | .here=>.tup [.str "here"]
 | .found=>.tup [.str "found"]
structure Cg where
 r:Nat
 i:Nat
 g:Gs
 h:Hl
 cs:List Ch
inductive Cf where
 | run (c:Cg) | ended
def bk (cs:List Ch):Cf:=match cs.getLast? with
 | none=>.ended
 | some q=>.run ⟨q.1,q.2.1,q.2.2.1,q.2.2.2,cs.dropLast⟩
theorem Vo (cs:List Ch) (q:Ch):bk (cs ++ [q]) = .run ⟨q.1,q.2.1,q.2.2.1,q.2.2.2,cs⟩:=by
 unfold bk
 rw [List.getLast?_append,List.dropLast_concat]
 rfl
def ent (g:Gs) (k:Int):En:=(g.getD (k - 1).toNat none)
def put (g:Gs) (k:Int) (a b:Nat):Gs:=g.take (k - 1).toNat ++ [some (a,b)] ++ g.drop k.toNat
def Z2i (hi:Option Int) (n:Nat):Bool:=match hi with
 | none=>true
 | some h=>decide ((n:Int) < h)
def Op.act (t:Str):Op→Cg→Cf
 | .pat .beg,c=>if c.i = 0 then .run c else bk c.cs
 | .pat .fin,c=>if c.i = t.length then .run c else bk c.cs
 | .pat (.again k),c=>match ent c.g k with
  | none=>bk c.cs
  | some p=>if sub t c.i (c.i + (p.2 - p.1)) = sub t p.1 p.2 then .run { c with i:=c.i + (p.2 - p.1) } else bk c.cs
 | .pat h,c=>if Zv h t c.i = true then .run { c with i:=c.i + 1 } else bk c.cs
 | .try_ z,c=>.run { c with cs:=c.cs ++ [(z,c.i,c.g,c.h)] }
 | .go z,c=>.run { c with r:=z }
 | .have_ k z,c=>match ent c.g k with
  | none=>.run { c with r:=z }
  | some _=>.run c
 | .turns,c=>.run { c with h:=(0,c.i) :: c.h }
 | .open_,c=>.run { c with h:=(0,c.i) :: c.h }
 | .close k,c=>match c.h with
  | []=>.ended
  | p :: h=>.run { c with h:=h,g:=put c.g k p.2 c.i }
 | .turn lo hi how z,c=>match c.h with
  | []=>.ended
  | p :: h=>if Z2i hi p.1 = true then
    (if lo ≤ p.1 then (match how with
     | .little=>.run ⟨z,c.i,c.g,h,c.cs ++ [(c.r,c.i,c.g,(p.1,c.i) :: h)]⟩
     | _=>.run ⟨c.r,c.i,c.g,(p.1,c.i) :: h,c.cs ++ [(z,c.i,c.g,h)]⟩)
    else .run ⟨c.r,c.i,c.g,(p.1,c.i) :: h,c.cs⟩)
   else if lo ≤ p.1 then .run ⟨z,c.i,c.g,h,c.cs⟩ else bk c.cs
 | .next lo z,c=>match c.h with
  | []=>.ended
  | p :: h=>if lo ≤ p.1∧c.i = p.2 then bk c.cs else .run ⟨z,c.i,c.g,(p.1 + 1,p.2) :: h,c.cs⟩
 | .once,c=>.run { c with h:=(c.cs.length,c.i) :: c.h }
 | .kept,c=>match c.h with
  | []=>.ended
  | p :: h=>.run { c with h:=h,cs:=c.cs.take p.1 }
 | .peeked,c=>match c.h with
  | []=>.ended
  | p :: h=>.run { c with i:=p.2,h:=h,cs:=c.cs.take p.1 }
 | .bar z,c=>.run { c with h:=(c.cs.length,c.i) :: c.h,cs:=c.cs ++ [(z,c.i,c.g,c.h)] }
 | .barred,c=>match c.h with
  | []=>.ended
  | p :: _=>bk (c.cs.take p.1)
 | .lean,c=>if 0 < c.i then .run { c with cs:=c.cs ++ [(c.r - 1,c.i - 1,c.g,c.h)] } else .run c
 | .here,c=>match c.h with
  | []=>.ended
  | p :: _=>if c.i = p.2 then .run c else bk c.cs
 | .found,c=>.run c
def Op.need (n:Nat) (c:Cg):Op→Prop
 | .close k=>(1 ≤ k∧k ≤ n)∧c.h ≠ []
 | .turn _ _ _ _=>c.h ≠ []
 | .next _ _=>c.h ≠ []
 | .kept=>c.h ≠ []
 | .peeked=>c.h ≠ []
 | .barred=>c.h ≠ []
 | .here=>c.h ≠ []
 | .pat (.again k)=>1 ≤ k∧k ≤ n
 | .have_ k _=>1 ≤ k∧k ≤ n
 | .found=>False
 | _=>True
structure GOk (t:Str) (n:Nat) (g:Gs):Prop where
 len:g.length = n
 ok:∀ x y,some (x,y) ∈ g→x ≤ y∧y ≤ t.length
structure Lv (es:List Op) (t:Str) (n:Nat) (c:Cg):Prop where
 r:c.r < es.length
 i:c.i ≤ t.length
 g:GOk t n c.g
 op:(es.getD c.r .found).need n c
def step (es:List Op) (t:Str):Cf→Cf
 | .ended=>.ended
 | .run c=>(es.getD c.r .found).act t { c with r:=c.r + 1 }
def run (es:List Op) (t:Str):Nat→Cf→Cf
 | 0,M=>M
 | k + 1,M=>step es t (run es t k M)
theorem Jq (es:List Op) (t:Str) (a:Nat):∀ (b:Nat) (M:Cf),run es t (a + b) M = run es t b (run es t a M)
 | 0,M=>rfl
 | b + 1,M=>by
  show step es t (run es t (a + b) M) = step es t (run es t b (run es t a M))
  rw [Jq es t a b M]
structure Rc (es:List Op) (t:Str) (n:Nat) (M:Cf) (k:Nat) (M':Cf):Prop where
 live:∀ j,j < k→∃ c,run es t j M = .run c∧Lv es t n c
 eq:run es t k M = M'
section
variable {es:List Op} {t:Str} {n:Nat}
theorem Rc.refl {M:Cf}:Rc es t n M 0 M:=⟨fun j h=>absurd h (by omega),rfl⟩
theorem Rc.trans {M M1 M2:Cf} {a b:Nat} (h1:Rc es t n M a M1) (h2:Rc es t n M1 b M2):Rc es t n M (a + b) M2:=by
 refine ⟨fun j hj=>?_,by rw [Jq,h1.eq,h2.eq]⟩
 by_cases h:j < a
 ·exact h1.live j h
 ·have:=h2.live (j - a) (by omega)
  rw [← h1.eq,← Jq,show a + (j - a) = j by omega] at this
  exact this
theorem Rc.one {c:Cg} {M:Cf} {o:Op} (ho:es[c.r]? = some o) (hi:c.i ≤ t.length) (hg:GOk t n c.g) (hn:o.need n c) (e:o.act t { c with r:=c.r + 1 } = M):Rc es t n (.run c) 1 M:=by
 have hd:es.getD c.r .found = o:=by rw [List.getD_eq_getElem?_getD,ho]; rfl
 refine ⟨fun j hj=>?_,?_⟩
 ·rw [show j = 0 by omega]
  exact ⟨c,rfl,(List.getElem?_eq_some_iff.mp ho).1,hi,hg,by rw [hd]; exact hn⟩
 ·show (es.getD c.r .found).act t _ = M
  rw [hd]
  exact e
inductive Yl (es:List Op) (t:Str) (n:Nat) (e:Nat) (h:Hl) (cs:List Ch):Cf→List Way→Nat→Prop where
 | nil {M:Cf} {j k:Nat} (r:Rc es t n M j (bk cs)) (hk:j ≤ k):Yl es t n e h cs M [] k
 | cons {M:Cf} {j k k':Nat} {w:Way} {ws:List Way} {xs:List Ch} (r:Rc es t n M j (.run ⟨e,w.1,w.2,h,cs ++ xs⟩)) (y:Yl es t n e h cs (bk (cs ++ xs)) ws k') (hk:j + k' ≤ k):Yl es t n e h cs M (w :: ws) k
variable {e:Nat} {h:Hl} {cs:List Ch}
theorem Yl.mono {M:Cf} {ws:List Way} {k k':Nat} (y:Yl es t n e h cs M ws k) (hk:k ≤ k'):Yl es t n e h cs M ws k':=by
 cases y with
 | nil r h1=>exact .nil r (by omega)
 | cons r y h1=>exact .cons r y (by omega)
theorem Yl.pre {M M':Cf} {ws:List Way} {j k:Nat} (r:Rc es t n M j M') (y:Yl es t n e h cs M' ws k):Yl es t n e h cs M ws (j + k):=by
 cases y with
 | nil r' h1=>exact .nil (r.trans r') (by omega)
 | cons r' y h1=>exact .cons (r.trans r') y (by omega)
theorem Yl.one {w:Way} {xs:List Ch} (hx:xs = []):Yl es t n e h cs (.run ⟨e,w.1,w.2,h,cs ++ xs⟩) [w] 0:=by
 subst hx
 refine .cons (xs:=[]) (j:=0) (k':=0) Rc.refl (.nil (j:=0) ?_ (Nat.le_refl _)) (Nat.le_refl _)
 rw [List.append_nil]
 exact Rc.refl
theorem Yl.app {M:Cf} {xs:List Ch} {ws1 ws2:List Way} {k1 k2:Nat} (y1:Yl es t n e h (cs ++ xs) M ws1 k1) (y2:Yl es t n e h cs (bk (cs ++ xs)) ws2 k2):Yl es t n e h cs M (ws1 ++ ws2) (k1 + k2):=by
 induction y1 with
 | nil r hk=>exact (y2.pre r).mono (by omega)
 | cons r y hk ih =>
  rename_i M j k k' w ws xs'
  rw [List.append_assoc] at r ih
  have r':Rc es t n M j (.run ⟨e,w.1,w.2,h,cs ++ (xs ++ xs')⟩):=r
  have ih':Yl es t n e h cs (bk (cs ++ (xs ++ xs'))) (ws ++ ws2) (k' + k2):=ih
  exact .cons r' ih' (by omega)
theorem Yl.bind {M:Cf} {ws:List Way} {k e2:Nat} {h2:Hl} {f:Way→List Way} {c:Way→Nat} (y:Yl es t n e h cs M ws k) (hf:∀ w ∈ ws,∀ xs,Yl es t n e2 h2 (cs ++ xs) (.run ⟨e,w.1,w.2,h,cs ++ xs⟩) (f w) (c w)) :
  Yl es t n e2 h2 cs M (ws.flatMap f) (k + (ws.map c).sum):=by
 induction y with
 | nil r hk=>exact .nil r (by simp; omega)
 | cons r y hk ih =>
  rename_i M j k k' w ws xs
  rw [List.flatMap_cons,List.map_cons,List.sum_cons]
  have ih':=ih fun v hv=>hf v (by simp [hv])
  exact ((Yl.app (hf w (by simp) xs) ih').pre r).mono (by omega)
theorem Yl.map1 {M:Cf} {ws:List Way} {k e2:Nat} {h2:Hl} {f:Way→Way} (y:Yl es t n e h cs M ws k) (hf:∀ w ∈ ws,∀ xs,Rc es t n (.run ⟨e,w.1,w.2,h,cs ++ xs⟩) 1 (.run ⟨e2,(f w).1,(f w).2,h2,cs ++ xs⟩)) :
  Yl es t n e2 h2 cs M (ws.map f) (k + ws.length):=by
 induction y with
 | nil r hk=>exact .nil r (by simp; omega)
 | cons r y hk ih =>
  rename_i M j k k' w ws xs
  rw [List.map_cons,List.length_cons]
  have ih':=ih fun v hv=>hf v (by simp [hv])
  exact .cons (r.trans (hf w (by simp) xs)) ih' (by omega)
end
def Hd.nm (n:Int):Hd→Prop
 | .grp k=>1 ≤ k∧k ≤ n | .again k=>1 ≤ k∧k ≤ n | .hav k=>1 ≤ k∧k ≤ n | _=>True
mutual
def Pat.nm (n:Int):Pat→Prop
 | .node h ks=>h.nm n∧nmL n ks
def nmL (n:Int):List Pat→Prop
 | []=>True
 | k :: ks=>k.nm n∧nmL n ks
end
theorem Z48 {n:Int}:∀ {ks:List Pat},nmL n ks ↔ ∀ k ∈ ks,k.nm n
 | []=>by simp [nmL]
 | k :: ks=>by rw [nmL,Z48 (ks:=ks)]; simp
theorem nm_node {n:Int} {h:Hd} {ks:List Pat}:(Pat.node h ks).nm n ↔ h.nm n∧∀ k ∈ ks,k.nm n:=by rw [Pat.nm,Z48]
abbrev Co:=Nat→List Op
def Z2s:List Co→Co
 | [],_=>[]
 | c :: cs,b=>c b ++ Z2s cs (b + (c b).length)
def Vs (e:Nat):List Co→Co
 | [],_=>[]
 | [c],b=>c b
 | c :: d :: cs,b=>.try_ (b + (c (b + 1)).length + 2) :: (c (b + 1) ++ .go e :: Vs e (d :: cs) (b + (c (b + 1)).length + 2))
def Vq (lo:Int) (hi:Option Int) (how:How) (c:Co):Co:=fun b=>.turns :: .turn lo hi how (b + 3 + (c (b + 2)).length) :: (c (b + 2) ++ [.next lo (b + 1)])
def Z9c (lo:Int) (hi:Option Int) (how:How) (c:Co):Co:=match how with
 | .keep=>fun b=>.once :: (Vq lo hi .much c (b + 1) ++ [.kept])
 | h=>Vq lo hi h c
def Z8r (k:Int) (y n:Co):Co:=fun b=>.have_ k (b + (y (b + 1)).length + 2) :: (y (b + 1) ++ .go (b + (y (b + 1)).length + 2 + (n (b + (y (b + 1)).length + 2)).length) :: n (b + (y (b + 1)).length + 2))
def Z77 (l:Lk) (c:Co):Co:=fun b=>match l.leans with
 | true=>.lean :: (c (b + 2) ++ [.here])
 | false=>c (b + 1)
def Lk.lastO:Lk→Op
 | .once=>.kept | .ahead=>.peeked | .behind=>.peeked | .notahead=>.barred | .notbehind=>.barred
def Lk.bars:Lk→Bool
 | .notahead=>true | .notbehind=>true | _=>false
def Xp (l:Lk) (c:Co):Co:=fun b=>(if l.bars = true then .bar (b + 2 + (Z77 l c b).length) else .once) :: (Z77 l c b ++ [l.lastO])
def hdO (cs:List Co):Co:=cs.headD fun _=>[]
def orO (cs:List Co):Co:=fun b=>Vs (b + (Vs 0 cs b).length) cs b
def Hd.ops (h:Hd) (cs:List Co):Co:=match h with
 | .row=>Z2s cs
 | .alt=>orO cs
 | .times lo hi how=>Z9c lo hi how (hdO cs)
 | .grp k=>fun b=>.open_ :: (hdO cs (b + 1) ++ [.close k])
 | .hav k=>Z8r k (hdO cs) (hdO cs.tail)
 | .look l=>Xp l (hdO cs)
 | h=>fun _=>[.pat h]
mutual
def Pat.ops:Pat→Co
 | .node h ks=>h.ops (Zb4 ks)
def Zb4:List Pat→List Co
 | []=>[]
 | k :: ks=>k.ops :: Zb4 ks
end
theorem Z5v (ks:List Pat):Zb4 ks = ks.map Pat.ops:=by
 induction ks with
 | nil=>rfl
 | cons k ks ih=>rw [Zb4,ih]; rfl
theorem Yo (h:Hd) (ks:List Pat):(Pat.node h ks).ops = h.ops (ks.map Pat.ops):=by rw [Pat.ops,Z5v]
def Same2 (c:Co) (c':Cd):Prop:=∀ b,(c b).map Op.rw = c' b
theorem Same2.len {c:Co} {c':Cd} (h:Same2 c c') (b:Nat):(c' b).length = (c b).length:=by rw [← h b,List.length_map]
theorem Z1q (e e':Nat):∀ (cs:List Co) (b:Nat),(Vs e cs b).length = (Vs e' cs b).length
 | [],_=>rfl
 | [_],_=>rfl
 | c :: d :: cs,b=>by
  have:=Z1q e e' (d :: cs) (b + (c (b + 1)).length + 2)
  simp only [Vs,List.length_cons,List.length_append] at this ⊢
  omega
section
variable {ks:List Pat} (ih:∀ k ∈ ks,Same2 k.ops k.code)
include ih
theorem Z5h:Same2 (Z2s (ks.map Pat.ops)) (To (ks.map Pat.code)):=by
 induction ks with
 | nil=>intro b; rfl
 | cons k ks hk =>
  intro b
  have h1:=ih k (by simp)
  have h2:=hk (fun x hx=>ih x (by simp [hx])) (b + (k.ops b).length)
  simp only [List.map_cons,Z2s,To,List.map_append]
  rw [h1.len b,h2,h1 b]
theorem Z0r (e:Nat):∀ b,(Vs e (ks.map Pat.ops) b).map Op.rw = X2 (goV (e:Int)) (ks.map Pat.code) b:=by
 induction ks with
 | nil=>intro b; rfl
 | cons k ks hk =>
  intro b
  have h1:=ih k (by simp)
  cases ks with
  | nil=>exact h1 b
  | cons l ks =>
   have h2:=hk (fun x hx=>ih x (by simp at hx; simp [hx])) (b + (k.ops (b + 1)).length + 2)
   simp only [List.map_cons] at h2
   simp only [List.map_cons,Vs,X2,List.map_append]
   rw [h1.len (b + 1),h2,h1 (b + 1)]
   simp only [Op.rw,goV]
   congr 1
theorem Z7p:Same2 (orO (ks.map Pat.ops)) (orC (ks.map Pat.code)):=by
 intro b
 have hl:(X2 [] (ks.map Pat.code) b).length = (Vs 0 (ks.map Pat.ops) b).length:=by
  have:=congrArg List.length (Z0r ih 0 b)
  rw [List.length_map,T7] at this
  exact this.symm
 unfold orO orC
 rw [Z0r ih,hl]
 congr 2
theorem Z3f:Same2 (hdO (ks.map Pat.ops)) (hd0 (ks.map Pat.code)):=by
 cases ks with
 | nil=>intro b; rfl
 | cons k ks=>exact ih k (by simp)
end
theorem V0 {lo:Int} {hi:Option Int} {how:How} {c:Co} {c':Cd} (h:Same2 c c'):Same2 (Vq lo hi how c) (T9 lo hi how.text c'):=by
 intro b
 simp only [Vq,T9,List.map_cons,List.map_append,List.map_nil,Op.rw]
 rw [h.len (b + 2),h (b + 2)]
 congr 2
theorem Z3e {l:Lk} {c:Co} {c':Cd} (h:Same2 c c'):Same2 (Xp l c) (Wr l c'):=by
 intro b
 have hin:(Z77 l c b).map Op.rw = l.inner c' b:=by
  unfold Z77 Lk.inner
  cases l.leans
  ·exact h _
  ·simp only [List.map_cons,List.map_append,List.map_nil,Op.rw]; rw [h]
 have hil:(l.inner c' b).length = (Z77 l c b).length:=by rw [← hin,List.length_map]
 unfold Xp Wr
 rw [List.map_cons,List.map_append,hin,hil]
 cases l <;> simp [Lk.bars,Lk.last,Lk.lastO,Op.rw] <;> first | rfl | omega | skip
mutual
theorem Pat.ops_rw:∀ p:Pat,Same2 p.ops p.code
 | .node h ks=>by
  have ih:=Z3z ks
  rw [Yo,Vn]
  have hh:=Z3f ih
  cases h with
  | row=>exact Z5h ih
  | alt=>exact Z7p ih
  | times lo hi how =>
   cases how with
   | keep =>
    intro b
    have:=V0 (lo:=lo) (hi:=hi) (how:=.much) hh (b + 1)
    show (Op.once :: (Vq lo hi .much _ (b + 1) ++ [.kept])).map Op.rw = _
    rw [List.map_cons,List.map_append,this]
    rfl
   | much=>exact V0 hh
   | little=>exact V0 hh
  | grp k =>
   intro b
   show (Op.open_ :: (hdO _ (b + 1) ++ [.close k])).map Op.rw = _
   rw [List.map_cons,List.map_append,hh (b + 1)]
   rfl
  | hav k =>
   intro b
   have ht:Same2 (hdO (ks.map Pat.ops).tail) (hd0 (ks.map Pat.code).tail):=by
    cases ks with
    | nil=>intro b; rfl
    | cons y r=>exact Z3f fun z hz=>ih z (by simp [hz])
   show (Z8r k _ _ b).map Op.rw = Z8s k _ _ b
   simp only [Z8r,Z8s,List.map_cons,List.map_append,Op.rw]
   rw [hh.len (b + 1),ht.len,hh (b + 1),ht]
   congr 1
  | look l=>exact Z3e hh
  | _=>intro b; rfl
theorem Z3z:∀ ks:List Pat,∀ k ∈ ks,Same2 k.ops k.code
 | [],_,hk=>by simp at hk
 | k :: ks,x,hx=>by
  rcases List.mem_cons.mp hx with h | h
  ·rw [h]
   exact Pat.ops_rw k
  ·exact Z3z ks x h
end
def Sits (es:List Op) (b:Nat) (l:List Op):Prop:=∃ r,es.drop b = l ++ r
theorem Sits.cons {es:List Op} {b:Nat} {x:Op} {l:List Op} (h:Sits es b (x :: l)):es[b]? = some x∧Sits es (b + 1) l:=by
 obtain ⟨r,e⟩:=h
 refine ⟨?_,r,?_⟩
 ·have:(es.drop b)[0]? = some x:=by rw [e]; rfl
  rw [List.getElem?_drop] at this
  exact this
 ·rw [← List.drop_drop,e]
  rfl
theorem Sits.app {es:List Op} {b:Nat} {l l':List Op} (h:Sits es b (l ++ l')):Sits es b l∧Sits es (b + l.length) l':=by
 obtain ⟨r,e⟩:=h
 refine ⟨⟨l' ++ r,by rw [e,List.append_assoc]⟩,r,?_⟩
 rw [← List.drop_drop,e,List.append_assoc,List.drop_left']
 rfl
abbrev Wk:=Pat→Nat→Gs→List Way→Nat→Prop
inductive Ew (W:Wk) (p:Pat):List Way→List Way→Nat→Prop where
 | nil:Ew W p [] [] 0
 | cons {w:Way} {vs us ws:List Way} {N N':Nat} (h:W p w.1 w.2 ws N) (r:Ew W p vs us N'):Ew W p (w :: vs) (ws ++ us) (N + N')
inductive Rx (W:Wk):List Pat→List Way→List Way→Nat→Prop where
 | nil {ws:List Way}:Rx W [] ws ws 0
 | cons {p:Pat} {ks:List Pat} {ws vs us:List Way} {N N':Nat} (h:Ew W p ws vs N) (r:Rx W ks vs us N'):Rx W (p :: ks) ws us (N + N')
inductive Ax (W:Wk) (i:Nat) (g:Gs):List Pat→List Way→Nat→Prop where
 | nil:Ax W i g [] [] 0
 | cons {p:Pat} {ks:List Pat} {ws us:List Way} {N N':Nat} (h:W p i g ws N) (r:Ax W i g ks us N'):Ax W i g (p :: ks) (ws ++ us) (N + N')
inductive Lx (T:Nat→Nat→Gs→List Way→Nat→Prop) (lo:Int) (m i:Nat):List Way→List Way→Nat→Prop where
 | nil:Lx T lo m i [] [] 0
 | go {w:Way} {vs us ws:List Way} {N N':Nat} (c:(m:Int) < lo ∨ i < w.1) (h:T (m + 1) w.1 w.2 ws N) (r:Lx T lo m i vs us N'):Lx T lo m i (w :: vs) (ws ++ us) (N + N')
 | skip {w:Way} {vs us:List Way} {N:Nat} (c:¬ ((m:Int) < lo ∨ i < w.1)) (r:Lx T lo m i vs us N):Lx T lo m i (w :: vs) us N
def Tx (W:Wk) (lo:Int) (hi:Option Int) (how:How) (p:Pat):Nat→Nat→Nat→Gs→List Way→Nat→Prop
 | 0=>fun _ _ _ _ _=>False
 | e + 1=>fun m i g ws N=>∃ on N1,((Z2i hi m = true∧∃ vs Na Nb,W p i g vs Na∧Lx (Tx W lo hi how p e) lo m i vs on Nb∧N1 = Na + Nb) ∨ (Z2i hi m = false∧on = []∧N1 = 0))∧N = N1 + 1 ∧
  ws = if (m:Int) < lo then on else if how = .little then (i,g) :: on else on ++ [(i,g)]
inductive Bx (W:Wk) (p:Pat) (i:Nat) (g:Gs):Nat→List Way→Nat→Prop where
 | here {k:Nat} {vs:List Way} {N:Nat} (h:W p k g vs N) (c:vs.filter (fun w=>w.1 == i) ≠ []):Bx W p i g k (vs.filter fun w=>w.1 == i) N
 | down {k:Nat} {vs ws:List Way} {N N':Nat} (h:W p (k + 1) g vs N) (c:vs.filter (fun w=>w.1 == i) = []) (r:Bx W p i g k ws N'):Bx W p i g (k + 1) ws (N + N')
 | last {vs:List Way} {N:Nat} (h:W p 0 g vs N) (c:vs.filter (fun w=>w.1 == i) = []):Bx W p i g 0 [] N
def agW (t:Str) (i:Nat) (g:Gs) (k:Int):List Way:=match ent g k with
 | none=>[]
 | some p=>if sub t i (i + (p.2 - p.1)) = sub t p.1 p.2 then [(i + (p.2 - p.1),g)] else []
def Z8p (l:Lk) (i:Nat) (g:Gs) (us:List Way):List Way:=match l with
 | .once=>us.take 1
 | .ahead=>(us.take 1).map fun w=>(i,w.2)
 | .behind=>(us.take 1).map fun w=>(i,w.2)
 | _=>if us.isEmpty = true then [(i,g)] else []
def Wy (t:Str):Nat→Wk
 | 0=>fun _ _ _ _ _=>False
 | d + 1=>fun p i g ws N=>match p with
  | .node .beg _=>ws = (if i = 0 then [(i,g)] else [])∧N = 1
  | .node .fin _=>ws = (if i = t.length then [(i,g)] else [])∧N = 1
  | .node (.again k) _=>ws = agW t i g k∧N = 1
  | .node .row ks=>∃ N',Rx (Wy t d) ks [(i,g)] ws N'∧N = N' + 1
  | .node .alt ks=>ks ≠ []∧∃ N',Ax (Wy t d) i g ks ws N'∧N = N' + 1
  | .node (.times lo hi how) ks=>∃ p e us N',ks = [p]∧Tx (Wy t d) lo hi how p e 0 i g us N'∧N = N' + 1∧ws = if how = .keep then us.take 1 else us
  | .node (.grp k) ks=>∃ p us N',ks = [p]∧Wy t d p i g us N'∧N = N' + 1∧ws = us.map fun w=>(w.1,put w.2 k i w.1)
  | .node (.hav k) ks=>∃ p q N',ks = [p,q]∧Wy t d (if (ent g k).isSome = true then p else q) i g ws N'∧N = N' + 1
  | .node (.look l) ks=>∃ p us N',ks = [p]∧(if l.leans = true then Bx (Wy t d) p i g i us N' else Wy t d p i g us N')∧N = N' + 1∧ws = Z8p l i g us
  | .node h _=>ws = (if Zv h t i = true then [(i + 1,g)] else [])∧N = 1
structure Gd (t:Str) (n i:Nat) (w:Way):Prop where
 lo:i ≤ w.1
 hi:w.1 ≤ t.length
 g:GOk t n w.2
structure Gw (t:Str) (n i:Nat) (ws:List Way) (N:Nat):Prop where
 all:∀ w ∈ ws,Gd t n i w
 len:ws.length ≤ N
 pos:1 ≤ N
def GW (t:Str) (n:Nat) (W:Wk):Prop:=∀ p i g ws N,p.nm n→i ≤ t.length→GOk t n g→W p i g ws N→Gw t n i ws N
theorem Gd.trans {t:Str} {n i j:Nat} {w:Way} (h:Gd t n j w) (hi:i ≤ j):Gd t n i w:=⟨Nat.le_trans hi h.lo,h.hi,h.g⟩
theorem Z6y {t:Str} {n a b:Nat} {g:Gs} {k:Int} (h:GOk t n g) (h1:1 ≤ k) (h2:k ≤ n) (ab:a ≤ b) (hb:b ≤ t.length):GOk t n (put g k a b):=by
 have hl:=h.len
 refine ⟨?_,fun x y hm=>?_⟩
 ·unfold put
  simp only [List.length_append,List.length_take,List.length_drop,List.length_singleton]
  omega
 ·unfold put at hm
  rcases List.mem_append.mp hm with hm | hm
  ·rcases List.mem_append.mp hm with hm | hm
   ·exact h.ok x y (List.mem_of_mem_take hm)
   ·have:=List.mem_singleton.mp hm
    injection this with this
    injection this with e1 e2
    subst e1 e2
    exact ⟨ab,hb⟩
  ·exact h.ok x y (List.mem_of_mem_drop hm)
theorem Z7c {t:Str} {n:Nat} {g:Gs} {k:Int} {p:Nat × Nat} (h:GOk t n g) (e:ent g k = some p):p.1 ≤ p.2∧p.2 ≤ t.length:=by
 unfold ent at e
 rw [List.getD_eq_getElem?_getD] at e
 cases hh:g[(k - 1).toNat]? with
 | none=>rw [hh] at e; cases e
 | some x =>
  rw [hh] at e
  have:x = some p:=e
  subst this
  exact h.ok p.1 p.2 (List.mem_of_getElem? hh)
section
variable {t:Str} {n:Nat} {W:Wk} (gw:GW t n W)
include gw
theorem Ew.good {p:Pat} {i:Nat} {vs ws:List Way} {N:Nat} (hp:p.nm n) (h:Ew W p vs ws N) (hv:∀ w ∈ vs,Gd t n i w):(∀ w ∈ ws,Gd t n i w)∧ws.length ≤ N∧vs.length ≤ N:=by
 induction h with
 | nil=>exact ⟨fun w hw=>by simp at hw,by simp,by simp⟩
 | cons h r ih =>
  rename_i w vs us ws N N'
  have a:=hv w (by simp)
  have b:=gw p w.1 w.2 ws N hp a.hi a.g h
  obtain ⟨c1,c2,c3⟩:=ih fun x hx=>hv x (by simp [hx])
  refine ⟨fun x hx=>?_,by rw [List.length_append]; have:=b.len; omega,by rw [List.length_cons]; have:=b.pos; omega⟩
  rcases List.mem_append.mp hx with hx | hx
  ·exact (b.all x hx).trans a.lo
  ·exact c1 x hx
theorem Rx.good {i:Nat} {ks:List Pat} {vs ws:List Way} {N:Nat} (h:Rx W ks vs ws N) (hk:∀ k ∈ ks,k.nm n) (hv:∀ w ∈ vs,Gd t n i w):(∀ w ∈ ws,Gd t n i w)∧ws.length ≤ max vs.length N:=by
 induction h with
 | nil=>exact ⟨hv,by omega⟩
 | cons h r ih =>
  obtain ⟨a1,a2,a3⟩:=h.good gw (hk _ (by simp)) hv
  obtain ⟨b1,b2⟩:=ih (fun k hk'=>hk k (by simp [hk'])) a1
  exact ⟨b1,by omega⟩
theorem Ax.good {i:Nat} {g:Gs} {ks:List Pat} {ws:List Way} {N:Nat} (h:Ax W i g ks ws N) (hk:∀ k ∈ ks,k.nm n) (hi:i ≤ t.length) (hg:GOk t n g):(∀ w ∈ ws,Gd t n i w)∧ws.length ≤ N∧ks.length ≤ N:=by
 induction h with
 | nil=>exact ⟨fun w hw=>by simp at hw,by simp,by simp⟩
 | cons h r ih =>
  have a:=gw _ i g _ _ (hk _ (by simp)) hi hg h
  obtain ⟨b1,b2,b3⟩:=ih fun k hk'=>hk k (by simp [hk'])
  refine ⟨fun x hx=>?_,by rw [List.length_append]; have:=a.len; omega,by rw [List.length_cons]; have:=a.pos; omega⟩
  rcases List.mem_append.mp hx with hx | hx
  ·exact a.all x hx
  ·exact b1 x hx
omit gw in
theorem Lx.good {T:Nat→Nat→Gs→List Way→Nat→Prop} {lo:Int} {m i:Nat} {vs ws:List Way} {N:Nat} (gt:∀ m i g ws N,i ≤ t.length→GOk t n g→T m i g ws N→Gw t n i ws N) (h:Lx T lo m i vs ws N) (hv:∀ w ∈ vs,Gd t n i w):(∀ w ∈ ws,Gd t n i w)∧ws.length ≤ N:=by
 induction h with
 | nil=>exact ⟨fun w hw=>by simp at hw,by simp⟩
 | go c h r ih =>
  rename_i w vs us ws N N'
  have a:=hv w (by simp)
  have b:=gt _ _ _ _ _ a.hi a.g h
  obtain ⟨c1,c2⟩:=ih fun x hx=>hv x (by simp [hx])
  refine ⟨fun x hx=>?_,by rw [List.length_append]; have:=b.len; omega⟩
  rcases List.mem_append.mp hx with hx | hx
  ·exact (b.all x hx).trans a.lo
  ·exact c1 x hx
 | skip c r ih=>exact ih fun x hx=>hv x (by simp [hx])
theorem Tx.good {lo:Int} {hi:Option Int} {how:How} {p:Pat} (hp:p.nm n):∀ (e:Nat) (m i:Nat) (g:Gs) (ws:List Way) (N:Nat),i ≤ t.length→GOk t n g→Tx W lo hi how p e m i g ws N→Gw t n i ws N
 | 0,_,_,_,_,_,_,_,h=>h.elim
 | e + 1,m,i,g,ws,N,hi',hg,h=>by
  obtain ⟨on,N1,hon,rfl,rfl⟩:=h
  have o:(∀ w ∈ on,Gd t n i w)∧on.length ≤ N1:=by
   rcases hon with ⟨_,vs,Na,Nb,h1,h2,rfl⟩ | ⟨_,rfl,rfl⟩
   ·have a:=gw p i g vs Na hp hi' hg h1
    obtain ⟨b1,b2⟩:=Lx.good (fun m i g ws N=>Tx.good hp e m i g ws N) h2 a.all
    exact ⟨b1,by omega⟩
   ·exact ⟨fun w hw=>by simp at hw,by simp⟩
  have me:Gd t n i (i,g):=⟨Nat.le_refl _,hi',hg⟩
  split
  ·exact ⟨o.1,by omega,by omega⟩
  ·split
   ·refine ⟨fun w hw=>?_,by rw [List.length_cons]; omega,by omega⟩
    rcases List.mem_cons.mp hw with rfl | hw
    ·exact me
    ·exact o.1 w hw
   ·refine ⟨fun w hw=>?_,by rw [List.length_append,List.length_singleton]; omega,by omega⟩
    rcases List.mem_append.mp hw with hw | hw
    ·exact o.1 w hw
    ·rw [List.mem_singleton.mp hw]; exact me
theorem Bx.good {p:Pat} {i k:Nat} {g:Gs} {ws:List Way} {N:Nat} (hp:p.nm n) (hg:GOk t n g) (h:Bx W p i g k ws N) (hk:k ≤ t.length):(∀ w ∈ ws,w.1 = i∧w.1 ≤ t.length∧GOk t n w.2)∧ws.length ≤ N∧1 ≤ N:=by
 induction h with
 | here h c =>
  have a:=gw p _ g _ _ hp hk hg h
  refine ⟨fun w hw=>?_,Nat.le_trans (List.length_filter_le _ _) a.len,a.pos⟩
  obtain ⟨h1,h2⟩:=List.mem_filter.mp hw
  have b:=a.all w h1
  exact ⟨by simpa using h2,b.hi,b.g⟩
 | down h c r ih =>
  obtain ⟨b1,b2,b3⟩:=ih (by omega)
  exact ⟨b1,by omega,by omega⟩
 | last h c =>
  have a:=gw p _ g _ _ hp hk hg h
  exact ⟨fun w hw=>by simp at hw,by simp,a.pos⟩
end
theorem Z0j {h:Hd} {t:Str} {i:Nat} (e:Zv h t i = true):i < t.length:=by
 unfold Zv at e
 split at e
 ·omega
 ·cases e
theorem Wy.good {t:Str} {n:Nat}:∀ d,GW t n (Wy t d)
 | 0=>fun _ _ _ _ _ _ _ _ h=>h.elim
 | d + 1=>by
  intro p i g ws N hp hi hg h
  have ih:=Wy.good (t:=t) (n:=n) d
  obtain ⟨hd,ks⟩:=p
  have hp':=nm_node.mp hp
  have one:∀ c:Prop,[Decidable c]→∀ w:Way,(c→Gd t n i w)→Gw t n i (if c then [w] else []) 1:=fun c _ w hw=>by
   split
   ·rename_i hc
    exact ⟨fun x hx=>by rw [List.mem_singleton.mp hx]; exact hw hc,by simp,by omega⟩
   ·exact ⟨fun x hx=>by simp at hx,by simp,by omega⟩
  have me:Gd t n i (i,g):=⟨Nat.le_refl _,hi,hg⟩
  have sg:∀ h:Hd,ws = (if Zv h t i = true then [(i + 1,g)] else [])→N = 1→Gw t n i ws N:=fun h e1 e2=>by
   rw [e1,e2]
   exact one _ (i + 1,g) fun e=>⟨by show i ≤ i + 1; omega,by have:=Z0j e; show i + 1 ≤ _; omega,hg⟩
  cases hd with
  | beg=>obtain ⟨rfl,rfl⟩:=h; exact one _ _ fun _=>me
  | fin=>obtain ⟨rfl,rfl⟩:=h; exact one _ _ fun _=>me
  | sign s=>exact sg _ h.1 h.2
  | any=>exact sg _ h.1 h.2
  | inn s=>exact sg _ h.1 h.2
  | out s=>exact sg _ h.1 h.2
  | again k =>
   obtain ⟨rfl,rfl⟩:=h
   unfold agW
   cases he:ent g k with
   | none=>exact ⟨fun x hx=>by simp at hx,by simp,by omega⟩
   | some q =>
    obtain ⟨q1,q2⟩:=Z7c hg he
    refine one _ _ fun e=>⟨by show i ≤ i + _; omega,?_,hg⟩
    have h1:(sub t q.1 q.2).length = q.2 - q.1:=by
     show ((t.cps.toList.drop q.1).take (q.2 - q.1)).toArray.size = _
     have:t.cps.toList.length = t.length:=by simp [Str.length]
     rw [List.size_toArray,List.length_take,List.length_drop]
     omega
    have h2:(sub t i (i + (q.2 - q.1))).length ≤ t.length - i:=by
     show ((t.cps.toList.drop i).take _).toArray.size ≤ _
     have:t.cps.toList.length = t.length:=by simp [Str.length]
     rw [List.size_toArray,List.length_take,List.length_drop]
     omega
    rw [e,h1] at h2
    show i + (q.2 - q.1) ≤ t.length
    omega
  | row =>
   obtain ⟨N',h,rfl⟩:=h
   obtain ⟨a,b⟩:=h.good ih hp'.2 (i:=i) fun w hw=>by rw [List.mem_singleton.mp hw]; exact me
   exact ⟨a,by simp at b; omega,by omega⟩
  | alt =>
   obtain ⟨_,N',h,rfl⟩:=h
   obtain ⟨a,b,_⟩:=h.good ih hp'.2 hi hg
   exact ⟨a,by omega,by omega⟩
  | times lo hi' how =>
   obtain ⟨q,e,us,N',rfl,h,rfl,rfl⟩:=h
   have a:=Tx.good ih (hp'.2 q (by simp)) e 0 i g us N' hi hg h
   split
   ·exact ⟨fun w hw=>a.all w (List.mem_of_mem_take hw),by rw [List.length_take]; have:=a.len; omega,by omega⟩
   ·exact ⟨a.all,by have:=a.len; omega,by omega⟩
  | grp k =>
   obtain ⟨q,us,N',rfl,h,rfl,rfl⟩:=h
   have a:=ih q i g us N' (hp'.2 q (by simp)) hi hg h
   refine ⟨fun w hw=>?_,by rw [List.length_map]; have:=a.len; omega,by omega⟩
   obtain ⟨v,hv,rfl⟩:=List.mem_map.mp hw
   have b:=a.all v hv
   exact ⟨b.lo,b.hi,Z6y b.g hp'.1.1 hp'.1.2 b.lo b.hi⟩
  | hav k =>
   obtain ⟨q,q',N',rfl,h,rfl⟩:=h
   have hq:(if (ent g k).isSome = true then q else q').nm n:=by
    split
    ·exact hp'.2 q (by simp)
    ·exact hp'.2 q' (by simp)
   have a:=ih _ i g ws N' hq hi hg h
   exact ⟨a.all,by have:=a.len; omega,by omega⟩
  | look l =>
   obtain ⟨q,us,N',rfl,h,rfl,rfl⟩:=h
   have hq:=hp'.2 q (by simp)
   have a:(∀ w ∈ us,w.1 ≤ t.length∧GOk t n w.2∧i ≤ w.1)∧us.length ≤ N':=by
    split at h
    ·obtain ⟨b1,b2,_⟩:=Bx.good ih hq hg h hi
     exact ⟨fun w hw=>⟨(b1 w hw).2.1,(b1 w hw).2.2,by have:=(b1 w hw).1; omega⟩,b2⟩
    ·have b:=ih q i g us N' hq hi hg h
     exact ⟨fun w hw=>⟨(b.all w hw).hi,(b.all w hw).g,(b.all w hw).lo⟩,b.len⟩
   have tk:∀ f:Way→Way,(∀ w ∈ us,Gd t n i (f w))→Gw t n i ((us.take 1).map f) (N' + 1):=fun f hf=>⟨fun w hw=>by
    obtain ⟨v,hv,rfl⟩:=List.mem_map.mp hw
    exact hf v (List.mem_of_mem_take hv),by rw [List.length_map,List.length_take]; omega,by omega⟩
   have pk:Gw t n i ((us.take 1).map fun w=>(i,w.2)) (N' + 1):=tk _ fun w hw=>⟨Nat.le_refl _,hi,(a.1 w hw).2.1⟩
   have br:Gw t n i (if us.isEmpty = true then [(i,g)] else []) (N' + 1):=by
    have:=one (us.isEmpty = true) (i,g) fun _=>me
    exact ⟨this.all,by have:=this.len; omega,by omega⟩
   cases l with
   | once =>
    have:=tk id fun w hw=>⟨(a.1 w hw).2.2,(a.1 w hw).1,(a.1 w hw).2.1⟩
    rw [List.map_id] at this
    exact this
   | ahead=>exact pk
   | behind=>exact pk
   | notahead=>exact br
   | notbehind=>exact br
section
variable {es:List Op} {t:Str} {n:Nat}
theorem Yl.to {e e':Nat} {h:Hl} {cs:List Ch} {M:Cf} {ws:List Way} {k:Nat} (y:Yl es t n e h cs M ws k) (he:e = e'):Yl es t n e' h cs M ws k:=by
 subst he
 exact y
theorem Yl.cut {e e2:Nat} {h h2:Hl} {cs:List Ch} {M:Cf} {ws:List Way} {k:Nat} {f:Way→Way} (y:Yl es t n e h cs M ws k) (hf:∀ w ∈ ws,∀ xs,Rc es t n (.run ⟨e,w.1,w.2,h,cs ++ xs⟩) 1 (.run ⟨e2,(f w).1,(f w).2,h2,cs⟩)) :
  Yl es t n e2 h2 cs M ((ws.take 1).map f) (k + 1):=by
 cases y with
 | nil r hk=>exact .nil r (by omega)
 | cons r y hk =>
  rename_i j k' w ws xs
  have y1:Yl es t n e2 h2 cs (.run ⟨e2,(f w).1,(f w).2,h2,cs⟩) [f w] 0:=by
   have:=Yl.one (es:=es) (t:=t) (n:=n) (e:=e2) (h:=h2) (cs:=cs) (w:=f w) (xs:=[]) rfl
   rw [List.append_nil] at this
   exact this
  exact (y1.pre (r.trans (hf w (by simp) xs))).mono (by omega)
theorem Yl.barred {e e2:Nat} {h h2:Hl} {cs:List Ch} {M:Cf} {ws:List Way} {k:Nat} {w0:Way} (y:Yl es t n e h (cs ++ [(e2,w0.1,w0.2,h2)]) M ws k) (hf:∀ w ∈ ws,∀ xs,Rc es t n (.run ⟨e,w.1,w.2,h,(cs ++ [(e2,w0.1,w0.2,h2)]) ++ xs⟩) 1 (bk cs)) :
  Yl es t n e2 h2 cs M (if ws.isEmpty = true then [w0] else []) (k + 1):=by
 cases y with
 | nil r hk =>
  rw [Vo] at r
  have y1:=Yl.one (es:=es) (t:=t) (n:=n) (e:=e2) (h:=h2) (cs:=cs) (w:=w0) (xs:=[]) rfl
  rw [List.append_nil] at y1
  exact (y1.pre r).mono (by omega)
 | cons r y hk =>
  rename_i j k' w ws xs
  exact .nil (r.trans (hf w (by simp) xs)) (by omega)
def YW (es:List Op) (t:Str) (n:Nat) (W:Wk) (A:Nat):Prop:=∀ p i g ws N,p.nm n→i ≤ t.length→GOk t n g→W p i g ws N→∀ b h cs,Sits es b (p.ops b)→Yl es t n (b + (p.ops b).length) h cs (.run ⟨b,i,g,h,cs⟩) ws (A * N)
section
variable {W:Wk} {A:Nat} (yw:YW es t n W A) (gw:GW t n W)
include yw gw
theorem Ew.yl {p:Pat} {b k:Nat} {h:Hl} {cs:List Ch} {M:Cf} {vs:List Way} (hp:p.nm n) (hs:Sits es b (p.ops b)) (y:Yl es t n b h cs M vs k) (hv:∀ w ∈ vs,Gd t n 0 w):∀ {ws:List Way} {N:Nat},Ew W p vs ws N→Yl es t n (b + (p.ops b).length) h cs M ws (k + A * N):=by
 induction y with
 | nil r hk =>
  intro ws N ew
  cases ew
  exact .nil r (by omega)
 | cons r y hk ih =>
  rename_i M j k k' w vs xs
  intro ws N ew
  cases ew with
  | cons hw ew' =>
   rename_i us ws N N'
   have a:=hv w (by simp)
   have y1:=yw p w.1 w.2 ws N hp a.hi a.g hw b h (cs ++ xs) hs
   have y2:=ih (fun v hv'=>hv v (by simp [hv'])) ew'
   refine ((Yl.app y1 y2).pre r).mono ?_
   rw [Nat.mul_add]
   omega
theorem Rx.yl {h:Hl} {cs:List Ch} {M:Cf} {ks:List Pat} {vs ws:List Way} {N:Nat} (rx:Rx W ks vs ws N):∀ {b k:Nat},(∀ x ∈ ks,x.nm n)→Sits es b (Z2s (ks.map Pat.ops) b)→Yl es t n b h cs M vs k→(∀ w ∈ vs,Gd t n 0 w)→Yl es t n (b + (Z2s (ks.map Pat.ops) b).length) h cs M ws (k + A * N):=by
 induction rx with
 | nil =>
  intro b k _ _ y _
  exact y.mono (by omega)
 | cons ew rx ih =>
  rename_i p ks ws vs us N N'
  intro b k hk hs y hv
  have hp:=hk p (by simp)
  rw [List.map_cons,Z2s] at hs ⊢
  obtain ⟨s1,s2⟩:=hs.app
  have y1:=ew.yl yw gw hp s1 y hv
  have g1:=(ew.good gw hp hv).1
  have y2:=ih (fun x hx=>hk x (by simp [hx])) s2 y1 g1
  refine (y2.to (by rw [List.length_append]; omega)).mono ?_
  rw [Nat.mul_add]
  omega
theorem Ax.yl {h:Hl} {i e:Nat} {g:Gs} {ks:List Pat} {ws:List Way} {N:Nat} (ax:Ax W i g ks ws N) (hi:i ≤ t.length) (hg:GOk t n g):∀ {b:Nat} {cs:List Ch},ks ≠ []→(∀ x ∈ ks,x.nm n)→Sits es b (Vs e (ks.map Pat.ops) b)→e = b + (Vs e (ks.map Pat.ops) b).length→Yl es t n e h cs (.run ⟨b,i,g,h,cs⟩) ws ((A + 2) * N):=by
 induction ax with
 | nil=>intro b cs h0; exact absurd rfl h0
 | cons hw ax ih =>
  rename_i p ks ws us N N'
  intro b cs _ hk hs he
  have hp:=hk p (by simp)
  have gd:=gw p i g ws N hp hi hg hw
  cases ks with
  | nil =>
   cases ax
   have hs':Sits es b (p.ops b):=hs
   have y:=yw p i g ws N hp hi hg hw b h cs hs'
   rw [List.append_nil]
   refine (y.to he.symm).mono ?_
   exact Nat.mul_le_mul (by omega) (by omega)
  | cons l ks =>
   simp only [List.map_cons,Vs] at hs he
   obtain ⟨c0,s1⟩:=hs.cons
   obtain ⟨s2,s3⟩:=s1.app
   obtain ⟨c1,s4⟩:=s3.cons
   have r0:Rc es t n (.run ⟨b,i,g,h,cs⟩) 1 (.run ⟨b + 1,i,g,h,cs ++ [(b + (p.ops (b + 1)).length + 2,i,g,h)]⟩):=Rc.one c0 hi hg trivial rfl
   have y1:=yw p i g ws N hp hi hg hw (b + 1) h (cs ++ [(b + (p.ops (b + 1)).length + 2,i,g,h)]) s2
   have y2:=y1.map1 (e2:=e) (h2:=h) (f:=id) fun w hw' xs=>Rc.one c1 (gd.all w hw').hi (gd.all w hw').g trivial rfl
   rw [List.map_id] at y2
   have y3:=ih (b:=b + (p.ops (b + 1)).length + 2) (cs:=cs) (by simp) (fun x hx=>hk x (by simp at hx; simp [hx])) (by rw [show b + (p.ops (b + 1)).length + 2 = b + 1 + (p.ops (b + 1)).length + 1 by omega] at s4 ⊢; exact s4) (by rw [List.length_cons,List.length_append,List.length_cons] at he; simp only [List.map_cons] at he ⊢; omega)
   have y3':Yl es t n e h cs (bk (cs ++ [(b + (p.ops (b + 1)).length + 2,i,g,h)])) us ((A + 2) * N'):=by
    rw [Vo]
    exact y3
   refine ((Yl.app y2 y3').pre r0).mono ?_
   have:=gd.len
   have:=gd.pos
   have m1:=Nat.add_mul A 2 N
   have m2:=Nat.mul_add (A + 2) N N'
   omega
omit yw gw in
end
end
section
variable {es:List Op} {t:Str} {n:Nat}
theorem Yl.filt {e1 i q k:Nat} {h:Hl} {cs:List Ch} {M:Cf} {vs:List Way} (c1:es[e1]? = some .here) (y:Yl es t n e1 ((q,i) :: h) cs M vs k):(∀ w ∈ vs,w.1 ≤ t.length∧GOk t n w.2) →
  (∃ w us xs j,vs.filter (fun w=>w.1 == i) = w :: us∧Rc es t n M j (.run ⟨e1 + 1,w.1,w.2,(q,i) :: h,cs ++ xs⟩)∧j ≤ k + vs.length) ∨ (vs.filter (fun w=>w.1 == i) = []∧∃ j,Rc es t n M j (bk cs)∧j ≤ k + vs.length):=by
 induction y with
 | nil r hk=>exact fun _=>.inr ⟨rfl,_,r,by omega⟩
 | cons r y hk ih =>
  rename_i M j k k' w vs xs
  intro hv
  have a:=hv w (by simp)
  have nd:Op.here.need n ⟨e1,w.1,w.2,(q,i) :: h,cs ++ xs⟩:=by intro z; cases z
  by_cases e:w.1 = i
  ·have r1:Rc es t n (.run ⟨e1,w.1,w.2,(q,i) :: h,cs ++ xs⟩) 1 (.run ⟨e1 + 1,w.1,w.2,(q,i) :: h,cs ++ xs⟩):=Rc.one c1 a.1 a.2 nd (by
    show (if w.1 = i then _ else _) = _
    rw [if_pos e])
   exact .inl ⟨w,vs.filter (fun w=>w.1 == i),xs,j + 1,by rw [List.filter_cons_of_pos (by simpa using e)],r.trans r1,by rw [List.length_cons]; omega⟩
  ·have r1:Rc es t n (.run ⟨e1,w.1,w.2,(q,i) :: h,cs ++ xs⟩) 1 (bk (cs ++ xs)):=Rc.one c1 a.1 a.2 nd (by
    show (if w.1 = i then _ else _) = _
    rw [if_neg e])
   rw [List.filter_cons_of_neg (by simpa using e),List.length_cons]
   rcases ih fun v hv'=>hv v (by simp [hv']) with ⟨w',us,xs',j',h1,h2,h3⟩ | ⟨h1,j',h2,h3⟩
   ·exact .inl ⟨w',us,xs',_,h1,(r.trans r1).trans h2,by omega⟩
   ·exact .inr ⟨h1,_,(r.trans r1).trans h2,by omega⟩
theorem Bx.run {W:Wk} {A:Nat} (yw:YW es t n W A) (gw:GW t n W) {p:Pat} {i k q b:Nat} {g:Gs} {us:List Way} {N:Nat} {h:Hl} {cs:List Ch} (hp:p.nm n) (hg:GOk t n g) (c0:es[b]? = some .lean) (hs:Sits es (b + 1) (p.ops (b + 1))) (c1:es[b + 1 + (p.ops (b + 1)).length]? = some .here)
  (bx:Bx W p i g k us N):k ≤ t.length→(∃ w us' xs j,us = w :: us'∧Rc es t n (.run ⟨b,k,g,(q,i) :: h,cs⟩) j (.run ⟨b + 1 + (p.ops (b + 1)).length + 1,w.1,w.2,(q,i) :: h,cs ++ xs⟩)∧j ≤ (A + 2) * N) ∨
   (us = []∧∃ j,Rc es t n (.run ⟨b,k,g,(q,i) :: h,cs⟩) j (bk cs)∧j ≤ (A + 2) * N):=by
 have lean0:Rc es t n (.run ⟨b,0,g,(q,i) :: h,cs⟩) 1 (.run ⟨b + 1,0,g,(q,i) :: h,cs⟩):=Rc.one c0 (Nat.zero_le _) hg trivial rfl
 have leanS:∀ k,k + 1 ≤ t.length→Rc es t n (.run ⟨b,k + 1,g,(q,i) :: h,cs⟩) 1 (.run ⟨b + 1,k + 1,g,(q,i) :: h,cs ++ [(b,k,g,(q,i) :: h)]⟩):=fun k hk=>Rc.one c0 hk hg trivial rfl
 have cost:∀ (vs:List Way) (N:Nat),vs.length ≤ N→1 ≤ N→1 + (A * N + vs.length) ≤ (A + 2) * N:=fun vs N h1 h2=>by
  have:=Nat.add_mul A 2 N
  omega
 have ways:∀ (k:Nat) (vs:List Way) (N:Nat),k ≤ t.length→W p k g vs N→∃ ys:List Ch,(∀ k',k = k' + 1→ys = [(b,k',g,(q,i) :: h)])∧(k = 0→ys = []) ∧
   ((∃ w us' xs j,vs.filter (fun w=>w.1 == i) = w :: us'∧Rc es t n (.run ⟨b,k,g,(q,i) :: h,cs⟩) j (.run ⟨b + 1 + (p.ops (b + 1)).length + 1,w.1,w.2,(q,i) :: h,cs ++ (ys ++ xs)⟩)∧j ≤ (A + 2) * N) ∨
    (vs.filter (fun w=>w.1 == i) = []∧∃ j,Rc es t n (.run ⟨b,k,g,(q,i) :: h,cs⟩) j (bk (cs ++ ys))∧j ≤ (A + 2) * N)):=by
  intro k vs N hk hw
  have gd:=gw p k g vs N hp hk hg hw
  have hv:∀ w ∈ vs,w.1 ≤ t.length∧GOk t n w.2:=fun w hw'=>⟨(gd.all w hw').hi,(gd.all w hw').g⟩
  have c:=cost vs N gd.len gd.pos
  cases k with
  | zero =>
   refine ⟨[],(fun k' e=>by cases e),(fun _=>rfl),?_⟩
   rcases Yl.filt c1 (yw p 0 g vs N hp hk hg hw (b + 1) ((q,i) :: h) cs hs) hv with ⟨w,us',xs,j,h1,h2,h3⟩ | ⟨h1,j,h2,h3⟩
   ·exact .inl ⟨w,us',xs,_,h1,lean0.trans h2,by omega⟩
   ·refine .inr ⟨h1,_,lean0.trans ?_,(show 1 + j ≤ _ by omega)⟩
    rw [List.append_nil]
    exact h2
  | succ k =>
   refine ⟨[(b,k,g,(q,i) :: h)],(fun k' e=>by cases e; rfl),(fun e=>by cases e),?_⟩
   rcases Yl.filt c1 (yw p (k + 1) g vs N hp hk hg hw (b + 1) ((q,i) :: h) (cs ++ [(b,k,g,(q,i) :: h)]) hs) hv with ⟨w,us',xs,j,h1,h2,h3⟩ | ⟨h1,j,h2,h3⟩
   ·rw [List.append_assoc] at h2
    exact .inl ⟨w,us',xs,_,h1,(leanS k hk).trans h2,by omega⟩
   ·exact .inr ⟨h1,_,(leanS k hk).trans h2,by omega⟩
 induction bx with
 | here hw c =>
  intro hk
  obtain ⟨ys,_,_,h1 | h1⟩:=ways _ _ _ hk hw
  ·obtain ⟨w,us',xs,j,h1,h2,h3⟩:=h1
   exact .inl ⟨w,us',ys ++ xs,j,h1,h2,h3⟩
  ·exact absurd h1.1 c
 | down hw c r ih =>
  rename_i k vs ws N N'
  intro hk
  obtain ⟨ys,hy,_,h1 | h1⟩:=ways _ _ _ hk hw
  ·obtain ⟨w,us',xs,j,h1,h2,h3⟩:=h1
   rw [c] at h1
   cases h1
  ·obtain ⟨_,j,h2,h3⟩:=h1
   rw [hy k rfl,Vo] at h2
   have m2:=Nat.mul_add (A + 2) N N'
   rcases ih (by omega) with ⟨w,us',xs,j',e,h4,h5⟩ | ⟨e,j',h4,h5⟩
   ·exact .inl ⟨w,us',xs,_,e,h2.trans h4,by omega⟩
   ·exact .inr ⟨e,_,h2.trans h4,by omega⟩
 | last hw c =>
  intro hk
  obtain ⟨ys,_,hy,h1 | h1⟩:=ways _ _ _ hk hw
  ·obtain ⟨w,us',xs,j,h1,h2,h3⟩:=h1
   rw [c] at h1
   cases h1
  ·obtain ⟨_,j,h2,h3⟩:=h1
   rw [hy rfl,List.append_nil] at h2
   exact .inr ⟨rfl,j,h2,h3⟩
theorem sgl {i:Nat} {g:Gs} {b:Nat} {h:Hl} {cs:List Ch} {o:Op} {c:Prop} [Decidable c] {w:Way} {k:Nat} (c0:es[b]? = some o) (hi:i ≤ t.length) (hg:GOk t n g) (nd:o.need n ⟨b,i,g,h,cs⟩) (ha:o.act t ⟨b + 1,i,g,h,cs⟩ = if c then .run ⟨b + 1,w.1,w.2,h,cs⟩ else bk cs) (hk:1 ≤ k) :
  Yl es t n (b + 1) h cs (.run ⟨b,i,g,h,cs⟩) (if c then [w] else []) k:=by
 by_cases hc:c
 ·rw [if_pos hc] at ha ⊢
  have y1:=Yl.one (es:=es) (t:=t) (n:=n) (e:=b + 1) (h:=h) (cs:=cs) (w:=w) (xs:=[]) rfl
  rw [List.append_nil] at y1
  exact (y1.pre (Rc.one c0 hi hg nd ha)).mono (by omega)
 ·rw [if_neg hc] at ha ⊢
  exact .nil (Rc.one c0 hi hg nd ha) hk
end
abbrev Tm (H H':Hp):Prop:=∀ b xs,H b = some (.tup xs)→H' b = some (.tup xs)
def EnA (H:Hp) (e:V):En→Prop
 | none=>e = .non
 | some p=>∃ a,e = .ref a∧H a = some (.tup [.int p.1,.int p.2])
def GsAt (H:Hp) (v:V) (g:Gs):Prop:=∃ (a:Addr) (es:List V),v = .ref a∧H a = some (.tup es)∧Paired (EnA H) es g
def HlAt (H:Hp):V→Hl→Prop
 | v,[]=>v = .non
 | v,p :: h=>∃ (a:Addr) (v':V),v = .ref a∧H a = some (.tup [.int p.1,.int p.2,v'])∧HlAt H v' h
def ChA (H:Hp) (q:Chc) (c:Ch):Prop:=q.1 = c.1∧q.2.1 = c.2.1∧GsAt H q.2.2.1 c.2.2.1∧HlAt H q.2.2.2 c.2.2.2
theorem EnA.mono {H H':Hp} (t:Tm H H') {e:V}:∀ {x:En},EnA H e x→EnA H' e x
 | none,h=>h
 | some p,⟨a,e1,e2⟩=>⟨a,e1,t _ _ e2⟩
theorem GsAt.mono {H H':Hp} (t:Tm H H') {v:V} {g:Gs} (h:GsAt H v g):GsAt H' v g:=by
 obtain ⟨a,es,e1,e2,e3⟩:=h
 exact ⟨a,es,e1,t _ _ e2,Paired.mapP e3 fun _ _ q=>q.mono t⟩
theorem HlAt.mono {H H':Hp} (t:Tm H H'):∀ {h:Hl} {v:V},HlAt H v h→HlAt H' v h
 | [],_,e=>e
 | p :: h,_,⟨a,v',e1,e2,e3⟩=>⟨a,v',e1,t _ _ e2,HlAt.mono t e3⟩
theorem ChA.mono {H H':Hp} (t:Tm H H') {q:Chc} {c:Ch} (h:ChA H q c):ChA H' q c:=⟨h.1,h.2.1,h.2.2.1.mono t,h.2.2.2.mono t⟩
structure Ab (H:Hp) (ra:Addr) (t:Str) (ch:Addr) (M:MM) (c:Cg):Prop where
 rows:M.s.rows = .ref ra
 text:M.s.text = t
 chs:M.s.choices = ch
 en:M.s.ended = false
 row:M.s.row = c.r
 pl:M.s.place = c.i
 gs:GsAt H M.s.groups c.g
 hl:HlAt H M.s.held c.h
 cs:Paired (ChA H) M.cs c.cs
structure AbE (ra:Addr) (t:Str) (ch:Addr) (M:MM):Prop where
 rows:M.s.rows = .ref ra
 text:M.s.text = t
 chs:M.s.choices = ch
 en:M.s.ended = true
 cs:M.cs = []
def AbF (H:Hp) (ra:Addr) (t:Str) (ch:Addr) (M:MM):Cf→Prop
 | .run c=>Ab H ra t ch M c
 | .ended=>AbE ra t ch M
theorem Ab.mono {H H':Hp} (tm:Tm H H') {ra:Addr} {t:Str} {ch:Addr} {M:MM} {c:Cg} (h:Ab H ra t ch M c):Ab H' ra t ch M c :=
 ⟨h.rows,h.text,h.chs,h.en,h.row,h.pl,h.gs.mono tm,h.hl.mono tm,Paired.mapP h.cs fun _ _ q=>q.mono tm⟩
theorem AbF.mono {H H':Hp} (tm:Tm H H') {ra:Addr} {t:Str} {ch:Addr} {M:MM}:∀ {c:Cf},AbF H ra t ch M c→AbF H' ra t ch M c
 | .run _,h=>Ab.mono tm h
 | .ended,h=>h
theorem Wm {α β:Type} {F:α→β→Prop}:∀ {xs:List α} {ys:List β} {y:β},Paired F xs (ys ++ [y])→∃ xs' x,xs = xs' ++ [x]∧Paired F xs' ys∧F x y
 | _,[],y,.cons h .nil=>⟨[],_,rfl,.nil,h⟩
 | _,z :: ys,y,.cons h t=>by
  obtain ⟨xs',x,e,p,q⟩:=Wm t
  exact ⟨_ :: xs',x,by rw [e]; rfl,.cons h p,q⟩
theorem Ab.back {H:Hp} {ra:Addr} {t:Str} {ch:Addr} {M:MM} {c:Cg} (h:Ab H ra t ch M c):AbF H ra t ch M.back (bk c.cs):=by
 rcases List.eq_nil_or_concat c.cs with e | ⟨xs,q,e⟩
 ·have hc:=h.cs
  rw [e] at hc ⊢
  have:M.cs = []:=by cases hm:M.cs with
   | nil=>rfl
   | cons a b=>rw [hm] at hc; cases hc
  unfold MM.back
  rw [this]
  exact ⟨h.rows,h.text,h.chs,rfl,rfl⟩
 ·rw [List.concat_eq_append] at e
  have hc:=h.cs
  rw [e] at hc ⊢
  obtain ⟨xs',x,e',p,hx⟩:=Wm hc
  unfold MM.back
  rw [e',List.getLast?_append,Vo]
  obtain ⟨q1,q2,q3,q4⟩:=hx
  refine ⟨h.rows,h.text,h.chs,h.en,q1,q2,q3,q4,?_⟩
  show Paired (ChA H) (xs' ++ [x]).dropLast xs
  rw [List.dropLast_concat]
  exact p
def Op.fd:Op→Bool→Bool
 | .found,_=>true
 | _,b=>b
def Op.word:Op→Str
 | .pat h=>h.word | .try_ _ => "try" | .go _ => "go" | .have_ _ _ => "have" | .turns => "turns" | .open_ => "open" | .close _ => "close" | .turn _ _ _ _ => "turn" | .next _ _ => "next" | .once => "once" | .kept => "kept" | .peeked => "peeked"
 | .bar _ => "bar" | .barred => "barred" | .lean => "lean" | .here => "here" | .found => "found"
def Hd.act:Hd→Bool
 | .sign _=>true | .any=>true | .inn _=>true | .out _=>true | .beg=>true | .fin=>true | .again _=>true | _=>false
def Op.ok:Op→Prop
 | .pat h=>h.act = true
 | _=>True
inductive spDoI (C:Addr) (o:Op) (vs:List V) (H:Hp) (Q:VK):Prop
 | mk (m a ra ch:Addr) (t:Str) (n:Nat) (M:MM) (c:Cg) (_:vs = [.ref m,.ref a]) (_:MAt C H m M) (_:Ab H ra t ch M c) (_:RowAt H (.ref a) o.rw) (_:t.length ≤ 1000) (_:c.i ≤ t.length) (_:GOk t n c.g) (_:n ≤ 900) (_:(o.need n c ∨ o = .found)) (_:(c.cs.length ≤ 1000000∧1 ≤ c.r)) (_:∀ (H':Hp) (M':MM),MAt C H' m M'→AbF H' ra t ch M' (o.act t c)→M'.s.made = M.s.made→M'.s.found = o.fd M.s.found→Gro [m,ch] H H'→Q .non H')
def Tf (C:Addr) (o:Op):Sp:=fun vs H Q _=>spDoI C o vs H Q
theorem Ya (M:MM):M.back.s.made = M.s.made∧M.back.s.found = M.s.found:=by
 unfold MM.back
 split <;> exact ⟨rfl,rfl⟩
theorem Yv {α β:Type} {F:α→β→Prop}:∀ {xs:List α} {ys:List β} (k:Nat),Paired F xs ys→Paired F (xs.take k) (ys.take k)
 | _,_,0,_=>by simp; exact .nil
 | _,_,_ + 1,.nil=>by simp; exact .nil
 | _,_,k + 1,.cons h t=>by simp only [List.take_succ_cons]; exact .cons h (Yv k t)
theorem Vk {α β:Type} {F:α→β→Prop}:∀ {xs:List α} {ys:List β} (k:Nat),Paired F xs ys→Paired F (xs.drop k) (ys.drop k)
 | _,_,0,h=>h
 | _,_,_ + 1,.nil=>by simp; exact .nil
 | _,_,k + 1,.cons h t=>by simp only [List.drop_succ_cons]; exact Vk k t
theorem GsAt.len {H:Hp} {v:V} {g:Gs} (h:GsAt H v g):∃ (a:Addr) (es:List V),v = .ref a∧H a = some (.tup es)∧es.length = g.length∧Paired (EnA H) es g:=by
 obtain ⟨a,es,e1,e2,e3⟩:=h
 exact ⟨a,es,e1,e2,Paired.length e3,e3⟩
theorem GsAt.ent {H:Hp} {v:V} {g:Gs} {k:Int} (h:GsAt H v g) (h1:1 ≤ k) (h2:k ≤ g.length):∃ (a:Addr) (es:List V) (e:V),v = .ref a∧H a = some (.tup es)∧es.length = g.length∧atI es (k - 1) = some e∧EnA H e (ent g k):=by
 obtain ⟨a,es,e1,e2,e3,e4⟩:=h.len
 have hl:(k - 1).toNat < es.length:=by omega
 have ha:=Xy (List.getElem?_eq_getElem hl)
 rw [show (((k - 1).toNat:Nat):Int) = k - 1 by omega] at ha
 obtain ⟨y,hy,hE⟩:=Zx e4 (List.getElem?_eq_getElem hl)
 refine ⟨a,es,_,e1,e2,e3,ha,?_⟩
 unfold Seek.ent
 rw [List.getD_eq_getElem?_getD,hy]
 exact hE
theorem GsAt.put {H:Hp} {es:List V} {g:Gs} {k:Int} {a b:Nat} {p r:Addr} (h:Paired (EnA H) es g) (hp:H p = some (.tup [.int a,.int b])) (hr:H r = some (.tup (es.take (k - 1).toNat ++ [.ref p] ++ es.drop k.toNat))):GsAt H (.ref r) (put g k a b) :=
 ⟨r,_,rfl,hr,Zg (Zg (Yv _ h) (.cons ⟨p,rfl,hp⟩ .nil)) (Vk _ h)⟩
theorem Z52 {K:PySem.W.Frag} {a b:Addr} {xs ys:List V} {H:Hp} {Q:VK} (ha:H a = some (.tup xs)) (hb:H b = some (.tup ys)) (hz:xs.length + ys.length ≤ 1000) (h:∀ (r:Addr) (H':Hp),H' r = some (.tup (xs ++ ys))→Gro [] H H'→Q (.ref r) H'):Z9i K (.ref a) (.ref b) H Q :=
 ⟨a,b,xs,ys,rfl,rfl,SqT.of ha,SqT.of hb,Yy hz,fun e=>h b H (by rw [e]; exact hb) Gro.refl,fun _ e=>h a H (by rw [e,List.append_nil]; exact ha) Gro.refl,fun _ _ p hp=>h p _ Z1 (Gro.new hp _)⟩
mutual
def Pat.has (k:Int):Pat→Prop
 | .node h ks=>h = .grp k ∨ Zaq k ks
def Zaq (k:Int):List Pat→Prop
 | []=>False
 | p :: ps=>p.has k ∨ Zaq k ps
end
theorem Z1h {k:Int}:∀ {ks:List Pat},Zaq k ks ↔ ∃ p ∈ ks,p.has k
 | []=>by simp [Zaq]
 | p :: ps=>by rw [Zaq,Z1h (ks:=ps)]; simp
theorem has_node {k:Int} {h:Hd} {ks:List Pat}:(Pat.node h ks).has k ↔ h = .grp k ∨ ∃ p ∈ ks,p.has k:=by rw [Pat.has,Z1h]
theorem Z3i {Pr:Op→Prop}:∀ {cs:List Co},(∀ c ∈ cs,∀ b,∀ o ∈ c b,Pr o)→∀ b,∀ o ∈ Z2s cs b,Pr o
 | [],_,b,o,ho=>by simp [Z2s] at ho
 | c :: cs,h,b,o,ho=>by
  rw [Z2s] at ho
  rcases List.mem_append.mp ho with ho | ho
  ·exact h c (by simp) b o ho
  ·exact Z3i (fun d hd=>h d (by simp [hd])) _ o ho
theorem Z56 {Pr:Op→Prop} (h1:∀ z,Pr (.try_ z)) (h2:∀ z,Pr (.go z)) {e:Nat}:∀ {cs:List Co},(∀ c ∈ cs,∀ b,∀ o ∈ c b,Pr o)→∀ b,∀ o ∈ Vs e cs b,Pr o
 | [],_,b,o,ho=>by simp [Vs] at ho
 | [c],h,b,o,ho=>h c (by simp) b o ho
 | c :: d :: cs,h,b,o,ho=>by
  rw [Vs] at ho
  rcases List.mem_cons.mp ho with rfl | ho
  ·exact h1 _
  ·rcases List.mem_append.mp ho with ho | ho
   ·exact h c (by simp) _ o ho
   ·rcases List.mem_cons.mp ho with rfl | ho
    ·exact h2 _
    ·exact Z56 h1 h2 (fun x hx=>h x (by simp at hx; simp [hx])) _ o ho
theorem Z78 {Pr:Op→Prop} {cs:List Co} (h:∀ c ∈ cs,∀ b,∀ o ∈ c b,Pr o) (b:Nat):∀ o ∈ hdO cs b,Pr o:=by
 cases cs with
 | nil=>intro o ho; simp [hdO] at ho
 | cons c cs=>exact h c (by simp) b
structure Free (Pr:Op→Prop):Prop where
 f1:∀ z,Pr (.try_ z)
 f2:∀ z,Pr (.go z)
 f3:∀ k z,Pr (.have_ k z)
 f4:Pr .turns
 f5:Pr .open_
 f6:∀ lo hi how z,Pr (.turn lo hi how z)
 f7:∀ lo z,Pr (.next lo z)
 f8:Pr .once
 f9:Pr .kept
 f10:Pr .peeked
 f11:∀ z,Pr (.bar z)
 f12:Pr .barred
 f13:Pr .lean
 f14:Pr .here
theorem Um {Pr:Op→Prop} (F:Free Pr) {lo:Int} {hi:Option Int} {how:How} {c:Co} (h:∀ b,∀ o ∈ c b,Pr o) (b:Nat):∀ o ∈ Vq lo hi how c b,Pr o:=by
 intro o ho
 unfold Vq at ho
 rcases List.mem_cons.mp ho with rfl | ho
 ·exact F.f4
 ·rcases List.mem_cons.mp ho with rfl | ho
  ·exact F.f6 _ _ _ _
  ·rcases List.mem_append.mp ho with ho | ho
   ·exact h _ o ho
   ·rw [List.mem_singleton.mp ho]; exact F.f7 _ _
theorem Z17 {Pr:Op→Prop} (F:Free Pr) {h:Hd} {cs:List Co} (hl:h.act = true→Pr (.pat h)) (hc:∀ k,h = .grp k→Pr (.close k)) (ih:∀ c ∈ cs,∀ b,∀ o ∈ c b,Pr o) (b:Nat):∀ o ∈ h.ops cs b,Pr o:=by
 intro o ho
 have hh:=Z78 ih
 cases h with
 | row=>exact Z3i ih b o ho
 | alt=>exact Z56 F.f1 F.f2 ih b o ho
 | times lo hi how =>
  cases how with
  | keep =>
   have ho':o ∈ Op.once :: (Vq lo hi .much (hdO cs) (b + 1) ++ [.kept]):=ho
   rcases List.mem_cons.mp ho' with rfl | ho
   ·exact F.f8
   ·rcases List.mem_append.mp ho with ho | ho
    ·exact Um F hh _ o ho
    ·rw [List.mem_singleton.mp ho]; exact F.f9
  | much=>exact Um F hh b o ho
  | little=>exact Um F hh b o ho
 | grp k =>
  have ho':o ∈ Op.open_ :: (hdO cs (b + 1) ++ [.close k]):=ho
  rcases List.mem_cons.mp ho' with rfl | ho
  ·exact F.f5
  ·rcases List.mem_append.mp ho with ho | ho
   ·exact hh _ o ho
   ·rw [List.mem_singleton.mp ho]; exact hc k rfl
 | hav k =>
  have ht:∀ b,∀ o ∈ hdO cs.tail b,Pr o:=fun b=>Z78 (fun c hc'=>ih c (List.mem_of_mem_tail hc')) b
  have ho':o ∈ Z8r k (hdO cs) (hdO cs.tail) b:=ho
  unfold Z8r at ho'
  rcases List.mem_cons.mp ho' with rfl | ho
  ·exact F.f3 _ _
  ·rcases List.mem_append.mp ho with ho | ho
   ·exact hh _ o ho
   ·rcases List.mem_cons.mp ho with rfl | ho
    ·exact F.f2 _
    ·exact ht _ o ho
 | look l =>
  have hin:∀ o ∈ Z77 l (hdO cs) b,Pr o:=by
   intro o ho
   unfold Z77 at ho
   split at ho
   ·rcases List.mem_cons.mp ho with rfl | ho
    ·exact F.f13
    ·rcases List.mem_append.mp ho with ho | ho
     ·exact hh _ o ho
     ·rw [List.mem_singleton.mp ho]; exact F.f14
   ·exact hh _ o ho
  have ho':o ∈ Xp l (hdO cs) b:=ho
  unfold Xp at ho'
  rcases List.mem_cons.mp ho' with e | ho
  ·rw [e]
   split
   ·exact F.f11 _
   ·exact F.f8
  ·rcases List.mem_append.mp ho with ho | ho
   ·exact hin o ho
   ·rw [List.mem_singleton.mp ho]
    cases l with
    | once=>exact F.f9
    | ahead=>exact F.f10
    | behind=>exact F.f10
    | notahead=>exact F.f12
    | notbehind=>exact F.f12
 | _ =>
  rw [List.mem_singleton.mp ho]
  exact hl rfl
mutual
theorem Z71:∀ (p:Pat) (b:Nat),∀ o ∈ p.ops b,o.ok
 | .node h ks,b=>by
  rw [Yo]
  refine Z17 ⟨fun _=>trivial,fun _=>trivial,fun _ _=>trivial,trivial,trivial,fun _ _ _ _=>trivial,fun _ _=>trivial,trivial,trivial,trivial,fun _=>trivial,trivial,trivial,trivial⟩ (fun e=>e) (fun _ _=>trivial) (fun c hc=>?_) b
  obtain ⟨p,hp,rfl⟩:=List.mem_map.mp hc
  exact Z40 ks p hp
theorem Z40:∀ (ks:List Pat),∀ p ∈ ks,∀ b,∀ o ∈ p.ops b,o.ok
 | [],_,hp=>by simp at hp
 | k :: ks,p,hp=>by
  rcases List.mem_cons.mp hp with h | h
  ·rw [h]
   exact Z71 k
  ·exact Z40 ks p h
end
mutual
theorem Tw:∀ (p:Pat) (b:Nat),∀ o ∈ p.ops b,∀ k,o = .close k→p.has k
 | .node h ks,b=>by
  rw [Yo]
  refine Z17 (Pr:=fun o=>∀ k,o = .close k→(Pat.node h ks).has k) ⟨fun _ k e=>(by cases e),fun _ k e=>(by cases e),fun _ _ k e=>(by cases e),fun k e=>(by cases e),fun k e=>(by cases e),fun _ _ _ _ k e=>(by cases e),fun _ _ k e=>(by cases e),fun k e=>(by cases e),fun k e=>(by cases e),fun k e=>(by cases e),fun _ k e=>(by cases e),fun k e=>(by cases e),fun k e=>(by cases e),fun k e=>(by cases e)⟩ (fun _ k e=>(by cases e)) (fun k e k' e'=>by cases e'; exact has_node.mpr (.inl e)) (fun c hc=>?_) b
  obtain ⟨p,hp,rfl⟩:=List.mem_map.mp hc
  exact fun b o ho k e=>has_node.mpr (.inr ⟨p,hp,U9 ks p hp b o ho k e⟩)
theorem U9:∀ (ks:List Pat),∀ p ∈ ks,∀ b,∀ o ∈ p.ops b,∀ k,o = .close k→p.has k
 | [],_,hp=>by simp at hp
 | k :: ks,p,hp=>by
  rcases List.mem_cons.mp hp with h | h
  ·rw [h]
   exact Tw k
  ·exact U9 ks p h
end
theorem Z3h {c:Co} {o:Op} (hm:∀ b,o ∈ c b):∀ {cs:List Co},c ∈ cs→∀ b,o ∈ Z2s cs b
 | [],h,_=>by simp at h
 | d :: cs,h,b=>by
  rw [Z2s]
  rcases List.mem_cons.mp h with rfl | h
  ·exact List.mem_append.mpr (.inl (hm b))
  ·exact List.mem_append.mpr (.inr (Z3h hm h _))
theorem Z55 {c:Co} {o:Op} {e:Nat} (hm:∀ b,o ∈ c b):∀ {cs:List Co},c ∈ cs→∀ b,o ∈ Vs e cs b
 | [],h,_=>by simp at h
 | [d],h,b=>by rw [List.mem_singleton.mp h] at hm; exact hm b
 | d :: d' :: cs,h,b=>by
  rw [Vs]
  refine List.mem_cons_of_mem _ ?_
  rcases List.mem_cons.mp h with rfl | h
  ·exact List.mem_append.mpr (.inl (hm _))
  ·exact List.mem_append.mpr (.inr (List.mem_cons_of_mem _ (Z55 hm h _)))
theorem Ul {lo:Int} {hi:Option Int} {how:How} {c:Co} {o:Op} (hm:∀ b,o ∈ c b) (b:Nat):o ∈ Vq lo hi how c b:=by
 unfold Vq
 exact List.mem_cons_of_mem _ (List.mem_cons_of_mem _ (List.mem_append.mpr (.inl (hm _))))
def Hd.fits:Hd→List Pat→Prop
 | .times _ _ _,ks=>ks.length = 1
 | .grp _,ks=>ks.length = 1
 | .hav _,ks=>ks.length = 2
 | .look _,ks=>ks.length = 1
 | .row,_=>True
 | .alt,_=>True
 | _,ks=>ks = []
mutual
def Pat.wf:Pat→Prop
 | .node h ks=>h.fits ks∧wfL ks
def wfL:List Pat→Prop
 | []=>True
 | k :: ks=>k.wf∧wfL ks
end
theorem Z2u:∀ {ks:List Pat},wfL ks ↔ ∀ k ∈ ks,k.wf
 | []=>by simp [wfL]
 | k :: ks=>by rw [wfL,Z2u (ks:=ks)]; simp
theorem wf_node {h:Hd} {ks:List Pat}:(Pat.node h ks).wf ↔ h.fits ks∧∀ k ∈ ks,k.wf:=by rw [Pat.wf,Z2u]
theorem PatAt.wf {H:Hp}:∀ {d:Nat} {v:V} {p:Pat},PatAt H d v p→p.wf
 | 0,_,_,h=>h.elim
 | d + 1,v,.node h ks,⟨a,kv,e,l,p⟩=>by
  refine wf_node.mpr ⟨?_,fun k hk=>?_⟩
  ·have hl:=Paired.length p
   cases h with
   | times lo hi how=>obtain ⟨_,k,rfl,_⟩:=l; exact hl.symm
   | grp n=>obtain ⟨_,k,rfl,_⟩:=l; exact hl.symm
   | hav n=>obtain ⟨_,y,z,rfl,_⟩:=l; exact hl.symm
   | look lk=>obtain ⟨k,rfl,_⟩:=l; exact hl.symm
   | row=>trivial
   | alt=>trivial
   | again n=>obtain ⟨_,rfl,_⟩:=l; exact List.length_eq_zero_iff.mp hl.symm
   | sign s=>obtain ⟨rfl,_⟩:=l; exact List.length_eq_zero_iff.mp hl.symm
   | any=>obtain ⟨rfl,_⟩:=l; exact List.length_eq_zero_iff.mp hl.symm
   | inn s=>obtain ⟨rfl,_⟩:=l; exact List.length_eq_zero_iff.mp hl.symm
   | out s=>obtain ⟨rfl,_⟩:=l; exact List.length_eq_zero_iff.mp hl.symm
   | beg=>obtain ⟨rfl,_⟩:=l; exact List.length_eq_zero_iff.mp hl.symm
   | fin=>obtain ⟨rfl,_⟩:=l; exact List.length_eq_zero_iff.mp hl.symm
  ·obtain ⟨x,_,hx⟩:=U8 p k hk
   exact PatAt.wf hx
theorem Z4o {ks:List Pat} {p:Pat} {o:Op} (h1:ks.length = 1) (hp:p ∈ ks) (hm:∀ b,o ∈ p.ops b) (b:Nat):o ∈ hdO (ks.map Pat.ops) b:=by
 match ks,h1 with
 | [q],_ =>
  rw [List.mem_singleton.mp hp] at hm
  exact hm b
mutual
theorem Z09 {k:Int}:∀ (p:Pat),p.wf→p.has k→∀ b,Op.close k ∈ p.ops b
 | .node h ks,hw,hh,b=>by
  have hw':=wf_node.mp hw
  rw [Yo]
  rcases has_node.mp hh with rfl | ⟨p,hp,hk⟩
  ·exact List.mem_cons_of_mem _ (List.mem_append.mpr (.inr (by simp)))
  ·have hm:=Z1g ks p hp (hw'.2 p hp) hk
   have hc:p.ops ∈ ks.map Pat.ops:=List.mem_map.mpr ⟨p,hp,rfl⟩
   cases h with
   | row=>exact Z3h hm hc b
   | alt=>exact Z55 hm hc b
   | times lo hi how =>
    have h1:=Z4o hw'.1 hp hm
    cases how with
    | keep=>exact List.mem_cons_of_mem _ (List.mem_append.mpr (.inl (Ul h1 _)))
    | much=>exact Ul h1 b
    | little=>exact Ul h1 b
   | grp n=>exact List.mem_cons_of_mem _ (List.mem_append.mpr (.inl (Z4o hw'.1 hp hm _)))
   | hav n =>
    match ks,hw'.1,hp with
    | [q,q'],_,hp =>
     show Op.close k ∈ Z8r n q.ops q'.ops b
     unfold Z8r
     refine List.mem_cons_of_mem _ ?_
     rcases List.mem_cons.mp hp with e | hp
     ·rw [e] at hm
      exact List.mem_append.mpr (.inl (hm _))
     ·rw [List.mem_singleton.mp hp] at hm
      exact List.mem_append.mpr (.inr (List.mem_cons_of_mem _ (hm _)))
   | look l =>
    have h1:=Z4o hw'.1 hp hm
    show Op.close k ∈ Xp l (hdO (ks.map Pat.ops)) b
    unfold Xp
    refine List.mem_cons_of_mem _ (List.mem_append.mpr (.inl ?_))
    unfold Z77
    split
    ·exact List.mem_cons_of_mem _ (List.mem_append.mpr (.inl (h1 _)))
    ·exact h1 _
   | _ =>
    have:ks = []:=hw'.1
    rw [this] at hp
    simp at hp
theorem Z1g {k:Int}:∀ (ks:List Pat),∀ p ∈ ks,p.wf→p.has k→∀ b,Op.close k ∈ p.ops b
 | [],_,hp=>by simp at hp
 | q :: ks,p,hp=>by
  rcases List.mem_cons.mp hp with h | h
  ·rw [h]
   exact Z09 q
  ·exact Z1g ks p h
end
mutual
theorem Z79 {n k:Int}:∀ (p:Pat),p.nm n→p.has k→1 ≤ k∧k ≤ n
 | .node h ks,hn,hh=>by
  have hn':=nm_node.mp hn
  rcases has_node.mp hh with rfl | ⟨p,hp,hk⟩
  ·exact hn'.1
  ·exact Z4p ks p hp (hn'.2 p hp) hk
theorem Z4p {n k:Int}:∀ (ks:List Pat),∀ p ∈ ks,p.nm n→p.has k→1 ≤ k∧k ≤ n
 | [],_,hp=>by simp at hp
 | q :: ks,p,hp=>by
  rcases List.mem_cons.mp hp with h | h
  ·rw [h]
   exact Z79 q
  ·exact Z4p ks p h
end
section
variable {es:List Op} {t:Str} {n:Nat}
theorem Z8o {W:Wk} {A:Nat} (yw:YW es t n W A) (gw:GW t n W) {q:Pat} {l:Lk} {i N':Nat} {g:Gs} {us:List Way} (hq:q.nm n) (hi:i ≤ t.length) (hg:GOk t n g) (hq':if l.leans = true then Bx W q i g i us N' else W q i g us N') (b:Nat) (h:Hl) (cs:List Ch) (hs':Sits es b (Xp l q.ops b)) :
  Yl es t n (b + (Xp l q.ops b).length) h cs (.run ⟨b,i,g,h,cs⟩) (Z8p l i g us) ((A + 2) * N' + 2):=by
 have m1:=Nat.add_mul (A) 2 N'
 have one:∀ (e:Nat) (w:Way),Yl es t n e h cs (.run ⟨e,w.1,w.2,h,cs⟩) [w] 0:=fun e w=>by
  have:=Yl.one (es:=es) (t:=t) (n:=n) (e:=e) (h:=h) (cs:=cs) (w:=w) (xs:=[]) rfl
  rw [List.append_nil] at this
  exact this
 have nd1:∀ {e:Nat} {w:Way} {xs:List Ch},(⟨e,w.1,w.2,(cs.length,i) :: h,xs⟩:Cg).h ≠ []:=fun {e w xs} z=>by cases z
 have tk:∀ xs:List Ch,(cs ++ xs).take cs.length = cs:=fun xs=>List.take_left
 cases l with
 | once =>
  have hq2:W q i g us N':=by rw [if_neg (by decide)] at hq'; exact hq'
  have gd:=gw q i g us N' hq hi hg hq2
  have hs2:Sits es b (.once :: (q.ops (b + 1) ++ [.kept])):=hs'
  obtain ⟨c0,s1⟩:=hs2.cons
  obtain ⟨s2,s3⟩:=s1.app
  have c1:=s3.cons.1
  have r0:Rc es t n (.run ⟨b,i,g,h,cs⟩) 1 (.run ⟨b + 1,i,g,(cs.length,i) :: h,cs⟩):=Rc.one c0 hi hg trivial rfl
  have y:=(yw q i g us N' hq hi hg hq2 (b + 1) ((cs.length,i) :: h) cs s2).cut (e2:=b + 1 + (q.ops (b + 1)).length + 1) (h2:=h) (f:=id) fun w hw xs=>Rc.one c1 (gd.all w hw).hi (gd.all w hw).g nd1 (by
   show Cf.run ⟨_,_,_,_,(cs ++ xs).take cs.length⟩ = _
   rw [tk]
   rfl)
  rw [List.map_id] at y
  refine ((y.pre r0).to ?_).mono (by omega)
  show _ = b + (Op.once :: (q.ops (b + 1) ++ [Op.kept])).length
  simp only [List.length_cons,List.length_append,List.length_nil]
  omega
 | ahead =>
  have hq2:W q i g us N':=by rw [if_neg (by decide)] at hq'; exact hq'
  have gd:=gw q i g us N' hq hi hg hq2
  have hs2:Sits es b (.once :: (q.ops (b + 1) ++ [.peeked])):=hs'
  obtain ⟨c0,s1⟩:=hs2.cons
  obtain ⟨s2,s3⟩:=s1.app
  have c1:=s3.cons.1
  have r0:Rc es t n (.run ⟨b,i,g,h,cs⟩) 1 (.run ⟨b + 1,i,g,(cs.length,i) :: h,cs⟩):=Rc.one c0 hi hg trivial rfl
  have y:=(yw q i g us N' hq hi hg hq2 (b + 1) ((cs.length,i) :: h) cs s2).cut (e2:=b + 1 + (q.ops (b + 1)).length + 1) (h2:=h) (f:=fun w=>(i,w.2)) fun w hw xs=>Rc.one c1 (gd.all w hw).hi (gd.all w hw).g nd1 (by
   show Cf.run ⟨_,_,_,_,(cs ++ xs).take cs.length⟩ = _
   rw [tk])
  refine ((y.pre r0).to ?_).mono (by omega)
  show _ = b + (Op.once :: (q.ops (b + 1) ++ [Op.peeked])).length
  simp only [List.length_cons,List.length_append,List.length_nil]
  omega
 | notahead =>
  have hq2:W q i g us N':=by rw [if_neg (by decide)] at hq'; exact hq'
  have gd:=gw q i g us N' hq hi hg hq2
  have hs2:Sits es b (.bar (b + 2 + (q.ops (b + 1)).length) :: (q.ops (b + 1) ++ [.barred])):=hs'
  obtain ⟨c0,s1⟩:=hs2.cons
  obtain ⟨s2,s3⟩:=s1.app
  have c1:=s3.cons.1
  have r0:Rc es t n (.run ⟨b,i,g,h,cs⟩) 1 (.run ⟨b + 1,i,g,(cs.length,i) :: h,cs ++ [(b + 2 + (q.ops (b + 1)).length,i,g,h)]⟩):=Rc.one c0 hi hg trivial rfl
  have y:=(yw q i g us N' hq hi hg hq2 (b + 1) ((cs.length,i) :: h) (cs ++ [(b + 2 + (q.ops (b + 1)).length,i,g,h)]) s2).barred (w0:=(i,g)) fun w hw xs=>Rc.one c1 (gd.all w hw).hi (gd.all w hw).g nd1 (by
   show bk (((cs ++ _) ++ xs).take cs.length) = _
   rw [List.append_assoc,tk])
  refine ((y.pre r0).to ?_).mono (by omega)
  show _ = b + (Op.bar _ :: (q.ops (b + 1) ++ [Op.barred])).length
  simp only [List.length_cons,List.length_append,List.length_nil]
  omega
 | behind =>
  have hq2:Bx (W) q i g i us N':=by rw [if_pos (by decide)] at hq'; exact hq'
  obtain ⟨gd,_,_⟩:=Bx.good gw hq hg hq2 hi
  have hs2:Sits es b (.once :: ((.lean :: (q.ops (b + 2) ++ [.here])) ++ [.peeked])):=hs'
  obtain ⟨c0,s1⟩:=hs2.cons
  obtain ⟨s2,s3⟩:=s1.app
  have c3:=s3.cons.1
  obtain ⟨c1,s4⟩:=s2.cons
  obtain ⟨s5,s6⟩:=s4.app
  have c2:=s6.cons.1
  have r0:Rc es t n (.run ⟨b,i,g,h,cs⟩) 1 (.run ⟨b + 1,i,g,(cs.length,i) :: h,cs⟩):=Rc.one c0 hi hg trivial rfl
  have he:b + 1 + (Op.lean :: (q.ops (b + 2) ++ [Op.here])).length = b + 1 + 1 + (q.ops (b + 2)).length + 1:=by
   simp only [List.length_cons,List.length_append,List.length_nil]
   omega
  rw [he] at c3
  have hend:b + 1 + 1 + (q.ops (b + 2)).length + 1 + 1 = b + (Xp .behind q.ops b).length:=by
   show _ = b + (Op.once :: ((Op.lean :: (q.ops (b + 2) ++ [Op.here])) ++ [Op.peeked])).length
   simp only [List.length_cons,List.length_append,List.length_nil]
   omega
  rcases Bx.run yw gw (q:=cs.length) (h:=h) (cs:=cs) hq hg c1 s5 c2 hq2 hi with ⟨w,us',xs,j,rfl,r1,hj⟩ | ⟨rfl,j,r1,hj⟩
  ·have a:=gd w (by simp)
   have r2:Rc es t n (.run ⟨b + 1 + 1 + (q.ops (b + 2)).length + 1,w.1,w.2,(cs.length,i) :: h,cs ++ xs⟩) 1 (.run ⟨b + 1 + 1 + (q.ops (b + 2)).length + 1 + 1,i,w.2,h,cs⟩):=Rc.one c3 a.2.1 a.2.2 nd1 (by
    show Cf.run ⟨_,_,_,_,(cs ++ xs).take cs.length⟩ = _
    rw [tk])
   exact (((one _ (i,w.2)).pre ((r0.trans r1).trans r2)).to hend).mono (by omega)
  ·exact .nil (r0.trans r1) (by omega)
 | notbehind =>
  have hq2:Bx (W) q i g i us N':=by rw [if_pos (by decide)] at hq'; exact hq'
  obtain ⟨gd,_,_⟩:=Bx.good gw hq hg hq2 hi
  have hz:b + 2 + (Op.lean :: (q.ops (b + 2) ++ [Op.here])).length = b + (Xp .notbehind q.ops b).length:=by
   show _ = b + (Op.bar _ :: ((Op.lean :: (q.ops (b + 2) ++ [Op.here])) ++ [Op.barred])).length
   simp only [List.length_cons,List.length_append,List.length_nil]
   omega
  have hs2:Sits es b (.bar (b + 2 + (Op.lean :: (q.ops (b + 2) ++ [Op.here])).length) :: ((.lean :: (q.ops (b + 2) ++ [.here])) ++ [.barred])):=hs'
  rw [hz] at hs2
  obtain ⟨c0,s1⟩:=hs2.cons
  obtain ⟨s2,s3⟩:=s1.app
  have c3:=s3.cons.1
  obtain ⟨c1,s4⟩:=s2.cons
  obtain ⟨s5,s6⟩:=s4.app
  have c2:=s6.cons.1
  have r0:Rc es t n (.run ⟨b,i,g,h,cs⟩) 1 (.run ⟨b + 1,i,g,(cs.length,i) :: h,cs ++ [(b + (Xp .notbehind q.ops b).length,i,g,h)]⟩):=Rc.one c0 hi hg trivial rfl
  have he:b + 1 + (Op.lean :: (q.ops (b + 2) ++ [Op.here])).length = b + 1 + 1 + (q.ops (b + 2)).length + 1:=by
   simp only [List.length_cons,List.length_append,List.length_nil]
   omega
  rw [he] at c3
  show Yl es t n (b + (Xp .notbehind q.ops b).length) h cs _ _ _
  rcases Bx.run yw gw (q:=cs.length) (h:=h) (cs:=cs ++ [(b + (Xp .notbehind q.ops b).length,i,g,h)]) hq hg c1 s5 c2 hq2 hi with ⟨w,us',xs,j,rfl,r1,hj⟩ | ⟨rfl,j,r1,hj⟩
  ·have a:=gd w (by simp)
   have r2:Rc es t n (.run ⟨b + 1 + 1 + (q.ops (b + 2)).length + 1,w.1,w.2,(cs.length,i) :: h,(cs ++ [(b + (Xp .notbehind q.ops b).length,i,g,h)]) ++ xs⟩) 1 (bk cs):=Rc.one c3 a.2.1 a.2.2 nd1 (by
    show bk (((cs ++ _) ++ xs).take cs.length) = _
    rw [List.append_assoc,tk])
   exact .nil ((r0.trans r1).trans r2) (by omega)
  ·rw [Vo] at r1
   exact ((one _ (i,g)).pre (r0.trans r1)).mono (by omega)
def SgW (t:Str):Wk:=fun p i g ws N=>∃ s,p = .node (.sign s) []∧ws = (if Zv (.sign s) t i = true then [(i + 1,g)] else [])∧N = 1
theorem Z7m:GW t n (SgW t):=by
 rintro p i g ws N hp hi hg ⟨s,rfl,rfl,rfl⟩
 exact Wy.good (t:=t) (n:=n) 1 _ i g _ 1 hp hi hg ⟨rfl,rfl⟩
theorem Zbf:YW es t n (SgW t) 1:=by
 rintro p i g ws N hp hi hg ⟨s,rfl,rfl,rfl⟩ b h cs hs
 exact sgl (w:=(i + 1,g)) hs.cons.1 hi hg trivial rfl (by omega)
def Z2m (t:Str):List Str→Nat→Bool
 | [],_=>true
 | s :: ss,i=>Zv (.sign s) t (i:Int) && Z2m t ss (i + 1)
theorem Z6u {W:Wk}:∀ ks:List Pat,Rx W ks [] [] 0
 | []=>.nil
 | _ :: ks=>.cons .nil (Z6u ks)
def sgP (s:Str):Pat:=.node (.sign s) []
theorem Z0s:∀ (ss:List Str) (i:Nat) (g:Gs),∃ N,N ≤ ss.length∧Rx (SgW t) (ss.map sgP) [(i,g)] (if Z2m t ss i = true then [(i + ss.length,g)] else []) N
 | [],i,g=>⟨0,Nat.le_refl _,.nil⟩
 | s :: ss,i,g=>by
  by_cases h:Zv (.sign s) t (i:Int) = true
  ·obtain ⟨N,hN,hr⟩:=Z0s ss (i + 1) g
   refine ⟨(1 + 0) + N,by rw [List.length_cons]; omega,.cons (vs:=[(i + 1,g)]) (.cons (ws:=[(i + 1,g)]) ⟨s,rfl,by rw [if_pos h],rfl⟩ .nil) ?_⟩
   have e:Z2m t (s :: ss) i = Z2m t ss (i + 1):=by show (Zv (.sign s) t (i:Int) && Z2m t ss (i + 1)) = _; rw [h]; rfl
   rw [e,List.length_cons,show i + (ss.length + 1) = i + 1 + ss.length by omega]
   exact hr
  ·refine ⟨(1 + 0) + 0,by rw [List.length_cons]; omega,.cons (vs:=[]) (.cons (ws:=[]) ⟨s,rfl,by rw [if_neg h],rfl⟩ .nil) ?_⟩
   have e:Z2m t (s :: ss) i = false:=by show (Zv (.sign s) t (i:Int) && Z2m t ss (i + 1)) = _; rw [Bool.eq_false_iff.mpr h]; rfl
   rw [e,if_neg (by decide)]
   exact Z6u _
theorem Z31 {a b:Str} (h:a.cps.toList = b.cps.toList):a = b:=by
 obtain ⟨⟨x⟩⟩:=a
 obtain ⟨⟨y⟩⟩:=b
 have:x = y:=h
 rw [this]
def sgn (c:Nat):Str:=⟨#[c]⟩
theorem Z30 {c i:Nat}:Zv (.sign (sgn c)) t (i:Int) = true ↔ t.cps.toList[i]? = some c:=by
 have hl:t.cps.toList.length = t.length:=by simp [Str.length]
 unfold Zv
 by_cases h:(i:Int) < t.length
 ·rw [if_pos h,Int.toNat_natCast,List.getElem?_eq_getElem (by omega)]
  show decide (V.str (sgn c) = V.str (chr t i)) = true ↔ _
  have hc:chr t i = sgn (t.cps.toList[i]'(by omega)):=by
   unfold chr sgn
   rw [List.getD_eq_getElem?_getD,List.getElem?_eq_getElem (by omega)]
   rfl
  rw [hc,decide_eq_true_iff]
  constructor
  ·intro e
   injection e with e
   have:=congrArg (fun z:Str=>z.cps.toList) e
   have e2:[c] = [t.cps.toList[i]'(by omega)]:=this
   injection e2 with e2
   rw [e2]
  ·intro e
   injection e with e
   rw [e]
 ·rw [if_neg h,List.getElem?_eq_none (by omega)]
  constructor <;> intro e <;> cases e
theorem Z1a:∀ (cl:List Nat) (i:Nat),Z2m t (cl.map sgn) i = true ↔ (t.cps.toList.drop i).take cl.length = cl
 | [],i=>by simp [Z2m]
 | c :: cl,i=>by
  show (Zv (.sign (sgn c)) t (i:Int) && Z2m t (cl.map sgn) (i + 1)) = true ↔ _
  rw [Bool.and_eq_true,Z30,Z1a cl (i + 1)]
  by_cases h:i < t.cps.toList.length
  ·rw [List.getElem?_eq_getElem h,List.drop_eq_getElem_cons h,List.length_cons,List.take_succ_cons,List.cons.injEq,Option.some.injEq]
  ·rw [List.getElem?_eq_none (by omega),List.drop_of_length_le (by omega)]
   constructor
   ·rintro ⟨h1,_⟩; cases h1
   ·intro h1
    rw [List.drop_of_length_le (by omega)] at h1
    simp at h1
def sgs (b:Str):List Str:=(List.range b.length).map (chr b)
theorem Z6s (b:Str):sgs b = b.cps.toList.map sgn:=by
 have hl:b.cps.toList.length = b.length:=by simp [Str.length]
 unfold sgs
 refine List.ext_getElem (by simp [hl]) fun i h1 h2=>?_
 rw [List.getElem_map,List.getElem_map,List.getElem_range]
 unfold chr sgn
 rw [List.getD_eq_getElem?_getD,List.getElem?_eq_getElem (by simpa using h2)]
 rfl
theorem Z38 (b:Str):(sgs b).length = b.length:=by unfold sgs; simp
def Jj (t:Str) (i:Nat) (b:Str):Prop:=sub t i (i + b.length) = b
instance {t:Str} {i:Nat} {b:Str}:Decidable (Jj t i b):=inferInstanceAs (Decidable (_ = _))
theorem J1 {b:Str} {i:Nat}:Z2m t (sgs b) i = true ↔ Jj t i b:=by
 have hl:b.cps.toList.length = b.length:=by simp [Str.length]
 rw [Z6s,Z1a,hl]
 unfold Jj
 constructor
 ·intro h
  apply Z31
  show (t.cps.toList.drop i).take (i + b.length - i) = _
  rw [Nat.add_sub_cancel_left]
  exact h
 ·intro h
  have:=congrArg (fun z:Str=>z.cps.toList) h
  have e2:(t.cps.toList.drop i).take (i + b.length - i) = b.cps.toList:=this
  rw [Nat.add_sub_cancel_left] at e2
  exact e2
theorem Z08 {b:Str} {i:Nat} (h:Jj t i b) (hb:1 ≤ b.length):i + b.length ≤ t.length:=by
 have hl:t.cps.toList.length = t.length:=by simp [Str.length]
 have e:(sub t i (i + b.length)).length = b.length:=congrArg Str.length h
 have e2:((t.cps.toList.drop i).take (i + b.length - i)).toArray.size = b.length:=e
 rw [List.size_toArray,List.length_take,List.length_drop] at e2
 omega
theorem Z6t {b:Str} (hb:b.length = 1):sgs b = [b]:=by
 have hl:b.cps.toList.length = b.length:=by simp [Str.length]
 rw [Z6s]
 match hc:b.cps.toList,hl with
 | [c],_ =>
  show [sgn c] = [b]
  have:sgn c = b:=Z31 (by rw [hc]; rfl)
  rw [this]
 | [],h=>rw [hb] at h; cases h
 | _ :: _ :: _,h=>rw [hb] at h; simp at h
def brP (b:Str):Pat:=if b.length = 1 then sgP b else .node .row ((sgs b).map sgP)
def brW (t:Str) (i:Nat) (g:Gs) (b:Str):List Way:=if Jj t i b then [(i + b.length,g)] else []
def BrW (t:Str):Wk:=fun p i g ws N=>∃ b,p = brP b∧(1 ≤ b.length∧b.length ≤ 3)∧ws = brW t i g b∧N = 1
theorem Z8x:GW t n (BrW t):=by
 rintro p i g ws N hp hi hg ⟨b,rfl,hb,rfl,rfl⟩
 unfold brW
 split
 ·rename_i hc
  exact ⟨fun w hw=>by rw [List.mem_singleton.mp hw]; exact ⟨by show i ≤ i + _; omega,Z08 hc hb.1,hg⟩,by simp,by omega⟩
 ·exact ⟨fun w hw=>by simp at hw,by simp,by omega⟩
theorem Zau:YW es t n (BrW t) 3:=by
 rintro p i g ws N hp hi hg ⟨b,rfl,hb,rfl,rfl⟩ b0 h cs hs
 unfold brP at hs hp ⊢
 have hh:∀ i,Z2m t (sgs b) i = true ↔ Jj t i b:=fun i=>J1
 by_cases h1:b.length = 1
 ·rw [if_pos h1] at hs ⊢
  have h2:Zv (.sign b) t (i:Int) = true ↔ Jj t i b:=by
   rw [← hh,Z6t h1]
   show _ ↔ (Zv (.sign b) t (i:Int) && true) = true
   rw [Bool.and_true]
  refine sgl (w:=(i + b.length,g)) hs.cons.1 hi hg trivial ?_ (by omega)
  show (if Zv (.sign b) t (i:Int) = true then _ else _) = _
  by_cases hc:Jj t i b
  ·rw [if_pos hc,if_pos (h2.mpr hc),h1]
  ·rw [if_neg hc,if_neg fun z=>hc (h2.mp z)]
 ·rw [if_neg h1] at hs hp ⊢
  obtain ⟨N,hN,hr⟩:=Z0s (t:=t) (sgs b) i g
  rw [Z38] at hN hr
  have e:(if Z2m t (sgs b) i = true then [(i + b.length,g)] else []) = brW t i g b:=by
   unfold brW
   by_cases hc:Jj t i b
   ·rw [if_pos hc,if_pos ((hh i).mpr hc)]
   ·rw [if_neg hc,if_neg fun z=>hc ((hh i).mp z)]
  rw [e] at hr
  rw [Yo] at hs ⊢
  have y0:=Yl.one (es:=es) (t:=t) (n:=n) (e:=b0) (h:=h) (cs:=cs) (w:=(i,g)) (xs:=[]) rfl
  rw [List.append_nil] at y0
  have me:∀ w ∈ [((i,g):Way)],Gd t n 0 w:=fun w hw=>by rw [List.mem_singleton.mp hw]; exact ⟨Nat.zero_le _,hi,hg⟩
  exact (hr.yl Zbf Z7m (nm_node.mp hp).2 hs y0 me).mono (by omega)
def inP:List Str→Pat
 | [b]=>brP b
 | bs=>.node .alt (bs.map brP)
def inW (t:Str) (i:Nat) (g:Gs) (bs:List Str):List Way:=bs.flatMap (brW t i g)
structure BsOk (bs:List Str):Prop where
 ne:1 ≤ bs.length
 le:bs.length ≤ 2
 all:∀ b ∈ bs,1 ≤ b.length∧b.length ≤ 3
theorem Z8y {i:Nat} {g:Gs} {b:Str}:(brW t i g b).length ≤ 1:=by unfold brW; split <;> simp
theorem Z07 {i:Nat} {g:Gs}:∀ {bs:List Str},(inW t i g bs).length ≤ bs.length
 | []=>Nat.le_refl _
 | b :: bs=>by
  show ((b :: bs).flatMap (brW t i g)).length ≤ _
  rw [List.flatMap_cons,List.length_append,List.length_cons]
  have h1:=Z8y (t:=t) (i:=i) (g:=g) (b:=b)
  have h2:(bs.flatMap (brW t i g)).length ≤ bs.length:=Z07 (bs:=bs)
  omega
theorem Z1e {i:Nat} {g:Gs} {bs:List Str} (hb:BsOk bs) (hg:GOk t n g):∀ w ∈ inW t i g bs,i ≤ w.1∧w.1 ≤ t.length∧w.2 = g:=fun w hw=>by
 obtain ⟨b,hbm,hw⟩:=List.mem_flatMap.mp hw
 unfold brW at hw
 split at hw
 ·rename_i hc
  rw [List.mem_singleton.mp hw]
  exact ⟨by show i ≤ i + _; omega,Z08 hc (hb.all b hbm).1,rfl⟩
 ·simp at hw
theorem Zbr {bs:List Str} (hb:BsOk bs) {i:Nat} {g:Gs} (hp:(inP bs).nm n) (hi:i ≤ t.length) (hg:GOk t n g) (b0:Nat) (h:Hl) (cs:List Ch) (hs:Sits es b0 ((inP bs).ops b0)):Yl es t n (b0 + ((inP bs).ops b0).length) h cs (.run ⟨b0,i,g,h,cs⟩) (inW t i g bs) 10:=by
 match bs,hb with
 | [b],hb =>
  have y:=Zau (es:=es) (t:=t) (n:=n) (brP b) i g _ 1 hp hi hg ⟨b,rfl,hb.all b (by simp),rfl,rfl⟩ b0 h cs hs
  have e:inW t i g [b] = brW t i g b:=by unfold inW; simp
  rw [e]
  exact y.mono (by omega)
 | [b,b'],hb =>
  have hs':Sits es b0 ((Pat.node .alt [brP b,brP b']).ops b0):=hs
  have hp':=nm_node.mp (show (Pat.node .alt [brP b,brP b']).nm n from hp)
  show Yl es t n (b0 + ((Pat.node .alt [brP b,brP b']).ops b0).length) h cs _ _ _
  rw [Yo] at hs' ⊢
  have ax:Ax (BrW t) i g [brP b,brP b'] (brW t i g b ++ (brW t i g b' ++ [])) (1 + (1 + 0)):=.cons ⟨b,rfl,hb.all b (by simp),rfl,rfl⟩ (.cons ⟨b',rfl,hb.all b' (by simp),rfl,rfl⟩ .nil)
  have hl:b0 + (Vs 0 ([brP b,brP b'].map Pat.ops) b0).length = b0 + (Vs (b0 + (Vs 0 ([brP b,brP b'].map Pat.ops) b0).length) ([brP b,brP b'].map Pat.ops) b0).length:=congrArg (b0 + ·) (Z1q 0 _ ([brP b,brP b'].map Pat.ops) b0)
  have y:=ax.yl Zau Z8x (h:=h) (e:=b0 + (Vs 0 ([brP b,brP b'].map Pat.ops) b0).length) hi hg (b:=b0) (cs:=cs) (by simp) hp'.2 hs' hl
  have e:inW t i g [b,b'] = brW t i g b ++ (brW t i g b' ++ []):=by unfold inW; simp
  rw [e]
  exact (y.to hl).mono (by omega)
 | [],hb=>exact absurd hb.ne (by decide)
 | _ :: _ :: _ :: _,hb=>exact absurd hb.le (by simp)
def gpP (bs:List Str):Pat:=.node (.grp 1) [inP bs]
def gpW (t:Str) (i:Nat) (g:Gs) (bs:List Str):List Way:=(inW t i g bs).map fun w=>(w.1,put w.2 1 i w.1)
def GpW (t:Str) (bs:List Str):Wk:=fun p i g ws N=>p = gpP bs∧ws = gpW t i g bs∧N = 2
theorem Z8t {bs:List Str} (hb:BsOk bs):GW t n (GpW t bs):=by
 rintro p i g ws N hp hi hg ⟨rfl,rfl,rfl⟩
 have hp':=nm_node.mp hp
 refine ⟨fun w hw=>?_,?_,by omega⟩
 ·obtain ⟨v,hv,rfl⟩:=List.mem_map.mp hw
  obtain ⟨h1,h2,h3⟩:=Z1e hb hg v hv
  exact ⟨h1,h2,Z6y (by rw [h3]; exact hg) hp'.1.1 hp'.1.2 h1 h2⟩
 ·unfold gpW
  rw [List.length_map]
  have:=Z07 (t:=t) (i:=i) (g:=g) (bs:=bs)
  have:=hb.le
  omega
theorem Zbu {bs:List Str} (hb:BsOk bs):YW es t n (GpW t bs) 7:=by
 rintro p i g ws N hp hi hg ⟨rfl,rfl,rfl⟩ b h cs hs
 have hp':=nm_node.mp hp
 have hq:=hp'.2 (inP bs) (by simp)
 have hs':Sits es b (.open_ :: ((inP bs).ops (b + 1) ++ [.close 1])):=by
  unfold gpP at hs
  rw [Yo] at hs
  exact hs
 obtain ⟨c0,s1⟩:=hs'.cons
 obtain ⟨s2,s3⟩:=s1.app
 have c1:=s3.cons.1
 have r0:Rc es t n (.run ⟨b,i,g,h,cs⟩) 1 (.run ⟨b + 1,i,g,(0,i) :: h,cs⟩):=Rc.one c0 hi hg trivial rfl
 have y:=(Zbr hb hq hi hg (b + 1) ((0,i) :: h) cs s2).map1 (e2:=b + 1 + ((inP bs).ops (b + 1)).length + 1) (h2:=h) (f:=fun w=>(w.1,put w.2 1 i w.1)) fun w hw xs=>by
  obtain ⟨h1,h2,h3⟩:=Z1e hb hg w hw
  exact Rc.one c1 h2 (by rw [h3]; exact hg) ⟨hp'.1,by intro z; cases z⟩ rfl
 refine ((y.pre r0).to ?_).mono ?_
 ·unfold gpP
  rw [Yo]
  show _ = b + (Op.open_ :: ((inP bs).ops (b + 1) ++ [Op.close 1])).length
  simp only [List.length_cons,List.length_append,List.length_nil]
  omega
 ·have:=Z07 (t:=t) (i:=i) (g:=g) (bs:=bs)
  have:=hb.le
  omega
def bxU (F:Nat→List Way):Nat→List Way
 | 0=>F 0
 | k + 1=>if F (k + 1) = [] then bxU F k else F (k + 1)
theorem Zat {W:Wk} {p:Pat} {i:Nat} {g:Gs} {vs:Nat→List Way}:∀ (k:Nat),(∀ j,j ≤ k→W p j g (vs j) 2)→∃ N,N ≤ 2 * (k + 1)∧Bx W p i g k (bxU (fun j=>(vs j).filter fun w=>w.1 == i) k) N
 | 0,h=>by
  by_cases c:(vs 0).filter (fun w=>w.1 == i) = []
  ·refine ⟨2,by omega,?_⟩
   show Bx W p i g 0 ((vs 0).filter fun w=>w.1 == i) 2
   rw [c]
   exact .last (h 0 (by omega)) c
  ·exact ⟨2,by omega,.here (h 0 (by omega)) c⟩
 | k + 1,h=>by
  by_cases c:(vs (k + 1)).filter (fun w=>w.1 == i) = []
  ·obtain ⟨N,hN,hb⟩:=Zat (i:=i) k fun j hj=>h j (by omega)
   refine ⟨2 + N,by omega,?_⟩
   show Bx W p i g (k + 1) (if (vs (k + 1)).filter (fun w=>w.1 == i) = [] then _ else _) (2 + N)
   rw [if_pos c]
   exact .down (h (k + 1) (by omega)) c hb
  ·refine ⟨2,by omega,?_⟩
   show Bx W p i g (k + 1) (if (vs (k + 1)).filter (fun w=>w.1 == i) = [] then _ else _) 2
   rw [if_neg c]
   exact .here (h (k + 1) (by omega)) c
theorem Z1o (F:Nat→List Way):∀ k,(bxU F k).take 1 = ((List.range (k + 1)).flatMap fun j=>F (k - j)).take 1
 | 0=>by simp [bxU]
 | k + 1=>by
  rw [List.range_succ_eq_map,List.flatMap_cons,List.flatMap_map]
  show (if F (k + 1) = [] then bxU F k else F (k + 1)).take 1 = _
  have e:(fun j=>F (k + 1 - Nat.succ j)) = fun j=>F (k - j):=funext fun j=>by rw [show k + 1 - Nat.succ j = k - j by omega]
  by_cases c:F (k + 1) = []
  ·rw [if_pos c,Z1o F k]
   show _ = (F (k + 1 - 0) ++ (List.range (k + 1)).flatMap (fun j=>F (k + 1 - Nat.succ j))).take 1
   rw [e,Nat.sub_zero,c,List.nil_append]
  ·rw [if_neg c,Nat.sub_zero,List.take_append_of_le_length (List.length_pos_iff.mpr c)]
theorem Z4t {α:Type} (G:Nat→List α) (m:Nat) (h:∀ j,m ≤ j→G j = []):∀ d,(List.range (m + d)).flatMap G = (List.range m).flatMap G
 | 0=>rfl
 | d + 1=>by
  rw [← Nat.add_assoc,List.range_succ,List.flatMap_append,Z4t G m h d,List.flatMap_singleton,h _ (by omega),List.append_nil]
def prA (t:Str) (i:Nat) (bs:List Str):List (Nat × Nat):=bs.flatMap fun b=>if Jj t i b then [(i,i + b.length)] else []
def prK (t:Str) (i k:Nat) (bs:List Str):List (Nat × Nat):=bs.flatMap fun b=>if (k ≤ i∧sub t (i - k) i = b)∧b.length = k then [(i - k,i)] else []
def prB (t:Str) (i:Nat) (bs:List Str):List (Nat × Nat):=(List.range 4).flatMap fun k=>prK t i k bs
def prs (l:Lk) (t:Str) (i:Nat) (bs:List Str):List (Nat × Nat):=if l.leans = true then prB t i bs else prA t i bs
def Z0d (l:Lk) (i:Nat) (ps:List (Nat × Nat)):List (Nat × En):=match l with
 | .once=>(ps.take 1).map fun p=>(p.2,some p)
 | .ahead=>(ps.take 1).map fun p=>(i,some p)
 | .behind=>(ps.take 1).map fun p=>(i,some p)
 | _=>if ps.isEmpty = true then [(i,none)] else []
def Z6j (so:Option Str) (t:Str) (ds:List (Nat × En)):List (Nat × En):=match so with
 | none=>ds
 | some s=>ds.flatMap fun d=>if sub t d.1 (d.1 + 1) = s then [(d.1 + 1,d.2)] else []
def toW (d:Nat × En):Way:=(d.1,[d.2])
theorem Z7a {i:Nat} {bs:List Str}:gpW t i [none] bs = (prA t i bs).map fun p=>(p.2,[some p]):=by
 unfold gpW inW prA
 rw [List.map_flatMap,List.map_flatMap]
 refine congrArg (fun f=>List.flatMap f bs) (funext fun b=>?_)
 unfold brW
 split
 ·rfl
 ·rfl
theorem Z6g {i k:Nat} {bs:List Str} (hk:k ≤ i):(gpW t (i - k) [none] bs).filter (fun w=>w.1 == i) = (prK t i k bs).map fun p=>(i,[some p]):=by
 rw [Z7a]
 unfold prA prK
 induction bs with
 | nil=>rfl
 | cons b bs ih =>
  rw [List.flatMap_cons,List.flatMap_cons,List.map_append,List.map_append,List.filter_append,ih]
  congr 1
  by_cases hl:b.length = k
  ·have e:i - k + b.length = i:=by omega
   have hh:Jj t (i - k) b ↔ sub t (i - k) i = b:=by unfold Jj; rw [e]
   by_cases hc:sub t (i - k) i = b
   ·rw [if_pos (hh.mpr hc),if_pos ⟨⟨hk,hc⟩,hl⟩]
    simp [e]
   ·rw [if_neg fun z=>hc (hh.mp z),if_neg fun z=>hc z.1.2]
    rfl
  ·rw [if_neg (fun z:(k ≤ i∧sub t (i - k) i = b)∧b.length = k=>hl z.2)]
   split
   ·rename_i hc
    have:¬ i - k + b.length = i:=by omega
    simp [this]
   ·rfl
theorem Z3q {i k:Nat} {bs:List Str} (hb:BsOk bs) (hk:4 ≤ k ∨ i < k):prK t i k bs = []:=by
 unfold prK
 rw [List.flatMap_eq_nil_iff]
 intro b hbm
 have:=(hb.all b hbm).2
 rw [if_neg (by omega)]
theorem Z0f {i:Nat} {bs:List Str} (hb:BsOk bs):(bxU (fun j=>(gpW t j [none] bs).filter fun w=>w.1 == i) i).take 1 = ((prB t i bs).take 1).map fun p=>(i,[some p]):=by
 rw [Z1o]
 have e:(List.range (i + 1)).flatMap (fun j=>(gpW t (i - j) [none] bs).filter fun w=>w.1 == i) = (List.range (i + 1)).flatMap fun j=>(prK t i j bs).map fun p=>((i,[some p]):Way):=by
  rw [List.flatMap_def,List.flatMap_def]
  congr 1
  refine List.map_congr_left fun j hj=>?_
  exact Z6g (by have:=List.mem_range.mp hj; omega)
 rw [e,List.map_take]
 unfold prB
 have fin:(List.range (i + 1)).flatMap (fun j=>(prK t i j bs).map fun p=>((i,[some p]):Way)) = (List.range 4).flatMap fun j=>(prK t i j bs).map fun p=>((i,[some p]):Way):=by
  rcases Nat.le_total (i + 1) 4 with h | h
  ·obtain ⟨d,hd⟩:=Nat.exists_eq_add_of_le h
   rw [hd]
   exact (Z4t _ (i + 1) (fun j hj=>by rw [Z3q hb (.inr (by omega))]; rfl) d).symm
  ·obtain ⟨d,hd⟩:=Nat.exists_eq_add_of_le h
   rw [hd]
   exact Z4t _ 4 (fun j hj=>by rw [Z3q hb (.inl hj)]; rfl) d
 rw [fin,List.map_flatMap]
theorem Z1d {α:Type} (xs:List α):xs.isEmpty = (xs.take 1).isEmpty:=by cases xs <;> rfl
theorem Z4k {α β:Type} (f:α→β) (xs:List α):(xs.map f).isEmpty = xs.isEmpty:=by cases xs <;> rfl
def lkP (l:Lk) (bs:List Str):Pat:=.node (.look l) [gpP bs]
theorem Zaj {l:Lk} {bs:List Str} (hb:BsOk bs) {i:Nat} (hp:(lkP l bs).nm ((1:Nat):Int)) (hi:i ≤ t.length) (hi2:i ≤ 220) (b:Nat) (h:Hl) (cs:List Ch) (hs:Sits es b ((lkP l bs).ops b)) :
  Yl es t 1 (b + ((lkP l bs).ops b).length) h cs (.run ⟨b,i,[none],h,cs⟩) ((Z0d l i (prs l t i bs)).map toW) 4000:=by
 have hp':=nm_node.mp hp
 have hq:=hp'.2 (gpP bs) (by simp)
 have hg:GOk t 1 [none]:=⟨rfl,fun x y hm=>by rw [List.mem_singleton] at hm; cases hm⟩
 unfold lkP at hs ⊢
 rw [Yo] at hs ⊢
 have key:∃ us N,N ≤ 2 * (i + 1)∧(if l.leans = true then Bx (GpW t bs) (gpP bs) i [none] i us N else GpW t bs (gpP bs) i [none] us N)∧Z8p l i [none] us = (Z0d l i (prs l t i bs)).map toW:=by
  have notl:l.leans = false→∃ us N,N ≤ 2 * (i + 1)∧(if l.leans = true then Bx (GpW t bs) (gpP bs) i [none] i us N else GpW t bs (gpP bs) i [none] us N)∧us = (prA t i bs).map fun p=>(p.2,[some p]):=fun hl=>by
   refine ⟨gpW t i [none] bs,2,by omega,?_,Z7a⟩
   rw [if_neg (by rw [hl]; decide)]
   exact ⟨rfl,rfl,rfl⟩
  have isl:l.leans = true→∃ us N,N ≤ 2 * (i + 1)∧(if l.leans = true then Bx (GpW t bs) (gpP bs) i [none] i us N else GpW t bs (gpP bs) i [none] us N)∧us.take 1 = ((prB t i bs).take 1).map fun p=>(i,[some p]):=fun hl=>by
   obtain ⟨N,hN,hbx⟩:=Zat (W:=GpW t bs) (p:=gpP bs) (i:=i) (g:=[none]) (vs:=fun j=>gpW t j [none] bs) i fun j _=>⟨rfl,rfl,rfl⟩
   refine ⟨_,N,hN,?_,Z0f hb⟩
   rw [if_pos hl]
   exact hbx
  unfold prs
  cases l with
  | once =>
   obtain ⟨us,N,hN,h1,rfl⟩:=notl rfl
   refine ⟨_,N,hN,h1,?_⟩
   show (List.map _ (prA t i bs)).take 1 = List.map toW (List.map _ ((prA t i bs).take 1))
   rw [← List.map_take,List.map_map]
   rfl
  | ahead =>
   obtain ⟨us,N,hN,h1,rfl⟩:=notl rfl
   refine ⟨_,N,hN,h1,?_⟩
   show ((List.map _ (prA t i bs)).take 1).map _ = List.map toW (List.map _ ((prA t i bs).take 1))
   rw [← List.map_take,List.map_map,List.map_map]
   rfl
  | notahead =>
   obtain ⟨us,N,hN,h1,rfl⟩:=notl rfl
   refine ⟨_,N,hN,h1,?_⟩
   show (if (List.map _ (prA t i bs)).isEmpty = true then _ else _) = List.map toW (if (prA t i bs).isEmpty = true then _ else _)
   rw [Z4k]
   split <;> rfl
  | behind =>
   obtain ⟨us,N,hN,h1,h2⟩:=isl rfl
   refine ⟨us,N,hN,h1,?_⟩
   show (us.take 1).map _ = List.map toW (List.map _ ((prB t i bs).take 1))
   rw [h2,List.map_map,List.map_map]
   rfl
  | notbehind =>
   obtain ⟨us,N,hN,h1,h2⟩:=isl rfl
   refine ⟨us,N,hN,h1,?_⟩
   show (if us.isEmpty = true then _ else _) = List.map toW (if (prB t i bs).isEmpty = true then _ else _)
   rw [Z1d us,h2,Z4k,← Z1d]
   split <;> rfl
 obtain ⟨us,N,hN,hw,e⟩:=key
 rw [← e]
 have hs':Sits es b (Xp l (gpP bs).ops b):=hs
 have y:=Z8o (Zbu hb) (Z8t hb) hq hi hg hw b h cs hs'
 refine y.mono ?_
 omega
def Z57 (l:Lk) (bs:List Str) (so:Option Str):Pat:=match so with
 | none=>lkP l bs
 | some s=>.node .row [lkP l bs,sgP s]
theorem Uo {s:Str} {i:Nat} (hs:s.length = 1):Zv (.sign s) t (i:Int) = true ↔ sub t i (i + 1) = s:=by
 have:=J1 (t:=t) (b:=s) (i:=i)
 rw [Z6t hs] at this
 unfold Jj at this
 rw [hs] at this
 rw [← this]
 show _ ↔ (Zv (.sign s) t (i:Int) && true) = true
 rw [Bool.and_true]
theorem J9 {l:Lk} {i:Nat} {bs:List Str} (hb:BsOk bs) (hi:i ≤ t.length):∀ d ∈ Z0d l i (prs l t i bs),d.1 ≤ t.length∧∀ x y,d.2 = some (x,y)→x ≤ y∧y ≤ t.length:=by
 have pa:∀ p ∈ prA t i bs,p.1 ≤ p.2∧p.2 ≤ t.length:=fun p hp=>by
  obtain ⟨b,hbm,hp⟩:=List.mem_flatMap.mp hp
  split at hp
  ·rename_i hc
   rw [List.mem_singleton.mp hp]
   exact ⟨by show i ≤ i + _; omega,Z08 hc (hb.all b hbm).1⟩
  ·simp at hp
 have pb:∀ p ∈ prB t i bs,p.1 ≤ p.2∧p.2 ≤ t.length:=fun p hp=>by
  obtain ⟨k,_,hp⟩:=List.mem_flatMap.mp hp
  obtain ⟨b,hbm,hp⟩:=List.mem_flatMap.mp hp
  split at hp
  ·rw [List.mem_singleton.mp hp]
   exact ⟨by show i - k ≤ i; omega,hi⟩
  ·simp at hp
 have ps:∀ p ∈ prs l t i bs,p.1 ≤ p.2∧p.2 ≤ t.length:=fun p hp=>by
  unfold prs at hp
  split at hp
  ·exact pb p hp
  ·exact pa p hp
 have tk:∀ (f:Nat × Nat→Nat × En),(∀ p,p ∈ prs l t i bs→(f p).1 ≤ t.length∧(f p).2 = some p)→∀ d ∈ ((prs l t i bs).take 1).map f,d.1 ≤ t.length∧∀ x y,d.2 = some (x,y)→x ≤ y∧y ≤ t.length:=fun f hf d hd=>by
  obtain ⟨p,hp,rfl⟩:=List.mem_map.mp hd
  have hp':=List.mem_of_mem_take hp
  refine ⟨(hf p hp').1,fun x y e=>?_⟩
  rw [(hf p hp').2] at e
  injection e with e
  have:=ps p hp'
  rw [e] at this
  exact this
 have no:∀ d ∈ (if (prs l t i bs).isEmpty = true then [((i,none):Nat × En)] else []),d.1 ≤ t.length∧∀ x y,d.2 = some (x,y)→x ≤ y∧y ≤ t.length:=fun d hd=>by
  split at hd
  ·rw [List.mem_singleton.mp hd]
   exact ⟨hi,fun x y e=>by cases e⟩
  ·simp at hd
 cases l with
 | once=>exact tk _ fun p hp=>⟨(ps p hp).2,rfl⟩
 | ahead=>exact tk _ fun p hp=>⟨hi,rfl⟩
 | behind=>exact tk _ fun p hp=>⟨hi,rfl⟩
 | notahead=>exact no
 | notbehind=>exact no
theorem Z6k {l:Lk} {i:Nat} {ps:List (Nat × Nat)}:(Z0d l i ps).length ≤ 1:=by
 cases l <;> simp [Z0d] <;> first | omega | (split <;> simp)
theorem Za9 {l:Lk} {bs:List Str} {so:Option Str} (hb:BsOk bs) (hso:∀ s,so = some s→s.length = 1) {i:Nat} (hp:(Z57 l bs so).nm ((1:Nat):Int)) (hi:i ≤ t.length) (hi2:i ≤ 220) (hs:Sits es 0 ((Z57 l bs so).ops 0)) :
  Yl es t 1 (0 + ((Z57 l bs so).ops 0).length) [] [] (.run ⟨0,i,[none],[],[]⟩) ((Z6j so t (Z0d l i (prs l t i bs))).map toW) 4100:=by
 cases so with
 | none=>exact (Zaj hb hp hi hi2 0 [] [] hs).mono (by omega)
 | some s =>
  have hp':=nm_node.mp (show (Pat.node .row [lkP l bs,sgP s]).nm ((1:Nat):Int) from hp)
  have hs':Sits es 0 ((Pat.node .row [lkP l bs,sgP s]).ops 0):=hs
  show Yl es t 1 (0 + ((Pat.node .row [lkP l bs,sgP s]).ops 0).length) _ _ _ _ _
  rw [Yo] at hs' ⊢
  have hs2:Sits es 0 ((lkP l bs).ops 0 ++ ((sgP s).ops (0 + ((lkP l bs).ops 0).length) ++ [])):=hs'
  obtain ⟨s1,s2⟩:=hs2.app
  obtain ⟨s3,_⟩:=s2.app
  have c1:es[0 + ((lkP l bs).ops 0).length]? = some (.pat (.sign s)):=s3.cons.1
  have y:=Zaj (t:=t) hb (hp'.2 _ (by simp)) hi hi2 0 [] [] s1
  have hgd:=J9 (l:=l) (t:=t) hb hi
  have y2:=y.bind (e2:=0 + ((lkP l bs).ops 0).length + 1) (h2:=[]) (f:=fun w=>if Zv (.sign s) t (w.1:Int) = true then [(w.1 + 1,w.2)] else []) (c:=fun _=>1) fun w hw xs=>by
   obtain ⟨d,hd,rfl⟩:=List.mem_map.mp hw
   have h1:=hgd d hd
   have hg:GOk t 1 (toW d).2:=⟨rfl,fun x y hm=>h1.2 x y (List.mem_singleton.mp hm).symm⟩
   exact sgl (w:=((toW d).1 + 1,(toW d).2)) c1 h1.1 hg trivial rfl (Nat.le_refl _)
  have e:((Z0d l i (prs l t i bs)).map toW).flatMap (fun w=>if Zv (.sign s) t (w.1:Int) = true then [(w.1 + 1,w.2)] else []) = (Z6j (some s) t (Z0d l i (prs l t i bs))).map toW:=by
   unfold Z6j
   rw [List.flatMap_map,List.map_flatMap]
   refine congrArg (fun f=>List.flatMap f _) (funext fun d=>?_)
   show (if Zv (.sign s) t (d.1:Int) = true then _ else _) = _
   by_cases hc:sub t d.1 (d.1 + 1) = s
   ·rw [if_pos hc,if_pos ((Uo (hso s rfl)).mpr hc)]
    rfl
   ·rw [if_neg hc,if_neg fun z=>hc ((Uo (hso s rfl)).mp z)]
    rfl
  rw [e] at y2
  refine (y2.to ?_).mono ?_
  ·show _ = 0 + ((lkP l bs).ops 0 ++ ((sgP s).ops (0 + ((lkP l bs).ops 0).length) ++ [])).length
   simp only [List.length_append,List.length_nil]
   have:((sgP s).ops (0 + ((lkP l bs).ops 0).length)).length = 1:=rfl
   omega
  ·rw [List.map_const',List.sum_replicate_nat,List.length_map]
   have:=Z6k (l:=l) (i:=i) (ps:=prs l t i bs)
   omega
theorem Z4v {l:Lk} {i:Nat} {bs:List Str} {so:Option Str} (hb:BsOk bs) (hso:∀ s,so = some s→s.length = 1) (hi:i ≤ t.length):∀ w ∈ (Z6j so t (Z0d l i (prs l t i bs))).map toW,w.1 ≤ t.length∧GOk t 1 w.2:=fun w hw=>by
 obtain ⟨d,hd,rfl⟩:=List.mem_map.mp hw
 have hgd:=J9 (l:=l) (t:=t) hb hi
 cases so with
 | none=>exact ⟨(hgd d hd).1,rfl,fun x y hm=>(hgd d hd).2 x y (List.mem_singleton.mp hm).symm⟩
 | some s =>
  obtain ⟨c,hc,hd⟩:=List.mem_flatMap.mp hd
  split at hd
  ·rename_i h1
   rw [List.mem_singleton.mp hd]
   have h2:=Z0j ((Uo (hso s rfl)).mpr h1)
   exact ⟨h2,rfl,fun x y hm=>(hgd c hc).2 x y (List.mem_singleton.mp hm).symm⟩
  ·simp at hd
end
theorem Z9o (h:let E:=D; let A1:=a1; let A2:=a2; let A3:=a3; let A4:=a4; let A5:=a5; let A6:=a6; let A7:=a7; let A8:=Y4 c7 A7 Zs; let A9:=a8; let A10:=Za (Jl i1 g1 A8) A9; let A11:=Za (Y4 c6 A6 Zs) A10; let A12:=Za (Y4 c5 A5 Zs) A11; let A13:=Za (Y4 c4 A4 Zs) A12; let A14:=Za (Y4 c3 A3 Zs) A13; let A15:=Za (Y4 c2 A2 Zs) A14; (Za (Y4 c1 A1 Zs) A15) E σ H):(Za (Y4 c1 a1 Zs) (Za (Y4 c2 a2 Zs) (Za (Y4 c3 a3 Zs) (Za (Y4 c4 a4 Zs) (Za (Y4 c5 a5 Zs) (Za (Y4 c6 a6 Zs) (Za (Jl i1 g1 (Y4 c7 a7 Zs)) a8))))))) D σ H:=h
theorem Z9s (h:let E:=D; let A1:=a7; let A2:=Za a6 A1; let A3:=Za a5 A2; let A4:=a11; let A5:=a14; let A6:=a15; let A7:=a19; let A8:=Za a18 A7; let A9:=Za a17 A8; let A10:=a21; let A11:=Y4 c6 A10 Zs; let A12:=a22; let A13:=Za (Jl i1 g1 A11) A12; let A14:=Za a20 A13; let A15:=Za (Y4 c5 A9 Zs) A14; let A16:=Za a16 A15; let A17:=Za (Y4 c4 A6 Zs) A16; let A18:=Za (Y4 c3 A5 Zs) A17; let A19:=Za a13 A18; let A20:=Za a12 A19; let A21:=Za (Y4 c2 A4 Zs) A20; let A22:=Za a10 A21; let A23:=Za a9 A22; let A24:=Za a8 A23; let A25:=Za (Y4 c1 A3 Zs) A24; let A26:=Za a4 A25; let A27:=Za a3 A26; let A28:=Za a2 A27; (Za a1 A28) E σ H):(Za a1 (Za a2 (Za a3 (Za a4 (Za (Y4 c1 (Za a5 (Za a6 a7)) Zs) (Za a8 (Za a9 (Za a10 (Za (Y4 c2 a11 Zs) (Za a12 (Za a13 (Za (Y4 c3 a14 Zs) (Za (Y4 c4 a15 Zs) (Za a16 (Za (Y4 c5 (Za a17 (Za a18 a19)) Zs) (Za a20 (Za (Jl i1 g1 (Y4 c6 a21 Zs)) a22))))))))))))))))) D σ H:=h
theorem Z0v (h:let E:=D; let A1:=a2; (Za a1 A1) E σ H):(Za a1 a2) D σ H:=h
theorem Za1 (h:let E:=D; let A1:=a2; let A2:=Jl i1 g1 A1; (Za a1 A2) E σ H):(Za a1 (Jl i1 g1 a2)) D σ H:=h
theorem Z9v (h:let E:=D; let A1:=a5; let A2:=Za a4 A1; let A3:=Za a3 A2; let A4:=Za a2 A3; let A5:=a6; let A6:=Za (Jl i1 g1 A4) A5; (Za a1 A6) E σ H):(Za a1 (Za (Jl i1 g1 (Za a2 (Za a3 (Za a4 a5)))) a6)) D σ H:=h
theorem Z9m (h:let E:=D; let A1:=a2; let A2:=a3; let A3:=Jl i1 g1 A2; let A4:=a4; let A5:=a5; let A6:=a8; let A7:=Za a7 A6; let A8:=Za a6 A7; let A9:=a9; let A10:=a10; let A11:=Y4 c6 A9 A10; let A12:=Y4 c5 A8 A11; let A13:=Y4 c4 A5 A12; let A14:=Y4 c3 A4 A13; let A15:=Y4 c2 A3 A14; let A16:=Y4 c1 A1 A15; (Za a1 A16) E σ H):(Za a1 (Y4 c1 a2 (Y4 c2 (Jl i1 g1 a3) (Y4 c3 a4 (Y4 c4 a5 (Y4 c5 (Za a6 (Za a7 a8)) (Y4 c6 a9 a10))))))) D σ H:=h
theorem Z3l (h:let E:=D; let A1:=a4; let A2:=Za a3 A1; let A3:=Za a2 A2; (Za a1 A3) E σ H):(Za a1 (Za a2 (Za a3 a4))) D σ H:=h
theorem Z9l (h:let E:=D; let A1:=a4; let A2:=Za a3 A1; let A3:=Za a2 A2; let A4:=Za a1 A3; let A5:=a9; let A6:=Za a8 A5; let A7:=Za a7 A6; let A8:=Za a6 A7; let A9:=Za a5 A8; (Za (Y4 c1 A4 Zs) A9) E σ H):(Za (Y4 c1 (Za a1 (Za a2 (Za a3 a4))) Zs) (Za a5 (Za a6 (Za a7 (Za a8 a9))))) D σ H:=h
theorem Z9n (h:let E:=D; let A1:=a6; let A2:=Za a5 A1; let A3:=Za a4 A2; let A4:=Za a3 A3; let A5:=Za a2 A4; (Za a1 A5) E σ H):(Za a1 (Za a2 (Za a3 (Za a4 (Za a5 a6))))) D σ H:=h
theorem Z6w (h:let E:=D; let A1:=a2; let A2:=a3; let A3:=Za (Y4 c1 A1 Zs) A2; (Za a1 A3) E σ H):(Za a1 (Za (Y4 c1 a2 Zs) a3)) D σ H:=h
theorem Z0u (h:let E:=D; let A1:=a3; let A2:=Za a2 A1; (Za a1 A2) E σ H):(Za a1 (Za a2 a3)) D σ H:=h
theorem Za0 (h:let E:=D; let A1:=a1; (Vt c1 A1) E σ H):(Vt c1 a1) D σ H:=h
theorem Z9r (h:let E:=D; let A1:=a3; let A2:=Za a2 A1; let A3:=a5; let A4:=a6; let A5:=Y4 c2 A3 A4; let A6:=Za a4 A5; let A7:=Za (Y4 c1 A2 Zs) A6; (Za a1 A7) E σ H):(Za a1 (Za (Y4 c1 (Za a2 a3) Zs) (Za a4 (Y4 c2 a5 a6)))) D σ H:=h
theorem Tp (h:let E:=D; let A1:=a1; (Y4 c1 A1 Zs) E σ H):(Y4 c1 a1 Zs) D σ H:=h
theorem Z9t (h:let E:=D; let A1:=a2; let A2:=a4; let A3:=Za a3 A2; let A4:=Y4 c1 A1 A3; (Za a1 A4) E σ H):(Za a1 (Y4 c1 a2 (Za a3 a4))) D σ H:=h
theorem Z9z (h:let E:=D; let A1:=a9; let A2:=Za a8 A1; let A3:=Za a7 A2; let A4:=a10; let A5:=a11; let A6:=a12; let A7:=Y4 c3 A5 A6; let A8:=Y4 c2 A4 A7; let A9:=Y4 c1 A3 A8; let A10:=Za a6 A9; let A11:=Za a5 A10; let A12:=Za a4 A11; let A13:=Za a3 A12; let A14:=Za a2 A13; (Za a1 A14) E σ H):(Za a1 (Za a2 (Za a3 (Za a4 (Za a5 (Za a6 (Y4 c1 (Za a7 (Za a8 a9)) (Y4 c2 a10 (Y4 c3 a11 a12))))))))) D σ H:=h
theorem Z9u (h:let E:=D; let A1:=a1; let A2:=a4; let A3:=a5; let A4:=Za (Y4 c2 A2 Zs) A3; let A5:=Za a3 A4; let A6:=Za a2 A5; (Za (Y4 c1 A1 Zs) A6) E σ H):(Za (Y4 c1 a1 Zs) (Za a2 (Za a3 (Za (Y4 c2 a4 Zs) a5)))) D σ H:=h
theorem Z6x (h:let E:=D; let A1:=a1; let A2:=a2; (Y4 c1 A1 A2) E σ H):(Y4 c1 a1 a2) D σ H:=h
theorem Z9p (h:let E:=D; let A1:=a1; let A2:=Y4 c1 A1 Zs; let A3:=a2; (Za (Jl i1 g1 A2) A3) E σ H):(Za (Jl i1 g1 (Y4 c1 a1 Zs)) a2) D σ H:=h
theorem Z9q (h:let E:=D; let A1:=a1; let A2:=a3; let A3:=a4; let A4:=a5; let A5:=Za (Y4 c3 A3 Zs) A4; let A6:=Za (Y4 c2 A2 Zs) A5; let A7:=Za a2 A6; (Za (Y4 c1 A1 Zs) A7) E σ H):(Za (Y4 c1 a1 Zs) (Za a2 (Za (Y4 c2 a3 Zs) (Za (Y4 c3 a4 Zs) a5)))) D σ H:=h
theorem Z9w (h:let E:=D; let A1:=a3; let A2:=Y4 c2 A1 Zs; let A3:=Za a2 A2; let A4:=a4; let A5:=Za (Vt c1 A3) A4; (Za a1 A5) E σ H):(Za a1 (Za (Vt c1 (Za a2 (Y4 c2 a3 Zs))) a4)) D σ H:=h
theorem Z9k (h:let E:=D; let A1:=a2; let A2:=Za a1 A1; let A3:=a3; (Za (Y4 c1 A2 Zs) A3) E σ H):(Za (Y4 c1 (Za a1 a2) Zs) a3) D σ H:=h
theorem Z9x (h:let E:=D; let A1:=a10; let A2:=Za a9 A1; let A3:=Za a8 A2; let A4:=Za a7 A3; let A5:=Za a6 A4; let A6:=Za a5 A5; let A7:=Za a4 A6; let A8:=Za a3 A7; let A9:=Za a2 A8; (Za a1 A9) E σ H):(Za a1 (Za a2 (Za a3 (Za a4 (Za a5 (Za a6 (Za a7 (Za a8 (Za a9 a10))))))))) D σ H:=h
theorem Z9y (h:let E:=D; let A1:=a2; let A2:=a3; let A3:=Za (Jl i1 g1 A1) A2; let A4:=a4; let A5:=Za (Y4 c1 A3 Zs) A4; (Za a1 A5) E σ H):(Za a1 (Za (Y4 c1 (Za (Jl i1 g1 a2) a3) Zs) a4)) D σ H:=h
theorem Z9j (h:let E:=D; let A1:=a1; let A2:=a2; (Za (Y4 c1 A1 Zs) A2) E σ H):(Za (Y4 c1 a1 Zs) a2) D σ H:=h
def top (i:Nat):Stmt:=PySem.Challenge.pw_seek_k12_looks.main.body.getD i (.Pass ⟨0,0,0,0⟩)
section
variable {P:Program} {w:World} {K:PySem.W.Frag} {mg:Str→Option Value} {base:Heap} {f:Addr} {fd:FuncData}
inductive spTakeI (vs:List V) (H:Hp) (Q:VK):Prop
 | mk (b:Addr) (m:Int) (_:vs = [.ref b,.int m]) (_:BoxAt H b) (_:0 < m) (_:m < 1073741824) (_:∀ (r:Int) (H':Hp),0 ≤ r→r < m→BoxAt H' b→Gro [b] H H'→Q (.int r) H')
def Vw:Sp:=fun vs H Q _=>spTakeI vs H Q
abbrev s_l_take:Stmt:=top 37
theorem sc_l_take:FnScope ["_law_box", "_law_many", "_law_number"] ["_law_box", "_law_many"] (Z5 s_l_take):=fsc
theorem Z8e (F:Fun K "_law_take" "_law_take" s_l_take f fd):FnOk P w K mg base CX0 1 f fd ["_law_box", "_law_many"] Vw:=by
 refine F.ok sc_l_take (fun vs H Q E h=>?_) (fun cdv A outer s H vs Q E hr h=>?_)
 ·obtain ⟨b,m,rfl,_⟩:=h
  rfl
 obtain ⟨b,m,rfl,⟨ns,hb,hl⟩,h0,h1,q⟩:=h
 refine ltX ?_
 intro Xz
 refine ⟨_,(Z2 (Y0 (Ze (Z5w hr.units0) (pv 0) (U5 Z3) (Zn _)) (Z4 (Zw Z6)) Zr)
  (Z2 (pS 2 sc_l_take.nd (Zl Xj (pv 0) Z6 (fun _ _=>rfl)))
  (Z2 (V5 (Yi Z8a (pv 2) (pv 1)) (V8 (pv 0) Z6 X3))
  (Z2 (Y0 (PW.pt (Z7w (Ze Yc (Zl Xj (pv 0) Z6 (fun _ _=>rfl)) Z6 (Zn _)) (Z3m (Ze Yc (Zl Xj (pv 0) Z6 (fun _ _=>rfl)) (Z80 Z2x Z6) (Zn _))))) (Z4 (Z9 (X6 PySem.F.plainAttrs_list PySem.F.slot_list_pop PySem.F.type_list_pop Z66 (pv 0) (Z0 Z6 Z3)))) Zr)
  (Z4 (Zw (Yi Z72 (pv 2) (pv 1)))))))),?_⟩
 refine Z9u ?_
 intro Ez Az1 Az2 Az3 Az4 Az5 Az6
 refine (exA rfl ⟨sz,fun p hp=>?_⟩)
 have np:b ≠ p:=Z7 hb hp
 have g1:Gro [b] H (upd H p (.lst [])):=Gro.new hp _
 have hb1:(upd H p (.lst [])) b = some (.lst (ns.map V.int)):=by rw [Zf np]; exact hb
 refine ⟨b,p,ns.map V.int,rfl,rfl,SqL.of hb1,SqL.of Z1,exA rfl (?_)⟩
 cases ns with
 | nil=>exact Z99 (q 0 _ (Int.le_refl 0) h0 ⟨[],hb1,hl⟩ g1)
 | cons n r =>
  refine Z76 ?_
  refine (ixL hb1 at0 (?_))
  refine (exA rfl (exA rfl (exB rfl rfl ⟨⟨h0,h1⟩,?_⟩)))
  refine (exA rfl ⟨b,_,_,0,rfl,rfl,hb1,ix0,?_⟩)
  have hm0:0 ≤ n % m:=Int.emod_nonneg _ (by omega)
  have hm1:n % m < m:=Int.emod_lt_of_pos _ h0
  generalize hH2:upd (upd H p (.lst [])) b (.lst ((List.map V.int (n :: r)).set 0 (V.int (n / m)))) = H2
  have hb2:H2 b = some (.lst (V.int (n / m) :: r.map V.int)):=by rw [← hH2,Z1]; rfl
  have g2:Gro [b] H H2:=g1.trans (by rw [← hH2]; exact Gro.set (by simp) hb1 _)
  have box2:BoxAt H2 b:=⟨n / m :: r,hb2,by simpa using hl⟩
  have hpop:∀ Q':V→Hp→Prop,Q' (.int (n / m)) (upd H2 b (.lst (r.map V.int)))→Z6v (.ref b) [.int 0] H2 Q':=fun Q' hq =>
   ⟨b,_,0,0,exA rfl ⟨rfl,hb2,by decide,by decide,seqIndex_of (by omega) (by rw [List.length_cons]; omega),rfl,hq⟩⟩
  have box3:BoxAt (upd H2 b (.lst (r.map V.int))) b:=⟨r,Z1,by simp at hl; omega⟩
  have g3:Gro [b] H (upd H2 b (.lst (r.map V.int))):=g2.trans (Gro.set (by simp) hb2 _)
  have ty2:tyV K "list" (.ref b) H2:=.inl ⟨rfl,_,SqL.of hb2⟩
  refine (ixL hb2 at0 ⟨rfl,_,rfl,?_⟩)
  refine Wi (fun c=>?_) (fun c=>?_)
  ·refine Z99 (exA rfl ⟨ty2,?_⟩)
   refine hpop _ ?_
   refine (exA rfl (exA rfl (exB rfl rfl ⟨h0,?_⟩)))
   exact q _ _ hm0 hm1 box3 g3
  ·refine (ixL hb2 at0 ⟨_,rfl,rfl,_,rfl,?_⟩)
   refine Wi (fun c=>?_) (fun c=>?_)
   ·refine (exA rfl ⟨ty2,?_⟩)
    refine hpop _ ?_
    refine (exA rfl (exA rfl (exB rfl rfl ⟨h0,?_⟩)))
    exact q _ _ hm0 hm1 box3 g3
   ·refine (exA rfl (exA rfl (exB rfl rfl ⟨h0,?_⟩)))
    exact q _ _ hm0 hm1 box2 g2
inductive spSignI (vs:List V) (H:Hp) (Q:VK):Prop
 | mk (c:Int) (_:vs = [.int c]) (_:∀ s:Str,s.length = 1→Q (.str s) H)
def Z33:Sp:=fun vs H Q _=>spSignI vs H Q
abbrev s_l_sign:Stmt:=top 38
theorem sc_l_sign:FnScope ["_law_cell", "_law_some"] ["_law_cell"] (Z5 s_l_sign):=fsc
theorem Z8f (F:Fun K "_law_sign" "_law_sign" s_l_sign f fd):FnOk P w K mg base CX0 1 f fd ["_law_cell"] Z33:=by
 refine F.ok sc_l_sign (fun vs H Q E h=>?_) (fun cdv A outer s H vs Q E hr h=>?_)
 ·obtain ⟨c,rfl,_⟩:=h
  rfl
 obtain ⟨c,rfl,q⟩:=h
 refine ltX ?_
 intro Xz
 refine ⟨_,(Z2 (pS 1 sc_l_sign.nd Zj)
  (Z2 (pS 1 sc_l_sign.nd (Yi Ua (pv 1) Zj))
  (Z4 (Zw (Zl Z1c (pv 1) (Yi Z72 (pv 0) Z6) (fun _ _=>rfl)))))),?_⟩
 refine Z0u ?_
 intro Ez Az1 Az2
 refine (exA rfl (exB rfl rfl ⟨sz,?_⟩))
 refine (exA rfl (exA rfl (exB rfl rfl ⟨(by decide:(0:Int) < 94),?_⟩)))
 generalize hz:(Str.ofString _ ++ Str.ofString _:Str) = z
 have hlen:z.cps.toList.length = 94:=by rw [← hz]; decide +kernel
 have h0:0 ≤ c % 94:=Int.emod_nonneg _ (by omega)
 have h1:c % 94 < 94:=Int.emod_lt_of_pos _ (by omega)
 have hlt:(c % 94).toNat < z.cps.toList.length:=by omega
 have e:atI z.cps.toList (c % 94) = some (z.cps.toList[(c % 94).toNat]):=by
  have:=Xy (xs:=z.cps.toList) (j:=(c % 94).toNat) (List.getElem?_eq_getElem hlt)
  rw [Int.toNat_of_nonneg h0] at this
  exact this
 refine ⟨z,_,_,rfl,rfl,?_,e,q _ rfl⟩
 have:z.length = 94:=by rw [← hlen]; simp [Str.length]
 rw [this]; exact sz
inductive spLettersI (vs:List V) (H:Hp) (Q:VK):Prop
 | mk (b:Addr) (_:vs = [.ref b]) (_:BoxAt H b) (_:∀ (l:Addr) (H':Hp),BoxAt H' b→LetAt H' l→Gro [b] H H'→Q (.ref l) H')
def W1:Sp:=fun vs H Q _=>spLettersI vs H Q
abbrev s_l_letters:Stmt:=top 39
theorem Tj:FnScope ["_law_box"] ["_law_box"] (Z5 s_l_letters):=fsc
theorem Z29 (T:Blt mg) (O_l_take:Own P w K mg base 1 "_law_take" ["_law_box", "_law_many"] Vw) (O_l_sign:Own P w K mg base 1 "_law_sign" ["_law_cell"] Z33) (F:Fun K "_law_letters" "_law_letters" s_l_letters f fd) :
  FnOk P w K mg base CX0 2 f fd ["_law_box"] W1:=by
 refine F.ok Tj (fun vs H Q E h=>?_) (fun cdv A outer s H vs Q E hr h=>?_)
 ·obtain ⟨b,rfl,_⟩:=h
  rfl
 obtain ⟨b,rfl,hb,q⟩:=h
 refine ltX ?_
 intro Xz
 refine ⟨_,(Z4 (Zw (Xl rfl (show CScope _ ["_law_box"] (Z5 s_l_letters) _ from ⟨rfl,by decide +kernel,rfl,by decide +kernel,by decide +kernel,by decide +kernel,by decide +kernel⟩) (Yw rfl T.b_range (Z0 Z6 Z3)) (fun _ _ _ _=>Xt) (fun _ _ _ _=>(Zo (O_l_sign.mono (by omega)) hr rfl (Z0 (Zo (O_l_take.mono (by omega)) hr rfl (Z0 (pv 1) (Z0 Z6 Z3))) Z3)))))),?_⟩
 refine ⟨3,rfl,by decide,by decide,?_⟩
 refine Wb (n:=3) (fun i ys H'=>(∃ xs:List Str,ys = xs.map V.str∧xs.length = i∧∀ x ∈ xs,x.length = 1)∧BoxAt H' b∧Gro [b] H H') ⟨⟨[],rfl,rfl,by simp⟩,hb,Gro.refl⟩ (Y7 (by decide)) (fun i ys H' ⟨⟨xs,e1,e2,_⟩,_⟩=>by rw [e1,List.length_map,e2]; exact Nat.le_refl _) ?_ ?_
 ·rintro i ys H1 hi ⟨⟨xs,rfl,e2,e3⟩,hb1,g1⟩
  refine (exA rfl ⟨b,94,rfl,hb1,by decide,by decide,fun r H2 h0 h1 hb2 g2=>?_⟩)
  refine ⟨r,rfl,fun s hs=>⟨⟨xs ++ [s],by simp,by simp [e2],fun x hx=>?_⟩,hb2,g1.trans g2⟩⟩
  rcases List.mem_append.mp hx with z | z
  ·exact e3 x z
  ·rw [List.mem_singleton.mp z]; exact hs
 ·rintro ys H1 ⟨⟨xs,rfl,e2,e3⟩,hb1,g1⟩ l hl
  match xs,e2,e3 with
  | [x,y,z],_,e3 =>
   exact q l _ (hb1.new hl) ⟨x,y,z,Z1,e3 x (by simp),e3 y (by simp),e3 z (by simp)⟩ (g1.trans (Gro.new hl _))
end
section
variable {P:Program} {w:World} {K:PySem.W.Frag} {mg:Str→Option Value} {base:Heap} {f C:Addr} {fd:FuncData}
def Zc2 (C:Addr) (Q:VK) (H:Hp) (m c:Addr) (M:MM):Prop:=∀ H':Hp,MAt C H' m M→Gro [m,c] H H'→Q .non H'
inductive spEnterI (C:Addr) (vs:List V) (H:Hp) (Q:VK):Prop
 | mk (m t:Addr) (M:MM) (q:Chc) (_:vs = [.ref m,.ref t]) (_:MAt C H m M) (_:H t = some (.tup [.int q.1,.int q.2.1,q.2.2.1,q.2.2.2])) (_:Zc2 C Q H m M.s.choices (M.enter q))
def Xr (C:Addr):Sp:=fun vs H Q _=>spEnterI C vs H Q
abbrev s_Machine_enter:Stmt:=X0 (top 35) 4
theorem Wq:FnScope ["self", "state"] ["self", "state"] (Z5 s_Machine_enter):=fsc
theorem Z14 (MT:Txt K mg C) (F:Fun K "enter" "Machine.enter" s_Machine_enter f fd):FnOk P w K mg base CX0 1 f fd ["self", "state"] (Xr C):=by
 refine F.ok Wq (fun vs H Q E h=>?_) (fun cdv A outer s H vs Q E hr h=>?_)
 ·obtain ⟨m,t,M,q,rfl,_⟩:=h
  rfl
 obtain ⟨m,t,M,⟨r,a,g,hd⟩,rfl,hM,ht,q⟩:=h
 refine ltX ?_
 intro Xz
 refine ⟨_,(Z2 (Y3 (pv 0) (Zl Zb (pv 1) Z6 (fun _ _=>rfl)) rfl)
  (Z2 (Y3 (pv 0) (Zl Zb (pv 1) Z6 (fun _ _=>rfl)) rfl)
  (Z2 (Y3 (pv 0) (Zl Zb (pv 1) Z6 (fun _ _=>rfl)) rfl)
  (Z4 (Y3 (pv 0) (Zl Zb (pv 1) Z6 (fun _ _=>rfl)) rfl))))),?_⟩
 refine Z3l ?_
 intro Ez Az1 Az2 Az3
 obtain ⟨⟨dx,h1⟩,_⟩:=id hM
 refine (ixT ht at0 ⟨_,rfl,m,C,dx,_,rfl,h1,MT.cl,MT.a3,Ye _,?_⟩)
 rw [U4]
 have M1:MAt C _ m ⟨{ M.s with row:=r },M.cs⟩:=hM.put (s':={ M.s with row:=r }) h1 rfl
 have g1:Gro [m] H (upd H m (.ins C dx ({ M.s with row:=r }:MS).fs)):=Gro.ins (by simp) h1 _
 have e1:(upd H m (.ins C dx ({ M.s with row:=r }:MS).fs)) m = some (.ins C dx ({ M.s with row:=r }:MS).fs):=Z1
 generalize upd H m (.ins C dx ({ M.s with row:=r }:MS).fs) = H1 at *
 refine (ixT (g1.tups _ _ ht) rfl ⟨_,rfl,m,C,dx,_,rfl,e1,MT.cl,MT.a4,Ye _,?_⟩)
 rw [Z5q]
 have M2:MAt C _ m ⟨{ M.s with row:=r,place:=a },M.cs⟩:=M1.put (s':={ M.s with row:=r,place:=a }) e1 rfl
 have g2:Gro [m] H1 (upd H1 m (.ins C dx ({ M.s with row:=r,place:=a }:MS).fs)):=Gro.ins (by simp) e1 _
 have e2:(upd H1 m (.ins C dx ({ M.s with row:=r,place:=a }:MS).fs)) m = some (.ins C dx ({ M.s with row:=r,place:=a }:MS).fs):=Z1
 generalize upd H1 m (.ins C dx ({ M.s with row:=r,place:=a }:MS).fs) = H2 at *
 have g12:=g1.trans g2
 refine (ixT (g12.tups _ _ ht) rfl ⟨_,rfl,m,C,dx,_,rfl,e2,MT.cl,MT.a5,Ye _,?_⟩)
 rw [Tt]
 have M3:MAt C _ m ⟨{ M.s with row:=r,place:=a,groups:=g },M.cs⟩:=M2.put (s':={ M.s with row:=r,place:=a,groups:=g }) e2 rfl
 have g3:Gro [m] H2 (upd H2 m (.ins C dx ({ M.s with row:=r,place:=a,groups:=g }:MS).fs)):=Gro.ins (by simp) e2 _
 have e3:(upd H2 m (.ins C dx ({ M.s with row:=r,place:=a,groups:=g }:MS).fs)) m = some (.ins C dx ({ M.s with row:=r,place:=a,groups:=g }:MS).fs):=Z1
 generalize upd H2 m (.ins C dx ({ M.s with row:=r,place:=a,groups:=g }:MS).fs) = H3 at *
 have g13:=g12.trans g3
 refine (ixT (g13.tups _ _ ht) rfl ⟨_,rfl,m,C,dx,_,rfl,e3,MT.cl,MT.a6,Ye _,?_⟩)
 rw [Va]
 have M4:MAt C _ m ⟨{ M.s with row:=r,place:=a,groups:=g,held:=hd },M.cs⟩:=M3.put (s':={ M.s with row:=r,place:=a,groups:=g,held:=hd }) e3 rfl
 have g4:Gro [m] H3 (upd H3 m (.ins C dx ({ M.s with row:=r,place:=a,groups:=g,held:=hd }:MS).fs)):=Gro.ins (by simp) e3 _
 exact q _ M4 ((g13.trans g4).mono (by simp))
inductive spBackI (C:Addr) (vs:List V) (H:Hp) (Q:VK):Prop
 | mk (m:Addr) (M:MM) (_:vs = [.ref m]) (_:MAt C H m M) (_:M.cs.length ≤ 1000000) (_:Zc2 C Q H m M.s.choices M.back)
def X1 (C:Addr):Sp:=fun vs H Q _=>spBackI C vs H Q
theorem Jt {α β:Type} {F:α→β→Prop} {xs:List α} {ys:List β} (h:Paired F xs ys) {y:β} (e:ys.getLast? = some y):∃ x,xs[xs.length - 1]? = some x∧F x y:=by
 have hl:=Paired.length h
 have hne:ys ≠ []:=fun z=>by rw [z] at e; simp at e
 have hp:=List.length_pos_iff.mpr hne
 obtain ⟨x,hx⟩:∃ x,xs[xs.length - 1]? = some x:=⟨xs[xs.length - 1]'(by omega),List.getElem?_eq_getElem (by omega)⟩
 obtain ⟨y',hy',q⟩:=Zx h hx
 rw [List.getLast?_eq_getElem?] at e
 rw [hl,e] at hy'
 cases hy'
 exact ⟨x,hx,q⟩
theorem Vc {α β:Type} {F:α→β→Prop} {xs:List α} {ys:List β} (h:Paired F xs ys):Paired F xs.dropLast ys.dropLast:=by
 rw [List.dropLast_eq_take,List.dropLast_eq_take,Paired.length h]
 exact X7 _ h
abbrev s_Machine_go_back:Stmt:=X0 (top 35) 5
theorem W3:FnScope ["self"] ["self"] (Z5 s_Machine_go_back):=fsc
theorem Ub (T:Blt mg) (MT:Txt K mg C) (O_Machine_enter:OwnM P w K mg base 1 C "enter" ["self", "state"] (Xr C)) (F:Fun K "go_back" "Machine.go_back" s_Machine_go_back f fd):FnOk P w K mg base CX0 2 f fd ["self"] (X1 C):=by
 refine F.ok W3 (fun vs H Q E h=>?_) (fun cdv A outer s H vs Q E hr h=>?_)
 ·obtain ⟨m,M,rfl,_⟩:=h
  rfl
 obtain ⟨m,M,rfl,hM,hz,q⟩:=h
 refine ltX ?_
 intro Xz
 refine ⟨_,(Z4 (Y0 (Ze Yc (Zc Zk rfl T.b_len PyProof.Rows.Boot.«len» (Z0 (Zh (pv 0) rfl) Z3)) Z6 (Zn _)) (Z4 (Y3 (pv 0) W7 rfl)) (Z4 (Z9 (Yh (O_Machine_enter.mono (by omega)) MT.cl hr (pv 0) (Z0 (Z70 PySem.F.plainAttrs_list PySem.F.slot_list_pop PySem.F.type_list_pop Z74 (Zh (pv 0) rfl)) Z3)))))),?_⟩
 refine Z6x ?_
 intro Ez Az1 Az2
 have hne:=hM.ne
 obtain ⟨⟨dx,h1⟩,vs,hv,hp⟩:=id hM
 have hl:=Paired.length hp
 refine (exA rfl ⟨m,C,dx,_,_,rfl,h1,MT.cl,MT.a7,Y9 _,M.s.choices,vs,rfl,.inl (SqL.of hv),rfl,exA rfl (Wi (fun z=>?_) (fun z=>?_))⟩)
 ·have h0:M.cs = []:=by
   have:V.int ((vs.length:Nat):Int) = V.int 0:=of_decide_eq_true z
   injection this with this
   exact List.length_eq_zero_iff.mp (by omega)
  refine (exA rfl ⟨m,C,dx,exA rfl ⟨h1,MT.cl,MT.a10,Ye _,?_⟩⟩)
  rw [Z5p]
  have hb:M.back = ⟨{ M.s with ended:=true },M.cs⟩:=by unfold MM.back; rw [h0]; rfl
  refine q _ ?_ (Gro.ins (by simp) h1 _)
  rw [hb]
  exact hM.put (s':={ M.s with ended:=true }) h1 rfl
 ·have h0:M.cs ≠ []:=fun e=>z (by
   rw [e] at hl
   rw [hl]
   exact decide_eq_true rfl)
  obtain ⟨y,hy⟩:∃ y,M.cs.getLast? = some y:=⟨M.cs.getLast h0,List.getLast?_eq_some_getLast h0⟩
  obtain ⟨x,hx,t,rfl,ht⟩:=Jt hp hy
  have hb:M.back = MM.enter ⟨M.s,M.cs.dropLast⟩ y:=by unfold MM.back; rw [hy]
  refine (exA rfl ⟨m,dx,exA rfl ⟨h1,Wa _,exA rfl ⟨m,C,dx,_,_,rfl,h1,MT.cl,MT.a7,Y9 _,.inl ⟨rfl,_,SqL.of hv⟩,M.s.choices,vs,exA rfl ⟨rfl,hv,hx,?_⟩⟩⟩⟩)
  have g1:Gro [M.s.choices] H (upd H M.s.choices (.lst vs.dropLast)):=Gro.set (by simp) hv _
  have M1:MAt C (upd H M.s.choices (.lst vs.dropLast)) m ⟨M.s,M.cs.dropLast⟩:=⟨⟨dx,by rw [Zf hne]; exact h1⟩,vs.dropLast,Z1,Paired.mapP (Vc hp) fun _ _ q=>q.mono g1.tups⟩
  refine ⟨m,t,_,y,rfl,M1,g1.tups _ _ ht,fun H2 M2 g2=>q H2 (by rw [hb]; exact M2) ((g1.mono (by simp)).trans g2)⟩
end
section
variable {P:Program} {w:World} {K:PySem.W.Frag} {mg:Str→Option Value} {base:Heap} {f C:Addr} {fd:FuncData}
inductive spLiesI (vs:List V) (H:Hp) (Q:VK):Prop
 | mk (r:Addr) (rs:List (Str × Str)) (c:Str) (_:vs = [.ref r,.str c]) (_:RunsAt H r rs) (_:Q (.bl (X9 rs c)) H)
def Z35:Sp:=fun vs H Q _=>spLiesI vs H Q
abbrev s_lies_in:Stmt:=top 12
theorem sc_lies_in:FnScope ["runs", "sign", "low", "high"] ["runs", "sign"] (Z5 s_lies_in):=fsc
theorem Z28 (F:Fun K "lies_in" "lies_in" s_lies_in f fd):FnOk P w K mg base CX0 1 f fd ["runs", "sign"] Z35:=by
 refine F.ok sc_lies_in (fun vs H Q E h=>?_) (fun cdv A outer s H vs Q E hr h=>?_)
 ·obtain ⟨r,rs,c,rfl,_⟩:=h
  rfl
 obtain ⟨r,rs,c,rfl,⟨vs,hv,hp,hz⟩,q⟩:=h
 refine ltX ?_
 intro Xz
 refine ⟨_,(Z2 (V3 PassesOwn.never rfl (Z0x (pv 0)) (Za5 rfl (Z0y (pN 2 sc_lies_in.nd) (Z0y (pN 3 sc_lies_in.nd) Z7y))) (Z4 (Y0 (PW.pt (U2 (Ze Ty (pv 2) (pv 1) (Zn _)) (V2 (Ze Ty (pv 1) (pv 3) (Zn _))))) (Z4 (Zw W7)) Zr)))
  (Z4 (Zw W7))),?_⟩
 refine Z9p ?_
 intro Ez Az1 Az2 Az3
 have hl:=Paired.length hp
 refine (exA rfl ⟨r,rfl,⟨vs,SqT.of hv⟩,?_⟩)
 refine Z0c (xs:=vs) (fun i σ H'=>∃ lo hi:Option V,σ = [some (.ref r),some (.str c),lo,hi]∧H' = H∧(rs.take i).any (fun r=>!decide (c.cps.toList < r.1.cps.toList) && !decide (r.2.cps.toList < c.cps.toList)) = false) ⟨none,none,rfl,rfl,rfl⟩ (fun i σ H' _ ⟨_,_,_,e,_⟩=>by rw [e]; exact SqT.of hv) ?_ ?_
 ·rintro i x σ H1 hx ⟨lo,hi,rfl,rfl,hno⟩
  obtain ⟨p,hpi,_,_,a,rfl,ha⟩:=Zx hp hx
  refine ⟨a,_,rfl,SqT.of ha,rfl,_,_,rfl,_,_,rfl,rfl,?_⟩
  have yes:(!decide (c.cps.toList < p.1.cps.toList) && !decide (p.2.cps.toList < c.cps.toList)) = true→X9 rs c = true:=fun h=>by
   unfold X9
   rw [List.any_eq_true]
   exact ⟨p,List.mem_of_getElem? hpi,h⟩
  have no:(!decide (c.cps.toList < p.1.cps.toList) && !decide (p.2.cps.toList < c.cps.toList)) = false→(rs.take (i + 1)).any (fun r=>!decide (c.cps.toList < r.1.cps.toList) && !decide (r.2.cps.toList < c.cps.toList)) = false:=fun h=>by
   rw [Yb hpi,List.any_append,hno]
   simpa using h
  refine (exA rfl (exA rfl (exB rfl rfl (exA rfl (Wi (fun z1=>?_) (fun z1=>?_))))))
  ·refine (exA rfl (exA rfl (exB rfl rfl (exA rfl (Wi (fun z2=>?_) (fun z2=>?_))))))
   ·rw [yes (by rw [z1,z2]; rfl)] at q
    exact q
   ·exact ⟨_,_,rfl,rfl,no (by rw [z1,Bool.eq_false_iff.mpr z2]; rfl)⟩
  ·exact Z76 ⟨_,_,rfl,rfl,no (by rw [Bool.eq_false_iff.mpr z1]; rfl)⟩
 ·rintro σ H1 ⟨lo,hi,rfl,rfl,hno⟩
  rw [hl,List.take_length] at hno
  rw [show X9 rs c = false from hno] at q
  exact q
inductive spTakesI (vs:List V) (H:Hp) (Q:VK):Prop
 | mk (a:Addr) (h:Hd) (t:Str) (i:Int) (_:vs = [.ref a,.str t,.int i]) (_:PatAt H 1 (.ref a) (.node h [])) (_:h.one = true) (_:0 ≤ i) (_:t.length ≤ 1000) (_:Q (.bl (Zv h t i)) H)
def Jm:Sp:=fun vs H Q _=>spTakesI vs H Q
abbrev s_takes_sign:Stmt:=top 11
theorem sc_takes_sign:FnScope ["row", "text", "at", "kind"] ["row", "text", "at"] (Z5 s_takes_sign):=fsc
theorem Uy (T:Blt mg) (O_lies_in:Own P w K mg base 1 "lies_in" ["runs", "sign"] Z35) (F:Fun K "takes_sign" "takes_sign" s_takes_sign f fd):FnOk P w K mg base CX0 2 f fd ["row", "text", "at"] Jm:=by
 refine F.ok sc_takes_sign (fun vs H Q E h=>?_) (fun cdv A outer s H vs Q E hr h=>?_)
 ·obtain ⟨a,h,t,i,rfl,_⟩:=h
  rfl
 obtain ⟨a,h,t,i,rfl,hp,h1,h0,ht,q⟩:=h
 refine ltX ?_
 intro Xz
 refine ⟨_,(Z2 (Y0 (Ze Z89 (pv 2) (Zc Y1 rfl T.b_len PyProof.Rows.Boot.«len» (Z0 (pv 1) Z3)) (Zn _)) (Z4 (Zw W7)) Zr)
  (Z2 (pS 3 sc_takes_sign.nd (Zl Zb (pv 0) Z6 (fun _ _=>rfl)))
  (Z2 (Y0 (Ze Yc (pv 3) Zj (Zn _)) (Z4 (Zw (X5 Yc (Zl Zb (pv 0) Z6 (fun _ _=>rfl)) (Zl Z1c (pv 1) (pv 2) (fun _ _=>rfl)) (Zn _)))) Zr)
  (Z2 (Y0 (Ze Yc (pv 3) Zj (Zn _)) (Z4 (Zw W7)) Zr)
  (Z4 (Zw (X5 Yc (Zo (O_lies_in.mono (by omega)) hr rfl (Z0 (Zl Zb (pv 0) Z6 (fun _ _=>rfl)) (Z0 (Zl Z1c (pv 1) (pv 2) (fun _ _=>rfl)) Z3))) (X5 Yc (pv 3) Zj (Zn _)) (Zn _)))))))),?_⟩
 refine Z9q ?_
 intro Ez Az1 Az2 Az3 Az4 Az5 Az6 Az7
 obtain ⟨a',kv,e,lay,hk⟩:=hp
 cases e
 cases hk
 obtain ⟨r0,ea⟩:=lay.head
 unfold Zv at q
 refine (exA rfl (exA rfl ⟨t,rfl,Yy ht,exB rfl rfl (exA rfl (Wi (fun z=>?_) (fun z=>?_)))⟩))
 ·have:¬ i < t.length:=by
   have:=of_decide_eq_true z
   omega
  rw [if_neg this] at q
  exact q
 have hlt:i < t.length:=by
  have:¬ ((t.length:Nat):Int) ≤ i:=fun e=>z (decide_eq_true e)
  omega
 rw [if_pos hlt] at q
 have hc:=Z7f h0 hlt
 refine (ixT ea at0 (?_))
 cases h with
 | sign x =>
  refine (exA rfl ⟨rfl,exA rfl (Zq (show isw "sign" "sign" = true by decide +kernel) ?_)⟩)
  exact (ixT lay.2.2 rfl ⟨_,rfl,_,rfl,t,i,_,rfl,rfl,Yy ht,hc,rfl,q⟩)
 | any =>
  refine (exA rfl ⟨rfl,exA rfl (Zd (show ¬ isw "any" "sign" = true by decide +kernel) ?_)⟩)
  exact (exA rfl ⟨rfl,exA rfl (Zq (show isw "any" "any" = true by decide +kernel) q)⟩)
 | inn rs =>
  obtain ⟨_,r,e,hr'⟩:=lay
  refine (exA rfl ⟨rfl,exA rfl (Zd (show ¬ isw "in" "sign" = true by decide +kernel) ?_)⟩)
  refine (exA rfl ⟨rfl,exA rfl (Zd (show ¬ isw "in" "any" = true by decide +kernel) ?_)⟩)
  refine (ixT e rfl ⟨_,rfl,_,rfl,t,i,_,rfl,rfl,Yy ht,hc,r,rs,_,rfl,hr',_,rfl,rfl,rfl,?_⟩)
  have e2:decide (V.str (Hd.inn rs).word = V.str "in") = true:=by show decide (V.str "in" = V.str "in") = true; decide +kernel
  rw [e2]
  have q':Q (.bl (X9 rs (chr t i.toNat))) H:=q
  show Q (.bl (decide (V.bl (X9 rs (chr t i.toNat)) = V.bl true))) H
  cases hb:X9 rs (chr t i.toNat) <;> rw [hb] at q' <;> exact q'
 | out rs =>
  obtain ⟨_,r,e,hr'⟩:=lay
  refine (exA rfl ⟨rfl,exA rfl (Zd (show ¬ isw "out" "sign" = true by decide +kernel) ?_)⟩)
  refine (exA rfl ⟨rfl,exA rfl (Zd (show ¬ isw "out" "any" = true by decide +kernel) ?_)⟩)
  refine (ixT e rfl ⟨_,rfl,_,rfl,t,i,_,rfl,rfl,Yy ht,hc,r,rs,_,rfl,hr',_,rfl,rfl,rfl,?_⟩)
  have e2:decide (V.str (Hd.out rs).word = V.str "in") = false:=by show decide (V.str "out" = V.str "in") = false; decide +kernel
  rw [e2]
  have q':Q (.bl (!X9 rs (chr t i.toNat))) H:=q
  show Q (.bl (decide (V.bl (X9 rs (chr t i.toNat)) = V.bl false))) H
  cases hb:X9 rs (chr t i.toNat) <;> rw [hb] at q' <;> exact q'
 | _=>exact absurd h1 (by simp [Hd.one])
end
def MM.doSign (h:Hd) (M:MM):MM:=if Zv h M.s.text M.s.place = true then ⟨{ M.s with place:=M.s.place + 1 },M.cs⟩ else M.back
def MM.doBegin (M:MM):MM:=if M.s.place = 0 then M else M.back
def MM.doEnd (M:MM):MM:=if M.s.place = M.s.text.length then M else M.back
def MM.doFound (M:MM):MM:=⟨{ M.s with found:=true },M.cs⟩
section
variable {P:Program} {w:World} {K:PySem.W.Frag} {mg:Str→Option Value} {base:Heap} {f C:Addr} {fd:FuncData}
inductive spRowI (C:Addr) (pre:MM→Prop) (row:Hp→Addr→Prop) (go:MM→MM) (vs:List V) (H:Hp) (Q:VK):Prop
 | mk (m a:Addr) (M:MM) (_:vs = [.ref m,.ref a]) (_:MAt C H m M) (_:M.cs.length ≤ 1000000) (_:pre M) (_:row H a) (_:Zc2 C Q H m M.s.choices (go M))
def Jn (C:Addr) (pre:MM→Prop) (row:Hp→Addr→Prop) (go:MM→MM):Sp:=fun vs H Q _=>spRowI C pre row go vs H Q
abbrev Z97:MM→Prop:=fun M=>0 ≤ M.s.place∧M.s.text.length ≤ 1000
def Zbg (h:Hd):Hp→Addr→Prop:=fun H a=>PatAt H 1 (.ref a) (.node h [])
abbrev s_do_sign:Stmt:=top 15
theorem Z1x:FnScope ["machine", "row"] ["machine", "row"] (Z5 s_do_sign):=fsc
theorem Z2b {h:Hd} (h1:h.one = true) (MT:Txt K mg C) (O_takes_sign:Own P w K mg base 2 "takes_sign" ["row", "text", "at"] Jm) (O_Machine_go_back:OwnM P w K mg base 2 C "go_back" ["self"] (X1 C)) (F:Fun K "do_sign" "do_sign" s_do_sign f fd) :
  FnOk P w K mg base CX0 3 f fd ["machine", "row"] (Jn C Z97 (Zbg h) (MM.doSign h)):=by
 refine F.ok Z1x (fun vs H Q E h=>?_) (fun cdv A outer s H vs Q E hr h=>?_)
 ·obtain ⟨m,a,M,rfl,_⟩:=h
  rfl
 obtain ⟨m,a,M,rfl,hM,hz,⟨p0,p1⟩,hrow,q⟩:=h
 refine ltX ?_
 intro Xz
 refine ⟨_,(Z4 (Y0 (Yt (Zo (O_takes_sign.mono (by omega)) hr rfl (Z0 (pv 1) (Z0 (Zh (pv 0) rfl) (Z0 (Zh (pv 0) rfl) Z3))))) (Z4 (V4 (pv 0) Z6 Z4m)) (Z4 (Z9 (Y2 (O_Machine_go_back.mono (by omega)) MT.cl hr (pv 0)))))),?_⟩
 refine Z6x ?_
 intro Ez Az1 Az2
 obtain ⟨⟨dx,e1⟩,_⟩:=id hM
 refine (exA rfl (exA rfl ⟨m,C,dx,_,_,rfl,e1,MT.cl,MT.a2,T4 _,exA rfl ⟨m,C,dx,_,_,rfl,e1,MT.cl,MT.a4,Xc _,a,_,M.s.text,M.s.place,rfl,hrow,h1,p0,p1,exA rfl (?_)⟩⟩))
 unfold MM.doSign at q
 refine Wi (fun z=>?_) (fun z=>?_)
 ·rw [if_pos z] at q
  refine (exA rfl ⟨m,C,dx,_,_,rfl,e1,MT.cl,MT.a4,Xc _,exB rfl rfl ⟨dx,_,e1,Ye _,?_⟩⟩)
  rw [Z5q]
  exact q _ (hM.put (s':={ M.s with place:=M.s.place + 1 }) e1 rfl) (Gro.ins (by simp) e1 _)
 ·rw [if_neg z] at q
  exact (exA rfl ⟨m,dx,exA rfl ⟨e1,Y8 _,m,M,rfl,hM,hz,q⟩⟩)
abbrev s_do_begin:Stmt:=top 16
theorem Jp:FnScope ["machine", "row"] ["machine", "row"] (Z5 s_do_begin):=fsc
theorem Jy (MT:Txt K mg C) (O_Machine_go_back:OwnM P w K mg base 2 C "go_back" ["self"] (X1 C)) (F:Fun K "do_begin" "do_begin" s_do_begin f fd):FnOk P w K mg base CX0 3 f fd ["machine", "row"] (Jn C Z97 (Zbg .beg) MM.doBegin):=by
 refine F.ok Jp (fun vs H Q E h=>?_) (fun cdv A outer s H vs Q E hr h=>?_)
 ·obtain ⟨m,a,M,rfl,_⟩:=h
  rfl
 obtain ⟨m,a,M,rfl,hM,hz,_,_,q⟩:=h
 refine ltX ?_
 intro Xz
 refine ⟨_,(Z4 (Y0 (Ze Z27 (Zh (pv 0) rfl) Z6 (Zn _)) (Z4 (Z9 (Y2 (O_Machine_go_back.mono (by omega)) MT.cl hr (pv 0)))) Zr)),?_⟩
 refine Tp ?_
 intro Ez Az1
 obtain ⟨⟨dx,e1⟩,_⟩:=id hM
 unfold MM.doBegin at q
 refine (exA rfl ⟨m,C,dx,_,_,rfl,e1,MT.cl,MT.a4,Xc _,rfl,exA rfl (Wi (fun z=>?_) (fun z=>?_))⟩)
 ·have:¬ M.s.place = 0:=fun e=>by rw [e] at z; exact absurd z (by decide)
  rw [if_neg this] at q
  exact (exA rfl ⟨m,dx,exA rfl ⟨e1,Y8 _,m,M,rfl,hM,hz,q⟩⟩)
 ·have:M.s.place = 0:=by
   have:(!decide (V.int M.s.place = V.int 0)) = false:=Bool.eq_false_iff.mpr z
   simpa using this
  rw [if_pos this] at q
  exact q H hM Gro.refl
abbrev s_do_end:Stmt:=top 17
theorem Z3c:FnScope ["machine", "row"] ["machine", "row"] (Z5 s_do_end):=fsc
theorem Z45 (T:Blt mg) (MT:Txt K mg C) (O_Machine_go_back:OwnM P w K mg base 2 C "go_back" ["self"] (X1 C)) (F:Fun K "do_end" "do_end" s_do_end f fd):FnOk P w K mg base CX0 3 f fd ["machine", "row"] (Jn C Z97 (Zbg .fin) MM.doEnd):=by
 refine F.ok Z3c (fun vs H Q E h=>?_) (fun cdv A outer s H vs Q E hr h=>?_)
 ·obtain ⟨m,a,M,rfl,_⟩:=h
  rfl
 obtain ⟨m,a,M,rfl,hM,hz,⟨p0,p1⟩,_,q⟩:=h
 refine ltX ?_
 intro Xz
 refine ⟨_,(Z4 (Y0 (Ze Z27 (Zh (pv 0) rfl) (Zc Y1 rfl T.b_len PyProof.Rows.Boot.«len» (Z0 (Zh (pv 0) rfl) Z3)) (Zn _)) (Z4 (Z9 (Y2 (O_Machine_go_back.mono (by omega)) MT.cl hr (pv 0)))) Zr)),?_⟩
 refine Tp ?_
 intro Ez Az1
 obtain ⟨⟨dx,e1⟩,_⟩:=id hM
 unfold MM.doEnd at q
 refine (exA rfl ⟨m,C,dx,_,_,rfl,e1,MT.cl,MT.a4,Xc _,exA rfl ⟨m,C,dx,_,_,rfl,e1,MT.cl,MT.a2,T4 _,M.s.text,rfl,Yy p1,rfl,exA rfl (Wi (fun z=>?_) (fun z=>?_))⟩⟩)
 ·have:¬ M.s.place = M.s.text.length:=fun e=>by rw [e] at z; simp at z
  rw [if_neg this] at q
  exact (exA rfl ⟨m,dx,exA rfl ⟨e1,Y8 _,m,M,rfl,hM,hz,q⟩⟩)
 ·have:M.s.place = M.s.text.length:=by
   have:(!decide (V.int M.s.place = V.int ((M.s.text.length:Nat):Int))) = false:=Bool.eq_false_iff.mpr z
   simpa using this
  rw [if_pos this] at q
  exact q H hM Gro.refl
def Zcm:Hp→Addr→Prop:=fun H a=>H a = some (.tup [.str "found"])
abbrev s_do_found:Stmt:=top 33
theorem Jo:FnScope ["machine", "row"] ["machine", "row"] (Z5 s_do_found):=fsc
theorem Jw (MT:Txt K mg C) (F:Fun K "do_found" "do_found" s_do_found f fd):FnOk P w K mg base CX0 1 f fd ["machine", "row"] (Jn C (fun _=>True) Zcm MM.doFound):=by
 refine F.ok Jo (fun vs H Q E h=>?_) (fun cdv A outer s H vs Q E hr h=>?_)
 ·obtain ⟨m,a,M,rfl,_⟩:=h
  rfl
 obtain ⟨m,a,M,rfl,hM,hz,_,_,q⟩:=h
 refine ltX ?_
 intro Xz
 refine ⟨_,(Z4 (Y3 (pv 0) W7 rfl)),?_⟩
 obtain ⟨⟨dx,e1⟩,_⟩:=id hM
 refine (exA rfl ⟨m,C,dx,exA rfl ⟨e1,MT.cl,MT.a9,Ye _,?_⟩⟩)
 rw [Z0z]
 exact q _ (hM.put (s':={ M.s with found:=true }) e1 rfl) (Gro.ins (by simp) e1 _)
abbrev s_Machine_moves:Stmt:=X0 (top 35) 2
structure Tells (P:Program) (w:World) (K:PySem.W.Frag) (mg:Str→Option Value) (base:Heap) (k:Nat) (ds:List (Key × V)) (wd:Str) (sp:Sp):Prop where
 ex:∃ f fd ps,Z2v ds (Sum.inr wd) = some (.ref f)∧FnOk P w K mg base CX0 k f fd ps sp∧PySem.W.keepIn K (.ref f) = true∧Binds K fd ps []
def MM.next (M:MM):MM:=⟨{ M.s with row:=M.s.row + 1,made:=M.s.made + 1 },M.cs⟩
inductive spMoveI (P:Program) (w:World) (K:PySem.W.Frag) (mg:Str→Option Value) (base:Heap) (k:Nat) (ds:List (Key × V)) (C:Addr) (vs:List V) (H:Hp) (Q:VK):Prop
 | mk (m ra a:Addr) (ys:List V) (wd:Str) (r:List V) (M:MM) (sp:Sp) (_:vs = [.ref m]) (_:MAt C H m M) (_:M.s.rows = .ref ra) (_:H ra = some (.tup ys)) (_:atI ys M.s.row = some (.ref a)) (_:H a = some (.tup (.str wd :: r))) (_:Tells P w K mg base k ds wd sp) (_:∀ H1:Hp,MAt C H1 m M.next→Gro [m] H H1→sp [.ref m,.ref a] H1 (fun _ H2=>Q .non H2) E0)
def Te (P:Program) (w:World) (K:PySem.W.Frag) (mg:Str→Option Value) (base:Heap) (k:Nat) (ds:List (Key × V)) (C:Addr):Sp:=fun vs H Q _=>spMoveI P w K mg base k ds C vs H Q
abbrev s_Machine_move:Stmt:=X0 (top 35) 3
theorem sc_Machine_move:FnScope ["self", "row"] ["self"] (Z5 s_Machine_move):=fsc
theorem Z8g {k:Nat} {dn:Addr} {ds:List (Key × V)} (MT:Txt K mg C) (c_DOINGS:mg "DOINGS" = some (.ref dn)) (hDN:DcK K w dn ds) (F:Fun K "move" "Machine.move" s_Machine_move f fd):FnOk P w K mg base CX0 (k + 1) f fd ["self"] (Te P w K mg base k ds C):=by
 refine F.ok sc_Machine_move (fun vs H Q E h=>?_) (fun cdv A outer s H vs Q E hr h=>?_)
 ·obtain ⟨m,ra,a,ys,wd,r,M,sp,rfl,_⟩:=h
  rfl
 obtain ⟨m,ra,a,ys,wd,r,M,sp,rfl,hM,hrows,hra,hat,ha,⟨g,gd,ps,hv,G,kp,hb⟩,q⟩:=h
 refine ltX ?_
 intro Xz
 refine ⟨_,(Z2 (pS 1 sc_Machine_move.nd (Zl Zb (Zh (pv 0) rfl) (Zh (pv 0) rfl) (fun _ _=>rfl)))
  (Z2 (V4 (pv 0) Z6 Z4m)
  (Z2 (V4 (pv 0) Z6 Z4m)
  (Z4 (Z9 (Za8 hr (Js (Wh (v:=.ref _) rfl c_DOINGS rfl) (Zl Zb (pv 1) Z6 (fun _ _=>rfl)) (fun _ _=>rfl)) (Z0 (pv 0) (Z0 (pv 1) Z3)))))))),?_⟩
 refine Z3l ?_
 intro Ez Az1 Az2 Az3
 obtain ⟨⟨dx,e1⟩,_⟩:=id hM
 have hrr:M.s.fs.lookup ("rows":Str) = some (.ref ra):=by rw [Z8w,hrows]
 refine ⟨_,rfl,m,C,dx,_,_,rfl,e1,MT.cl,MT.a1,hrr,_,rfl,m,C,dx,_,_,rfl,e1,MT.cl,MT.a3,Z1i _,ra,ys,_,_,rfl,rfl,SqT.of hra,hat,?_⟩
 refine (exA rfl ⟨m,C,dx,_,_,rfl,e1,MT.cl,MT.a3,Z1i _,exB rfl rfl ⟨dx,_,e1,Ye _,?_⟩⟩)
 rw [U4]
 have M1:=hM.put (s':={ M.s with row:=M.s.row + 1 }) e1 rfl
 have g1:Gro [m] H (upd H m (.ins C dx ({ M.s with row:=M.s.row + 1 }:MS).fs)):=Gro.ins (by simp) e1 _
 have e2:(upd H m (.ins C dx ({ M.s with row:=M.s.row + 1 }:MS).fs)) m = some (.ins C dx ({ M.s with row:=M.s.row + 1 }:MS).fs):=Z1
 generalize upd H m (.ins C dx ({ M.s with row:=M.s.row + 1 }:MS).fs) = H1 at *
 refine (exA rfl ⟨m,C,dx,_,_,rfl,e2,MT.cl,MT.a8,Z0b _,exB rfl rfl ⟨dx,_,e2,Ye _,?_⟩⟩)
 rw [Z7z]
 have M2:MAt C _ m M.next:=M1.put (s':={ M.s with row:=M.s.row + 1,made:=M.s.made + 1 }) e2 rfl
 have g2:Gro [m] H1 (upd H1 m (.ins C dx ({ M.s with row:=M.s.row + 1,made:=M.s.made + 1 }:MS).fs)):=Gro.ins (by simp) e2 _
 have q2:=q _ M2 (g1.trans g2)
 refine (ixT (g2.tups _ _ (g1.tups _ _ ha)) at0 ⟨dn,ds,Sum.inr wd,_,rfl,hDN,rfl,hv,g,gd,ps,sp,rfl,G,kp,hb,?_⟩)
 exact (exA rfl (exA rfl q2))
end
def MM.fresh (M:MM):MM:=if M.s.found = true then MM.back ⟨{ M.s with found:=false },M.cs⟩ else M
section
variable {P:Program} {w:World} {K:PySem.W.Frag} {mg:Str→Option Value} {base:Heap} {f C:Addr} {fd:FuncData}
structure Runs (P:Program) (w:World) (K:PySem.W.Frag) (mg:Str→Option Value) (base:Heap) (kk:Nat) (ds:List (Key × V)) (C m:Addr) (M:MM) (H:Hp) (most:Int) (Q:VK) (J:Nat→MM→Hp→Prop):Prop where
 start:∀ H',MAt C H' m M.fresh→Gro [m,M.s.choices] H H'→J 0 M.fresh H'
 at_:∀ k M' H',J k M' H'→MAt C H' m M'∧M'.s.made = M.s.made + k∧M'.s.found = false∧(k:Int) ≤ most
 none_:∀ k M' H',J k M' H'→M'.s.ended = true→∀ t,H' t = none→Q (.ref t) (upd H' t (.tup [.str "none"]))
 over:∀ k M' H',J k M' H'→M'.s.ended = false→(k:Int) = most→∀ t,H' t = none→Q (.ref t) (upd H' t (.tup [.str "over"]))
 turn:∀ k M' H',J k M' H'→M'.s.ended = false→(k:Int) < most→∀ Q':VK,(∀ (v:V) (H2:Hp) (M2:MM),MAt C H2 m M2→((M2.s.found = true∧∀ t,H2 t = none→Q (.ref t) (upd H2 t (.tup [.str "way",.int M2.s.place,M2.s.groups]))) ∨ (M2.s.found = false∧J (k + 1) M2 H2))→Q' v H2)→Te P w K mg base kk ds C [.ref m] H' Q' E0
inductive spWayI (P:Program) (w:World) (K:PySem.W.Frag) (mg:Str→Option Value) (base:Heap) (kk:Nat) (ds:List (Key × V)) (C:Addr) (vs:List V) (H:Hp) (Q:VK):Prop
 | mk (m:Addr) (most:Int) (M:MM) (J:Nat→MM→Hp→Prop) (_:vs = [.ref m,.int most]) (_:MAt C H m M) (_:1 ≤ most) (_:M.cs.length ≤ 1000000) (_:Runs P w K mg base kk ds C m M H most Q J)
def Z9g (P:Program) (w:World) (K:PySem.W.Frag) (mg:Str→Option Value) (base:Heap) (kk:Nat) (ds:List (Key × V)) (C:Addr):Sp:=fun vs H Q _=>spWayI P w K mg base kk ds C vs H Q
def Zcy (m:Addr) (most:Int) (M:MM) (J:Nat→MM→Hp→Prop):TS:=fun D σ H1=>σ = [some (.ref m),some (.int most),none]∧J 0 M.fresh H1
abbrev s_Machine_way:Stmt:=X0 (top 35) 1
theorem sc_Machine_way:FnScope ["self", "most", "last"] ["self", "most"] (Z5 s_Machine_way):=fsc
theorem Zae {kk:Nat} {ds:List (Key × V)} (MT:Txt K mg C) (O_Machine_move:OwnM P w K mg base (kk + 1) C "move" ["self"] (Te P w K mg base kk ds C)) (O_Machine_go_back:OwnM P w K mg base 2 C "go_back" ["self"] (X1 C)) (F:Fun K "way" "Machine.way" s_Machine_way f fd) :
  FnOk P w K mg base CX0 (kk + 3) f fd ["self", "most"] (Z9g P w K mg base kk ds C):=by
 refine F.ok sc_Machine_way (fun vs H Q E h=>?_) (fun cdv A outer s H vs Q E hr h=>?_)
 ·obtain ⟨m,most,M,J,rfl,_⟩:=h
  rfl
 obtain ⟨m,most,M,J,rfl,hM,h1,hz,R⟩:=h
 refine ltX ?_
 intro Xz
 refine ⟨_,(Z2 (Y0 (Yt (Zh (pv 0) rfl)) (Z2 (Y3 (pv 0) W7 rfl)
  (Z4 (Z9 (Y2 (O_Machine_go_back.mono (by omega)) MT.cl hr (pv 0))))) Zr)
  (Ux (fun D σ H1=>Zcy m most M J D σ H1∧D.rt = Q) (Z2 (pS 2 sc_Machine_way.nd (Yi Xh (Zh (pv 0) rfl) (pv 1)))
  (Z2 (Z0w PassesOwn.never (PW.pt (U2 (Z3n (Yt (Zh (pv 0) rfl))) (V2 (Ze Zaa (Zh (pv 0) rfl) (pv 2) (Zn _))))) (Z2 (Z9 (Y2 (O_Machine_move.mono (by omega)) MT.cl hr (pv 0)))
  (Z4 (Y0 (Yt (Zh (pv 0) rfl)) (Z4 (Zw (Zm (Z0 Zj (Z0 (Zh (pv 0) rfl) (Z0 (Zh (pv 0) rfl) Z3)))))) Zr))))
  (Z4 (Zw (W6 (Yt (Zh (pv 0) rfl)) (Zm (Z0 Zj Z3)) (Zm (Z0 Zj Z3))))))) (fun D1 σ1 H1 hcut=>?cut1))),?_⟩
 case cut1 =>
  refine Z9w ?_
  intro Ez Az1 Az2 Az3 Az4 Az5
  obtain ⟨⟨rfl,hJ⟩,hD⟩:=hcut
  obtain ⟨M0,hm0,_,_⟩:=R.at_ _ _ _ hJ
  obtain ⟨⟨dx,e1⟩,_⟩:=id M0
  refine (exA rfl ⟨m,C,dx,_,_,rfl,e1,MT.cl,MT.a8,Z0b _,exA rfl (exB rfl rfl (?_))⟩)
  have hlast:M.fresh.s.made = M.s.made:=by rw [hm0]; simp
  refine ⟨fun n σ H'=>∃ (k:Nat) (M':MM),(n:Int) = most - k∧σ = [some (.ref m),some (.int most),some (.int (M.fresh.s.made + most))]∧J k M' H',⟨most.toNat,0,_,by omega,rfl,hJ⟩,?_⟩
  rintro n σ H2 ⟨k,M',hn,rfl,hJ2⟩
  obtain ⟨M2,hm2,hf2,hk2⟩:=R.at_ _ _ _ hJ2
  obtain ⟨⟨dx2,e2⟩,_⟩:=id M2
  have rest:(M'.s.ended = false→¬ (k:Int) < most)→(Zc3 (tIf (tB (Zc7 K (Jk 0) "ended")) (Zb2 (Z1u (tC (.str "none")) Z5d)) (Zb2 (Z1u (tC (.str "over")) Z5d)))) D1 [some (.ref m),some (.int most),some (.int (M.fresh.s.made + most))] H2:=by
   intro hk
   refine (exA rfl ⟨m,C,dx2,_,_,rfl,e2,MT.cl,MT.a10,Z1k _,exA rfl (Wi (fun z=>?_) (fun z=>?_))⟩)
   ·refine ⟨sz,fun t ht=>?_⟩
    rw [hD]
    exact R.none_ _ _ _ hJ2 z t ht
   ·refine ⟨sz,fun t ht=>?_⟩
    rw [hD]
    have z':M'.s.ended = false:=Bool.eq_false_iff.mpr z
    exact R.over _ _ _ hJ2 z' (by have:=hk z'; omega) t ht
  refine (exA rfl ⟨m,C,dx2,_,_,rfl,e2,MT.cl,MT.a10,Z1k _,exA rfl (?_)⟩)
  cases he:M'.s.ended with
  | true=>exact Z76 (Z76 (rest (fun z=>absurd (he.symm.trans z) (by decide))))
  | false =>
   refine Z99 ?_
   refine (exA rfl ⟨m,C,dx2,_,_,rfl,e2,MT.cl,MT.a8,Z0b _,exA rfl (exB rfl rfl (exA rfl (?_)))⟩)
   by_cases hlt:(k:Int) < most
   ·have hd:decide (M'.s.made < M.fresh.s.made + most) = true:=decide_eq_true (by omega)
    rw [hd]
    refine Z99 ⟨fun σ' H'=>∃ M3,σ' = [some (.ref m),some (.int most),some (.int (M.fresh.s.made + most))]∧J (k + 1) M3 H',fun σ' H' ⟨M3,e3,j3⟩=>⟨n - 1,by omega,k + 1,M3,by omega,e3,j3⟩,?_⟩
    refine (exA rfl ⟨m,dx2,exA rfl ⟨e2,Z8l _,?_⟩⟩)
    unfold Z5d
    refine R.turn _ _ _ hJ2 he hlt _ fun v H3 M3 hM3 h3=>?_
    obtain ⟨⟨dx3,e3⟩,_⟩:=id hM3
    refine (exA rfl ⟨m,C,dx3,_,_,rfl,e3,MT.cl,MT.a9,Z1j _,exA rfl (?_)⟩)
    rcases h3 with ⟨hf,hq⟩ | ⟨hf,hj⟩
    ·rw [hf]
     refine Z99 (exA rfl ⟨m,C,dx3,_,_,rfl,e3,MT.cl,MT.a4,Xc _,exA rfl ⟨m,C,dx3,_,_,rfl,e3,MT.cl,MT.a5,Yr _,sz,fun t ht=>?_⟩⟩)
     show D1.rt _ _
     rw [hD]
     exact hq t ht
    ·rw [hf]
     exact Z76 ⟨M3,rfl,hj⟩
   ·have hd:decide (M'.s.made < M.fresh.s.made + most) = false:=decide_eq_false (by omega)
    rw [hd]
    exact Z76 (rest (fun _=>hlt))
 refine Z9k ?_
 intro Ez Az1 Az2 Az3
 obtain ⟨⟨dx,e1⟩,_⟩:=id hM
 have fr:∀ H',MAt C H' m M.fresh→Gro [m,M.s.choices] H H'→J 0 M.fresh H':=R.start
 unfold MM.fresh at fr
 refine (exA rfl ⟨m,C,dx,_,_,rfl,e1,MT.cl,MT.a9,Z1j _,exA rfl (Wi (fun z=>?_) (fun z=>?_))⟩)
 ·rw [if_pos z] at fr
  refine (exA rfl ⟨m,C,dx,exA rfl ⟨e1,MT.cl,MT.a9,Ye _,?_⟩⟩)
  rw [Z0z]
  have M1:=hM.put (s':={ M.s with found:=false }) e1 rfl
  have g1:Gro [m] H (upd H m (.ins C dx ({ M.s with found:=false }:MS).fs)):=Gro.ins (by simp) e1 _
  refine (exA rfl ⟨m,dx,exA rfl ⟨Z1,Y8 _,m,_,rfl,M1,hz,fun H2 M2 g2=>⟨⟨rfl,?_⟩,rfl⟩⟩⟩)
  have:=fr H2 M2 ((g1.mono (by simp)).trans g2)
  unfold MM.fresh
  rw [if_pos z]
  exact this
 ·rw [if_neg z] at fr
  refine ⟨⟨rfl,?_⟩,rfl⟩
  unfold MM.fresh
  rw [if_neg z]
  exact fr H hM Gro.refl
end
def Rw.close:Rw→Option Int
 | .tup [.str x,.int k]=>if x = "close" then some k else none
 | _=>none
def Yj (rs:List Rw):List Int:=rs.filterMap Rw.close
def Z50 (rs:List Rw):Int:=if Yj rs = [] then 0 else mxL (Yj rs)
def Rw.tame:Rw→Prop
 | .pat _=>True
 | .tup xs=>∃ (x:Str) (r:List V),xs = .str x :: r∧(x = "close"→∃ k,r = [.int k])
theorem Z3u (h:Hd):decide (V.str h.word = V.str "close") = false:=by
 rw [h.word_wd]
 cases h.wd <;> decide +kernel
def ms0 (ra:Addr) (t:Str) (i:Int) (g:V) (c:Addr):MM:=⟨{ rows:=.ref ra,text:=t,row:=0,place:=i,groups:=g,held:=.non,choices:=c,made:=0,found:=false,ended:=false },[]⟩
section
variable {P:Program} {w:World} {K:PySem.W.Frag} {mg:Str→Option Value} {base:Heap} {f C:Addr} {fd:FuncData}
inductive spInitI (C:Addr) (vs:List V) (H:Hp) (Q:VK):Prop
 | mk (m dx ra:Addr) (t:Str) (i:Int) (ys:List V) (rs:List Rw) (_:vs = [.ref m,.ref ra,.str t,.int i]) (_:H m = some (.ins C dx [])) (_:H ra = some (.tup ys)) (_:Paired (RowAt H) ys rs) (_:ys.length ≤ 1000000) (_:(∀ r ∈ rs,r.tame)) (_:0 ≤ Z50 rs) (_:Z50 rs ≤ 1000) (_:∀ (c g:Addr) (H':Hp),H c = none→MAt C H' m (ms0 ra t i (.ref g) c)→H' g = some (.tup (List.replicate (Z50 rs).toNat .non))→Gro [m] H H'→Q .non H')
def Z0m (C:Addr):Sp:=fun vs H Q _=>spInitI C vs H Q
theorem Z24 {H:Hp} {v:V} {r:Rw} (h:RowAt H v r) (ht:r.tame):∃ (a:Addr) (x:Str) (xs:List V),v = .ref a∧H a = some (.tup (.str x :: xs))∧((decide (V.str x = V.str "close") = false∧r.close = none) ∨ (decide (V.str x = V.str "close") = true∧∃ k,xs = [.int k]∧r.close = some k)):=by
 cases r with
 | pat hd =>
  obtain ⟨a,kv,rfl,l,_⟩:=h
  obtain ⟨xs,e⟩:=l.head
  exact ⟨a,_,xs,rfl,e,.inl ⟨Z3u hd,rfl⟩⟩
 | tup ys =>
  obtain ⟨a,rfl,e⟩:=h
  obtain ⟨x,xs,rfl,hc⟩:=ht
  refine ⟨a,x,xs,rfl,e,?_⟩
  by_cases hx:x = "close"
  ·obtain ⟨k,rfl⟩:=hc hx
   exact .inr ⟨decide_eq_true (by rw [hx]),k,rfl,by show (if x = "close" then some k else none) = some k; rw [if_pos hx]⟩
  ·refine .inl ⟨decide_eq_false (fun z=>hx (by injection z)),?_⟩
   unfold Rw.close
   split
   ·rename_i heq
    injection heq with heq
    injection heq with h1 h2
    injection h1 with h1
    subst h1
    rw [if_neg hx]
   ·rfl
theorem Gro.obj {H:Hp} {m C dx:Addr} {fs fs':List (Str × V)} (h:H m = some (.ins C dx fs)):Gro [m] H (upd H m (.ins C dx fs')):=Gro.ins (by simp) h _
abbrev s_Machine___init__:Stmt:=X0 (top 35) 0
theorem Xs:FnScope ["self", "rows", "text", "at"] ["self", "rows", "text", "at"] (Z5 s_Machine___init__):=fsc
theorem Z8h (T:Blt mg) (MT:Txt K mg C) (F:Fun K "__init__" "Machine.__init__" s_Machine___init__ f fd):FnOk P w K mg base CX0 1 f fd ["self", "rows", "text", "at"] (Z0m C):=by
 refine F.ok Xs (fun vs H Q E h=>?_) (fun cdv A outer s H vs Q E hr h=>?_)
 ·obtain ⟨m,dx,ra,t,i,ys,rs,rfl,_⟩:=h
  rfl
 obtain ⟨m,dx,ra,t,i,ys,rs,rfl,h0,hra,hp,hz,htm,hc0,hc1,q⟩:=h
 refine ltX ?_
 intro Xz
 refine ⟨_,(Z2 (Y3 (pv 0) (pv 1) rfl)
  (Z2 (Y3 (pv 0) (pv 2) rfl)
  (Z2 (Y3 (pv 0) Z6 rfl)
  (Z2 (Y3 (pv 0) (pv 3) rfl)
  (Z2 (Y3 (pv 0) (Yi Z88 (Zm (Z0 Z11 Z3)) (Z83 rfl rfl T.b_max (Z0 (Xl rfl (show CScope _ ["self", "rows", "text", "at"] (Z5 s_Machine___init__) _ from ⟨rfl,by decide +kernel,rfl,by decide +kernel,by decide +kernel,by decide +kernel,by decide +kernel⟩) (Z0x (pv 1)) (fun _ _ _ _=>(Uw (Ze Yc (Zl (r:=Z3k K) Zb (pv 0) Z6 (fun _ _=>rfl)) Zj (Zn _)))) (fun _ _ _ _=>(Zl (r:=Z3k K) Zb (pv 0) Z6 (fun _ _=>rfl)))) Z3) (Z7x Z6 Za4))) rfl)
  (Z2 (Y3 (pv 0) Z11 rfl)
  (Z2 (Y3 (pv 0) (U5 Z3) rfl)
  (Z2 (Y3 (pv 0) Z6 rfl)
  (Z2 (Y3 (pv 0) W7 rfl)
  (Z4 (Y3 (pv 0) W7 rfl))))))))))),?_⟩
 refine Z9x ?_
 intro Ez Az1 Az2 Az3 Az4 Az5 Az6 Az7 Az8 Az9
 have hl:=Paired.length hp
 refine (exA rfl (exA rfl ⟨m,C,dx,exA rfl ⟨h0,MT.cl,MT.a1,by simp,?_⟩⟩))
 have g1:Gro [m] H (upd H m (.ins C dx (Yg "rows" (.ref ra) []))):=Gro.obj h0
 have e1:(upd H m (.ins C dx (Yg "rows" (.ref ra) []))) m = some (.ins C dx [("rows",.ref ra)]):=Z1
 generalize upd H m (.ins C dx (Yg "rows" (.ref ra) [])) = H1 at *
 refine (exA rfl (exA rfl ⟨m,C,dx,exA rfl ⟨e1,MT.cl,MT.a2,by simp,?_⟩⟩))
 have g2:Gro [m] H1 (upd H1 m (.ins C dx (Yg "text" (.str t) [("rows",.ref ra)]))):=Gro.obj e1
 have e2:(upd H1 m (.ins C dx (Yg "text" (.str t) [("rows",.ref ra)]))) m = some (.ins C dx [("rows",.ref ra),("text",.str t)]):=by rw [Z1,Z8 (by decide +kernel),W5]
 generalize upd H1 m (.ins C dx (Yg "text" (.str t) [("rows",.ref ra)])) = H2 at *
 refine (exA rfl ⟨m,C,dx,exA rfl ⟨e2,MT.cl,MT.a3,by simp,?_⟩⟩)
 have g3:Gro [m] H2 (upd H2 m (.ins C dx (Yg "row" (.int 0) [("rows",.ref ra),("text",.str t)]))):=Gro.obj e2
 have e3:(upd H2 m (.ins C dx (Yg "row" (.int 0) [("rows",.ref ra),("text",.str t)]))) m = some (.ins C dx [("rows",.ref ra),("text",.str t),("row",.int 0)]):=by rw [Z1,Z8 (by decide +kernel),Z8 (by decide +kernel),W5]
 generalize upd H2 m (.ins C dx (Yg "row" (.int 0) [("rows",.ref ra),("text",.str t)])) = H3 at *
 refine (exA rfl (exA rfl ⟨m,C,dx,exA rfl ⟨e3,MT.cl,MT.a4,by simp,?_⟩⟩))
 have g4:Gro [m] H3 (upd H3 m (.ins C dx (Yg "at" (.int i) [("rows",.ref ra),("text",.str t),("row",.int 0)]))):=Gro.obj e3
 have e4:(upd H3 m (.ins C dx (Yg "at" (.int i) [("rows",.ref ra),("text",.str t),("row",.int 0)]))) m = some (.ins C dx [("rows",.ref ra),("text",.str t),("row",.int 0),("at",.int i)]):=by rw [Z1,Z8 (by decide +kernel),Z8 (by decide +kernel),Z8 (by decide +kernel),W5]
 generalize upd H3 m (.ins C dx (Yg "at" (.int i) [("rows",.ref ra),("text",.str t),("row",.int 0)])) = H4 at *
 have g14:=((g1.trans g2).trans g3).trans g4
 refine ⟨sz,fun t1 ht1=>?_⟩
 have g5:Gro [m] H4 (upd H4 t1 (.tup [.non])):=Gro.new ht1 _
 have f5:(upd H4 t1 (.tup [.non])) t1 = some (.tup [.non]):=Z1
 have e5:(upd H4 t1 (.tup [.non])) m = some (.ins C dx [("rows",.ref ra),("text",.str t),("row",.int 0),("at",.int i)]):=by rw [Zf (Z7 e4 ht1)]; exact e4
 generalize upd H4 t1 (.tup [.non]) = H5 at *
 have g15:=g14.trans g5
 have hra5:=g15.tups _ _ hra
 have hp5:=Zp g15.tups hp
 refine (exA rfl ⟨ra,rfl,⟨ys,SqT.of hra5⟩,?_⟩)
 refine Z1b (n:=ys.length) (fun j zs H'=>H' = H5∧zs = (Yj (rs.take j)).map V.int∧zs.length ≤ j) ⟨rfl,rfl,Nat.le_refl _⟩ (big hz) (fun j zs H' ⟨_,_,h⟩=>h) (fun j zs H' hj ⟨e,_⟩=>by rw [e]; exact ⟨ys,ys[j],SqT.of hra5,by simp [hj]⟩) (fun zs H' ⟨e,_⟩=>by rw [e]; exact ⟨ys,SqT.of hra5,Nat.le_refl _⟩) ?_ ?_
 ·rintro j zs H' x H'' hj ⟨rfl,rfl,hzl⟩ ⟨rfl,hx⟩
  have hx':=hx ys (SqT.of hra5)
  obtain ⟨r,hri,hr'⟩:=Zx hp5 hx'
  obtain ⟨a,wd,xs,rfl,ha,hcl⟩:=Z24 hr' (htm r (List.mem_of_getElem? hri))
  have snoc:Yj (rs.take (j + 1)) = Yj (rs.take j) ++ r.close.toList:=by
   unfold Yj
   rw [Yb hri,List.filterMap_append]
   congr 1
  refine (ixT ha at0 ⟨rfl,_,rfl,?_⟩)
  rcases hcl with ⟨h1,h2⟩ | ⟨h1,k,rfl,h2⟩
  ·rw [h1,if_neg (by decide)]
   refine ⟨rfl,?_,by omega⟩
   rw [snoc,h2]
   simp
  ·rw [h1,if_pos rfl]
   refine (ixT ha rfl ⟨rfl,?_,by simp at hzl ⊢; omega⟩)
   rw [snoc,h2]
   simp
 ·rintro zs H' ⟨rfl,rfl,_⟩ l6 hl6
  rw [hl,List.take_length]
  have g6:Gro [m] H' (upd H' l6 (.lst ((Yj rs).map V.int))):=Gro.new hl6 _
  refine ⟨l6,Yj rs,.int 0,rfl,rfl,SqL.of Z1,?_⟩
  have ev:(if Yj rs = [] then V.int 0 else V.int (mxL (Yj rs))) = V.int (Z50 rs):=by unfold Z50; split <;> rfl
  rw [ev]
  have f6:=g6.tups _ _ f5
  have e6:(upd H' l6 (.lst ((Yj rs).map V.int))) m = some (.ins C dx [("rows",.ref ra),("text",.str t),("row",.int 0),("at",.int i)]):=by rw [Zf (Z7 e5 hl6)]; exact e5
  generalize upd H' l6 (.lst ((Yj rs).map V.int)) = H6 at *
  have g16:=g15.trans g6
  have fin:∀ (g:Addr) (H7:Hp),H7 g = some (.tup (List.replicate (Z50 rs).toNat .non))→H7 m = some (.ins C dx [("rows",.ref ra),("text",.str t),("row",.int 0),("at",.int i)])→Gro [m] H H7 →
    (Jk 0) [some (.ref m),some (.ref ra),some (.str t),some (.int i)] H7 (fun x H2=>∃ a C dx fs,x = .ref a∧H2 a = some (.ins C dx fs)∧Cls K C∧NoAttr K C "groups"∧fs.length < 1000 ∧
     (Za (Z96 K (Jk 0) (tC .non) "held") (Za (Z96 K (Jk 0) (Zc5 Z5d) "choices") (Za (Z96 K (Jk 0) (tC (.int 0)) "made") (Za (Z96 K (Jk 0) (tC (.bl false)) "found") (Z96 K (Jk 0) (tC (.bl false)) "ended"))))) { nx:=fun _ H'=>Q .non H',rt:=Q } [some (.ref m),some (.ref ra),some (.str t),some (.int i)] (upd H2 a (.ins C dx (Yg "groups" (.ref g) fs)))):=by
   intro g H7 hg e7 g17
   refine (exA rfl ⟨m,C,dx,exA rfl ⟨e7,MT.cl,MT.a5,by simp,?_⟩⟩)
   have g8:Gro [m] H7 (upd H7 m (.ins C dx (Yg "groups" (.ref g) [("rows",.ref ra),("text",.str t),("row",.int 0),("at",.int i)]))):=Gro.obj e7
   have e8:(upd H7 m (.ins C dx (Yg "groups" (.ref g) [("rows",.ref ra),("text",.str t),("row",.int 0),("at",.int i)]))) m = some (.ins C dx [("rows",.ref ra),("text",.str t),("row",.int 0),("at",.int i),("groups",.ref g)]):=by
    rw [Z1,Z8 (by decide +kernel),Z8 (by decide +kernel),Z8 (by decide +kernel),Z8 (by decide +kernel),W5]
   generalize upd H7 m (.ins C dx (Yg "groups" (.ref g) [("rows",.ref ra),("text",.str t),("row",.int 0),("at",.int i)])) = H8 at *
   refine (exA rfl ⟨m,C,dx,exA rfl ⟨e8,MT.cl,MT.a6,by simp,?_⟩⟩)
   have g9:Gro [m] H8 (upd H8 m (.ins C dx (Yg "held" .non [("rows",.ref ra),("text",.str t),("row",.int 0),("at",.int i),("groups",.ref g)]))):=Gro.obj e8
   have e9:(upd H8 m (.ins C dx (Yg "held" .non [("rows",.ref ra),("text",.str t),("row",.int 0),("at",.int i),("groups",.ref g)]))) m = some (.ins C dx [("rows",.ref ra),("text",.str t),("row",.int 0),("at",.int i),("groups",.ref g),("held",.non)]):=by
    rw [Z1,Z8 (by decide +kernel),Z8 (by decide +kernel),Z8 (by decide +kernel),Z8 (by decide +kernel),Z8 (by decide +kernel),W5]
   generalize upd H8 m (.ins C dx (Yg "held" .non [("rows",.ref ra),("text",.str t),("row",.int 0),("at",.int i),("groups",.ref g)])) = H9 at *
   refine ⟨sz,fun c hc=>?_⟩
   have gA:Gro [m] H9 (upd H9 c (.lst [])):=Gro.new hc _
   have fA:(upd H9 c (.lst [])) c = some (.lst []):=Z1
   have mc:m ≠ c:=Z7 e9 hc
   have eA:(upd H9 c (.lst [])) m = some (.ins C dx [("rows",.ref ra),("text",.str t),("row",.int 0),("at",.int i),("groups",.ref g),("held",.non)]):=by rw [Zf mc]; exact e9
   generalize upd H9 c (.lst []) = HA at *
   refine (exA rfl ⟨m,C,dx,exA rfl ⟨eA,MT.cl,MT.a7,by simp,?_⟩⟩)
   have gB:Gro [m] HA (upd HA m (.ins C dx (Yg "choices" (.ref c) [("rows",.ref ra),("text",.str t),("row",.int 0),("at",.int i),("groups",.ref g),("held",.non)]))):=Gro.obj eA
   have eB:(upd HA m (.ins C dx (Yg "choices" (.ref c) [("rows",.ref ra),("text",.str t),("row",.int 0),("at",.int i),("groups",.ref g),("held",.non)]))) m = some (.ins C dx [("rows",.ref ra),("text",.str t),("row",.int 0),("at",.int i),("groups",.ref g),("held",.non),("choices",.ref c)]):=by
    rw [Z1,Z8 (by decide +kernel),Z8 (by decide +kernel),Z8 (by decide +kernel),Z8 (by decide +kernel),Z8 (by decide +kernel),Z8 (by decide +kernel),W5]
   generalize upd HA m (.ins C dx (Yg "choices" (.ref c) [("rows",.ref ra),("text",.str t),("row",.int 0),("at",.int i),("groups",.ref g),("held",.non)])) = HB at *
   refine (exA rfl ⟨m,C,dx,exA rfl ⟨eB,MT.cl,MT.a8,by simp,?_⟩⟩)
   have gC:Gro [m] HB (upd HB m (.ins C dx (Yg "made" (.int 0) [("rows",.ref ra),("text",.str t),("row",.int 0),("at",.int i),("groups",.ref g),("held",.non),("choices",.ref c)]))):=Gro.obj eB
   have eC:(upd HB m (.ins C dx (Yg "made" (.int 0) [("rows",.ref ra),("text",.str t),("row",.int 0),("at",.int i),("groups",.ref g),("held",.non),("choices",.ref c)]))) m = some (.ins C dx [("rows",.ref ra),("text",.str t),("row",.int 0),("at",.int i),("groups",.ref g),("held",.non),("choices",.ref c),("made",.int 0)]):=by
    rw [Z1,Z8 (by decide +kernel),Z8 (by decide +kernel),Z8 (by decide +kernel),Z8 (by decide +kernel),Z8 (by decide +kernel),Z8 (by decide +kernel),Z8 (by decide +kernel),W5]
   generalize upd HB m (.ins C dx (Yg "made" (.int 0) [("rows",.ref ra),("text",.str t),("row",.int 0),("at",.int i),("groups",.ref g),("held",.non),("choices",.ref c)])) = HC at *
   refine (exA rfl ⟨m,C,dx,exA rfl ⟨eC,MT.cl,MT.a9,by simp,?_⟩⟩)
   have gD:Gro [m] HC (upd HC m (.ins C dx (Yg "found" (.bl false) [("rows",.ref ra),("text",.str t),("row",.int 0),("at",.int i),("groups",.ref g),("held",.non),("choices",.ref c),("made",.int 0)]))):=Gro.obj eC
   have eD:(upd HC m (.ins C dx (Yg "found" (.bl false) [("rows",.ref ra),("text",.str t),("row",.int 0),("at",.int i),("groups",.ref g),("held",.non),("choices",.ref c),("made",.int 0)]))) m = some (.ins C dx [("rows",.ref ra),("text",.str t),("row",.int 0),("at",.int i),("groups",.ref g),("held",.non),("choices",.ref c),("made",.int 0),("found",.bl false)]):=by
    rw [Z1,Z8 (by decide +kernel),Z8 (by decide +kernel),Z8 (by decide +kernel),Z8 (by decide +kernel),Z8 (by decide +kernel),Z8 (by decide +kernel),Z8 (by decide +kernel),Z8 (by decide +kernel),W5]
   generalize upd HC m (.ins C dx (Yg "found" (.bl false) [("rows",.ref ra),("text",.str t),("row",.int 0),("at",.int i),("groups",.ref g),("held",.non),("choices",.ref c),("made",.int 0)])) = HD at *
   refine (exA rfl ⟨m,C,dx,exA rfl ⟨eD,MT.cl,MT.a10,by simp,?_⟩⟩)
   have gE:Gro [m] HD (upd HD m (.ins C dx (Yg "ended" (.bl false) [("rows",.ref ra),("text",.str t),("row",.int 0),("at",.int i),("groups",.ref g),("held",.non),("choices",.ref c),("made",.int 0),("found",.bl false)]))):=Gro.obj eD
   have eE:(upd HD m (.ins C dx (Yg "ended" (.bl false) [("rows",.ref ra),("text",.str t),("row",.int 0),("at",.int i),("groups",.ref g),("held",.non),("choices",.ref c),("made",.int 0),("found",.bl false)]))) m = some (.ins C dx (ms0 ra t i (.ref g) c).s.fs):=by
    rw [Z1,Z8 (by decide +kernel),Z8 (by decide +kernel),Z8 (by decide +kernel),Z8 (by decide +kernel),Z8 (by decide +kernel),Z8 (by decide +kernel),Z8 (by decide +kernel),Z8 (by decide +kernel),Z8 (by decide +kernel),W5]
    rfl
   have gAE:=((gB.trans gC).trans gD).trans gE
   have fE:=gAE.keep c _ fA (by simpa using Ne.symm mc)
   have gg:=(((g17.trans g8).trans g9).trans gA).trans gAE
   have hnc:H c = none:=by
    cases hh:H c with
    | none=>rfl
    | some o =>
     exfalso
     have:=((g17.trans g8).trans g9).keep c o hh (by simpa using Ne.symm mc)
     rw [hc] at this
     cases this
   exact q c g _ hnc ⟨⟨dx,eE⟩,[],fE,.nil⟩ (gAE.tups _ _ (gA.tups _ _ (g9.tups _ _ (g8.tups _ _ hg)))) gg
  refine ⟨t1,Z50 rs,[.non],rfl,rfl,f6,hc0,by simp; omega,hc1,fun hk1=>?_,fun _ _ p hp'=>?_,by simp⟩
  ·exact fin t1 H6 (by rw [f6,hk1]; rfl) e6 g16
  ·refine fin p _ ?_ (by rw [Zf (Z7 e6 hp')]; exact e6) (g16.tup hp')
   rw [Z1]
   congr 2
   induction (Z50 rs).toNat with
   | zero=>rfl
   | succ n ih=>rw [List.replicate_succ,List.flatten_cons,ih]; rfl
end
inductive Ez where
 | pat (h:Hd) | try_ (z:Int) | go (z:Int) | found
def Ez.rw:Ez→Rw
 | .pat h=>.pat h | .try_ z=>.tup [.str "try",.int z] | .go z=>.tup [.str "go",.int z] | .found=>.tup [.str "found"]
def MM.push (z:Int) (M:MM):MM:=⟨M.s,M.cs ++ [(z,M.s.place,M.s.groups,M.s.held)]⟩
def MM.goTo (z:Int) (M:MM):MM:=⟨{ M.s with row:=z },M.cs⟩
def Zd2:Hd→MM→MM
 | .beg=>MM.doBegin
 | .fin=>MM.doEnd
 | h=>MM.doSign h
def Ez.act:Ez→MM→MM
 | .pat h=>Zd2 h
 | .try_ z=>MM.push z
 | .go z=>MM.goTo z
 | .found=>MM.doFound
theorem Vd {α β:Type} {F:α→β→Prop}:∀ {xs:List α} {ys:List β} {i:Nat} {y:β},Paired F xs ys→ys[i]? = some y→∃ x,xs[i]? = some x∧F x y
 | _,_,_,_,.nil,h=>by simp at h
 | _,_,0,_,.cons r _,h=>by
  simp only [List.getElem?_cons_zero,Option.some.injEq] at h
  subst h
  exact (exA rfl r)
 | _,_,i + 1,_,.cons _ t,h=>by
  rw [List.getElem?_cons_succ] at h
  obtain ⟨x,e,q⟩:=Vd t h
  exact ⟨x,by rw [List.getElem?_cons_succ]; exact e,q⟩
section
variable {P:Program} {w:World} {K:PySem.W.Frag} {mg:Str→Option Value} {base:Heap} {f C:Addr} {fd:FuncData}
abbrev Zcb (e:Ez):Hp→Addr→Prop:=fun H a=>RowAt H (.ref a) e.rw
abbrev s_do_try:Stmt:=top 19
theorem Z3b:FnScope ["machine", "row"] ["machine", "row"] (Z5 s_do_try):=fsc
theorem Z44 {z:Int} (MT:Txt K mg C) (F:Fun K "do_try" "do_try" s_do_try f fd):FnOk P w K mg base CX0 1 f fd ["machine", "row"] (Jn C Z97 (Zcb (.try_ z)) (MM.push z)):=by
 refine F.ok Z3b (fun vs H Q E h=>?_) (fun cdv A outer s H vs Q E hr h=>?_)
 ·obtain ⟨m,a,M,rfl,_⟩:=h
  rfl
 obtain ⟨m,a,M,rfl,hM,hz,_,⟨a',e,ha⟩,q⟩:=h
 cases e
 refine ltX ?_
 intro Xz
 refine ⟨_,(Z4 (Z9 (X6 PySem.F.plainAttrs_list PySem.F.slot_list_append PySem.F.type_list_append Zu (Zh (pv 0) rfl) (Z0 (Zm (Z0 (Zl Zb (pv 1) Z6 (fun _ _=>rfl)) (Z0 (Zh (pv 0) rfl) (Z0 (Zh (pv 0) rfl) (Z0 (Zh (pv 0) rfl) Z3))))) Z3)))),?_⟩
 have hne:=hM.ne
 obtain ⟨⟨dx,e1⟩,vs,hv,hp⟩:=id hM
 have hl:=Paired.length hp
 refine (exA rfl ⟨m,C,dx,_,_,rfl,e1,MT.cl,MT.a7,Y9 _,.inl ⟨rfl,_,SqL.of hv⟩,ixT ha rfl ⟨_,rfl,m,C,dx,_,_,rfl,e1,MT.cl,MT.a4,Xc _,_,rfl,m,C,dx,_,_,rfl,e1,MT.cl,MT.a5,Yr _,_,rfl,m,C,dx,_,_,rfl,e1,MT.cl,MT.a6,Xw _,sz,fun t ht=>?_⟩⟩)
 refine ⟨M.s.choices,vs,exA rfl ⟨rfl,Yz hv ht,big (by omega),?_⟩⟩
 have g1:Gro [M.s.choices] H _:=Xe (zs:=vs ++ [V.ref t]) (o:=.tup [.int z,.int M.s.place,M.s.groups,M.s.held]) hv ht
 refine q _ ⟨⟨dx,?_⟩,vs ++ [.ref t],Z1,?_⟩ (g1.mono (by simp))
 ·rw [Zf hne,Zf (Z7 e1 ht)]
  exact e1
 ·exact (Paired.mapP hp fun _ _ q=>q.mono g1.tups).snoc ⟨t,rfl,Xd hv ht⟩
abbrev s_do_go:Stmt:=top 20
theorem Z5f:FnScope ["machine", "row"] ["machine", "row"] (Z5 s_do_go):=fsc
theorem Z5y {z:Int} (MT:Txt K mg C) (F:Fun K "do_go" "do_go" s_do_go f fd):FnOk P w K mg base CX0 1 f fd ["machine", "row"] (Jn C Z97 (Zcb (.go z)) (MM.goTo z)):=by
 refine F.ok Z5f (fun vs H Q E h=>?_) (fun cdv A outer s H vs Q E hr h=>?_)
 ·obtain ⟨m,a,M,rfl,_⟩:=h
  rfl
 obtain ⟨m,a,M,rfl,hM,hz,_,⟨a',e,ha⟩,q⟩:=h
 cases e
 refine ltX ?_
 intro Xz
 refine ⟨_,(Z4 (Y3 (pv 0) (Zl Zb (pv 1) Z6 (fun _ _=>rfl)) rfl)),?_⟩
 obtain ⟨⟨dx,e1⟩,_⟩:=id hM
 refine (ixT ha rfl ⟨_,rfl,m,C,dx,_,rfl,e1,MT.cl,MT.a3,Ye _,?_⟩)
 rw [U4]
 exact q _ (hM.put (s':={ M.s with row:=z }) e1 rfl) (Gro.ins (by simp) e1 _)
def stp (es:List Ez) (M:MM):MM:=(es.getD M.s.row.toNat .found).act M.next
def its (es:List Ez):Nat→MM→MM
 | 0,M=>M
 | k + 1,M=>stp es (its es k M)
theorem Z3j {H:Hp} {v:V} {r:Rw} (h:RowAt H v r):∃ a,v = .ref a:=by
 cases r with
 | pat hd=>obtain ⟨a,kv,e,_⟩:=h; exact ⟨a,e⟩
 | tup xs=>obtain ⟨a,e,_⟩:=h; exact ⟨a,e⟩
end
section
variable {K:PySem.W.Frag} {mg:Str→Option Value} {h:Heap}
def MDef (K:PySem.W.Frag) (C:Addr) (m qual:Str) (st:Stmt) (ps:List Str):Prop:=∃ f fd,Fun K m qual st f fd∧Meth K C m f∧Binds K fd ps []
theorem mdef_mk {C f:Addr} {m qual:Str} {st:Stmt} {ps:List Str} {oc:Value} {od an:Option Addr} {osl:Array (Option Value)} {kV doc pm cdv ct:Value} (a:PySem.W.findIn K (.ref C) m = some (some (.ref f))) (i:PySem.W.isFn K (.ref f) = true)
  (l:K.lookup f = some ⟨oc,od,.func (PySem.W.fnOf m qual (Ys st) (Yk st) (Z5 st) .none kV doc pm an cdv ct),osl⟩) (c:PySem.W.codeIn K cdv qual = true) (k:PySem.W.keepIn K (.ref f) = true)
  (hb:∀ (kV doc pm:Value) (an:Option Addr) (cdv ct:Value) (us:List Value),us.length = ps.length→bindArgs (PySem.W.fnOf m qual (Ys st) (Yk st) (Z5 st) .none kV doc pm an cdv ct) ⟨us,[]⟩ = pure (ps.zip us)):MDef K C m qual st ps :=
 ⟨f,_,Vj (st:=st) l c k,⟨a,i,k⟩,(Vj (st:=st) l c k).binds hb⟩
theorem txt_mk {C:Addr} (pg:PySem.W.plainGet K C Str.empty = true) (hd:PySem.W.hasDictIn K C = true) (po:PySem.W.plainOver K C = true) (sa:PySem.W.findIn K (.ref C) "__setattr__" = some (some (.builtin "object.__setattr__")))
  (a1:PySem.W.findIn K (.ref C) "rows" = some none) (a2:PySem.W.findIn K (.ref C) "text" = some none) (a3:PySem.W.findIn K (.ref C) "row" = some none) (a4:PySem.W.findIn K (.ref C) "at" = some none) (a5:PySem.W.findIn K (.ref C) "groups" = some none) (a6:PySem.W.findIn K (.ref C) "held" = some none)
  (a7:PySem.W.findIn K (.ref C) "choices" = some none) (a8:PySem.W.findIn K (.ref C) "made" = some none) (a9:PySem.W.findIn K (.ref C) "found" = some none) (a10:PySem.W.findIn K (.ref C) "ended" = some none):Txt K mg C:=⟨⟨pg,hd,po,sa⟩,a1,a2,a3,a4,a5,a6,a7,a8,a9,a10⟩
structure MachDefs (K:PySem.W.Frag) (mg:Str→Option Value) (C:Addr):Prop where
 mg_:mg "Machine" = some (.ref C)
 tx:Txt K mg C
 mks:PySem.W.makesIn K C = true
 kc:PySem.W.keepIn K (.ref C) = true
 init:MDef K C "__init__" "Machine.__init__" s_Machine___init__ ["self", "rows", "text", "at"]
 way:MDef K C "way" "Machine.way" s_Machine_way ["self", "most"]
 moves:MDef K C "moves" "Machine.moves" s_Machine_moves ["self"]
 move:MDef K C "move" "Machine.move" s_Machine_move ["self"]
 enter:MDef K C "enter" "Machine.enter" s_Machine_enter ["self", "state"]
 go_back:MDef K C "go_back" "Machine.go_back" s_Machine_go_back ["self"]
def Dn (K:PySem.W.Frag) (ds:List (Key × V)) (wd x:Str) (st:Stmt) (ps:List Str):Prop:=∃ f fd,Z2v ds (Sum.inr wd) = some (.ref f)∧Fun K x x st f fd∧Binds K fd ps []
theorem dn_mk {ds:List (Key × V)} {wd x:Str} {st:Stmt} {ps:List Str} {f:Addr} {oc:Value} {od an:Option Addr} {osl:Array (Option Value)} {kV doc pm cdv ct:Value} (v:Z2v ds (Sum.inr wd) = some (.ref f))
  (l:K.lookup f = some ⟨oc,od,.func (PySem.W.fnOf x x (Ys st) (Yk st) (Z5 st) .none kV doc pm an cdv ct),osl⟩) (c:PySem.W.codeIn K cdv x = true) (k:PySem.W.keepIn K (.ref f) = true)
  (hb:∀ (kV doc pm:Value) (an:Option Addr) (cdv ct:Value) (us:List Value),us.length = ps.length→bindArgs (PySem.W.fnOf x x (Ys st) (Yk st) (Z5 st) .none kV doc pm an cdv ct) ⟨us,[]⟩ = pure (ps.zip us)):Dn K ds wd x st ps :=
 ⟨f,_,v,Vj (st:=st) l c k,(Vj (st:=st) l c k).binds hb⟩
theorem Dn.tells {P:Program} {w:World} {base:Heap} {k:Nat} {ds:List (Key × V)} {wd x:Str} {st:Stmt} {ps:List Str} {sp:Sp} (D:Dn K ds wd x st ps) (h:∀ f fd,Fun K x x st f fd→FnOk P w K mg base CX0 k f fd ps sp):Tells P w K mg base k ds wd sp:=by
 obtain ⟨f,fd,v,F,b⟩:=D
 exact ⟨f,fd,ps,v,h f fd F,F.kp,b⟩
theorem dent_ref {w:World} {h:Int} {x:Str} {t:Tok} {a:Addr} (e:h = PyData.keyHash w.params x):Zb0 w ⟨h,.str x t,.ref a⟩ (.inr x,.ref a):=⟨Vh x t,e,rfl⟩
end
section
variable {P:Program} {w:World} {K:PySem.W.Frag} {mg:Str→Option Value} {base:Heap} {C:Addr}
theorem MDef.own {m qual:Str} {st:Stmt} {ps:List Str} {k:Nat} {sp:Sp} (D:MDef K C m qual st ps) (h:∀ f fd,Fun K m qual st f fd→FnOk P w K mg base CX0 k f fd ps sp):OwnM P w K mg base k C m ps sp:=by
 obtain ⟨f,fd,F,M,b⟩:=D
 exact ⟨f,fd,h f fd F,M,b⟩
theorem Z5t (T:Blt mg) (MD:MachDefs K mg C):OwnC P w K mg base 1 C "Machine" ["self", "rows", "text", "at"] (Z0m C):=by
 obtain ⟨f,fd,F,M,b⟩:=MD.init
 exact ⟨f,fd,Z8h T MD.tx F,⟨MD.mks,M.at_,M.fn,MD.kc⟩,MD.mg_,b⟩
end
section
variable {P:Program} {w:World} {K:PySem.W.Frag} {mg:Str→Option Value} {base:Heap} {f C:Addr} {fd:FuncData}
inductive spHoldMI (C:Addr) (vs:List V) (H:Hp) (Q:VK):Prop
 | mk (m:Addr) (k:Int) (M:MM) (_:vs = [.ref m,.int k]) (_:MAt C H m M) (_:∀ (H':Hp) (p:Addr),MAt C H' m ⟨{ M.s with held:=.ref p },M.cs⟩→H' p = some (.tup [.int k,.int M.s.place,M.s.held])→Gro [m] H H'→Q .non H')
def Wv (C:Addr):Sp:=fun vs H Q _=>spHoldMI C vs H Q
inductive spLetMI (C:Addr) (vs:List V) (H:Hp) (Q:VK):Prop
 | mk (m p:Addr) (M:MM) (a b v:V) (_:vs = [.ref m]) (_:MAt C H m M) (_:M.s.held = .ref p) (_:H p = some (.tup [a,b,v])) (_:∀ H':Hp,MAt C H' m ⟨{ M.s with held:=v },M.cs⟩→Gro [m] H H'→Q (.ref p) H')
def Wu (C:Addr):Sp:=fun vs H Q _=>spLetMI C vs H Q
inductive spDropMI (C:Addr) (vs:List V) (H:Hp) (Q:VK):Prop
 | mk (m:Addr) (k:Nat) (M:MM) (_:vs = [.ref m,.int k]) (_:MAt C H m M) (_:M.cs.length ≤ 1000000) (_:∀ H':Hp,MAt C H' m ⟨M.s,M.cs.take k⟩→Gro [M.s.choices] H H'→Q .non H')
def Ww (C:Addr):Sp:=fun vs H Q _=>spDropMI C vs H Q
inductive spEntMI (C:Addr) (vs:List V) (H:Hp) (Q:VK):Prop
 | mk (m g:Addr) (k:Int) (M:MM) (es:List V) (e:V) (_:vs = [.ref m,.int k]) (_:MAt C H m M) (_:M.s.groups = .ref g) (_:H g = some (.tup es)) (_:k ≤ es.length) (_:es.length ≤ 1000) (_:atI es (k - 1) = some e) (_:Q e H)
def Z0n (C:Addr):Sp:=fun vs H Q _=>spEntMI C vs H Q
inductive spWithI (vs:List V) (H:Hp) (Q:VK):Prop
 | mk (g:Addr) (k:Int) (x y:V) (es:List V) (_:vs = [.ref g,.int k,x,y]) (_:H g = some (.tup es)) (_:1 ≤ k) (_:k ≤ es.length) (_:es.length ≤ 900) (_:∀ (r p:Addr) (H':Hp),H' p = some (.tup [x,y])→H' r = some (.tup (es.take (k - 1).toNat ++ [.ref p] ++ es.drop k.toNat))→Gro [] H H'→Q (.ref r) H')
def Z32:Sp:=fun vs H Q _=>spWithI vs H Q
abbrev s_Machine_hold:Stmt:=X0 (top 35) 7
theorem Wz:FnScope ["self", "number"] ["self", "number"] (Z5 s_Machine_hold):=fsc
theorem Z8i (MT:Txt K mg C) (F:Fun K "hold" "Machine.hold" s_Machine_hold f fd):FnOk P w K mg base CX0 1 f fd ["self", "number"] (Wv C):=by
 refine F.ok Wz (fun vs H Q E h=>?_) (fun cdv A outer s H vs Q E hr h=>?_)
 ·obtain ⟨m,k,M,rfl,_⟩:=h
  rfl
 obtain ⟨m,k,M,rfl,hM,q⟩:=h
 refine ltX ?_
 intro Xz
 refine ⟨_,(Z4 (Y3 (pv 0) (Zm (Z0 (pv 1) (Z0 (Zh (pv 0) rfl) (Z0 (Zh (pv 0) rfl) Z3)))) rfl)),?_⟩
 obtain ⟨⟨dx,h1⟩,_⟩:=id hM
 refine (exA rfl (exA rfl ⟨m,C,dx,_,_,rfl,h1,MT.cl,MT.a4,Xc _,exA rfl ⟨m,C,dx,_,_,rfl,h1,MT.cl,MT.a6,Xw _,sz,fun p hp=>?_⟩⟩))
 have hM1:=hM.new (o:=.tup [.int k,.int M.s.place,M.s.held]) hp
 have e1:(upd H p (.tup [.int k,.int M.s.place,M.s.held])) m = some (.ins C dx M.s.fs):=by rw [Zf (Z7 h1 hp)]; exact h1
 have ep:(upd H p (.tup [.int k,.int M.s.place,M.s.held])) p = some (.tup [.int k,.int M.s.place,M.s.held]):=Z1
 have g1:=Gro.new (S:=[m]) hp (.tup [.int k,.int M.s.place,M.s.held])
 generalize upd H p (.tup [.int k,.int M.s.place,M.s.held]) = H1 at *
 refine (exA rfl ⟨m,C,dx,exA rfl ⟨e1,MT.cl,MT.a6,Ye _,?_⟩⟩)
 rw [Va]
 have g2:Gro [m] H1 (upd H1 m (.ins C dx ({ M.s with held:=.ref p }:MS).fs)):=Gro.ins (by simp) e1 _
 exact q _ p (hM1.put (s':={ M.s with held:=.ref p }) e1 rfl) (g2.tups _ _ ep) (g1.trans g2)
abbrev s_Machine_let_go:Stmt:=X0 (top 35) 8
theorem sc_Machine_let_go:FnScope ["self", "pair"] ["self"] (Z5 s_Machine_let_go):=fsc
theorem Z43 (MT:Txt K mg C) (F:Fun K "let_go" "Machine.let_go" s_Machine_let_go f fd):FnOk P w K mg base CX0 1 f fd ["self"] (Wu C):=by
 refine F.ok sc_Machine_let_go (fun vs H Q E h=>?_) (fun cdv A outer s H vs Q E hr h=>?_)
 ·obtain ⟨m,p,M,a,b,v,rfl,_⟩:=h
  rfl
 obtain ⟨m,p,M,a,b,v,rfl,hM,hh,hp,q⟩:=h
 refine ltX ?_
 intro Xz
 refine ⟨_,(Z2 (pS 1 sc_Machine_let_go.nd (Zh (pv 0) rfl))
  (Z2 (Y3 (pv 0) (Zl Zb (pv 1) Z6 (fun _ _=>rfl)) rfl)
  (Z4 (Zw (pv 1))))),?_⟩
 refine Z0u ?_
 intro Ez Az1 Az2
 obtain ⟨⟨dx,h1⟩,_⟩:=id hM
 refine (exA rfl ⟨m,C,dx,_,_,rfl,h1,MT.cl,MT.a6,(by rw [Xw,hh]),?_⟩)
 refine (ixT hp rfl ⟨_,rfl,m,C,dx,_,rfl,h1,MT.cl,MT.a6,Ye _,?_⟩)
 rw [Va]
 exact (exA rfl (q _ (hM.put (s':={ M.s with held:=v }) h1 rfl) (Gro.ins (by simp) h1 _)))
abbrev s_Machine_drop_choices:Stmt:=X0 (top 35) 6
theorem X4:FnScope ["self", "size"] ["self", "size"] (Z5 s_Machine_drop_choices):=fsc
theorem Z8j (T:Blt mg) (MT:Txt K mg C) (F:Fun K "drop_choices" "Machine.drop_choices" s_Machine_drop_choices f fd):FnOk P w K mg base CX0 1 f fd ["self", "size"] (Ww C):=by
 refine F.ok X4 (fun vs H Q E h=>?_) (fun cdv A outer s H vs Q E hr h=>?_)
 ·obtain ⟨m,k,M,rfl,_⟩:=h
  rfl
 obtain ⟨m,k,M,rfl,hM,hz,q⟩:=h
 refine ltX ?_
 intro Xz
 refine ⟨_,(Z4 (Z0w PassesOwn.never (Ze Zac (Zc Zk rfl T.b_len PyProof.Rows.Boot.«len» (Z0 (Zh (pv 0) rfl) Z3)) (pv 1) (Zn _)) (Z4 (Z9 (Z70 PySem.F.plainAttrs_list PySem.F.slot_list_pop PySem.F.type_list_pop Z74 (Zh (pv 0) rfl)))))),?_⟩
 refine Za0 ?_
 intro Ez Az1
 refine Z58 (fun σ H'=>∃ j,σ = [some (.ref m),some (.int k)]∧MAt C H' m ⟨M.s,M.cs.take j⟩∧(k ≤ j ∨ j = M.cs.length)∧j ≤ M.cs.length∧Gro [M.s.choices] H H') (fun σ H'=>match H' M.s.choices with | some (.lst vs)=>vs.length | _=>0) ⟨M.cs.length,rfl,by rw [List.take_length]; exact hM,.inr rfl,Nat.le_refl _,Gro.refl⟩ ?_ ?_
 ·rintro σ H1 ⟨j,rfl,hM1,hj,hjl,g1⟩
  have hne:=hM1.ne
  obtain ⟨⟨dx,h1⟩,vs,hv,hp⟩:=id hM1
  have hl:=Paired.length hp
  have hv':H1 M.s.choices = some (.lst vs):=hv
  have hvl:vs.length = j:=by rw [hl]; show (M.cs.take j).length = j; rw [List.length_take]; omega
  refine (exA rfl ⟨m,C,dx,_,_,rfl,h1,MT.cl,MT.a7,Y9 _,M.s.choices,vs,rfl,.inl (SqL.of hv'),exA rfl (exB rfl rfl (exA rfl (Wi (fun z=>?_) (fun z=>?_))))⟩)
  ·have hkj:k < j:=by have:=of_decide_eq_true z; omega
   have hx:vs[vs.length - 1]? = some (vs[vs.length - 1]'(by omega)):=List.getElem?_eq_getElem _
   refine (exA rfl ⟨m,C,dx,_,_,rfl,h1,MT.cl,MT.a7,Y9 _,.inl ⟨rfl,_,SqL.of hv'⟩,M.s.choices,vs,exA rfl ⟨rfl,hv',hx,?_⟩⟩)
   have g2:Gro [M.s.choices] H1 (upd H1 M.s.choices (.lst vs.dropLast)):=Gro.set (by simp) hv' _
   refine ⟨⟨j - 1,rfl,⟨⟨dx,by rw [Zf hne]; exact h1⟩,vs.dropLast,Z1,?_⟩,.inl (by omega),by omega,g1.trans g2⟩,?_⟩
   ·have:=Paired.mapP (Vc hp) fun _ _ q=>q.mono g2.tups
    have e:(M.cs.take j).dropLast = M.cs.take (j - 1):=by rw [List.dropLast_eq_take,List.take_take,List.length_take]; congr 1; omega
    show Paired _ _ (M.cs.take (j - 1))
    rw [← e]
    exact this
   ·show (match (upd H1 M.s.choices (.lst vs.dropLast)) M.s.choices with | some (.lst vs)=>vs.length | _=>0) < (match H1 M.s.choices with | some (.lst vs)=>vs.length | _=>0)
    rw [Z1,hv']
    show vs.dropLast.length < vs.length
    rw [List.length_dropLast]
    omega
  ·have hkj:j ≤ k:=by
    have:¬ (k:Int) < vs.length:=fun z'=>z (decide_eq_true z')
    omega
   refine q H1 ?_ g1
   have:M.cs.take k = M.cs.take j:=by
    rcases hj with h | h
    ·rw [show k = j by omega]
    ·rw [List.take_of_length_le (by omega),List.take_of_length_le (by omega)]
   rw [this]
   exact hM1
 ·intro σ H1 Q1 Q2 hQ h
  obtain ⟨x,hx,a,b,d,e,f',r1,r2,r3,r4,r5,p,ys,r6,r7,x2,r8,i,j,r9,r10,b2,r11,r12⟩:=h
  exact ⟨x,hx,a,b,d,e,f',r1,r2,r3,r4,r5,p,ys,r6,r7,x2,r8,i,j,r9,r10,b2,r11,hQ _ _ r12⟩
abbrev s_Machine_entry:Stmt:=X0 (top 35) 9
theorem Wp:FnScope ["self", "number"] ["self", "number"] (Z5 s_Machine_entry):=fsc
theorem Z5x (T:Blt mg) (MT:Txt K mg C) (F:Fun K "entry" "Machine.entry" s_Machine_entry f fd):FnOk P w K mg base CX0 1 f fd ["self", "number"] (Z0n C):=by
 refine F.ok Wp (fun vs H Q E h=>?_) (fun cdv A outer s H vs Q E hr h=>?_)
 ·obtain ⟨m,g,k,M,es,e,rfl,_⟩:=h
  rfl
 obtain ⟨m,g,k,M,es,e,rfl,hM,hg,hge,hk,hl,hat,q⟩:=h
 refine ltX ?_
 intro Xz
 refine ⟨_,(Z4 (Zw (W6 (Ze Zab (pv 1) (Zc Zk rfl T.b_len PyProof.Rows.Boot.«len» (Z0 (Zh (pv 0) rfl) Z3)) (Zn _)) (Zl Zb (Zh (pv 0) rfl) (Yi W8 (pv 1) Z6) (fun _ _=>rfl)) Z11))),?_⟩
 obtain ⟨⟨dx,h1⟩,_⟩:=id hM
 have hfs:M.s.fs.lookup ("groups":Str) = some (.ref g):=by rw [Yr,hg]
 refine (exA rfl (exA rfl ⟨m,C,dx,_,_,rfl,h1,MT.cl,MT.a5,hfs,g,es,rfl,.inr (SqT.of hge),exB rfl rfl (exA rfl (Zq (decide_eq_true hk) ?_))⟩))
 exact ⟨_,rfl,m,C,dx,_,_,rfl,h1,MT.cl,MT.a5,hfs,_,rfl,_,_,rfl,rfl,g,es,_,_,rfl,rfl,SqT.of hge,hat,q⟩
abbrev s_with_entry:Stmt:=top 13
theorem Ur:FnScope ["groups", "number", "begin", "end"] ["groups", "number", "begin", "end"] (Z5 s_with_entry):=fsc
theorem Z8c (F:Fun K "with_entry" "with_entry" s_with_entry f fd):FnOk P w K mg base CX0 1 f fd ["groups", "number", "begin", "end"] Z32:=by
 refine F.ok Ur (fun vs H Q E h=>?_) (fun cdv A outer s H vs Q E hr h=>?_)
 ·obtain ⟨g,k,x,y,es,rfl,_⟩:=h
  rfl
 obtain ⟨g,k,x,y,es,rfl,hg,hk1,hk2,hl,q⟩:=h
 obtain ⟨j,rfl⟩:∃ j:Nat,k = ((j + 1:Nat):Int):=⟨(k - 1).toNat,by omega⟩
 refine ltX ?_
 intro Xz
 refine ⟨_,(Z4 (Zw (Yi Z41 (Yi Z41 (Yn Z36 (pv 0) V7 (Yf (Yi W8 (pv 1) Z6))) (Zm (Z0 (Zm (Z0 (pv 2) (Z0 (pv 3) Z3))) Z3))) (Yn Z36 (pv 0) (Yf (pv 1)) V7)))),?_⟩
 refine (exA rfl (exA rfl (exB rfl rfl (exA rfl ⟨g,es,rfl,SqT.of hg,?nw1,fun p1 hp1=>?_⟩))))
 case nw1 =>
  rw [show ((j + 1:Nat):Int) - 1 = (j:Nat) by omega,HT.sIx_nat]
  omega
 rw [show ((j + 1:Nat):Int) - 1 = (j:Nat) by omega,Zas (by omega)]
 have g1:=Gro.new (S:=[]) hp1 (.tup (es.take j))
 have e1:(upd H p1 (.tup (es.take j))) p1 = some (.tup (es.take j)):=Z1
 generalize upd H p1 (.tup (es.take j)) = H1 at *
 refine (exA rfl (exA rfl ⟨sz,fun p2 hp2=>⟨sz,fun p3 hp3=>?_⟩⟩))
 have g2:Gro [] H1 (upd (upd H1 p2 (.tup [x,y])) p3 (.tup [.ref p2])):=(Gro.new hp2 _).tup hp3
 have e2:(upd (upd H1 p2 (.tup [x,y])) p3 (.tup [.ref p2])) p3 = some (.tup [.ref p2]):=Z1
 have e3:(upd (upd H1 p2 (.tup [x,y])) p3 (.tup [.ref p2])) p2 = some (.tup [x,y]):=by rw [Zf (Z7 Z1 hp3)]; exact Z1
 generalize upd (upd H1 p2 (.tup [x,y])) p3 (.tup [.ref p2]) = H2 at *
 refine Z52 (g2.tups _ _ e1) e2 (by rw [List.length_take,List.length_singleton]; omega) fun r4 H4 hr4 g4=>?_
 have t4:Tm H H4:=fun b xs h=>g4.tups _ _ (g2.tups _ _ (g1.tups _ _ h))
 refine (exA rfl (exA rfl (exA rfl ⟨g,es,rfl,SqT.of (t4 _ _ hg),?nw2,fun p5 hp5=>?_⟩)))
 case nw2 =>
  rw [HT.sIx_nat]
  omega
 rw [Z6n (by omega)]
 have g5:=Gro.new (S:=[]) hp5 (.tup (es.drop (j + 1)))
 refine Z52 (g5.tups _ _ hr4) Z1 (by simp only [List.length_append,List.length_take,List.length_drop,List.length_singleton]; omega) fun r6 H6 hr6 g6=>?_
 refine q r6 p2 H6 (g6.tups _ _ (g5.tups _ _ (g4.tups _ _ e3))) ?_ ((((g1.trans g2).trans g4).trans g5).trans g6)
 rw [show (((j + 1:Nat):Int) - 1).toNat = j by omega,show ((j + 1:Nat):Int).toNat = j + 1 from rfl]
 exact hr6
end
theorem Ab.cslen {H:Hp} {ra:Addr} {t:Str} {ch:Addr} {M:MM} {c:Cg} (h:Ab H ra t ch M c):M.cs.length = c.cs.length:=Paired.length h.cs
theorem MAt.push {C:Addr} {H:Hp} {m tp:Addr} {M:MM} {vs:List V} {q:Chc} (h:MAt C H m M) (hv:H M.s.choices = some (.lst vs)) (hp:Paired (ChAt H) vs M.cs) (ht:H tp = some (.tup [.int q.1,.int q.2.1,q.2.2.1,q.2.2.2])) :
  MAt C (upd H M.s.choices (.lst (vs ++ [.ref tp]))) m ⟨M.s,M.cs ++ [q]⟩∧Gro [M.s.choices] H (upd H M.s.choices (.lst (vs ++ [.ref tp]))):=by
 have hne:=h.ne
 obtain ⟨⟨dx,e1⟩,_⟩:=h
 have g1:Gro [M.s.choices] H (upd H M.s.choices (.lst (vs ++ [.ref tp]))):=Gro.set (by simp) hv _
 exact ⟨⟨⟨dx,by rw [Zf hne]; exact e1⟩,vs ++ [.ref tp],Z1,(Paired.mapP hp fun _ _ q=>q.mono g1.tups).snoc ⟨tp,rfl,g1.tups _ _ ht⟩⟩,g1⟩
section
variable {P:Program} {w:World} {K:PySem.W.Frag} {mg:Str→Option Value} {base:Heap} {f C:Addr} {fd:FuncData}
abbrev s_do_again:Stmt:=top 18
theorem sc_do_again:FnScope ["machine", "row", "entry", "end"] ["machine", "row"] (Z5 s_do_again):=fsc
theorem Jz {k:Int} (MT:Txt K mg C) (O_Machine_go_back:OwnM P w K mg base 2 C "go_back" ["self"] (X1 C)) (O_Machine_entry:OwnM P w K mg base 1 C "entry" ["self", "number"] (Z0n C)) (F:Fun K "do_again" "do_again" s_do_again f fd):FnOk P w K mg base CX0 3 f fd ["machine", "row"] (Tf C (.pat (.again k))):=by
 refine F.ok sc_do_again (fun vs H Q E h=>?_) (fun cdv A outer s H vs Q E hr h=>?_)
 ·obtain ⟨m,a,ra,ch,t,n,M,c,rfl,_⟩:=h
  rfl
 obtain ⟨m,a,ra,ch,t,n,M,c,rfl,hM,hA,hrow,ht,hci,hgo,hn,hneed,hcs,q⟩:=h
 refine ltX ?_
 intro Xz
 refine ⟨_,(Z2 (pS 2 sc_do_again.nd (Yh (O_Machine_entry.mono (by omega)) MT.cl hr (pv 0) (Z0 (Zl Zb (pv 1) Z6 (fun _ _=>rfl)) Z3)))
  (Z2 (Y0 (Z3o (Tu (pv 2))) (Z2 (Z9 (Y2 (O_Machine_go_back.mono (by omega)) MT.cl hr (pv 0)))
  (Z4 Z3p)) Zr)
  (Z2 (pS 3 sc_do_again.nd (Yi W8 (Yi Xh (Zh (pv 0) rfl) (Zl Zb (pv 2) Z6 (fun _ _=>rfl))) (Zl Zb (pv 2) Z6 (fun _ _=>rfl))))
  (Z4 (Y0 (Ze Yc (Yn Th (Zh (pv 0) rfl) (Yf (Zh (pv 0) rfl)) (Yf (pv 3))) (Yn Th (Zh (pv 0) rfl) (Yf (Zl Zb (pv 2) Z6 (fun _ _=>rfl))) (Yf (Zl Zb (pv 2) Z6 (fun _ _=>rfl)))) (Zn _)) (Z4 (Y3 (pv 0) (pv 3) rfl)) (Z4 (Z9 (Y2 (O_Machine_go_back.mono (by omega)) MT.cl hr (pv 0))))))))),?_⟩
 refine Z9r ?_
 intro Ez Az1 Az2 Az3 Az4 Az5 Az6 Az7
 obtain rfl:=hA.chs
 obtain rfl:=hA.text
 obtain ⟨⟨dx,e1⟩,_⟩:=id hM
 obtain ⟨a',kv,e,⟨hk,_,ha⟩,_⟩:=hrow
 cases e
 obtain ⟨hk1,hk2⟩:1 ≤ k∧k ≤ n:=by
  rcases hneed with h | h
  ·exact h
  ·cases h
 have hcl:=hA.cslen
 have hgl:=hgo.len
 obtain ⟨g,es,en,hg,hge,hel,hat,hen⟩:=hA.gs.ent hk1 (by omega)
 refine (exA rfl ⟨m,dx,exA rfl ⟨e1,Z19 _,ixT ha rfl ⟨m,g,k,M,es,en,rfl,hM,hg,hge,by omega,by omega,hat,?_⟩⟩⟩)
 refine (exA rfl (exA rfl (?_)))
 cases he:ent c.g k with
 | none =>
  rw [he] at hen
  have hen':en = .non:=hen
  have hact:(Op.pat (.again k)).act M.s.text c = bk c.cs:=by
   show (match ent c.g k with | none=>bk c.cs | some p=>_) = _
   rw [he]
  refine Zq (decide_eq_true hen') (exA rfl ⟨m,dx,exA rfl ⟨e1,Y8 _,m,M,rfl,hM,by omega,fun H' hM' g'=>?_⟩⟩)
  have bf:=Ya M
  exact q H' _ hM' (by rw [hact]; exact hA.back.mono g'.tups) bf.1 bf.2 g'
 | some p =>
  rw [he] at hen
  obtain ⟨pa,rfl,hpa⟩:=hen
  obtain ⟨p1,p2⟩:=Z7c hgo he
  refine Zd (by intro z; have z':=of_decide_eq_true z; cases z') ?_
  refine (exA rfl ⟨m,C,dx,_,_,rfl,e1,MT.cl,MT.a4,Xc _,ixT hpa rfl ⟨_,_,rfl,rfl,ixT hpa at0 ⟨_,_,rfl,rfl,?_⟩⟩⟩)
  have hend:M.s.place + (p.2:Int) - (p.1:Int) = ((c.i + (p.2 - p.1):Nat):Int):=by rw [hA.pl]; omega
  refine (exA rfl ⟨m,C,dx,_,_,rfl,e1,MT.cl,MT.a2,T4 _,exA rfl ⟨m,C,dx,_,_,rfl,e1,MT.cl,MT.a4,Xc _,exA rfl (exA rfl (exA rfl ⟨M.s.text,rfl,Yy ht,?_⟩))⟩⟩)
  refine (exA rfl ⟨m,C,dx,_,_,rfl,e1,MT.cl,MT.a2,T4 _,ixT hpa at0 ⟨_,rfl,ixT hpa rfl ⟨_,rfl,M.s.text,rfl,Yy ht,rfl,_,rfl,?_⟩⟩⟩)
  have hs1:Txt.slice M.s.text (some M.s.place) (some (M.s.place + (p.2:Int) - (p.1:Int))) = sub M.s.text c.i (c.i + (p.2 - p.1)):=by
   rw [hend,hA.pl,Xf (by omega) (by omega)]
   rfl
  have hs2:Txt.slice M.s.text (some (p.1:Int)) (some (p.2:Int)) = sub M.s.text p.1 p.2:=by
   rw [Xf (by omega) (by omega)]
   rfl
  have hact:(Op.pat (.again k)).act M.s.text c = if sub M.s.text c.i (c.i + (p.2 - p.1)) = sub M.s.text p.1 p.2 then .run { c with i:=c.i + (p.2 - p.1) } else bk c.cs:=by
   show (match ent c.g k with | none=>bk c.cs | some p=>_) = _
   rw [he]
  show if decide (V.str (Txt.slice M.s.text (some M.s.place) (some (M.s.place + (p.2:Int) - (p.1:Int)))) = V.str (Txt.slice M.s.text (some (p.1:Int)) (some (p.2:Int)))) = true then _ else _
  rw [hs1,hs2]
  refine Wi (fun z=>?_) (fun z=>?_)
  ·have z':sub M.s.text c.i (c.i + (p.2 - p.1)) = sub M.s.text p.1 p.2:=by
    have:=of_decide_eq_true z
    injection this
   rw [if_pos z'] at hact
   refine (exA rfl (exA rfl ⟨m,C,dx,exA rfl ⟨e1,MT.cl,MT.a4,Ye _,?_⟩⟩))
   rw [Z5q]
   have g1:Gro [m,M.s.choices] H (upd H m (.ins C dx ({ M.s with place:=M.s.place + (p.2:Int) - (p.1:Int) }:MS).fs)):=Gro.ins (by simp) e1 _
   refine q _ _ (hM.put (s':={ M.s with place:=M.s.place + (p.2:Int) - (p.1:Int) }) e1 rfl) ?_ rfl rfl g1
   rw [hact]
   have hA1:=hA.mono g1.tups
   exact ⟨hA1.rows,rfl,rfl,hA1.en,hA1.row,hend,hA1.gs,hA1.hl,hA1.cs⟩
  ·have z':¬ sub M.s.text c.i (c.i + (p.2 - p.1)) = sub M.s.text p.1 p.2:=fun e=>z (decide_eq_true (by rw [e]))
   rw [if_neg z'] at hact
   refine (exA rfl ⟨m,dx,exA rfl ⟨e1,Y8 _,m,M,rfl,hM,by omega,fun H' hM' g'=>?_⟩⟩)
   have bf:=Ya M
   exact q H' _ hM' (by rw [hact]; exact hA.back.mono g'.tups) bf.1 bf.2 g'
abbrev s_do_have:Stmt:=top 21
theorem Z23:FnScope ["machine", "row"] ["machine", "row"] (Z5 s_do_have):=fsc
theorem Z2h {k:Int} {z:Nat} (MT:Txt K mg C) (O_Machine_entry:OwnM P w K mg base 1 C "entry" ["self", "number"] (Z0n C)) (F:Fun K "do_have" "do_have" s_do_have f fd):FnOk P w K mg base CX0 2 f fd ["machine", "row"] (Tf C (.have_ k z)):=by
 refine F.ok Z23 (fun vs H Q E h=>?_) (fun cdv A outer s H vs Q E hr h=>?_)
 ·obtain ⟨m,a,ra,ch,t,n,M,c,rfl,_⟩:=h
  rfl
 obtain ⟨m,a,ra,ch,t,n,M,c,rfl,hM,hA,hrow,ht,hci,hgo,hn,hneed,hcs,q⟩:=h
 refine ltX ?_
 intro Xz
 refine ⟨_,(Z4 (Y0 (Z3o (Tu (Yh (O_Machine_entry.mono (by omega)) MT.cl hr (pv 0) (Z0 (Zl Zb (pv 1) Z6 (fun _ _=>rfl)) Z3)))) (Z4 (Y3 (pv 0) (Zl Zb (pv 1) Z6 (fun _ _=>rfl)) rfl)) Zr)),?_⟩
 refine Tp ?_
 intro Ez Az1
 obtain rfl:=hA.chs
 obtain rfl:=hA.text
 obtain ⟨⟨dx,e1⟩,_⟩:=id hM
 obtain ⟨a',e,ha⟩:=hrow
 cases e
 obtain ⟨hk1,hk2⟩:1 ≤ k∧k ≤ n:=by
  rcases hneed with h | h
  ·exact h
  ·cases h
 have hgl:=hgo.len
 obtain ⟨g,es,en,hg,hge,hel,hat,hen⟩:=hA.gs.ent hk1 (by omega)
 refine (exA rfl ⟨m,dx,exA rfl ⟨e1,Z19 _,ixT ha rfl ⟨m,g,k,M,es,en,rfl,hM,hg,hge,by omega,by omega,hat,_,rfl,?_⟩⟩⟩)
 cases he:ent c.g k with
 | none =>
  rw [he] at hen
  have hen':en = .non:=hen
  have hact:(Op.have_ k z).act M.s.text c = .run { c with r:=z }:=by
   show (match ent c.g k with | none=>Cf.run _ | some _=>_) = _
   rw [he]
  refine Zq (decide_eq_true hen') ?_
  refine (ixT ha rfl ⟨_,rfl,m,C,dx,_,rfl,e1,MT.cl,MT.a3,Ye _,?_⟩)
  rw [U4]
  have g1:Gro [m,M.s.choices] H (upd H m (.ins C dx ({ M.s with row:=(z:Int) }:MS).fs)):=Gro.ins (by simp) e1 _
  refine q _ _ (hM.put (s':={ M.s with row:=(z:Int) }) e1 rfl) ?_ rfl rfl g1
  rw [hact]
  have hA1:=hA.mono g1.tups
  exact ⟨hA1.rows,rfl,rfl,hA1.en,rfl,hA1.pl,hA1.gs,hA1.hl,hA1.cs⟩
 | some p =>
  rw [he] at hen
  obtain ⟨pa,rfl,hpa⟩:=hen
  have hact:(Op.have_ k z).act M.s.text c = .run c:=by
   show (match ent c.g k with | none=>Cf.run _ | some _=>_) = _
   rw [he]
  refine Zd (by intro z; have z':=of_decide_eq_true z; cases z') ?_
  exact q H M hM (by rw [hact]; exact hA) rfl rfl Gro.refl
abbrev s_do_hold:Stmt:=top 22
theorem Z21:FnScope ["machine", "row"] ["machine", "row"] (Z5 s_do_hold):=fsc
theorem Uc {o:Op} (ho:o = .turns ∨ o = .open_) (MT:Txt K mg C) (O_Machine_hold:OwnM P w K mg base 1 C "hold" ["self", "number"] (Wv C)) (F:Fun K "do_hold" "do_hold" s_do_hold f fd):FnOk P w K mg base CX0 2 f fd ["machine", "row"] (Tf C o):=by
 refine F.ok Z21 (fun vs H Q E h=>?_) (fun cdv A outer s H vs Q E hr h=>?_)
 ·obtain ⟨m,a,ra,ch,t,n,M,c,rfl,_⟩:=h
  rfl
 obtain ⟨m,a,ra,ch,t,n,M,c,rfl,hM,hA,hrow,ht,hci,hgo,hn,hneed,hcs,q⟩:=h
 refine ltX ?_
 intro Xz
 refine ⟨_,(Z4 (Z9 (Yh (O_Machine_hold.mono (by omega)) MT.cl hr (pv 0) (Z0 Z6 Z3)))),?_⟩
 obtain rfl:=hA.chs
 obtain rfl:=hA.text
 obtain ⟨⟨dx,e1⟩,_⟩:=id hM
 refine (exA rfl ⟨m,dx,exA rfl ⟨e1,Z00 _,m,0,M,rfl,hM,fun H' p hM' hp g'=>?_⟩⟩)
 have hA1:=hA.mono g'.tups
 have hres:Ab H' ra M.s.text M.s.choices ⟨{ M.s with held:=.ref p },M.cs⟩ { c with h:=(0,c.i) :: c.h }:=⟨hA1.rows,rfl,rfl,hA1.en,hA1.row,hA1.pl,hA1.gs,⟨p,exA rfl ⟨by rw [hp,hA.pl]; rfl,hA1.hl⟩⟩,hA1.cs⟩
 rcases ho with rfl | rfl
 ·exact q H' _ hM' hres rfl rfl (g'.mono (by simp))
 ·exact q H' _ hM' hres rfl rfl (g'.mono (by simp))
abbrev s_do_close:Stmt:=top 23
theorem sc_do_close:FnScope ["machine", "row", "pair"] ["machine", "row"] (Z5 s_do_close):=fsc
theorem Jx {k:Int} (MT:Txt K mg C) (O_Machine_let_go:OwnM P w K mg base 1 C "let_go" ["self"] (Wu C)) (O_with_entry:Own P w K mg base 1 "with_entry" ["groups", "number", "begin", "end"] Z32) (F:Fun K "do_close" "do_close" s_do_close f fd):FnOk P w K mg base CX0 2 f fd ["machine", "row"] (Tf C (.close k)):=by
 refine F.ok sc_do_close (fun vs H Q E h=>?_) (fun cdv A outer s H vs Q E hr h=>?_)
 ·obtain ⟨m,a,ra,ch,t,n,M,c,rfl,_⟩:=h
  rfl
 obtain ⟨m,a,ra,ch,t,n,M,c,rfl,hM,hA,hrow,ht,hci,hgo,hn,hneed,hcs,q⟩:=h
 refine ltX ?_
 intro Xz
 refine ⟨_,(Z2 (pS 2 sc_do_close.nd (Y2 (O_Machine_let_go.mono (by omega)) MT.cl hr (pv 0)))
  (Z4 (Y3 (pv 0) (Zo (O_with_entry.mono (by omega)) hr rfl (Z0 (Zh (pv 0) rfl) (Z0 (Zl Zb (pv 1) Z6 (fun _ _=>rfl)) (Z0 (Zl Zb (pv 2) Z6 (fun _ _=>rfl)) (Z0 (Zh (pv 0) rfl) Z3))))) rfl))),?_⟩
 refine Z0v ?_
 intro Ez Az1
 obtain rfl:=hA.chs
 obtain rfl:=hA.text
 obtain ⟨⟨dx,e1⟩,_⟩:=id hM
 obtain ⟨a',e,ha⟩:=hrow
 cases e
 obtain ⟨⟨hk1,hk2⟩,hh⟩:(1 ≤ k∧k ≤ n)∧c.h ≠ []:=by
  rcases hneed with h | h
  ·exact h
  ·cases h
 obtain ⟨x,hrest,hch⟩:∃ x r,c.h = x :: r:=by
  cases hc:c.h with
  | nil=>exact absurd hc hh
  | cons x r=>exact ⟨x,r,rfl⟩
 have hl:=hA.hl
 rw [hch] at hl
 obtain ⟨pa,v',hheld,hpa,hl'⟩:=hl
 have hgl:=hgo.len
 obtain ⟨g,es,hg,hge,hel,hpe⟩:=hA.gs.len
 refine (exA rfl ⟨m,dx,exA rfl ⟨e1,Xi _,m,pa,M,_,_,_,rfl,hM,hheld,hpa,fun H1 hM1 g1=>?_⟩⟩)
 obtain ⟨⟨dx1,f1⟩,_⟩:=id hM1
 have hfg:({ M.s with held:=v' }:MS).fs.lookup ("groups":Str) = some (.ref g):=by rw [Yr]; exact congrArg some hg
 refine (exA rfl ⟨m,C,dx1,_,_,rfl,f1,MT.cl,MT.a5,hfg,ixT (g1.tups _ _ ha) rfl (ixT (g1.tups _ _ hpa) rfl ⟨_,rfl,m,C,dx1,_,_,rfl,f1,MT.cl,MT.a4,Xc _,g,k,_,_,es,rfl,g1.tups _ _ hge,hk1,by omega,by omega,fun r p H2 hp2 hr2 g2=>?_⟩)⟩)
 have hM2:=hM1.gro g2 (by simp) (by simp)
 obtain ⟨⟨dx2,f2⟩,_⟩:=id hM2
 refine (exA rfl ⟨m,C,dx2,exA rfl ⟨f2,MT.cl,MT.a5,Ye _,?_⟩⟩)
 rw [Tt]
 have g3:Gro [m,M.s.choices] H2 (upd H2 m (.ins C dx2 ({ M.s with held:=v',groups:=.ref r }:MS).fs)):=Gro.ins (by simp) f2 _
 have gg:Gro [m,M.s.choices] H (upd H2 m (.ins C dx2 ({ M.s with held:=v',groups:=.ref r }:MS).fs)):=((g1.mono (by simp)).trans (g2.mono (by simp))).trans g3
 refine q _ _ (hM2.put (s':={ M.s with held:=v',groups:=.ref r }) f2 rfl) ?_ rfl rfl gg
 have hact:(Op.close k).act M.s.text c = .run { c with h:=hrest,g:=put c.g k x.2 c.i }:=by
  show (match c.h with | []=>Cf.ended | p :: h=>Cf.run { c with h:=h,g:=put c.g k p.2 c.i }) = _
  rw [hch]
 rw [hact]
 have hA1:=hA.mono gg.tups
 refine ⟨hA1.rows,rfl,rfl,hA1.en,hA1.row,hA1.pl,?_,hl'.mono gg.tups,hA1.cs⟩
 refine GsAt.put (Paired.mapP hpe fun _ _ h=>h.mono gg.tups) (g3.tups _ _ ?_) (g3.tups _ _ hr2)
 rw [hp2]
 show some (HO.tup [.int x.2,.int M.s.place]) = _
 rw [hA.pl]
end
section
variable {P:Program} {w:World} {K:PySem.W.Frag} {mg:Str→Option Value} {base:Heap} {f C:Addr} {fd:FuncData}
theorem Ab.top {H:Hp} {ra:Addr} {t:Str} {ch:Addr} {M:MM} {c:Cg} (h:Ab H ra t ch M c) (hh:c.h ≠ []):∃ (x:Nat × Nat) (r:Hl) (pa:Addr) (v':V),c.h = x :: r∧M.s.held = .ref pa∧H pa = some (.tup [.int x.1,.int x.2,v'])∧HlAt H v' r:=by
 have hl:=h.hl
 cases hc:c.h with
 | nil=>exact absurd hc hh
 | cons x r =>
  rw [hc] at hl
  obtain ⟨pa,v',h1,h2,h3⟩:=hl
  exact ⟨x,r,pa,v',rfl,h1,h2,h3⟩
theorem Ud {n:Nat} {c:Cg} {o:Op} (h:o.need n c ∨ o = .found) (e:o.need n c = (c.h ≠ [])) (hf:o ≠ .found):c.h ≠ []:=by
 rcases h with h | h
 ·rw [e] at h; exact h
 ·exact absurd h hf
abbrev s_do_once:Stmt:=top 26
theorem Z1y:FnScope ["machine", "row"] ["machine", "row"] (Z5 s_do_once):=fsc
theorem Z2c (T:Blt mg) (MT:Txt K mg C) (O_Machine_hold:OwnM P w K mg base 1 C "hold" ["self", "number"] (Wv C)) (F:Fun K "do_once" "do_once" s_do_once f fd):FnOk P w K mg base CX0 2 f fd ["machine", "row"] (Tf C .once):=by
 refine F.ok Z1y (fun vs H Q E h=>?_) (fun cdv A outer s H vs Q E hr h=>?_)
 ·obtain ⟨m,a,ra,ch,t,n,M,c,rfl,_⟩:=h
  rfl
 obtain ⟨m,a,ra,ch,t,n,M,c,rfl,hM,hA,hrow,ht,hci,hgo,hn,hneed,hcs,q⟩:=h
 refine ltX ?_
 intro Xz
 refine ⟨_,(Z4 (Z9 (Yh (O_Machine_hold.mono (by omega)) MT.cl hr (pv 0) (Z0 (Zc Zk rfl T.b_len PyProof.Rows.Boot.«len» (Z0 (Zh (pv 0) rfl) Z3)) Z3)))),?_⟩
 obtain rfl:=hA.chs
 obtain rfl:=hA.text
 obtain ⟨⟨dx,e1⟩,vs,hv,hp⟩:=id hM
 have hl:=Paired.length hp
 have hcl:=hA.cslen
 refine (exA rfl ⟨m,dx,exA rfl ⟨e1,Z00 _,exA rfl ⟨m,C,dx,_,_,rfl,e1,MT.cl,MT.a7,Y9 _,M.s.choices,vs,rfl,.inl (SqL.of hv),m,_,M,rfl,hM,fun H' p hM' hp' g'=>?_⟩⟩⟩)
 have hA1:=hA.mono g'.tups
 refine q H' _ hM' ⟨hA1.rows,rfl,rfl,hA1.en,hA1.row,hA1.pl,hA1.gs,⟨p,exA rfl ⟨?_,hA1.hl⟩⟩,hA1.cs⟩ rfl rfl (g'.mono (by simp))
 rw [hp',hA.pl,show vs.length = c.cs.length by omega]
abbrev s_do_kept:Stmt:=top 27
theorem Z20:FnScope ["machine", "row"] ["machine", "row"] (Z5 s_do_kept):=fsc
theorem Z2f (MT:Txt K mg C) (O_Machine_let_go:OwnM P w K mg base 1 C "let_go" ["self"] (Wu C)) (O_Machine_drop_choices:OwnM P w K mg base 1 C "drop_choices" ["self", "size"] (Ww C)) (F:Fun K "do_kept" "do_kept" s_do_kept f fd):FnOk P w K mg base CX0 2 f fd ["machine", "row"] (Tf C .kept):=by
 refine F.ok Z20 (fun vs H Q E h=>?_) (fun cdv A outer s H vs Q E hr h=>?_)
 ·obtain ⟨m,a,ra,ch,t,n,M,c,rfl,_⟩:=h
  rfl
 obtain ⟨m,a,ra,ch,t,n,M,c,rfl,hM,hA,hrow,ht,hci,hgo,hn,hneed,hcs,q⟩:=h
 refine ltX ?_
 intro Xz
 refine ⟨_,(Z4 (Z9 (Yh (O_Machine_drop_choices.mono (by omega)) MT.cl hr (pv 0) (Z0 (Zl Zb (Y2 (O_Machine_let_go.mono (by omega)) MT.cl hr (pv 0)) Z6 (fun _ _=>rfl)) Z3)))),?_⟩
 obtain rfl:=hA.chs
 obtain rfl:=hA.text
 obtain ⟨⟨dx,e1⟩,_⟩:=id hM
 have hcl:=hA.cslen
 obtain ⟨x,r,pa,v',hch,hheld,hpa,hl'⟩:=hA.top (Ud hneed rfl (by intro z; cases z))
 refine (exA rfl ⟨m,dx,exA rfl ⟨e1,Z01 _,exA rfl ⟨m,dx,exA rfl ⟨e1,Xi _,m,pa,M,_,_,_,rfl,hM,hheld,hpa,fun H1 hM1 g1=>?_⟩⟩⟩⟩)
 refine ⟨pa,_,_,_,rfl,rfl,SqT.of (g1.tups _ _ hpa),at0,m,x.1,_,rfl,hM1,by show M.cs.length ≤ _; omega,fun H2 hM2 g2=>?_⟩
 have gg:Gro [m,M.s.choices] H H2:=(g1.mono (by simp)).trans (g2.mono (by simp))
 have hA1:=hA.mono gg.tups
 refine q H2 _ hM2 ?_ rfl rfl gg
 have hact:Op.kept.act M.s.text c = .run { c with h:=r,cs:=c.cs.take x.1 }:=by
  show (match c.h with | []=>Cf.ended | p :: h=>Cf.run { c with h:=h,cs:=c.cs.take p.1 }) = _
  rw [hch]
 rw [hact]
 exact ⟨hA1.rows,rfl,rfl,hA1.en,hA1.row,hA1.pl,hA1.gs,hl'.mono gg.tups,Yv _ hA1.cs⟩
abbrev s_do_peeked:Stmt:=top 28
theorem sc_do_peeked:FnScope ["machine", "row", "pair"] ["machine", "row"] (Z5 s_do_peeked):=fsc
theorem Tz (MT:Txt K mg C) (O_Machine_let_go:OwnM P w K mg base 1 C "let_go" ["self"] (Wu C)) (O_Machine_drop_choices:OwnM P w K mg base 1 C "drop_choices" ["self", "size"] (Ww C)) (F:Fun K "do_peeked" "do_peeked" s_do_peeked f fd):FnOk P w K mg base CX0 2 f fd ["machine", "row"] (Tf C .peeked):=by
 refine F.ok sc_do_peeked (fun vs H Q E h=>?_) (fun cdv A outer s H vs Q E hr h=>?_)
 ·obtain ⟨m,a,ra,ch,t,n,M,c,rfl,_⟩:=h
  rfl
 obtain ⟨m,a,ra,ch,t,n,M,c,rfl,hM,hA,hrow,ht,hci,hgo,hn,hneed,hcs,q⟩:=h
 refine ltX ?_
 intro Xz
 refine ⟨_,(Z2 (pS 2 sc_do_peeked.nd (Y2 (O_Machine_let_go.mono (by omega)) MT.cl hr (pv 0)))
  (Z2 (Z9 (Yh (O_Machine_drop_choices.mono (by omega)) MT.cl hr (pv 0) (Z0 (Zl Zb (pv 2) Z6 (fun _ _=>rfl)) Z3)))
  (Z4 (Y3 (pv 0) (Zl Zb (pv 2) Z6 (fun _ _=>rfl)) rfl)))),?_⟩
 refine Z0u ?_
 intro Ez Az1 Az2
 obtain rfl:=hA.chs
 obtain rfl:=hA.text
 obtain ⟨⟨dx,e1⟩,_⟩:=id hM
 have hcl:=hA.cslen
 obtain ⟨x,r,pa,v',hch,hheld,hpa,hl'⟩:=hA.top (Ud hneed rfl (by intro z; cases z))
 refine (exA rfl ⟨m,dx,exA rfl ⟨e1,Xi _,m,pa,M,_,_,_,rfl,hM,hheld,hpa,fun H1 hM1 g1=>?_⟩⟩)
 obtain ⟨⟨dx1,f1⟩,_⟩:=id hM1
 refine (exA rfl ⟨m,dx1,exA rfl ⟨f1,Z01 _,ixT (g1.tups _ _ hpa) at0 ⟨m,x.1,_,rfl,hM1,by show M.cs.length ≤ _; omega,fun H2 hM2 g2=>?_⟩⟩⟩)
 obtain ⟨⟨dx2,f2⟩,_⟩:=id hM2
 refine (ixT (g2.tups _ _ (g1.tups _ _ hpa)) rfl ⟨_,rfl,m,C,dx2,_,rfl,f2,MT.cl,MT.a4,Ye _,?_⟩)
 rw [Z5q]
 have g3:Gro [m,M.s.choices] H2 (upd H2 m (.ins C dx2 ({ M.s with held:=v',place:=(x.2:Int) }:MS).fs)):=Gro.ins (by simp) f2 _
 have gg:Gro [m,M.s.choices] H (upd H2 m (.ins C dx2 ({ M.s with held:=v',place:=(x.2:Int) }:MS).fs)):=((g1.mono (by simp)).trans (g2.mono (by simp))).trans g3
 have hA1:=hA.mono gg.tups
 refine q _ _ (hM2.put (s':={ M.s with held:=v',place:=(x.2:Int) }) f2 rfl) ?_ rfl rfl gg
 have hact:Op.peeked.act M.s.text c = .run { c with i:=x.2,h:=r,cs:=c.cs.take x.1 }:=by
  show (match c.h with | []=>Cf.ended | p :: h=>Cf.run { c with i:=p.2,h:=h,cs:=c.cs.take p.1 }) = _
  rw [hch]
 rw [hact]
 exact ⟨hA1.rows,rfl,rfl,hA1.en,hA1.row,rfl,hA1.gs,hl'.mono gg.tups,Yv _ hA1.cs⟩
abbrev s_do_barred:Stmt:=top 30
theorem Tk:FnScope ["machine", "row"] ["machine", "row"] (Z5 s_do_barred):=fsc
theorem J0 (MT:Txt K mg C) (O_Machine_let_go:OwnM P w K mg base 1 C "let_go" ["self"] (Wu C)) (O_Machine_drop_choices:OwnM P w K mg base 1 C "drop_choices" ["self", "size"] (Ww C)) (O_Machine_go_back:OwnM P w K mg base 2 C "go_back" ["self"] (X1 C)) (F:Fun K "do_barred" "do_barred" s_do_barred f fd):FnOk P w K mg base CX0 3 f fd ["machine", "row"] (Tf C .barred):=by
 refine F.ok Tk (fun vs H Q E h=>?_) (fun cdv A outer s H vs Q E hr h=>?_)
 ·obtain ⟨m,a,ra,ch,t,n,M,c,rfl,_⟩:=h
  rfl
 obtain ⟨m,a,ra,ch,t,n,M,c,rfl,hM,hA,hrow,ht,hci,hgo,hn,hneed,hcs,q⟩:=h
 refine ltX ?_
 intro Xz
 refine ⟨_,(Z2 (Z9 (Yh (O_Machine_drop_choices.mono (by omega)) MT.cl hr (pv 0) (Z0 (Zl Zb (Y2 (O_Machine_let_go.mono (by omega)) MT.cl hr (pv 0)) Z6 (fun _ _=>rfl)) Z3)))
  (Z4 (Z9 (Y2 (O_Machine_go_back.mono (by omega)) MT.cl hr (pv 0))))),?_⟩
 refine Z0v ?_
 intro Ez Az1
 obtain rfl:=hA.chs
 obtain rfl:=hA.text
 obtain ⟨⟨dx,e1⟩,_⟩:=id hM
 have hcl:=hA.cslen
 obtain ⟨x,r,pa,v',hch,hheld,hpa,hl'⟩:=hA.top (Ud hneed rfl (by intro z; cases z))
 refine (exA rfl ⟨m,dx,exA rfl ⟨e1,Z01 _,exA rfl ⟨m,dx,exA rfl ⟨e1,Xi _,m,pa,M,_,_,_,rfl,hM,hheld,hpa,fun H1 hM1 g1=>?_⟩⟩⟩⟩)
 refine ⟨pa,_,_,_,rfl,rfl,SqT.of (g1.tups _ _ hpa),at0,m,x.1,_,rfl,hM1,by show M.cs.length ≤ _; omega,fun H2 hM2 g2=>?_⟩
 have gg:Gro [m,M.s.choices] H H2:=(g1.mono (by simp)).trans (g2.mono (by simp))
 have hA1:=hA.mono gg.tups
 have hA2:Ab H2 ra M.s.text M.s.choices ⟨{ M.s with held:=v' },M.cs.take x.1⟩ { c with h:=r,cs:=c.cs.take x.1 }:=⟨hA1.rows,rfl,rfl,hA1.en,hA1.row,hA1.pl,hA1.gs,hl'.mono gg.tups,Yv _ hA1.cs⟩
 obtain ⟨⟨dx2,f2⟩,_⟩:=id hM2
 refine (exA rfl ⟨m,dx2,exA rfl ⟨f2,Y8 _,m,_,rfl,hM2,by show (M.cs.take x.1).length ≤ _; rw [List.length_take]; omega,fun H3 hM3 g3=>?_⟩⟩)
 have bf:=Ya ⟨{ M.s with held:=v' },M.cs.take x.1⟩
 have hact:Op.barred.act M.s.text c = bk (c.cs.take x.1):=by
  show (match c.h with | []=>Cf.ended | p :: _=>bk (c.cs.take p.1)) = _
  rw [hch]
 exact q H3 _ hM3 (by rw [hact]; exact hA2.back.mono g3.tups) bf.1 bf.2 (gg.trans g3)
abbrev s_do_here:Stmt:=top 32
theorem Z22:FnScope ["machine", "row"] ["machine", "row"] (Z5 s_do_here):=fsc
theorem Z2g (MT:Txt K mg C) (O_Machine_go_back:OwnM P w K mg base 2 C "go_back" ["self"] (X1 C)) (F:Fun K "do_here" "do_here" s_do_here f fd):FnOk P w K mg base CX0 3 f fd ["machine", "row"] (Tf C .here):=by
 refine F.ok Z22 (fun vs H Q E h=>?_) (fun cdv A outer s H vs Q E hr h=>?_)
 ·obtain ⟨m,a,ra,ch,t,n,M,c,rfl,_⟩:=h
  rfl
 obtain ⟨m,a,ra,ch,t,n,M,c,rfl,hM,hA,hrow,ht,hci,hgo,hn,hneed,hcs,q⟩:=h
 refine ltX ?_
 intro Xz
 refine ⟨_,(Z4 (Y0 (Ze Z27 (Zh (pv 0) rfl) (Zl Zb (Zh (pv 0) rfl) Z6 (fun _ _=>rfl)) (Zn _)) (Z4 (Z9 (Y2 (O_Machine_go_back.mono (by omega)) MT.cl hr (pv 0)))) Zr)),?_⟩
 refine Tp ?_
 intro Ez Az1
 obtain rfl:=hA.chs
 obtain rfl:=hA.text
 obtain ⟨⟨dx,e1⟩,_⟩:=id hM
 have hcl:=hA.cslen
 obtain ⟨x,r,pa,v',hch,hheld,hpa,hl'⟩:=hA.top (Ud hneed rfl (by intro z; cases z))
 have hfh:M.s.fs.lookup ("held":Str) = some (.ref pa):=by rw [Xw,hheld]
 have hact:Op.here.act M.s.text c = if c.i = x.2 then .run c else bk c.cs:=by
  show (match c.h with | []=>Cf.ended | p :: _=>if c.i = p.2 then Cf.run c else bk c.cs) = _
  rw [hch]
 refine (exA rfl ⟨m,C,dx,_,_,rfl,e1,MT.cl,MT.a4,Xc _,exA rfl ⟨m,C,dx,_,_,rfl,e1,MT.cl,MT.a6,hfh,pa,_,_,_,rfl,rfl,SqT.of hpa,rfl,rfl,exA rfl (?_)⟩⟩)
 by_cases e:c.i = x.2
 ·rw [if_pos e] at hact
  refine Zd (fun z=>?_) (q H M hM (by rw [hact]; exact hA) rfl rfl Gro.refl)
  have:V.int M.s.place = V.int (x.2:Int):=by rw [hA.pl,e]
  rw [decide_eq_true this] at z
  cases z
 ·rw [if_neg e] at hact
  refine Zq ?_ (exA rfl ⟨m,dx,exA rfl ⟨e1,Y8 _,m,M,rfl,hM,by omega,fun H' hM' g'=>?_⟩⟩)
  ·have:¬ V.int M.s.place = V.int (x.2:Int):=fun z=>by
    injection z with z
    rw [hA.pl] at z
    omega
   rw [decide_eq_false this]
   rfl
  ·have bf:=Ya M
   exact q H' _ hM' (by rw [hact]; exact hA.back.mono g'.tups) bf.1 bf.2 g'
abbrev s_do_lean:Stmt:=top 31
theorem Z1z:FnScope ["machine", "row"] ["machine", "row"] (Z5 s_do_lean):=fsc
theorem Z2e (MT:Txt K mg C) (F:Fun K "do_lean" "do_lean" s_do_lean f fd):FnOk P w K mg base CX0 1 f fd ["machine", "row"] (Tf C .lean):=by
 refine F.ok Z1z (fun vs H Q E h=>?_) (fun cdv A outer s H vs Q E hr h=>?_)
 ·obtain ⟨m,a,ra,ch,t,n,M,c,rfl,_⟩:=h
  rfl
 obtain ⟨m,a,ra,ch,t,n,M,c,rfl,hM,hA,hrow,ht,hci,hgo,hn,hneed,hcs,q⟩:=h
 refine ltX ?_
 intro Xz
 refine ⟨_,(Z4 (Y0 (Ze Zac (Zh (pv 0) rfl) Z6 (Zn _)) (Z4 (Z9 (X6 PySem.F.plainAttrs_list PySem.F.slot_list_append PySem.F.type_list_append Zu (Zh (pv 0) rfl) (Z0 (Zm (Z0 (Yi W8 (Zh (pv 0) rfl) Z6) (Z0 (Yi W8 (Zh (pv 0) rfl) Z6) (Z0 (Zh (pv 0) rfl) (Z0 (Zh (pv 0) rfl) Z3))))) Z3)))) Zr)),?_⟩
 refine Tp ?_
 intro Ez Az1
 obtain rfl:=hA.chs
 obtain rfl:=hA.text
 obtain ⟨⟨dx,e1⟩,vs,hv,hp⟩:=id hM
 have hl:=Paired.length hp
 have hcl:=hA.cslen
 have hact:Op.lean.act M.s.text c = if 0 < c.i then .run { c with cs:=c.cs ++ [(c.r - 1,c.i - 1,c.g,c.h)] } else .run c:=rfl
 refine (exA rfl ⟨m,C,dx,_,_,rfl,e1,MT.cl,MT.a4,Xc _,exB rfl rfl (exA rfl (?_))⟩)
 by_cases e:0 < c.i
 ·rw [if_pos e] at hact
  refine Zq (decide_eq_true (by rw [hA.pl]; omega)) ?_
  refine (exA rfl ⟨m,C,dx,_,_,rfl,e1,MT.cl,MT.a7,Y9 _,.inl ⟨rfl,_,SqL.of hv⟩,exA rfl ⟨m,C,dx,_,_,rfl,e1,MT.cl,MT.a3,Z1i _,exB rfl rfl (exA rfl ⟨m,C,dx,_,_,rfl,e1,MT.cl,MT.a4,Xc _,exB rfl rfl (exA rfl ⟨m,C,dx,_,_,rfl,e1,MT.cl,MT.a5,Yr _,exA rfl ⟨m,C,dx,_,_,rfl,e1,MT.cl,MT.a6,Xw _,sz,fun tp htp=>?_⟩⟩)⟩)⟩⟩)
  have g2:=Gro.new (S:=[m,M.s.choices]) htp (.tup [.int (M.s.row - 1),.int (M.s.place - 1),M.s.groups,M.s.held])
  have hM2:=hM.new (o:=.tup [.int (M.s.row - 1),.int (M.s.place - 1),M.s.groups,M.s.held]) htp
  have hv2:(upd H tp (.tup [.int (M.s.row - 1),.int (M.s.place - 1),M.s.groups,M.s.held])) M.s.choices = some (.lst vs):=by rw [Zf (Z7 hv htp)]; exact hv
  have hq2:=Paired.mapP hp fun _ _ q=>q.mono g2.tups
  have et:(upd H tp (.tup [.int (M.s.row - 1),.int (M.s.place - 1),M.s.groups,M.s.held])) tp = some (.tup [.int (M.s.row - 1),.int (M.s.place - 1),M.s.groups,M.s.held]):=Z1
  refine ⟨M.s.choices,vs,exA rfl ⟨rfl,hv2,big (by omega),?_⟩⟩
  obtain ⟨hM3,g3⟩:=hM2.push (q:=(M.s.row - 1,M.s.place - 1,M.s.groups,M.s.held)) hv2 hq2 et
  have gg:Gro [m,M.s.choices] H _:=g2.trans (g3.mono (by simp))
  have hA1:=hA.mono gg.tups
  refine q _ _ hM3 ?_ rfl rfl gg
  rw [hact]
  refine ⟨hA1.rows,rfl,rfl,hA1.en,hA1.row,hA1.pl,hA1.gs,hA1.hl,hA1.cs.snoc ⟨?_,?_,hA1.gs,hA1.hl⟩⟩
  ·show M.s.row - 1 = ((c.r - 1:Nat):Int)
   rw [hA.row]
   omega
  ·show M.s.place - 1 = ((c.i - 1:Nat):Int)
   rw [hA.pl]
   omega
 ·rw [if_neg e] at hact
  refine Zd (fun z=>?_) (q H M hM (by rw [hact]; exact hA) rfl rfl Gro.refl)
  have:=of_decide_eq_true z
  rw [hA.pl] at this
  omega
abbrev s_do_bar:Stmt:=top 29
theorem sc_do_bar:FnScope ["machine", "row", "held"] ["machine", "row"] (Z5 s_do_bar):=fsc
theorem Z46 {z:Nat} (T:Blt mg) (MT:Txt K mg C) (O_Machine_hold:OwnM P w K mg base 1 C "hold" ["self", "number"] (Wv C)) (F:Fun K "do_bar" "do_bar" s_do_bar f fd):FnOk P w K mg base CX0 2 f fd ["machine", "row"] (Tf C (.bar z)):=by
 refine F.ok sc_do_bar (fun vs H Q E h=>?_) (fun cdv A outer s H vs Q E hr h=>?_)
 ·obtain ⟨m,a,ra,ch,t,n,M,c,rfl,_⟩:=h
  rfl
 obtain ⟨m,a,ra,ch,t,n,M,c,rfl,hM,hA,hrow,ht,hci,hgo,hn,hneed,hcs,q⟩:=h
 refine ltX ?_
 intro Xz
 refine ⟨_,(Z2 (pS 2 sc_do_bar.nd (Zh (pv 0) rfl))
  (Z2 (Z9 (Yh (O_Machine_hold.mono (by omega)) MT.cl hr (pv 0) (Z0 (Zc Zk rfl T.b_len PyProof.Rows.Boot.«len» (Z0 (Zh (pv 0) rfl) Z3)) Z3)))
  (Z4 (Z9 (X6 PySem.F.plainAttrs_list PySem.F.slot_list_append PySem.F.type_list_append Zu (Zh (pv 0) rfl) (Z0 (Zm (Z0 (Zl Zb (pv 1) Z6 (fun _ _=>rfl)) (Z0 (Zh (pv 0) rfl) (Z0 (Zh (pv 0) rfl) (Z0 (pv 2) Z3))))) Z3)))))),?_⟩
 refine Z0u ?_
 intro Ez Az1 Az2
 obtain rfl:=hA.chs
 obtain rfl:=hA.text
 obtain ⟨⟨dx,e1⟩,vs,hv,hp⟩:=id hM
 obtain ⟨a',e,ha⟩:=hrow
 cases e
 have hl:=Paired.length hp
 have hcl:=hA.cslen
 refine (exA rfl ⟨m,C,dx,_,_,rfl,e1,MT.cl,MT.a6,Xw _,?_⟩)
 refine (exA rfl ⟨m,dx,exA rfl ⟨e1,Z00 _,exA rfl ⟨m,C,dx,_,_,rfl,e1,MT.cl,MT.a7,Y9 _,M.s.choices,vs,rfl,.inl (SqL.of hv),m,_,M,rfl,hM,fun H1 p hM1 hp1 g1=>?_⟩⟩⟩)
 obtain ⟨⟨dx1,f1⟩,vs1,hv1,hq1⟩:=id hM1
 have hv1':H1 M.s.choices = some (.lst vs1):=hv1
 have hl1:vs1.length = M.cs.length:=Paired.length hq1
 refine (exA rfl ⟨m,C,dx1,_,_,rfl,f1,MT.cl,MT.a7,Y9 _,.inl ⟨rfl,_,SqL.of hv1'⟩,ixT (g1.tups _ _ ha) rfl ⟨_,rfl,m,C,dx1,_,_,rfl,f1,MT.cl,MT.a4,Xc _,_,rfl,m,C,dx1,_,_,rfl,f1,MT.cl,MT.a5,Yr _,_,rfl,sz,fun tp htp=>?_⟩⟩)
 have g2:=Gro.new (S:=[m,M.s.choices]) htp (.tup [.int z,.int M.s.place,M.s.groups,M.s.held])
 have hM2:=hM1.new (o:=.tup [.int z,.int M.s.place,M.s.groups,M.s.held]) htp
 have hv2:(upd H1 tp (.tup [.int z,.int M.s.place,M.s.groups,M.s.held])) M.s.choices = some (.lst vs1):=by rw [Zf (Z7 hv1' htp)]; exact hv1'
 have hq2:=Paired.mapP hq1 fun _ _ q=>q.mono g2.tups
 have et:(upd H1 tp (.tup [.int z,.int M.s.place,M.s.groups,M.s.held])) tp = some (.tup [.int z,.int M.s.place,M.s.groups,M.s.held]):=Z1
 refine ⟨M.s.choices,vs1,exA rfl ⟨rfl,hv2,big (by omega),?_⟩⟩
 obtain ⟨hM3,g3⟩:=hM2.push (q:=((z:Int),M.s.place,M.s.groups,M.s.held)) hv2 hq2 et
 have gg:Gro [m,M.s.choices] H _:=((g1.mono (by simp)).trans g2).trans (g3.mono (by simp))
 have hA1:=hA.mono gg.tups
 refine q _ _ hM3 ⟨hA1.rows,rfl,rfl,hA1.en,hA1.row,hA1.pl,hA1.gs,⟨p,exA rfl ⟨?_,hA1.hl⟩⟩,hA1.cs.snoc ⟨rfl,hA1.pl,hA1.gs,hA1.hl⟩⟩ rfl rfl gg
 rw [g3.tups _ _ (g2.tups _ _ hp1),hA.pl,show vs.length = c.cs.length by omega]
end
section
variable {P:Program} {w:World} {K:PySem.W.Frag} {mg:Str→Option Value} {base:Heap} {f C:Addr} {fd:FuncData}
abbrev s_do_next:Stmt:=top 25
theorem sc_do_next:FnScope ["machine", "row", "pair"] ["machine", "row"] (Z5 s_do_next):=fsc
theorem Z2d {lo:Int} {z:Nat} (MT:Txt K mg C) (O_Machine_let_go:OwnM P w K mg base 1 C "let_go" ["self"] (Wu C)) (O_Machine_go_back:OwnM P w K mg base 2 C "go_back" ["self"] (X1 C)) (F:Fun K "do_next" "do_next" s_do_next f fd):FnOk P w K mg base CX0 3 f fd ["machine", "row"] (Tf C (.next lo z)):=by
 refine F.ok sc_do_next (fun vs H Q E h=>?_) (fun cdv A outer s H vs Q E hr h=>?_)
 ·obtain ⟨m,a,ra,ch,t,n,M,c,rfl,_⟩:=h
  rfl
 obtain ⟨m,a,ra,ch,t,n,M,c,rfl,hM,hA,hrow,ht,hci,hgo,hn,hneed,hcs,q⟩:=h
 refine ltX ?_
 intro Xz
 refine ⟨_,(Z2 (pS 2 sc_do_next.nd (Y2 (O_Machine_let_go.mono (by omega)) MT.cl hr (pv 0)))
  (Z4 (Y0 (PW.pt (U2 (Ze Z89 (Zl Zb (pv 2) Z6 (fun _ _=>rfl)) (Zl Zb (pv 1) Z6 (fun _ _=>rfl)) (Zn _)) (V2 (Ze Yc (Zh (pv 0) rfl) (Zl Zb (pv 2) Z6 (fun _ _=>rfl)) (Zn _))))) (Z4 (Z9 (Y2 (O_Machine_go_back.mono (by omega)) MT.cl hr (pv 0)))) (Z2 (Y3 (pv 0) (Zm (Z0 (Yi Xh (Zl Zb (pv 2) Z6 (fun _ _=>rfl)) Z6) (Z0 (Zl Zb (pv 2) Z6 (fun _ _=>rfl)) (Z0 (Zl Zb (pv 2) Z6 (fun _ _=>rfl)) Z3)))) rfl)
  (Z4 (Y3 (pv 0) (Zl Zb (pv 1) Z6 (fun _ _=>rfl)) rfl)))))),?_⟩
 refine Z9t ?_
 intro Ez Az1 Az2 Az3 Az4
 obtain rfl:=hA.chs
 obtain rfl:=hA.text
 obtain ⟨⟨dx,e1⟩,_⟩:=id hM
 obtain ⟨a',e,ha⟩:=hrow
 cases e
 have hcl:=hA.cslen
 obtain ⟨x,r,pa,v',hch,hheld,hpa,hl'⟩:=hA.top (Ud hneed rfl (by intro z; cases z))
 have hact:(Op.next lo z).act M.s.text c = if lo ≤ x.1∧c.i = x.2 then bk c.cs else .run ⟨z,c.i,c.g,(x.1 + 1,x.2) :: r,c.cs⟩:=by
  show (match c.h with | []=>Cf.ended | p :: h=>if lo ≤ p.1∧c.i = p.2 then bk c.cs else .run ⟨z,c.i,c.g,(p.1 + 1,p.2) :: h,c.cs⟩) = _
  rw [hch]
 refine (exA rfl ⟨m,dx,exA rfl ⟨e1,Xi _,m,pa,M,_,_,_,rfl,hM,hheld,hpa,fun H1 hM1 g1=>?_⟩⟩)
 obtain ⟨⟨dx1,f1⟩,_⟩:=id hM1
 have hpa1:=g1.tups _ _ hpa
 have ha1:=g1.tups _ _ ha
 have hA1:=hA.mono g1.tups
 have hA2:Ab H1 ra M.s.text M.s.choices ⟨{ M.s with held:=v' },M.cs⟩ { c with h:=r }:=⟨hA1.rows,rfl,rfl,hA1.en,hA1.row,hA1.pl,hA1.gs,hl'.mono g1.tups,hA1.cs⟩
 have goback:lo ≤ x.1∧c.i = x.2→X1 C [.ref m] H1 (fun _ H'=>Q .non H') E:=fun hc=>by
  rw [if_pos hc] at hact
  refine ⟨m,_,rfl,hM1,by show M.cs.length ≤ _; omega,fun H' hM' g'=>?_⟩
  have bf:=Ya ⟨{ M.s with held:=v' },M.cs⟩
  exact q H' _ hM' (by rw [hact]; exact hA2.back.mono g'.tups) bf.1 bf.2 ((g1.mono (by simp)).trans g')
 have onward:¬ (lo ≤ x.1∧c.i = x.2)→∀ p:Addr,H1 p = none→Q .non (upd (upd H1 p (.tup [.int ((x.1:Int) + 1),.int x.2,v'])) m (.ins C dx1 ({ M.s with held:=.ref p,row:=(z:Int) }:MS).fs)):=fun hc p hp=>by
  rw [if_neg hc] at hact
  have hM2:=hM1.new (o:=.tup [.int ((x.1:Int) + 1),.int x.2,v']) hp
  have f2:(upd H1 p (.tup [.int ((x.1:Int) + 1),.int x.2,v'])) m = some (.ins C dx1 ({ M.s with held:=v' }:MS).fs):=by rw [Zf (Z7 f1 hp)]; exact f1
  have g2:=Gro.new (S:=[m,M.s.choices]) hp (.tup [.int ((x.1:Int) + 1),.int x.2,v'])
  have g3:Gro [m,M.s.choices] (upd H1 p (.tup [.int ((x.1:Int) + 1),.int x.2,v'])) (upd (upd H1 p (.tup [.int ((x.1:Int) + 1),.int x.2,v'])) m (.ins C dx1 ({ M.s with held:=.ref p,row:=(z:Int) }:MS).fs)):=Gro.ins (by simp) f2 _
  have gg:=((g1.mono (S':=[m,M.s.choices]) (by simp)).trans g2).trans g3
  have hA3:=hA.mono gg.tups
  refine q _ _ (hM2.put (s':={ M.s with held:=.ref p,row:=(z:Int) }) f2 rfl) ?_ rfl rfl gg
  rw [hact]
  exact ⟨hA3.rows,rfl,rfl,hA3.en,rfl,hA3.pl,hA3.gs,⟨p,v',rfl,g3.tups _ _ Z1,hl'.mono gg.tups⟩,hA3.cs⟩
 refine (ixT hpa1 at0 (ixT ha1 rfl ⟨_,_,rfl,rfl,_,rfl,?_⟩))
 have rest:¬ (lo ≤ x.1∧c.i = x.2)→_:=onward
 by_cases hlo:lo ≤ x.1
 ·refine Zq (decide_eq_true hlo) ?_
  refine (exA rfl ⟨m,C,dx1,_,_,rfl,f1,MT.cl,MT.a4,Xc _,ixT hpa1 rfl ⟨rfl,_,rfl,?_⟩⟩)
  by_cases hi:c.i = x.2
  ·refine Zq (decide_eq_true ?_) (exA rfl ⟨m,dx1,exA rfl ⟨f1,Y8 _,goback ⟨hlo,hi⟩⟩⟩)
   show V.int M.s.place = V.int (x.2:Int)
   rw [hA.pl,hi]
  ·refine Zd (fun z=>?_) ?_
   ·have z':V.int M.s.place = V.int (x.2:Int):=of_decide_eq_true z
    injection z' with z'
    rw [hA.pl] at z'
    omega
   ·refine (ixT hpa1 at0 ⟨_,_,rfl,rfl,ixT hpa1 rfl (ixT hpa1 rfl ⟨sz,fun p hp=>?_⟩)⟩)
    have f2:(upd H1 p (.tup [.int ((x.1:Int) + 1),.int x.2,v'])) m = some (.ins C dx1 ({ M.s with held:=v' }:MS).fs):=by rw [Zf (Z7 f1 hp)]; exact f1
    refine (exA rfl ⟨m,C,dx1,exA rfl ⟨f2,MT.cl,MT.a6,Ye _,?_⟩⟩)
    rw [Va]
    have ha2:=(Gro.ins (S:=[m]) (by simp) f2 (.ins C dx1 ({ M.s with held:=.ref p }:MS).fs)).tups _ _ ((Gro.new (S:=[]) hp (.tup [.int ((x.1:Int) + 1),.int x.2,v'])).tups _ _ ha1)
    refine (ixT ha2 rfl ⟨_,rfl,m,C,dx1,_,rfl,Z1,MT.cl,MT.a3,Ye _,?_⟩)
    rw [U4,Z2w]
    exact onward (fun h=>hi h.2) p hp
 ·refine Zd (fun z=>hlo (of_decide_eq_true z)) (Zd (by decide) ?_)
  refine (ixT hpa1 at0 ⟨_,_,rfl,rfl,ixT hpa1 rfl (ixT hpa1 rfl ⟨sz,fun p hp=>?_⟩)⟩)
  have f2:(upd H1 p (.tup [.int ((x.1:Int) + 1),.int x.2,v'])) m = some (.ins C dx1 ({ M.s with held:=v' }:MS).fs):=by rw [Zf (Z7 f1 hp)]; exact f1
  refine (exA rfl ⟨m,C,dx1,exA rfl ⟨f2,MT.cl,MT.a6,Ye _,?_⟩⟩)
  rw [Va]
  have ha2:=(Gro.ins (S:=[m]) (by simp) f2 (.ins C dx1 ({ M.s with held:=.ref p }:MS).fs)).tups _ _ ((Gro.new (S:=[]) hp (.tup [.int ((x.1:Int) + 1),.int x.2,v'])).tups _ _ ha1)
  refine (ixT ha2 rfl ⟨_,rfl,m,C,dx1,_,rfl,Z1,MT.cl,MT.a3,Ye _,?_⟩)
  rw [U4,Z2w]
  exact onward (fun h=>hlo h.1) p hp
end
section
variable {P:Program} {w:World} {K:PySem.W.Frag} {mg:Str→Option Value} {base:Heap} {f C:Addr} {fd:FuncData}
theorem Z67 {K:PySem.W.Frag} {σ:L2.St} {H:Hp} {Q:VK} {a:Addr} {n:Nat} {hi:Option Int} {xs:List V} (h1:σ[1]? = some (some (.ref a))) (h2:σ[2]? = some (some (.int n))) (ha:H a = some (.tup xs)) (hx:atI xs 2 = some (Z98 hi)) (q:Q (.bl (Z2i hi n)) H) :
  Zc4 (Zc6 (tOp (Z3k K) (Jk 1) (tC (.int 2)))) (tOp (rI0 fun i j=>V.bl (decide (i < j))) (Jk 2) (tOp (Z3k K) (Jk 1) (tC (.int 2)))) σ H Q:=by
 refine ⟨_,h1,a,_,_,_,rfl,rfl,SqT.of ha,hx,exA rfl (?_)⟩
 cases hi with
 | none=>exact Zq (by decide) q
 | some y=>exact Zd (by intro z; have z':=of_decide_eq_true z; cases z') ⟨_,h2,_,h1,a,_,_,_,rfl,rfl,SqT.of ha,hx,exB rfl rfl q⟩
abbrev s_do_turn:Stmt:=top 24
theorem sc_do_turn:FnScope ["machine", "row", "turns", "below", "going", "stopping", "may_go", "may_stop", "little"] ["machine", "row"] (Z5 s_do_turn):=fsc
theorem Z2a {lo:Int} {hi:Option Int} {how:How} {z:Nat} (MT:Txt K mg C) (O_Machine_enter:OwnM P w K mg base 1 C "enter" ["self", "state"] (Xr C)) (O_Machine_go_back:OwnM P w K mg base 2 C "go_back" ["self"] (X1 C)) (F:Fun K "do_turn" "do_turn" s_do_turn f fd):FnOk P w K mg base CX0 3 f fd ["machine", "row"] (Tf C (.turn lo hi how z)):=by
 refine F.ok sc_do_turn (fun vs H Q E h=>?_) (fun cdv A outer s H vs Q E hr h=>?_)
 ·obtain ⟨m,a,ra,ch,t,n,M,c,rfl,_⟩:=h
  rfl
 obtain ⟨m,a,ra,ch,t,n,M,c,rfl,hM,hA,hrow,ht,hci,hgo,hn,hneed,hcs,q⟩:=h
 refine ltX ?_
 intro Xz
 refine ⟨_,(Z2 (pS 2 sc_do_turn.nd (Zl Zb (Zh (pv 0) rfl) Z6 (fun _ _=>rfl)))
  (Z2 (pS 3 sc_do_turn.nd (Zl Zb (Zh (pv 0) rfl) Z6 (fun _ _=>rfl)))
  (Z2 (pS 4 sc_do_turn.nd (Zm (Z0 (Zh (pv 0) rfl) (Z0 (Zh (pv 0) rfl) (Z0 (Zh (pv 0) rfl) (Z0 (Zm (Z0 (pv 2) (Z0 (Zh (pv 0) rfl) (Z0 (pv 3) Z3)))) Z3))))))
  (Z2 (pS 5 sc_do_turn.nd (Zm (Z0 (Zl Zb (pv 1) Z6 (fun _ _=>rfl)) (Z0 (Zh (pv 0) rfl) (Z0 (Zh (pv 0) rfl) (Z0 (pv 3) Z3))))))
  (Z2 (pS 6 sc_do_turn.nd (Zbl (Z6z (Tu (Zl Zb (pv 1) Z6 (fun _ _=>rfl)))) (Z10 (X5 Zaa (pv 2) (Zl Zb (pv 1) Z6 (fun _ _=>rfl)) (Zn _)))))
  (Z2 (pS 7 sc_do_turn.nd (X5 Z89 (pv 2) (Zl Zb (pv 1) Z6 (fun _ _=>rfl)) (Zn _)))
  (Z4 (Y0 (PW.pt (U2 (Yt (pv 6)) (V2 (Yt (pv 7))))) (Z2 (pS 8 sc_do_turn.nd (X5 Yc (Zl Zb (pv 1) Z6 (fun _ _=>rfl)) Zj (Zn _)))
  (Z2 (Z9 (X6 PySem.F.plainAttrs_list PySem.F.slot_list_append PySem.F.type_list_append Zu (Zh (pv 0) rfl) (Z0 (W6 (Yt (pv 8)) (pv 4) (pv 5)) Z3)))
  (Z4 (Z9 (Yh (O_Machine_enter.mono (by omega)) MT.cl hr (pv 0) (Z0 (W6 (Yt (pv 8)) (pv 5) (pv 4)) Z3)))))) (Z4 (Y0 (Yt (pv 6)) (Z4 (Z9 (Yh (O_Machine_enter.mono (by omega)) MT.cl hr (pv 0) (Z0 (pv 4) Z3)))) (Z4 (Y0 (Yt (pv 7)) (Z4 (Z9 (Yh (O_Machine_enter.mono (by omega)) MT.cl hr (pv 0) (Z0 (pv 5) Z3)))) (Z4 (Z9 (Y2 (O_Machine_go_back.mono (by omega)) MT.cl hr (pv 0)))))))))))))))),?_⟩
 refine Z9z ?_
 intro Ez Az1 Az2 Az3 Az4 Az5 Az6 Az7 Az8 Az9 Az10 Az11 Az12 Az13 Az14
 obtain rfl:=hA.chs
 obtain rfl:=hA.text
 obtain ⟨⟨dx,e1⟩,vs,hv,hvp⟩:=id hM
 obtain ⟨a',e,ha⟩:=hrow
 cases e
 have hcl:=hA.cslen
 have hvl:=Paired.length hvp
 obtain ⟨x,r,pa,v',hch,hheld,hpa,hl'⟩:=hA.top (Ud hneed rfl (by intro z; cases z))
 have hfh:M.s.fs.lookup ("held":Str) = some (.ref pa):=by rw [Xw,hheld]
 refine (exA rfl ⟨m,C,dx,_,_,rfl,e1,MT.cl,MT.a6,hfh,pa,_,_,_,rfl,rfl,SqT.of hpa,at0,?_⟩)
 refine (exA rfl ⟨m,C,dx,_,_,rfl,e1,MT.cl,MT.a6,hfh,pa,_,_,_,rfl,rfl,SqT.of hpa,rfl,?_⟩)
 refine (exA rfl ⟨m,C,dx,_,_,rfl,e1,MT.cl,MT.a3,Z1i _,exA rfl ⟨m,C,dx,_,_,rfl,e1,MT.cl,MT.a4,Xc _,exA rfl ⟨m,C,dx,_,_,rfl,e1,MT.cl,MT.a5,Yr _,exA rfl (exA rfl ⟨m,C,dx,_,_,rfl,e1,MT.cl,MT.a4,Xc _,exA rfl ⟨sz,fun p1 hp1=>⟨sz,fun p2 hp2=>?_⟩⟩⟩)⟩⟩⟩)
 have g1:Gro [] H (upd (upd H p1 (.tup [.int x.1,.int M.s.place,v'])) p2 (.tup [.int M.s.row,.int M.s.place,M.s.groups,.ref p1])):=(Gro.new hp1 _).tup hp2
 have t1:(upd (upd H p1 (.tup [.int x.1,.int M.s.place,v'])) p2 (.tup [.int M.s.row,.int M.s.place,M.s.groups,.ref p1])) p1 = some (.tup [.int x.1,.int M.s.place,v']):=by rw [Zf (Z7 Z1 hp2)]; exact Z1
 have t2:(upd (upd H p1 (.tup [.int x.1,.int M.s.place,v'])) p2 (.tup [.int M.s.row,.int M.s.place,M.s.groups,.ref p1])) p2 = some (.tup [.int M.s.row,.int M.s.place,M.s.groups,.ref p1]):=Z1
 have hM1:=hM.gro g1 (by simp) (by simp)
 have f1:=g1.keep _ _ e1 (by simp)
 have ha1:=g1.tups _ _ ha
 generalize upd (upd H p1 (.tup [.int x.1,.int M.s.place,v'])) p2 (.tup [.int M.s.row,.int M.s.place,M.s.groups,.ref p1]) = H1 at *
 refine (ixT ha1 rfl ⟨_,rfl,m,C,dx,_,_,rfl,f1,MT.cl,MT.a4,Xc _,_,rfl,m,C,dx,_,_,rfl,f1,MT.cl,MT.a5,Yr _,_,rfl,sz,fun p3 hp3=>?_⟩)
 have g2:=Gro.new (S:=[]) hp3 (.tup [.int z,.int M.s.place,M.s.groups,v'])
 have t3:(upd H1 p3 (.tup [.int z,.int M.s.place,M.s.groups,v'])) p3 = some (.tup [.int z,.int M.s.place,M.s.groups,v']):=Z1
 have hM2:=hM1.new (o:=.tup [.int z,.int M.s.place,M.s.groups,v']) hp3
 have f2:=g2.keep _ _ f1 (by simp)
 have ha2:=g2.tups _ _ ha1
 have t1':=g2.tups _ _ t1
 have t2':=g2.tups _ _ t2
 have g12:=g1.trans g2
 have hv2:=g12.keep _ _ hv (by simp)
 have hvp2:=Paired.mapP hvp fun _ _ q=>q.mono g12.tups
 generalize upd H1 p3 (.tup [.int z,.int M.s.place,M.s.groups,v']) = H2 at *
 have hA2:=hA.mono g12.tups
 have hHl:HlAt H2 (.ref p1) ((x.1,c.i) :: r):=⟨p1,v',rfl,by rw [t1',hA.pl],hl'.mono g12.tups⟩
 have hact:(Op.turn lo hi how z).act M.s.text c = if Z2i hi x.1 = true then
    (if lo ≤ x.1 then (match how with
     | .little=>.run ⟨z,c.i,c.g,r,c.cs ++ [(c.r,c.i,c.g,(x.1,c.i) :: r)]⟩
     | _=>.run ⟨c.r,c.i,c.g,(x.1,c.i) :: r,c.cs ++ [(z,c.i,c.g,r)]⟩)
    else .run ⟨c.r,c.i,c.g,(x.1,c.i) :: r,c.cs⟩)
   else if lo ≤ x.1 then .run ⟨z,c.i,c.g,r,c.cs⟩ else bk c.cs:=by
  cases how <;> simp only [Op.act,hch]
 have goG:∀ (H3:Hp) (cs:List Chc) (cs':List Ch),MAt C H3 m ⟨M.s,cs⟩→Gro [m,M.s.choices] H2 H3→Paired (ChA H3) cs cs'→(Op.turn lo hi how z).act M.s.text c = .run ⟨c.r,c.i,c.g,(x.1,c.i) :: r,cs'⟩→Xr C [.ref m,.ref p2] H3 (fun _ H'=>Q .non H') E:=fun H3 cs cs' hM3 g3 hcs' hact' =>
  ⟨m,p2,⟨M.s,cs⟩,(M.s.row,M.s.place,M.s.groups,.ref p1),rfl,hM3,g3.tups _ _ t2',fun H' hM' g'=>by
   have gg:=(g12.mono (S':=[m,M.s.choices]) (by simp)).trans (g3.trans g')
   have hA3:=hA.mono gg.tups
   refine q H' _ hM' ?_ rfl rfl gg
   rw [hact']
   exact ⟨hA3.rows,rfl,rfl,hA3.en,hA3.row,hA3.pl,hA3.gs,hHl.mono fun b xs h=>g'.tups _ _ (g3.tups _ _ h),Paired.mapP hcs' fun _ _ h=>h.mono g'.tups⟩⟩
 have goS:∀ (H3:Hp) (cs:List Chc) (cs':List Ch),MAt C H3 m ⟨M.s,cs⟩→Gro [m,M.s.choices] H2 H3→Paired (ChA H3) cs cs'→(Op.turn lo hi how z).act M.s.text c = .run ⟨z,c.i,c.g,r,cs'⟩→Xr C [.ref m,.ref p3] H3 (fun _ H'=>Q .non H') E:=fun H3 cs cs' hM3 g3 hcs' hact' =>
  ⟨m,p3,⟨M.s,cs⟩,((z:Int),M.s.place,M.s.groups,v'),rfl,hM3,g3.tups _ _ t3,fun H' hM' g'=>by
   have gg:=(g12.mono (S':=[m,M.s.choices]) (by simp)).trans (g3.trans g')
   have hA3:=hA.mono gg.tups
   refine q H' _ hM' ?_ rfl rfl gg
   rw [hact']
   exact ⟨hA3.rows,rfl,rfl,hA3.en,rfl,hA3.pl,hA3.gs,hl'.mono gg.tups,Paired.mapP hcs' fun _ _ h=>h.mono g'.tups⟩⟩
 refine Z67 rfl rfl ha2 rfl ?_
 refine (exA rfl (ixT ha2 rfl ⟨_,_,rfl,rfl,?_⟩))
 refine (exA rfl (exA rfl (?_)))
 cases hG:Z2i hi x.1 with
 | true =>
  rw [hG,if_pos rfl] at hact
  refine Zq rfl (exA rfl (exA rfl (?_)))
  by_cases hlo:lo ≤ x.1
  ·rw [if_pos hlo] at hact
   refine Zq (decide_eq_true hlo) ?_
   refine (ixT ha2 rfl ⟨rfl,?_⟩)
   refine (exA rfl ⟨m,C,dx,_,_,rfl,f2,MT.cl,MT.a7,Y9 _,.inl ⟨rfl,_,SqL.of hv2⟩,exA rfl (exA rfl (?_))⟩)
   by_cases hl:how = .little
   ·subst hl
    refine Zq (show isw "little" "little" = true by decide +kernel) (exA rfl ⟨M.s.choices,vs,exA rfl ⟨rfl,hv2,big (by omega),?_⟩⟩)
    obtain ⟨hM3,g3⟩:=hM2.push (q:=(M.s.row,M.s.place,M.s.groups,.ref p1)) hv2 hvp2 t2'
    obtain ⟨⟨dx3,f3⟩,_⟩:=id hM3
    refine (exA rfl ⟨m,dx3,exA rfl ⟨f3,Wa _,exA rfl (exA rfl (Zq (show isw "little" "little" = true by decide +kernel) (exA rfl (?_))))⟩⟩)
    exact goS _ _ _ hM3 (g3.mono (by simp)) ((Paired.mapP hA2.cs fun _ _ h=>h.mono g3.tups).snoc ⟨hA.row,hA.pl,hA2.gs.mono g3.tups,hHl.mono g3.tups⟩) hact
   ·have hn':¬ isw how.text "little" = true:=by
     cases how with
     | little=>exact absurd rfl hl
     | much=>decide +kernel
     | keep=>decide +kernel
    have hact':(Op.turn lo hi how z).act M.s.text c = .run ⟨c.r,c.i,c.g,(x.1,c.i) :: r,c.cs ++ [(z,c.i,c.g,r)]⟩:=by
     cases how with
     | little=>exact absurd rfl hl
     | much=>exact hact
     | keep=>exact hact
    refine Zd hn' (exA rfl ⟨M.s.choices,vs,exA rfl ⟨rfl,hv2,big (by omega),?_⟩⟩)
    obtain ⟨hM3,g3⟩:=hM2.push (q:=((z:Int),M.s.place,M.s.groups,v')) hv2 hvp2 t3
    obtain ⟨⟨dx3,f3⟩,_⟩:=id hM3
    refine (exA rfl ⟨m,dx3,exA rfl ⟨f3,Wa _,exA rfl (exA rfl (Zd hn' (exA rfl (?_))))⟩⟩)
    exact goG _ _ _ hM3 (g3.mono (by simp)) ((Paired.mapP hA2.cs fun _ _ h=>h.mono g3.tups).snoc ⟨rfl,hA.pl,hA2.gs.mono g3.tups,(hl'.mono g12.tups).mono g3.tups⟩) hact'
  ·rw [if_neg hlo] at hact
   refine Zd (fun z=>hlo (of_decide_eq_true z)) (exA rfl (exA rfl (Zq rfl ?_)))
   exact (exA rfl ⟨m,dx,exA rfl ⟨f2,Wa _,exA rfl (goG H2 M.cs c.cs hM2 Gro.refl hA2.cs hact)⟩⟩)
 | false =>
  rw [hG,if_neg (by decide)] at hact
  refine Zd (by decide) (Zd (by decide) (exA rfl (exA rfl (Zd (by decide) (exA rfl (exA rfl (?_)))))))
  by_cases hlo:lo ≤ x.1
  ·rw [if_pos hlo] at hact
   refine Zq (decide_eq_true hlo) ?_
   exact (exA rfl ⟨m,dx,exA rfl ⟨f2,Wa _,exA rfl (goS H2 M.cs c.cs hM2 Gro.refl hA2.cs hact)⟩⟩)
  ·rw [if_neg hlo] at hact
   refine Zd (fun z=>hlo (of_decide_eq_true z)) (exA rfl ⟨m,dx,exA rfl ⟨f2,Y8 _,m,M,rfl,hM2,by omega,fun H' hM' g'=>?_⟩⟩)
   have bf:=Ya M
   exact q H' _ hM' (by rw [hact]; exact hA2.back.mono g'.tups) bf.1 bf.2 ((g12.mono (by simp)).trans g')
end
theorem Z5j {H:Hp} {a:Addr} {o:Op} (h:RowAt H (.ref a) o.rw):∃ r,H a = some (.tup (.str o.word :: r)):=by
 cases o with
 | pat hd =>
  obtain ⟨a',kv,e',l,_⟩:=h
  cases e'
  exact l.head
 | _=>obtain ⟨a',e',h⟩:=h; cases e'; exact ⟨_,h⟩
def Cf.csl:Cf→Nat
 | .run c=>c.cs.length
 | .ended=>0
theorem Z54 (cs:List Ch):(bk cs).csl ≤ cs.length:=by
 unfold bk
 split
 ·exact Nat.zero_le _
 ·show cs.dropLast.length ≤ _
  rw [List.length_dropLast]
  omega
theorem Z93 (t:Str) (o:Op) (c:Cg):(o.act t c).csl ≤ c.cs.length + 1:=by
 have b:=Z54 c.cs
 have one:∀ q:Ch,(c.cs ++ [q]).length ≤ c.cs.length + 1:=fun q=>by rw [List.length_append]; exact Nat.le_refl _
 have tk:∀ k,(c.cs.take k).length ≤ c.cs.length + 1:=fun k=>by rw [List.length_take]; omega
 cases o with
 | pat h =>
  cases h with
  | beg=>simp only [Op.act]; split <;> first | exact Nat.le_succ _ | omega
  | fin=>simp only [Op.act]; split <;> first | exact Nat.le_succ _ | omega
  | again k =>
   simp only [Op.act]
   split
   ·omega
   ·split <;> first | exact Nat.le_succ _ | omega
  | _=>simp only [Op.act]; split <;> first | exact Nat.le_succ _ | omega
 | try_ z=>exact one _
 | go z=>exact Nat.le_succ _
 | have_ k z=>simp only [Op.act]; split <;> exact Nat.le_succ _
 | turns=>exact Nat.le_succ _
 | open_=>exact Nat.le_succ _
 | close k=>simp only [Op.act]; split <;> first | exact Nat.zero_le _ | exact Nat.le_succ _
 | turn lo hi how z =>
  simp only [Op.act]
  split
  ·exact Nat.zero_le _
  ·split
   ·split
    ·split <;> exact one _
    ·exact Nat.le_succ _
   ·split
    ·exact Nat.le_succ _
    ·omega
 | next lo z =>
  simp only [Op.act]
  split
  ·exact Nat.zero_le _
  ·split
   ·omega
   ·exact Nat.le_succ _
 | once=>exact Nat.le_succ _
 | kept=>simp only [Op.act]; split <;> first | exact Nat.zero_le _ | exact tk _
 | peeked=>simp only [Op.act]; split <;> first | exact Nat.zero_le _ | exact tk _
 | bar z=>exact one _
 | barred =>
  simp only [Op.act]
  split
  ·exact Nat.zero_le _
  ·rename_i p _ _
   have h1:=Z54 (c.cs.take p.1)
   have h2:=tk p.1
   omega
 | lean=>simp only [Op.act]; split <;> first | exact one _ | exact Nat.le_succ _
 | here =>
  simp only [Op.act]
  split
  ·exact Nat.zero_le _
  ·split
   ·exact Nat.le_succ _
   ·omega
 | found=>exact Nat.le_succ _
theorem Uv (es:List Op) (t:Str) (M:Cf):∀ k,(run es t k M).csl ≤ M.csl + k
 | 0=>Nat.le_refl _
 | k + 1=>by
  have ih:=Uv es t M k
  show (step es t (run es t k M)).csl ≤ _
  cases h:run es t k M with
  | ended=>exact Nat.zero_le _
  | run c =>
   rw [h] at ih
   have:=Z93 t (es.getD c.r .found) { c with r:=c.r + 1 }
   show ((es.getD c.r .found).act t { c with r:=c.r + 1 }).csl ≤ _
   have ih':c.cs.length ≤ M.csl + k:=ih
   have th':_ ≤ c.cs.length + 1:=this
   omega
section
variable {P:Program} {w:World} {K:PySem.W.Frag} {mg:Str→Option Value} {base:Heap} {C:Addr}
theorem Ug {o:Op} {row:Hp→Addr→Prop} {go:MM→MM} (hrow:∀ H a,RowAt H (.ref a) o.rw→row H a) (hgo:∀ (H:Hp) (ra ch:Addr) (t:Str) (n:Nat) (M:MM) (c:Cg),Ab H ra t ch M c→AbF H ra t ch (go M) (o.act t c)∧(go M).s.made = M.s.made∧(go M).s.found = o.fd M.s.found) :
  ∀ vs H Q E,Tf C o vs H Q E→Jn C Z97 row go vs H Q E:=by
 rintro vs H Q E ⟨m,a,ra,ch,t,n,M,c,rfl,hM,hA,hr,ht,hci,hg,hn,hneed,hcs,q⟩
 have hl:=hA.cslen
 refine ⟨m,a,M,rfl,hM,by omega,⟨by rw [hA.pl]; omega,by rw [hA.text]; exact ht⟩,hrow H a hr,fun H' hM' g'=>?_⟩
 obtain ⟨h1,h2,h3⟩:=hgo H ra ch t n M c hA
 have g'':Gro [m,ch] H H':=by rw [← hA.chs]; exact g'
 exact q H' _ hM' (h1.mono g'.tups) h2 h3 g''
theorem Z94 {h:Hd} (h1:h.one = true) (H:Hp) (ra ch:Addr) (t:Str) (n:Nat) (M:MM) (c:Cg) (hA:Ab H ra t ch M c):AbF H ra t ch (MM.doSign h M) ((Op.pat h).act t c)∧(MM.doSign h M).s.made = M.s.made∧(MM.doSign h M).s.found = (Op.pat h).fd M.s.found:=by
 have hact:(Op.pat h).act t c = if Zv h t c.i = true then .run { c with i:=c.i + 1 } else bk c.cs:=by
  cases h <;> first | rfl | cases h1
 have b:=Ya M
 unfold MM.doSign
 rw [hact,hA.text,hA.pl]
 split
 ·exact ⟨⟨hA.rows,hA.text,hA.chs,hA.en,hA.row,by show (c.i:Int) + 1 = ((c.i + 1:Nat):Int); omega,hA.gs,hA.hl,hA.cs⟩,rfl,rfl⟩
 ·exact ⟨hA.back,b.1,b.2⟩
theorem Zaw (H:Hp) (ra ch:Addr) (t:Str) (n:Nat) (M:MM) (c:Cg) (hA:Ab H ra t ch M c):AbF H ra t ch (MM.doBegin M) ((Op.pat .beg).act t c)∧(MM.doBegin M).s.made = M.s.made∧(MM.doBegin M).s.found = (Op.pat .beg).fd M.s.found:=by
 have b:=Ya M
 have hact:(Op.pat .beg).act t c = if c.i = 0 then .run c else bk c.cs:=rfl
 have hp:=hA.pl
 unfold MM.doBegin
 rw [hact]
 by_cases e:c.i = 0
 ·rw [if_pos e,if_pos (by omega)]
  exact ⟨hA,rfl,rfl⟩
 ·rw [if_neg e,if_neg (by omega)]
  exact ⟨hA.back,b.1,b.2⟩
theorem Zav (H:Hp) (ra ch:Addr) (t:Str) (n:Nat) (M:MM) (c:Cg) (hA:Ab H ra t ch M c):AbF H ra t ch (MM.doEnd M) ((Op.pat .fin).act t c)∧(MM.doEnd M).s.made = M.s.made∧(MM.doEnd M).s.found = (Op.pat .fin).fd M.s.found:=by
 have b:=Ya M
 have hact:(Op.pat .fin).act t c = if c.i = t.length then .run c else bk c.cs:=rfl
 have hp:=hA.pl
 unfold MM.doEnd
 rw [hact,hA.text]
 by_cases e:c.i = t.length
 ·rw [if_pos e,if_pos (by omega)]
  exact ⟨hA,rfl,rfl⟩
 ·rw [if_neg e,if_neg (by omega)]
  exact ⟨hA.back,b.1,b.2⟩
structure DoesA (P:Program) (w:World) (K:PySem.W.Frag) (mg:Str→Option Value) (base:Heap) (kk:Nat) (ds:List (Key × V)) (C:Addr):Prop where
 all:∀ o:Op,o.ok→Tells P w K mg base kk ds o.word (Tf C o)
def AM (H:Hp) (ra:Addr) (t:Str) (ch:Addr) (M:MM) (cf:Cf):Prop:=(M.s.found = false∧AbF H ra t ch M cf) ∨ (M.s.found = true∧∃ c,Ab H ra t ch M c∧cf = bk c.cs)
theorem AM.fresh {H:Hp} {ra:Addr} {t:Str} {ch:Addr} {M:MM} {cf:Cf} (h:AM H ra t ch M cf):AbF H ra t ch M.fresh cf∧M.fresh.s.found = false∧M.fresh.s.made = M.s.made∧M.s.choices = ch:=by
 unfold MM.fresh
 rcases h with ⟨h1,h2⟩ | ⟨h1,c,h2,rfl⟩
 ·rw [if_neg (by rw [h1]; decide)]
  refine ⟨h2,h1,rfl,?_⟩
  cases cf with
  | run c=>exact Ab.chs h2
  | ended=>exact AbE.chs h2
 ·rw [if_pos h1]
  have h3:Ab H ra t ch ⟨{ M.s with found:=false },M.cs⟩ c:=⟨h2.rows,h2.text,h2.chs,h2.en,h2.row,h2.pl,h2.gs,h2.hl,h2.cs⟩
  have b:=Ya ⟨{ M.s with found:=false },M.cs⟩
  exact ⟨h3.back,b.2,b.1,h2.chs⟩
theorem AM.mono {H H':Hp} (tm:Tm H H') {ra:Addr} {t:Str} {ch:Addr} {M:MM} {cf:Cf} (h:AM H ra t ch M cf):AM H' ra t ch M cf:=by
 rcases h with ⟨h1,h2⟩ | ⟨h1,c,h2,h3⟩
 ·exact .inl ⟨h1,h2.mono tm⟩
 ·exact .inr ⟨h1,c,h2.mono tm,h3⟩
def Zbz (C:Addr) (Q:VK) (H:Hp) (m ra ch:Addr) (t:Str) (n:Nat) (es:List Op) (most:Int) (cf:Cf):Prop :=
 (∃ (k:Nat) (c:Cg),Rc es t n cf k (.run c)∧es[c.r]? = some .found∧c.i ≤ t.length∧GOk t n c.g∧(k:Int) < most∧cf.csl + k ≤ 999999 ∧
  ∀ (H':Hp) (tt:Addr) (gv:V) (M':MM),MAt C H' m M'→AM H' ra t ch M' (bk c.cs)→M'.cs.length = c.cs.length→H' tt = some (.tup [.str "way",.int c.i,gv])→GsAt H' gv c.g→Gro [m,ch] H H'→Q (.ref tt) H') ∨
 (∃ k:Nat,Rc es t n cf k .ended∧(k:Int) ≤ most∧cf.csl + k ≤ 999999 ∧
  ∀ (H':Hp) (tt:Addr) (M':MM),MAt C H' m M'→AM H' ra t ch M' .ended→M'.cs.length = 0→H' tt = some (.tup [.str "none"])→Gro [m,ch] H H'→Q (.ref tt) H')
inductive spWayAI (C:Addr) (vs:List V) (H:Hp) (Q:VK):Prop
 | mk (m ra ch:Addr) (most:Int) (t:Str) (n:Nat) (es:List Op) (ys:List V) (M:MM) (cf:Cf) (_:vs = [.ref m,.int most]) (_:1 ≤ most) (_:MAt C H m M) (_:AM H ra t ch M cf) (_:M.cs.length ≤ 1000000) (_:H ra = some (.tup ys)) (_:Paired (RowAt H) ys (es.map Op.rw)) (_:(∀ o ∈ es,o.ok)) (_:t.length ≤ 1000) (_:n ≤ 900) (_:Zbz C Q H m ra ch t n es most cf)
def Vv (C:Addr):Sp:=fun vs H Q _=>spWayAI C vs H Q
theorem Zb6 {kk:Nat} {ds:List (Key × V)} (D:DoesA P w K mg base kk ds C):∀ vs H Q E,Vv C vs H Q E→Z9g P w K mg base kk ds C vs H Q E:=by
 rintro vs H Q E ⟨m,ra,ch,most,t,n,es,ys,M,cf,rfl,h1,hM,hAM,hz,hra,hp,hok,ht,hn,hw⟩
 obtain ⟨hF,hff,hfm,hch⟩:=hAM.fresh
 subst hch
 have mv:∀ (j:Nat) (M':MM) (H':Hp) (c:Cg) (o:Op),es[c.r]? = some o→MAt C H' m M'→Ab H' ra t M.s.choices M' c→c.i ≤ t.length→GOk t n c.g→(o.need n { c with r:=c.r + 1 } ∨ o = .found)→c.cs.length ≤ 1000000→Gro [m,M.s.choices] H H'→∀ Q':VK,
   (∀ (H2:Hp) (M2:MM),MAt C H2 m M2→AbF H2 ra t M.s.choices M2 (o.act t { c with r:=c.r + 1 })→M2.s.made = M'.s.made + 1→M2.s.found = o.fd M'.s.found→Gro [m,M.s.choices] H H2→Q' .non H2)→Te P w K mg base kk ds C [.ref m] H' Q' E0:=by
  intro j M' H' c o ho hM' hA' hi hg hneed hcs g Q' hQ
  have hge:(es.map Op.rw)[c.r]? = some o.rw:=by rw [List.getElem?_map,ho]; rfl
  obtain ⟨v,hv,hrow⟩:=Vd hp hge
  have hrow':=hrow.mono g.tups
  obtain ⟨a,rfl⟩:=Z3j hrow
  obtain ⟨r,ha⟩:=Z5j hrow'
  have hat:atI ys M'.s.row = some (.ref a):=by rw [hA'.row]; exact Xy hv
  refine ⟨m,ra,a,ys,_,r,M',Tf C o,rfl,hM',hA'.rows,g.tups _ _ hra,hat,ha,D.all o (hok o (List.mem_of_getElem? ho)),fun H1 hM1 g1=>?_⟩
  have hA1:=hA'.mono g1.tups
  refine ⟨m,a,ra,M.s.choices,t,n,M'.next,{ c with r:=c.r + 1 },rfl,hM1,⟨hA1.rows,hA1.text,hA1.chs,hA1.en,by show M'.s.row + 1 = ((c.r + 1:Nat):Int); rw [hA'.row]; omega,hA1.pl,hA1.gs,hA1.hl,hA1.cs⟩,hrow'.mono g1.tups,ht,hi,hg,hn,hneed,⟨hcs,Nat.le_add_left 1 _⟩,fun H2 M2 hM2 hA2 hm2 hf2 g2=>?_⟩
  exact hQ H2 M2 hM2 hA2 hm2 hf2 (g.trans ((g1.mono (by simp)).trans g2))
 have getD_of:∀ (r:Nat),r < es.length→es[r]? = some (es.getD r .found):=fun r h=>by rw [List.getD_eq_getElem?_getD,List.getElem?_eq_getElem h]; rfl
 have noF:∀ (o:Op) (c:Cg),o.need n c→∀ b,o.fd b = b:=fun o c h b=>by cases o <;> first | rfl | exact h.elim
 rcases hw with ⟨k,c0,rc,hfd,hi0,hg0,hkm,hcsb,fin⟩ | ⟨k,rc,hkm,hcsb,fin⟩
 ·refine ⟨m,most,M,fun j M' H'=>j ≤ k∧MAt C H' m M'∧AbF H' ra t M.s.choices M' (run es t j cf)∧M'.s.made = M.s.made + j∧M'.s.found = false∧Gro [m,M.s.choices] H H',rfl,hM,h1,hz,⟨?_,?_,?_,?_,?_⟩⟩
  ·exact fun H' hM' g=>⟨Nat.zero_le _,hM',hF.mono g.tups,by rw [hfm]; simp,hff,g⟩
  ·rintro j M' H' ⟨hj,hM',_,hm,hf,_⟩
   exact ⟨hM',hm,hf,by omega⟩
  ·rintro j M' H' ⟨hj,hM',hA',hm,hf,g⟩ he
   exfalso
   have:∃ c,run es t j cf = .run c:=by
    by_cases hlt:j < k
    ·obtain ⟨c,h,_⟩:=rc.live j hlt
     exact ⟨c,h⟩
    ·rw [show j = k by omega]
     exact ⟨c0,rc.eq⟩
   obtain ⟨c,h⟩:=this
   rw [h] at hA'
   have:=Ab.en hA'
   rw [he] at this
   cases this
  ·rintro j M' H' ⟨hj,_⟩ _ hjm
   omega
  ·rintro j M' H' ⟨hj,hM',hA',hm,hf,g⟩ he hjm Q' hQ
   have hcl:=Uv es t cf j
   by_cases hlt:j < k
   ·obtain ⟨c,h,lv⟩:=rc.live j hlt
    rw [h] at hA' hcl
    have ho:=getD_of c.r lv.r
    have hcl':c.cs.length ≤ cf.csl + j:=hcl
    refine mv j M' H' c _ ho hM' hA' lv.i lv.g (.inl lv.op) (by omega) g Q' fun H2 M2 hM2 hA2 hm2 hf2 g2=>hQ _ H2 M2 hM2 (.inr ⟨?_,by omega,hM2,?_,by rw [hm2,hm]; omega,?_,g2⟩)
    ·rw [hf2,noF _ _ lv.op,hf]
    ·show AbF H2 ra t M.s.choices M2 (step es t (run es t j cf))
     rw [h]
     exact hA2
    ·rw [hf2,noF _ _ lv.op,hf]
   ·have hjk:j = k:=by omega
    subst hjk
    rw [rc.eq] at hA' hcl
    have hcl':c0.cs.length ≤ cf.csl + j:=hcl
    refine mv j M' H' c0 _ hfd hM' hA' hi0 hg0 (.inr rfl) (by omega) g Q' fun H2 M2 hM2 hA2 hm2 hf2 g2=>hQ _ H2 M2 hM2 (.inl ⟨hf2,fun tt htt=>?_⟩)
    have hA3:Ab H2 ra t M.s.choices M2 { c0 with r:=c0.r + 1 }:=hA2
    have g3:=Gro.new (S:=[]) htt (.tup [.str "way",.int M2.s.place,M2.s.groups])
    have hA4:=hA3.mono g3.tups
    exact fin _ tt M2.s.groups M2 (hM2.new htt) (.inr ⟨hf2,_,hA4,rfl⟩) hA4.cslen (by rw [Z1,hA3.pl]) hA4.gs (g2.trans (g3.mono (by simp)))
 ·refine ⟨m,most,M,fun j M' H'=>j ≤ k∧MAt C H' m M'∧AbF H' ra t M.s.choices M' (run es t j cf)∧M'.s.made = M.s.made + j∧M'.s.found = false∧Gro [m,M.s.choices] H H',rfl,hM,h1,hz,⟨?_,?_,?_,?_,?_⟩⟩
  ·exact fun H' hM' g=>⟨Nat.zero_le _,hM',hF.mono g.tups,by rw [hfm]; simp,hff,g⟩
  ·rintro j M' H' ⟨hj,hM',_,hm,hf,_⟩
   exact ⟨hM',hm,hf,by omega⟩
  ·rintro j M' H' ⟨hj,hM',hA',hm,hf,g⟩ he tt htt
   have hjk:j = k:=by
    by_cases hlt:j < k
    ·obtain ⟨c,h,_⟩:=rc.live j hlt
     rw [h] at hA'
     have:=Ab.en hA'
     rw [he] at this
     cases this
    ·omega
   subst hjk
   rw [rc.eq] at hA'
   have g3:=Gro.new (S:=[]) htt (.tup [.str "none"])
   have hE:AbE ra t M.s.choices M':=hA'
   exact fin _ tt M' (hM'.new htt) (.inl ⟨hf,hE⟩) (by rw [hE.cs]; rfl) Z1 (g.trans (g3.mono (by simp)))
  ·rintro j M' H' ⟨hj,hM',hA',hm,hf,g⟩ he hjm
   exfalso
   have hjk:j = k:=by omega
   subst hjk
   rw [rc.eq] at hA'
   have hE:AbE ra t M.s.choices M':=hA'
   rw [hE.en] at he
   cases he
  ·rintro j M' H' ⟨hj,hM',hA',hm,hf,g⟩ he hjm Q' hQ
   have hcl:=Uv es t cf j
   have hlt:j < k:=by
    by_cases hlt:j < k
    ·exact hlt
    ·exfalso
     have hjk:j = k:=by omega
     subst hjk
     rw [rc.eq] at hA'
     have hE:AbE ra t M.s.choices M':=hA'
     rw [hE.en] at he
     cases he
   obtain ⟨c,h,lv⟩:=rc.live j hlt
   rw [h] at hA' hcl
   have ho:=getD_of c.r lv.r
   have hcl':c.cs.length ≤ cf.csl + j:=hcl
   refine mv j M' H' c _ ho hM' hA' lv.i lv.g (.inl lv.op) (by omega) g Q' fun H2 M2 hM2 hA2 hm2 hf2 g2=>hQ _ H2 M2 hM2 (.inr ⟨?_,by omega,hM2,?_,by rw [hm2,hm]; omega,?_,g2⟩)
   ·rw [hf2,noF _ _ lv.op,hf]
   ·show AbF H2 ra t M.s.choices M2 (step es t (run es t j cf))
    rw [h]
    exact hA2
   ·rw [hf2,noF _ _ lv.op,hf]
end
structure MachDefsA (K:PySem.W.Frag) (mg:Str→Option Value) (C:Addr):Prop where
 base_:MachDefs K mg C
 hold:MDef K C "hold" "Machine.hold" s_Machine_hold ["self", "number"]
 let_go:MDef K C "let_go" "Machine.let_go" s_Machine_let_go ["self"]
 drop:MDef K C "drop_choices" "Machine.drop_choices" s_Machine_drop_choices ["self", "size"]
 entry:MDef K C "entry" "Machine.entry" s_Machine_entry ["self", "number"]
structure DoingsA (K:PySem.W.Frag) (ds:List (Key × V)):Prop where
 sign:Dn K ds "sign" "do_sign" s_do_sign ["machine", "row"]
 any:Dn K ds "any" "do_sign" s_do_sign ["machine", "row"]
 inn:Dn K ds "in" "do_sign" s_do_sign ["machine", "row"]
 out:Dn K ds "out" "do_sign" s_do_sign ["machine", "row"]
 beg:Dn K ds "begin" "do_begin" s_do_begin ["machine", "row"]
 fin:Dn K ds "end" "do_end" s_do_end ["machine", "row"]
 again:Dn K ds "again" "do_again" s_do_again ["machine", "row"]
 try_:Dn K ds "try" "do_try" s_do_try ["machine", "row"]
 go:Dn K ds "go" "do_go" s_do_go ["machine", "row"]
 have_:Dn K ds "have" "do_have" s_do_have ["machine", "row"]
 turns:Dn K ds "turns" "do_hold" s_do_hold ["machine", "row"]
 open_:Dn K ds "open" "do_hold" s_do_hold ["machine", "row"]
 close:Dn K ds "close" "do_close" s_do_close ["machine", "row"]
 turn:Dn K ds "turn" "do_turn" s_do_turn ["machine", "row"]
 next:Dn K ds "next" "do_next" s_do_next ["machine", "row"]
 once:Dn K ds "once" "do_once" s_do_once ["machine", "row"]
 kept:Dn K ds "kept" "do_kept" s_do_kept ["machine", "row"]
 peeked:Dn K ds "peeked" "do_peeked" s_do_peeked ["machine", "row"]
 bar:Dn K ds "bar" "do_bar" s_do_bar ["machine", "row"]
 barred:Dn K ds "barred" "do_barred" s_do_barred ["machine", "row"]
 lean:Dn K ds "lean" "do_lean" s_do_lean ["machine", "row"]
 here:Dn K ds "here" "do_here" s_do_here ["machine", "row"]
 found:Dn K ds "found" "do_found" s_do_found ["machine", "row"]
section
variable {P:Program} {w:World} {K:PySem.W.Frag} {mg:Str→Option Value} {base:Heap} {C:Addr}
theorem Z6l {ds:List (Key × V)} (T:Blt mg) (MA:MachDefsA K mg C) (DD:DoingsA K ds) (p1:Def K mg "takes_sign" s_takes_sign ["row", "text", "at"]) (p2:Def K mg "lies_in" s_lies_in ["runs", "sign"]) (p3:Def K mg "with_entry" s_with_entry ["groups", "number", "begin", "end"]):DoesA P w K mg base 3 ds C:=by
 have MD:=MA.base_
 have li:Own P w K mg base 1 "lies_in" ["runs", "sign"] Z35:=p2.own fun _ _ F=>Z28 F
 have ta:Own P w K mg base 2 "takes_sign" ["row", "text", "at"] Jm:=p1.own fun _ _ F=>Uy T li F
 have we:Own P w K mg base 1 "with_entry" ["groups", "number", "begin", "end"] Z32:=p3.own fun _ _ F=>Z8c F
 have en:OwnM P w K mg base 1 C "enter" ["self", "state"] (Xr C):=MD.enter.own fun _ _ F=>Z14 MD.tx F
 have gb:OwnM P w K mg base 2 C "go_back" ["self"] (X1 C):=MD.go_back.own fun _ _ F=>Ub T MD.tx en F
 have ho:OwnM P w K mg base 1 C "hold" ["self", "number"] (Wv C):=MA.hold.own fun _ _ F=>Z8i MD.tx F
 have lg:OwnM P w K mg base 1 C "let_go" ["self"] (Wu C):=MA.let_go.own fun _ _ F=>Z43 MD.tx F
 have dr:OwnM P w K mg base 1 C "drop_choices" ["self", "size"] (Ww C):=MA.drop.own fun _ _ F=>Z8j T MD.tx F
 have et:OwnM P w K mg base 1 C "entry" ["self", "number"] (Z0n C):=MA.entry.own fun _ _ F=>Z5x T MD.tx F
 have sg:∀ h:Hd,h.one = true→∀ f fd,Fun K "do_sign" "do_sign" s_do_sign f fd→FnOk P w K mg base CX0 3 f fd ["machine", "row"] (Tf C (.pat h)):=fun h h1 f fd F =>
  (Z2b (P:=P) (w:=w) (base:=base) h1 MD.tx ta gb F).imp (Ug (fun _ _ h=>h) (Z94 h1))
 refine ⟨fun o hok=>?_⟩
 cases o with
 | pat h =>
  cases h with
  | sign x=>exact DD.sign.tells (sg (.sign x) rfl)
  | any=>exact DD.any.tells (sg .any rfl)
  | inn x=>exact DD.inn.tells (sg (.inn x) rfl)
  | out x=>exact DD.out.tells (sg (.out x) rfl)
  | beg=>exact DD.beg.tells fun _ _ F=>(Jy MD.tx gb F).imp (Ug (fun _ _ h=>h) Zaw)
  | fin=>exact DD.fin.tells fun _ _ F=>(Z45 T MD.tx gb F).imp (Ug (fun _ _ h=>h) Zav)
  | again k=>exact DD.again.tells fun _ _ F=>Jz MD.tx gb et F
  | _=>cases hok
 | try_ z=>exact DD.try_.tells fun _ _ F=>((Z44 (z:=(z:Int)) MD.tx F).mono (by decide)).imp (Ug (fun _ _ h=>h) fun H ra ch t n M c hA=>⟨⟨hA.rows,hA.text,hA.chs,hA.en,hA.row,hA.pl,hA.gs,hA.hl,hA.cs.snoc ⟨rfl,hA.pl,hA.gs,hA.hl⟩⟩,rfl,rfl⟩)
 | go z=>exact DD.go.tells fun _ _ F=>((Z5y (z:=(z:Int)) MD.tx F).mono (by decide)).imp (Ug (fun _ _ h=>h) fun H ra ch t n M c hA=>⟨⟨hA.rows,hA.text,hA.chs,hA.en,rfl,hA.pl,hA.gs,hA.hl,hA.cs⟩,rfl,rfl⟩)
 | have_ k z=>exact DD.have_.tells fun _ _ F=>(Z2h MD.tx et F).mono (by decide)
 | turns=>exact DD.turns.tells fun _ _ F=>(Uc (.inl rfl) MD.tx ho F).mono (by decide)
 | open_=>exact DD.open_.tells fun _ _ F=>(Uc (.inr rfl) MD.tx ho F).mono (by decide)
 | close k=>exact DD.close.tells fun _ _ F=>(Jx MD.tx lg we F).mono (by decide)
 | turn lo hi how z=>exact DD.turn.tells fun _ _ F=>Z2a MD.tx en gb F
 | next lo z=>exact DD.next.tells fun _ _ F=>Z2d MD.tx lg gb F
 | once=>exact DD.once.tells fun _ _ F=>(Z2c T MD.tx ho F).mono (by decide)
 | kept=>exact DD.kept.tells fun _ _ F=>(Z2f MD.tx lg dr F).mono (by decide)
 | peeked=>exact DD.peeked.tells fun _ _ F=>(Tz MD.tx lg dr F).mono (by decide)
 | bar z=>exact DD.bar.tells fun _ _ F=>(Z46 T MD.tx ho F).mono (by decide)
 | barred=>exact DD.barred.tells fun _ _ F=>J0 MD.tx lg dr gb F
 | lean=>exact DD.lean.tells fun _ _ F=>(Z2e MD.tx F).mono (by decide)
 | here=>exact DD.here.tells fun _ _ F=>Z2g MD.tx gb F
 | found =>
  refine DD.found.tells fun _ _ F=>((Jw MD.tx F).mono (by decide)).imp fun vs H Q E h=>?_
  obtain ⟨m,a,M,rfl,hM,hz,_,⟨a',e',ha⟩,q⟩:=Ug (C:=C) (o:=.found) (row:=fun H a=>RowAt H (.ref a) (Op.rw .found)) (go:=MM.doFound) (fun _ _ h=>h) (fun H ra ch t n M c hA=>⟨⟨hA.rows,hA.text,hA.chs,hA.en,hA.row,hA.pl,hA.gs,hA.hl,hA.cs⟩,rfl,rfl⟩) vs H Q E h
  cases e'
  exact ⟨m,a,M,rfl,hM,hz,trivial,ha,q⟩
theorem Z5s {dn:Addr} {ds:List (Key × V)} (T:Blt mg) (MA:MachDefsA K mg C) (c_DOINGS:mg "DOINGS" = some (.ref dn)) (hDN:DcK K w dn ds) (DD:DoingsA K ds) (p1:Def K mg "takes_sign" s_takes_sign ["row", "text", "at"]) (p2:Def K mg "lies_in" s_lies_in ["runs", "sign"]) (p3:Def K mg "with_entry" s_with_entry ["groups", "number", "begin", "end"]):OwnM P w K mg base 6 C "way" ["self", "most"] (Vv C):=by
 have MD:=MA.base_
 have en:OwnM P w K mg base 1 C "enter" ["self", "state"] (Xr C):=MD.enter.own fun _ _ F=>Z14 MD.tx F
 have gb:OwnM P w K mg base 2 C "go_back" ["self"] (X1 C):=MD.go_back.own fun _ _ F=>Ub T MD.tx en F
 have mv:OwnM P w K mg base (3 + 1) C "move" ["self"] (Te P w K mg base 3 ds C):=MD.move.own fun _ _ F=>Z8g MD.tx c_DOINGS hDN F
 exact MD.way.own fun _ _ F=>(Zae (kk:=3) MD.tx mv gb F).imp (Zb6 (Z6l T MA DD p1 p2 p3))
end
section
variable {P:Program} {w:World} {K:PySem.W.Frag} {mg:Str→Option Value} {base:Heap} {f:Addr} {fd:FuncData}
inductive spHoldI (vs:List V) (H:Hp) (Q:VK):Prop
 | mk (r:Addr) (xs:List V) (_:vs = [.ref r]) (_:H r = some (.lst xs)) (_:xs.length ≤ 1000000) (_:∀ (t:Addr) (H':Hp),H' r = some (.lst (xs ++ [.ref t]))→H' t = some (.tup [])→Gro [r] H H'→Q (.int xs.length) H')
def Vx:Sp:=fun vs H Q _=>spHoldI vs H Q
def Zax (Q:VK) (H:Hp) (r:Addr) (xs:List V) (rs:List Rw):Prop:=∀ (ys:List V) (H':Hp),H' r = some (.lst (xs ++ ys))→Paired (RowAt H') ys rs→Gro [r] H H'→Q .non H'
inductive spPutI (n:Nat) (vs:List V) (H:Hp) (Q:VK):Prop
 | mk (r:Addr) (v:V) (xs:List V) (p:Pat) (_:vs = [.ref r,v]) (_:PatAt H n v p) (_:H r = some (.lst xs)) (_:xs.length + 7 * p.size ≤ 1000000) (_:Zax Q H r xs (p.code xs.length))
def Td (n:Nat):Sp:=fun vs H Q _=>spPutI n vs H Q
inductive spPutOrI (n:Nat) (vs:List V) (H:Hp) (Q:VK):Prop
 | mk (r b:Addr) (xs kv:List V) (ks:List Pat) (_:vs = [.ref r,.ref b]) (_:H b = some (.tup kv)) (_:Paired (PatAt H n) kv ks) (_:1 ≤ kv.length) (_:kv.length ≤ 10) (_:H r = some (.lst xs)) (_:xs.length + 7 * (Zt ks + 1) ≤ 1000000) (_:Zax Q H r xs (orC (ks.map Pat.code) xs.length))
def Z34 (n:Nat):Sp:=fun vs H Q _=>spPutOrI n vs H Q
def How.ext:How→Nat
 | .keep=>7 | _=>6
inductive spPutTimesI (ok:How→Prop) (n:Nat) (vs:List V) (H:Hp) (Q:VK):Prop
 | mk (r:Addr) (lo:Int) (hi:Option Int) (how:How) (v:V) (xs:List V) (p:Pat) (_:vs = [.ref r,.int lo,Z98 hi,.str how.text,v]) (_:ok how) (_:PatAt H n v p) (_:H r = some (.lst xs)) (_:xs.length + 7 * p.size + how.ext ≤ 1000000) (_:Zax Q H r xs (Wt lo hi how p.code xs.length))
def Yu (ok:How→Prop) (n:Nat):Sp:=fun vs H Q _=>spPutTimesI ok n vs H Q
inductive spPutHaveI (n:Nat) (vs:List V) (H:Hp) (Q:VK):Prop
 | mk (r:Addr) (k:Int) (y z:V) (xs:List V) (p q:Pat) (_:vs = [.ref r,.int k,y,z]) (_:PatAt H n y p) (_:PatAt H n z q) (_:H r = some (.lst xs)) (_:xs.length + 7 * (p.size + q.size + 1) ≤ 1000000) (_:Zax Q H r xs (Z8s k p.code q.code xs.length))
def Tc (n:Nat):Sp:=fun vs H Q _=>spPutHaveI n vs H Q
inductive spPutLookI (n:Nat) (vs:List V) (H:Hp) (Q:VK):Prop
 | mk (r:Addr) (lk:Lk) (v:V) (xs:List V) (p:Pat) (_:vs = [.ref r,.str lk.text,v]) (_:PatAt H n v p) (_:H r = some (.lst xs)) (_:xs.length + 7 * (p.size + 1) ≤ 1000000) (_:Zax Q H r xs (Wr lk p.code xs.length))
def Tb (n:Nat):Sp:=fun vs H Q _=>spPutLookI n vs H Q
abbrev s_hold_place:Stmt:=top 6
theorem Ut:FnScope ["rows"] ["rows"] (Z5 s_hold_place):=fsc
theorem Uz (T:Blt mg) (F:Fun K "hold_place" "hold_place" s_hold_place f fd):FnOk P w K mg base CX0 1 f fd ["rows"] Vx:=by
 refine F.ok Ut (fun vs H Q E h=>?_) (fun cdv A outer s H vs Q E hr h=>?_)
 ·obtain ⟨r,xs,rfl,_⟩:=h
  rfl
 obtain ⟨r,xs,rfl,hr0,hz,q⟩:=h
 refine ltX ?_
 intro Xz
 refine ⟨_,(Z2 (Z9 (X6 PySem.F.plainAttrs_list PySem.F.slot_list_append PySem.F.type_list_append Zu (pv 0) (Z0 (Zm Z3) Z3)))
  (Z4 (Zw (Yi W8 (Zc Zk rfl T.b_len PyProof.Rows.Boot.«len» (Z0 (pv 0) Z3)) Z6)))),?_⟩
 refine Z0v ?_
 intro Ez Az1
 refine (exA rfl ⟨.inl ⟨rfl,_,SqL.of hr0⟩,sz,fun t ht=>⟨r,xs,exA rfl ⟨rfl,Yz hr0 ht,big hz,?_⟩⟩⟩)
 refine (exA rfl ⟨r,exA rfl ⟨.inl (SqL.of Z1),exB rfl rfl (?_)⟩⟩)
 have e:((xs ++ [V.ref t]).length:Int) - 1 = xs.length:=by simp
 show Q (V.int (((xs ++ [V.ref t]).length:Int) - 1)) _
 rw [e]
 exact q t _ Z1 (Xd hr0 ht) (Xe hr0 ht)
abbrev s_put_times:Stmt:=top 8
theorem sc_put_times:FnScope ["rows", "low", "high", "how", "part", "turn"] ["rows", "low", "high", "how", "part"] (Z5 s_put_times):=fsc
theorem Wn {n k:Nat} {ok ok':How→Prop} (hk:∀ how,ok how→how = .keep→ok' .much) (T:Blt mg) (O_hold_place:Own P w K mg base 1 "hold_place" ["rows"] Vx) (O_put:Own P w K mg base (2 + k) "put" ["rows", "pattern"] (Td n)) (O_put_times:Own P w K mg base (2 + k) "put_times" ["rows", "low", "high", "how", "part"] (Yu ok' n))
  (F:Fun K "put_times" "put_times" s_put_times f fd):FnOk P w K mg base CX0 (2 + k + 1) f fd ["rows", "low", "high", "how", "part"] (Yu ok n):=by
 refine F.ok sc_put_times (fun vs H Q E h=>?_) (fun cdv A outer s H vs Q E hr h=>?_)
 ·obtain ⟨r,lo,hi,how,v,xs,p,rfl,_⟩:=h
  rfl
 obtain ⟨r,lo,hi,how,v,xs,p,rfl,hok,hp,hr0,hz,q⟩:=h
 refine ltX ?_
 intro Xz
 refine ⟨_,(Z2 (Y0 (Ze Yc (pv 3) Zj (Zn _)) (Z2 (Z9 (X6 PySem.F.plainAttrs_list PySem.F.slot_list_append PySem.F.type_list_append Zu (pv 0) (Z0 (Zm (Z0 Zj Z3)) Z3)))
  (Z2 (Z9 (Zo (O_put_times.mono (by omega)) hr rfl (Z0 (pv 0) (Z0 (pv 1) (Z0 (pv 2) (Z0 Zj (Z0 (pv 4) Z3)))))))
  (Z2 (Z9 (X6 PySem.F.plainAttrs_list PySem.F.slot_list_append PySem.F.type_list_append Zu (pv 0) (Z0 (Zm (Z0 Zj Z3)) Z3)))
  (Z4 Z3p)))) Zr)
  (Z2 (Z9 (X6 PySem.F.plainAttrs_list PySem.F.slot_list_append PySem.F.type_list_append Zu (pv 0) (Z0 (Zm (Z0 Zj Z3)) Z3)))
  (Z2 (pS 5 sc_put_times.nd (Zo (O_hold_place.mono (by omega)) hr rfl (Z0 (pv 0) Z3)))
  (Z2 (Z9 (Zo (O_put.mono (by omega)) hr rfl (Z0 (pv 0) (Z0 (pv 4) Z3))))
  (Z2 (Z9 (X6 PySem.F.plainAttrs_list PySem.F.slot_list_append PySem.F.type_list_append Zu (pv 0) (Z0 (Zm (Z0 Zj (Z0 (pv 1) (Z0 (pv 5) Z3)))) Z3)))
  (Z4 (V5 (Zm (Z0 Zj (Z0 (pv 1) (Z0 (pv 2) (Z0 (pv 3) (Z0 (Zc Zk rfl T.b_len PyProof.Rows.Boot.«len» (Z0 (pv 0) Z3)) Z3)))))) (V8 (pv 0) (pv 5) X3)))))))),?_⟩
 refine Z9l ?_
 intro Ez Az1 Az2 Az3 Az4 Az5 Az6 Az7 Az8 Az9
 refine (exA rfl ⟨rfl,exA rfl (Wi (fun z=>?_) (fun z=>?_))⟩)
 ·have hk':how = .keep:=by
   cases how with
   | keep=>rfl
   | much=>exact absurd z (by decide +kernel)
   | little=>exact absurd z (by decide +kernel)
  subst hk'
  have hz:xs.length + 7 * p.size + 7 ≤ 1000000:=hz
  refine (exA rfl ⟨.inl ⟨rfl,_,SqL.of hr0⟩,sz,fun t ht=>⟨r,xs,exA rfl ⟨rfl,Yz hr0 ht,big (by omega),?_⟩⟩⟩)
  have g1:Gro [r] H _:=Xe (zs:=xs ++ [.ref t]) (o:=.tup [.str "once"]) hr0 ht
  have e1:(xs ++ [V.ref t]).length = xs.length + 1:=by simp
  refine (exA rfl (exA rfl (exA rfl (exA rfl ⟨r,lo,hi,.much,v,xs ++ [.ref t],p,rfl,hk _ hok rfl,hp.mono g1.tups,Z1,by rw [e1]; show _ + 6 ≤ _; omega,fun ys H2 hr2 hp2 g2=>?_⟩))))
  rw [e1] at hp2
  have hl:=Paired.length hp2
  have hf:=Pat.code_fits p (xs.length + 1 + 2)
  have hl2:(xs ++ [V.ref t] ++ ys).length ≤ 1000000:=by
   rw [List.length_append,e1,hl]
   show _ + (T9 lo hi "much" p.code (xs.length + 1)).length ≤ _
   rw [W0]
   omega
  refine (exA rfl ⟨.inl ⟨rfl,_,SqL.of hr2⟩,sz,fun t2 ht2=>⟨r,exB rfl rfl ⟨Yz hr2 ht2,big hl2,?_⟩⟩⟩)
  have g3:Gro [r] H2 _:=Xe (zs:=xs ++ [V.ref t] ++ ys ++ [V.ref t2]) (o:=.tup [.str "kept"]) hr2 ht2
  have et:H2 t = some (.tup [.str "once"]):=g2.tups _ _ (Xd hr0 ht)
  refine q (.ref t :: (ys ++ [.ref t2])) _ (by simp [Z1]) ?_ ((g1.trans g2).trans g3)
  exact .cons ⟨t,rfl,g3.tups _ _ et⟩ (Zg (Zp g3.tups hp2) (.cons ⟨t2,rfl,Xd hr2 ht2⟩ .nil))
 ·have hT:Wt lo hi how p.code = T9 lo hi how.text p.code:=by
   cases how with
   | keep=>exact absurd (by decide +kernel) z
   | much=>rfl
   | little=>rfl
  rw [hT] at q
  have hz:xs.length + 7 * p.size + 6 ≤ 1000000:=by
   cases how with
   | keep=>exact absurd (by decide +kernel) z
   | much=>exact hz
   | little=>exact hz
  have hf:=Pat.code_fits p (xs.length + 2)
  refine (exA rfl ⟨.inl ⟨rfl,_,SqL.of hr0⟩,sz,fun t ht=>⟨r,xs,exA rfl ⟨rfl,Yz hr0 ht,big (by omega),?_⟩⟩⟩)
  have g1:Gro [r] H _:=Xe (zs:=xs ++ [.ref t]) (o:=.tup [.str "turns"]) hr0 ht
  have e1:(xs ++ [V.ref t]).length = xs.length + 1:=by simp
  refine (exA rfl ⟨r,_,rfl,Z1,by rw [e1]; omega,fun t1 H2 hr2 ht1 g2=>?_⟩)
  have e2:(xs ++ [V.ref t] ++ [V.ref t1]).length = xs.length + 2:=by simp
  have g12:=g1.trans g2
  refine (exA rfl (exA rfl ⟨r,v,_,p,rfl,hp.mono g12.tups,hr2,by rw [e2]; omega,fun ys H3 hr3 hp3 g3=>?_⟩))
  rw [e2] at hp3
  have hl:=Paired.length hp3
  have hl2:(xs ++ [V.ref t] ++ [V.ref t1] ++ ys).length ≤ 1000000:=by rw [List.length_append,e2,hl]; omega
  refine (exA rfl ⟨.inl ⟨rfl,_,SqL.of hr3⟩,exA rfl (exA rfl ⟨sz,fun t2 ht2=>⟨r,exB rfl rfl ⟨Yz hr3 ht2,big hl2,?_⟩⟩⟩)⟩)
  have g4:Gro [r] H3 _:=Xe (zs:=xs ++ [V.ref t] ++ [V.ref t1] ++ ys ++ [V.ref t2]) (o:=.tup [.str "next",.int lo,.int ((xs ++ [V.ref t]).length:Nat)]) hr3 ht2
  refine (exA rfl (exA rfl (exA rfl (exA rfl ⟨r,exA rfl ⟨.inl (SqL.of Z1),sz,fun t3 ht3=>?_⟩⟩))))
  refine (exA rfl (exA rfl ⟨r,_,_,xs.length + 1,rfl,rfl,Yz Z1 ht3,by rw [e1]; exact Xv (by simp),?_⟩))
  have g5:Gro [r] _ (upd (upd (upd (upd H3 t2 (.tup [.str "next",.int lo,.int ((xs ++ [V.ref t]).length:Nat)])) r (.lst (xs ++ [V.ref t] ++ [V.ref t1] ++ ys ++ [V.ref t2]))) t3 (.tup [.str "turn",.int lo,Z98 hi,.str how.text,.int ((xs ++ [V.ref t] ++ [V.ref t1] ++ ys ++ [V.ref t2]).length:Nat)])) r (HO.lst ((xs ++ [V.ref t] ++ [V.ref t1] ++ ys ++ [V.ref t2]).set (xs.length + 1) (V.ref t3)))):=Xe Z1 ht3
  have eL:(xs ++ [V.ref t] ++ [V.ref t1] ++ ys ++ [V.ref t2]).set (xs.length + 1) (.ref t3) = xs ++ (.ref t :: .ref t3 :: (ys ++ [.ref t2])):=by
   rw [show xs ++ [V.ref t] ++ [V.ref t1] ++ ys ++ [V.ref t2] = (xs ++ [V.ref t]) ++ V.ref t1 :: (ys ++ [V.ref t2]) by simp,Ti (by simp)]
   simp
  rw [eL] at g5 ⊢
  have et:H3 t = some (.tup [.str "turns"]):=g3.tups _ _ (g2.tups _ _ (Xd hr0 ht))
  refine q _ _ Z1 ?_ (((g12.trans g3).trans g4).trans g5)
  refine .cons ⟨t,rfl,g5.tups _ _ (g4.tups _ _ et)⟩ (.cons ⟨t3,rfl,?_⟩ (Zg (Zp (fun b xs h=>g5.tups _ _ (g4.tups _ _ h)) hp3) (.cons ⟨t2,rfl,?_⟩ .nil)))
  ·rw [Xd Z1 ht3]
   have:((xs ++ [V.ref t] ++ [V.ref t1] ++ ys ++ [V.ref t2]).length:Int) = (xs.length:Int) + 3 + (p.code (xs.length + 2)).length:=by
    rw [List.length_append,List.length_append,e2,hl]
    simp
    omega
   rw [this]
  ·rw [g5.tups _ _ (Xd hr3 ht2),e1]
   rfl
abbrev s_put_have:Stmt:=top 9
theorem sc_put_have:FnScope ["rows", "number", "yes", "no", "asked", "gone"] ["rows", "number", "yes", "no"] (Z5 s_put_have):=fsc
theorem Jv {n k:Nat} (T:Blt mg) (O_hold_place:Own P w K mg base 1 "hold_place" ["rows"] Vx) (O_put:Own P w K mg base (2 + k) "put" ["rows", "pattern"] (Td n)) (F:Fun K "put_have" "put_have" s_put_have f fd):FnOk P w K mg base CX0 (2 + k + 1) f fd ["rows", "number", "yes", "no"] (Tc n):=by
 refine F.ok sc_put_have (fun vs H Q E h=>?_) (fun cdv A outer s H vs Q E hr h=>?_)
 ·obtain ⟨r,j,y,z,xs,p,p',rfl,_⟩:=h
  rfl
 obtain ⟨r,j,y,z,xs,p,p',rfl,hp,hp',hr0,hz,q⟩:=h
 refine ltX ?_
 intro Xz
 refine ⟨_,(Z2 (pS 4 sc_put_have.nd (Zo (O_hold_place.mono (by omega)) hr rfl (Z0 (pv 0) Z3)))
  (Z2 (Z9 (Zo (O_put.mono (by omega)) hr rfl (Z0 (pv 0) (Z0 (pv 2) Z3))))
  (Z2 (pS 5 sc_put_have.nd (Zo (O_hold_place.mono (by omega)) hr rfl (Z0 (pv 0) Z3)))
  (Z2 (V5 (Zm (Z0 Zj (Z0 (pv 1) (Z0 (Zc Zk rfl T.b_len PyProof.Rows.Boot.«len» (Z0 (pv 0) Z3)) Z3)))) (V8 (pv 0) (pv 4) X3))
  (Z2 (Z9 (Zo (O_put.mono (by omega)) hr rfl (Z0 (pv 0) (Z0 (pv 3) Z3))))
  (Z4 (V5 (Zm (Z0 Zj (Z0 (Zc Zk rfl T.b_len PyProof.Rows.Boot.«len» (Z0 (pv 0) Z3)) Z3))) (V8 (pv 0) (pv 5) X3)))))))),?_⟩
 refine Z9n ?_
 intro Ez Az1 Az2 Az3 Az4 Az5
 have hf:=Pat.code_fits p (xs.length + 1)
 refine (exA rfl ⟨r,_,rfl,hr0,by omega,fun t1 H1 hr1 ht1 g1=>?_⟩)
 have e1:(xs ++ [V.ref t1]).length = xs.length + 1:=by simp
 refine (exA rfl (exA rfl ⟨r,y,_,p,rfl,hp.mono g1.tups,hr1,by rw [e1]; omega,fun ys H2 hr2 hp2 g2=>?_⟩))
 rw [e1] at hp2
 have hl:=Paired.length hp2
 have e2:(xs ++ [V.ref t1] ++ ys).length = xs.length + 1 + (p.code (xs.length + 1)).length:=by rw [List.length_append,e1,hl]
 refine (exA rfl ⟨r,_,rfl,hr2,by rw [e2]; omega,fun t2 H3 hr3 ht2 g3=>?_⟩)
 have e3:(xs ++ [V.ref t1] ++ ys ++ [V.ref t2]).length = xs.length + (p.code (xs.length + 1)).length + 2:=by rw [List.length_append,e2]; simp; omega
 refine (exA rfl (exA rfl ⟨r,exA rfl ⟨.inl (SqL.of hr3),sz,fun t3 ht3=>?_⟩⟩))
 refine (exA rfl (exA rfl ⟨r,_,_,xs.length,rfl,rfl,Yz hr3 ht3,Xv (by rw [e3]; omega),?_⟩))
 have eL:(xs ++ [V.ref t1] ++ ys ++ [V.ref t2]).set xs.length (.ref t3) = xs ++ [.ref t3] ++ ys ++ [V.ref t2]:=by
  rw [show xs ++ [V.ref t1] ++ ys ++ [V.ref t2] = xs ++ V.ref t1 :: (ys ++ [V.ref t2]) by simp,Ti rfl]
  simp
 rw [eL]
 generalize hH4:upd (upd H3 t3 (.tup [.str "have",.int j,.int ((xs ++ [V.ref t1] ++ ys ++ [V.ref t2]).length:Nat)])) r (.lst (xs ++ [.ref t3] ++ ys ++ [V.ref t2])) = H4
 have g4:Gro [r] H3 H4:=by rw [← hH4]; exact Xe hr3 ht3
 have hr4:H4 r = some (.lst (xs ++ [.ref t3] ++ ys ++ [V.ref t2])):=by rw [← hH4]; exact Z1
 have ht3':H4 t3 = some (.tup [.str "have",.int j,.int ((xs.length:Int) + (p.code (xs.length + 1)).length + 2)]):=by
  rw [← hH4,Xd hr3 ht3,e3]
  simp
 have e4:(xs ++ [V.ref t3] ++ ys ++ [V.ref t2]).length = xs.length + (p.code (xs.length + 1)).length + 2:=by rw [← e3]; simp
 have g14:=((g1.trans g2).trans g3).trans g4
 refine (exA rfl (exA rfl ⟨r,z,_,p',rfl,hp'.mono g14.tups,hr4,by rw [e4]; omega,fun zs H5 hr5 hp5 g5=>?_⟩))
 rw [e4] at hp5
 have hl5:=Paired.length hp5
 refine (exA rfl ⟨r,exA rfl ⟨.inl (SqL.of hr5),sz,fun t6 ht6=>?_⟩⟩)
 have eL2:(xs ++ [V.ref t3] ++ ys ++ [V.ref t2] ++ zs).set (xs.length + 1 + (p.code (xs.length + 1)).length) (.ref t6) = xs ++ (.ref t3 :: (ys ++ .ref t6 :: zs)):=by
  rw [show xs ++ [V.ref t3] ++ ys ++ [V.ref t2] ++ zs = (xs ++ [V.ref t3] ++ ys) ++ V.ref t2 :: zs by simp,Ti (by simp [hl]; omega)]
  simp
 refine (exA rfl (exA rfl ⟨r,_,_,xs.length + 1 + (p.code (xs.length + 1)).length,rfl,rfl,Yz hr5 ht6,by rw [e2]; exact Xv (by rw [List.length_append,e4]; omega),?_⟩))
 rw [eL2]
 generalize hH6:upd (upd H5 t6 (.tup [.str "go",.int ((xs ++ [V.ref t3] ++ ys ++ [V.ref t2] ++ zs).length:Nat)])) r (.lst (xs ++ (.ref t3 :: (ys ++ .ref t6 :: zs)))) = H6
 have g6:Gro [r] H5 H6:=by rw [← hH6]; exact Xe hr5 ht6
 have hr6:H6 r = some (.lst (xs ++ (.ref t3 :: (ys ++ .ref t6 :: zs)))):=by rw [← hH6]; exact Z1
 have ht6':H6 t6 = some (.tup [.str "go",.int ((xs.length:Int) + (p.code (xs.length + 1)).length + 2 + (p'.code (xs.length + (p.code (xs.length + 1)).length + 2)).length)]):=by
  rw [← hH6,Xd hr5 ht6,List.length_append,e4,hl5]
  simp
 refine q _ H6 hr6 ?_ ((g14.trans g5).trans g6)
 exact .cons ⟨t3,rfl,g6.tups _ _ (g5.tups _ _ ht3')⟩ (Zg (Zp (fun b c h=>g6.tups _ _ (g5.tups _ _ (g4.tups _ _ (g3.tups _ _ h)))) hp2) (.cons ⟨t6,rfl,ht6'⟩ (Zp g6.tups hp5)))
end
def Lk.pre (l:Lk):List Rw:=match l.leans with
 | true=>[.tup [.str "lean"]]
 | false=>[]
def Lk.post (l:Lk):List Rw:=match l.leans with
 | true=>[.tup [.str "here"]]
 | false=>[]
theorem T3 (l:Lk) (c:Cd) (b:Nat):l.inner c b = l.pre ++ (c (b + 1 + l.pre.length) ++ l.post):=by
 unfold Lk.inner Lk.pre Lk.post
 cases l.leans <;> simp
section
variable {P:Program} {w:World} {K:PySem.W.Frag} {mg:Str→Option Value} {base:Heap} {f:Addr} {fd:FuncData}
def Zaz (D:Ends) (H:Hp) (r:Addr) (xs:List V) (rs:List Rw):Prop:=∀ (σ':L2.St) (ys:List V) (H':Hp),H' r = some (.lst (xs ++ ys))→Paired (RowAt H') ys rs→Gro [r] H H'→D.nx σ' H'
def Zd1 (H:Hp) (r:Addr) (xs:List V) (lk:Lk) (v:V) (p:Pat):TS:=fun D σ H1=>∃ (t1:Addr) (pre:List V),σ = [some (.ref r),some (.str lk.text),some v,some (.int xs.length)]∧H1 r = some (.lst (xs ++ .ref t1 :: pre))∧Paired (RowAt H1) pre lk.pre∧Gro [r] H H1∧Zaz D H r xs (Wr lk p.code xs.length)
def Zd0 (H:Hp) (r:Addr) (xs:List V) (lk:Lk) (v:V) (p:Pat):TS:=fun D σ H1=>∃ (t1:Addr) (mid:List V),σ = [some (.ref r),some (.str lk.text),some v,some (.int xs.length)]∧H1 r = some (.lst (xs ++ .ref t1 :: mid))∧Paired (RowAt H1) mid (lk.inner p.code xs.length)∧Gro [r] H H1∧Zaz D H r xs (Wr lk p.code xs.length)
abbrev s_put_look:Stmt:=top 10
theorem sc_put_look:FnScope ["rows", "kind", "part", "first"] ["rows", "kind", "part"] (Z5 s_put_look):=fsc
theorem Ju {n k:Nat} {le ls:Addr} (T:Blt mg) (c_LEANING:mg "LEANING" = some (.ref le)) (hLE:∀ H,SqT K H le leaning) (c_LAST_ROWS:mg "LAST_ROWS" = some (.ref ls)) (hLS:DcK K w ls lastRows) (O_hold_place:Own P w K mg base 1 "hold_place" ["rows"] Vx) (O_put:Own P w K mg base (2 + k) "put" ["rows", "pattern"] (Td n))
  (F:Fun K "put_look" "put_look" s_put_look f fd):FnOk P w K mg base CX0 (2 + k + 1) f fd ["rows", "kind", "part"] (Tb n):=by
 refine F.ok sc_put_look (fun vs H Q E h=>?_) (fun cdv A outer s H vs Q E hr h=>?_)
 ·obtain ⟨r,lk,v,xs,p,rfl,_⟩:=h
  rfl
 obtain ⟨r,lk,v,xs,p,rfl,hp,hr0,hz,q⟩:=h
 have hf:=Pat.code_fits p (xs.length + 1 + lk.pre.length)
 have hpre:lk.pre.length ≤ 1∧lk.post.length ≤ 1:=by unfold Lk.pre Lk.post; cases lk.leans <;> simp
 have hin:(lk.inner p.code xs.length).length = lk.pre.length + (p.code (xs.length + 1 + lk.pre.length)).length + lk.post.length:=by rw [T3]; simp; omega
 refine ltX ?_
 intro Xz
 refine ⟨_,(Z2 (pS 3 sc_put_look.nd (Zo (O_hold_place.mono (by omega)) hr rfl (Z0 (pv 0) Z3)))
  (Z2 (Y0 (Ze W9 (pv 1) (Wh (v:=.ref _) rfl c_LEANING rfl) (by with_unfolding_all rfl)) (Z4 (Z9 (X6 PySem.F.plainAttrs_list PySem.F.slot_list_append PySem.F.type_list_append Zu (pv 0) (Z0 (Zm (Z0 Zj Z3)) Z3)))) Zr)
  (Ux (Zd1 H r xs lk v p) (Z2 (Z9 (Zo (O_put.mono (by omega)) hr rfl (Z0 (pv 0) (Z0 (pv 2) Z3))))
  (Z2 (Y0 (Ze W9 (pv 1) (Wh (v:=.ref _) rfl c_LEANING rfl) (by with_unfolding_all rfl)) (Z4 (Z9 (X6 PySem.F.plainAttrs_list PySem.F.slot_list_append PySem.F.type_list_append Zu (pv 0) (Z0 (Zm (Z0 Zj Z3)) Z3)))) Zr)
  (Ux (Zd0 H r xs lk v p) (Z2 (Z9 (X6 PySem.F.plainAttrs_list PySem.F.slot_list_append PySem.F.type_list_append Zu (pv 0) (Z0 (Zm (Z0 (Js (Wh (v:=.ref _) rfl c_LAST_ROWS rfl) (pv 1) (fun _ _=>rfl)) Z3)) Z3)))
  (Z4 (V5 (W6 (Ze Yc (Js (Wh (v:=.ref _) rfl c_LAST_ROWS rfl) (pv 1) (fun _ _=>rfl)) Zj (Zn _)) (Zm (Z0 Zj (Z0 (Zc Zk rfl T.b_len PyProof.Rows.Boot.«len» (Z0 (pv 0) Z3)) Z3))) (Zm (Z0 Zj Z3))) (V8 (pv 0) (pv 3) X3)))) (fun D1 σ1 H1 hcut=>?cut4)))) (fun D1 σ1 H1 hcut=>?cut2)))),?_⟩
 case cut4 =>
  refine Z0v ?_
  intro Ez Az1
  obtain ⟨t1,mid,rfl,hr1,hm1,g1,q⟩:=hcut
  have hl:=Paired.length hm1
  have e1:(xs ++ V.ref t1 :: mid).length = xs.length + 1 + (lk.inner p.code xs.length).length:=by rw [List.length_append,List.length_cons,hl]; omega
  refine (exA rfl ⟨.inl ⟨rfl,_,SqL.of hr1⟩,exA rfl ⟨ls,lastRows,_,_,rfl,hLS,rfl,Z4g lk,sz,fun t2 ht2=>⟨r,exB rfl rfl ⟨Yz hr1 ht2,big (by omega),?_⟩⟩⟩⟩)
  have g2:Gro [r] H1 _:=Xe (zs:=xs ++ V.ref t1 :: mid ++ [V.ref t2]) (o:=.tup [.str lk.last]) hr1 ht2
  have e2:(xs ++ V.ref t1 :: mid ++ [V.ref t2]).length = xs.length + 2 + (lk.inner p.code xs.length).length:=by rw [List.length_append,e1]; simp; omega
  have eL:∀ t3,(xs ++ V.ref t1 :: mid ++ [V.ref t2]).set xs.length (.ref t3) = xs ++ (.ref t3 :: (mid ++ [.ref t2])):=fun t3=>by
   rw [show xs ++ V.ref t1 :: mid ++ [V.ref t2] = xs ++ V.ref t1 :: (mid ++ [V.ref t2]) by simp,Ti rfl]
  have fin:∀ (t3:Addr) (ws:List V),(upd (upd H1 t2 (.tup [.str lk.last])) r (.lst (xs ++ V.ref t1 :: mid ++ [V.ref t2]))) t3 = none→Wr lk p.code xs.length = .tup ws :: (lk.inner p.code xs.length ++ [.tup [.str lk.last]]) →
    ∀ σ',D1.nx σ' (upd (upd (upd (upd H1 t2 (.tup [.str lk.last])) r (.lst (xs ++ V.ref t1 :: mid ++ [V.ref t2]))) t3 (.tup ws)) r (.lst ((xs ++ V.ref t1 :: mid ++ [V.ref t2]).set xs.length (.ref t3)))):=by
   intro t3 ws ht3 hws σ'
   have g3:=Xe (zs:=(xs ++ V.ref t1 :: mid ++ [V.ref t2]).set xs.length (.ref t3)) (o:=.tup ws) (Z1 (H:=upd H1 t2 (.tup [.str lk.last])) (a:=r) (o:=.lst (xs ++ V.ref t1 :: mid ++ [V.ref t2]))) ht3
   have e3:=Xd (ys:=ws) (zs:=(xs ++ V.ref t1 :: mid ++ [V.ref t2]).set xs.length (.ref t3)) (Z1 (H:=upd H1 t2 (.tup [.str lk.last])) (a:=r) (o:=.lst (xs ++ V.ref t1 :: mid ++ [V.ref t2]))) ht3
   rw [eL] at g3 e3 ⊢
   refine q σ' _ _ Z1 ?_ ((g1.trans g2).trans g3)
   rw [hws]
   exact .cons ⟨t3,rfl,e3⟩ (Zg (Zp (fun b c h=>g3.tups _ _ (g2.tups _ _ h)) hm1) (.cons ⟨t2,rfl,g3.tups _ _ (Xd hr1 ht2)⟩ .nil))
  refine (exA rfl ⟨ls,lastRows,_,_,rfl,hLS,rfl,Z4g lk,rfl,exA rfl (Wi (fun z=>?_) (fun z=>?_))⟩)
  ·have hb:(lk.last == "barred") = true:=by rw [← T5]; exact z
   refine (exA rfl ⟨r,exA rfl ⟨.inl (SqL.of Z1),sz,fun t3 ht3=>?_⟩⟩)
   refine (exA rfl (exA rfl ⟨r,_,_,xs.length,rfl,rfl,Yz Z1 ht3,Xv (by rw [e2]; omega),fin t3 _ ht3 ?_ _⟩))
   unfold Wr
   rw [hb,e2]
   simp only [List.cons.injEq,and_true,Rw.tup.injEq,V.int.injEq,true_and]
   omega
  ·have hb:(lk.last == "barred") = false:=by rw [← T5]; simpa using z
   refine ⟨sz,fun t3 ht3=>?_⟩
   refine (exA rfl (exA rfl ⟨r,_,_,xs.length,rfl,rfl,Yz Z1 ht3,Xv (by rw [e2]; omega),fin t3 _ ht3 ?_ _⟩))
   unfold Wr
   rw [hb]
 case cut2 =>
  refine Z6w ?_
  intro Ez Az1 Az2 Az3
  obtain ⟨t1,pre,rfl,hr1,hm1,g1,q⟩:=hcut
  have hl:=Paired.length hm1
  have e1:(xs ++ V.ref t1 :: pre).length = xs.length + 1 + lk.pre.length:=by rw [List.length_append,List.length_cons,hl]; omega
  refine (exA rfl (exA rfl ⟨r,v,_,p,rfl,hp.mono g1.tups,hr1,by rw [e1]; omega,fun ys H2 hr2 hp2 g2=>?_⟩))
  rw [e1] at hp2
  have hl2:=Paired.length hp2
  have e2:(xs ++ V.ref t1 :: pre ++ ys).length = xs.length + 1 + lk.pre.length + (p.code (xs.length + 1 + lk.pre.length)).length:=by rw [List.length_append,e1,hl2]
  refine (exA rfl ⟨le,leaning,rfl,.inr (hLE _),rfl,rfl,exA rfl (?_)⟩)
  show if inV (.str lk.text) leaning = true then _ else _
  rw [Z4d]
  refine Wi (fun z=>?_) (fun z=>?_)
  ·refine (exA rfl ⟨.inl ⟨rfl,_,SqL.of hr2⟩,sz,fun t2 ht2=>⟨r,exB rfl rfl ⟨Yz hr2 ht2,big (by omega),?_⟩⟩⟩)
   have g3:Gro [r] H2 _:=Xe (zs:=xs ++ V.ref t1 :: pre ++ ys ++ [V.ref t2]) (o:=.tup [.str "here"]) hr2 ht2
   refine ⟨t1,pre ++ (ys ++ [.ref t2]),rfl,by simp [Z1],?_,(g1.trans g2).trans g3,q⟩
   rw [T3]
   refine Zg (Zp (fun b c h=>g3.tups _ _ (g2.tups _ _ h)) hm1) (Zg (Zp g3.tups hp2) ?_)
   rw [show lk.post = [.tup [.str "here"]] by unfold Lk.post; rw [z]]
   exact .cons ⟨t2,rfl,Xd hr2 ht2⟩ .nil
  ·refine ⟨t1,pre ++ ys,rfl,by rw [hr2]; simp,?_,g1.trans g2,q⟩
   rw [T3,show lk.post = [] by unfold Lk.post; rw [Bool.eq_false_iff.mpr z],List.append_nil]
   exact Zg (Zp g2.tups hm1) hp2
 refine Z6w ?_
 intro Ez Az1 Az2 Az3
 refine (exA rfl ⟨r,_,rfl,hr0,by omega,fun t1 H1 hr1 ht1 g1=>?_⟩)
 refine (exA rfl ⟨le,leaning,rfl,.inr (hLE _),rfl,rfl,exA rfl (?_)⟩)
 show if inV (.str lk.text) leaning = true then _ else _
 rw [Z4d]
 have q':Zaz { nx:=fun _ H'=>Q .non H',rt:=Q } H r xs (Wr lk p.code xs.length):=fun _ ys H' h1 h2 h3=>q ys H' h1 h2 h3
 refine Wi (fun z=>?_) (fun z=>?_)
 ·refine (exA rfl ⟨.inl ⟨rfl,_,SqL.of hr1⟩,sz,fun t2 ht2=>⟨r,exB rfl rfl ⟨Yz hr1 ht2,big (by simp; omega),?_⟩⟩⟩)
  have g3:Gro [r] H1 _:=Xe (zs:=xs ++ [V.ref t1] ++ [V.ref t2]) (o:=.tup [.str "lean"]) hr1 ht2
  refine ⟨t1,[.ref t2],rfl,by simp [Z1],?_,g1.trans g3,q'⟩
  rw [show lk.pre = [.tup [.str "lean"]] by unfold Lk.pre; rw [z]]
  exact .cons ⟨t2,rfl,Xd hr1 ht2⟩ .nil
 ·refine ⟨t1,[],rfl,hr1,?_,g1,q'⟩
  rw [show lk.pre = [] by unfold Lk.pre; rw [Bool.eq_false_iff.mpr z]]
  exact .nil
end
theorem Vz (ks:List Pat) (i:Nat):Zt (ks.take i) + Zt (ks.drop i) = Zt ks:=by
 rw [← Wl,List.take_append_drop]
theorem Vl {α:Type} {l:List α} {i:Nat} {x:α} (h:l[i]? = some x):l.drop i = x :: l.drop (i + 1):=by
 obtain ⟨hi,e⟩:=List.getElem?_eq_some_iff.mp h
 rw [← e]
 exact List.drop_eq_getElem_cons hi
section
variable {P:Program} {w:World} {K:PySem.W.Frag} {mg:Str→Option Value} {base:Heap} {f:Addr} {fd:FuncData}
def Xa (b:Nat) (gs:List Nat):List V:=gs.map fun (j:Nat)=>V.int ((b:Int) + (j:Int))
def Zcz (H:Hp) (r b:Addr) (xs kv:List V) (ks:List Pat):TS:=fun D σ H1=>∃ (g:Addr) (ys:List V) (br tr:Option V),σ = [some (.ref r),some (.ref b),some (.ref g),br,tr,none]∧r ≠ g∧H g = none∧H1 r = some (.lst (xs ++ ys))∧Paired (RowAt H1) ys (W4 [] ((ks.take (kv.length - 1)).map Pat.code) xs.length) ∧
 H1 g = some (.lst (Xa xs.length (Jr ((ks.take (kv.length - 1)).map Pat.code) xs.length 0)))∧Gro [r] H H1∧Zaz D H r xs (orC (ks.map Pat.code) xs.length)
abbrev s_put_or:Stmt:=top 7
theorem sc_put_or:FnScope ["rows", "branches", "goes", "branch", "tried", "place"] ["rows", "branches"] (Z5 s_put_or):=fsc
theorem Z42 {n k:Nat} (T:Blt mg) (O_hold_place:Own P w K mg base 1 "hold_place" ["rows"] Vx) (O_put:Own P w K mg base (2 + k) "put" ["rows", "pattern"] (Td n)) (F:Fun K "put_or" "put_or" s_put_or f fd):FnOk P w K mg base CX0 (2 + k + 1) f fd ["rows", "branches"] (Z34 n):=by
 refine F.ok sc_put_or (fun vs H Q E h=>?_) (fun cdv A outer s H vs Q E hr h=>?_)
 ·obtain ⟨r,b,xs,kv,ks,rfl,_⟩:=h
  rfl
 obtain ⟨r,b,xs,kv,ks,rfl,hb,hk,h1,h10,hr0,hz,q⟩:=h
 have hkl:=Paired.length hk
 refine ltX ?_
 intro Xz
 refine ⟨_,(Z2 (pS 2 sc_put_or.nd (U5 Z3))
  (Z2 (V3 PassesOwn.never rfl (Z0x (Yn Z36 (pv 1) V7 (Yf (Z80 Z2x Z6)))) (pN 3 sc_put_or.nd) (Z2 (pS 4 sc_put_or.nd (Zo (O_hold_place.mono (by omega)) hr rfl (Z0 (pv 0) Z3)))
  (Z2 (Z9 (Zo (O_put.mono (by omega)) hr rfl (Z0 (pv 0) (Z0 (pv 3) Z3))))
  (Z2 (Z9 (X6 PySem.F.plainAttrs_list PySem.F.slot_list_append PySem.F.type_list_append Zu (pv 2) (Z0 (Zo (O_hold_place.mono (by omega)) hr rfl (Z0 (pv 0) Z3)) Z3)))
  (Z4 (V5 (Zm (Z0 Zj (Z0 (Zc Zk rfl T.b_len PyProof.Rows.Boot.«len» (Z0 (pv 0) Z3)) Z3))) (V8 (pv 0) (pv 4) X3)))))))
  (Ux (Zcz H r b xs kv ks) (Z2 (Z9 (Zo (O_put.mono (by omega)) hr rfl (Z0 (pv 0) (Z0 (Zl Zb (pv 1) (Z80 Z2x Z6) (fun _ _=>rfl)) Z3))))
  (Z4 (V3 PassesOwn.never rfl (Xu (pv 2)) (pN 5 sc_put_or.nd) (Z4 (V5 (Zm (Z0 Zj (Z0 (Zc Zk rfl T.b_len PyProof.Rows.Boot.«len» (Z0 (pv 0) Z3)) Z3))) (V8 (pv 0) (pv 5) X3)))))) (fun D1 σ1 H1 hcut=>?cut2)))),?_⟩
 case cut2 =>
  refine Za1 ?_
  intro Ez Az1 Az2
  obtain ⟨g,ys,br,tr,rfl,rg,hgn,hr1,hy1,hg1,g1,q⟩:=hcut
  have hl:=Paired.length hy1
  have hpf:=V6 (ks.take (kv.length - 1)) xs.length
  have hne:ks ≠ []:=fun z=>by rw [z,List.length_nil] at hkl; omega
  obtain ⟨d,hd⟩:∃ d,ks[kv.length - 1]? = some d:=⟨ks[kv.length - 1]'(by omega),List.getElem?_eq_getElem (by omega)⟩
  obtain ⟨vd,hvd⟩:∃ vd,kv[kv.length - 1]? = some vd:=⟨kv[kv.length - 1]'(by omega),List.getElem?_eq_getElem (by omega)⟩
  obtain ⟨d',hd',hpd⟩:=Zx hk hvd
  rw [hd] at hd'
  cases hd'
  have hks:ks = ks.take (kv.length - 1) ++ [d]:=by
   have:=List.take_append_drop (kv.length - 1) ks
   rw [Vl hd,show kv.length - 1 + 1 = ks.length by omega,List.drop_length] at this
   exact this.symm
  have hss:Zt (ks.take (kv.length - 1)) + d.size = Zt ks:=by
   rw [← Xg d,← Wl,← hks]
  generalize hT:ks.take (kv.length - 1) = ts at hy1 hg1 hl hpf hks hss
  have e1:(xs ++ ys).length = xs.length + (W4 [] (ts.map Pat.code) xs.length).length:=by rw [List.length_append,hl]
  refine ⟨_,rfl,_,rfl,_,rfl,b,kv,_,_,rfl,rfl,SqT.of (g1.tups _ _ hb),Z90 (by rw [List.getLast?_eq_getElem?]; exact hvd),?_⟩
  refine ⟨r,vd,_,d,rfl,hpd.mono g1.tups,hr1,by rw [e1]; omega,fun zs H2 hr2 hz2 g2=>?_⟩
  rw [e1] at hz2
  have hl2:=Paired.length hz2
  have rg':g ∉ [r]:=by simpa using Ne.symm rg
  have hg2:=g2.keep g _ hg1 rg'
  have alt:∀ G,X2 G (ks.map Pat.code) xs.length = W4 G (ts.map Pat.code) xs.length ++ d.code (xs.length + (W4 G (ts.map Pat.code) xs.length).length):=fun G=>by
   rw [hks,List.map_append]
   exact Jg G _ d.code _
  have hgo:Jr (ts.map Pat.code) xs.length 0 = goes (ks.map Pat.code) xs.length 0:=by
   rw [hks,List.map_append]
   exact (J5 _ d.code _ _).symm
  have halen:(ys ++ zs).length = (X2 [] (ks.map Pat.code) xs.length).length:=by rw [alt,List.length_append,List.length_append,hl,hl2]
  rw [hgo] at hg2
  have hy2:Paired (RowAt H2) (ys ++ zs) (X2 [] (ks.map Pat.code) xs.length):=by
   rw [alt]
   exact Zg (Zp g2.tups hy1) hz2
  have hlt:=Z6h (ks.map Pat.code) xs.length
  have hset:=Wx [] (goV ((xs.length:Int) + (X2 [] (ks.map Pat.code) xs.length).length)) (ks.map Pat.code) xs.length []
  generalize goes (ks.map Pat.code) xs.length 0 = gs at *
  refine (exA rfl ⟨g,rfl,⟨_,SqL.of hg2⟩,?_⟩)
  refine Z1l (xs:=Xa xs.length gs) (fun i σ H'=>∃ (ws:List V) (pl:Option V),σ = [some (.ref r),some (.ref b),some (.ref g),br,tr,pl]∧H' r = some (.lst (xs ++ ws))∧Paired (RowAt H') ws (W2 (.tup (goV ((xs.length:Int) + (X2 [] (ks.map Pat.code) xs.length).length))) (gs.take i) (X2 [] (ks.map Pat.code) xs.length))∧H' g = some (.lst (Xa xs.length gs))∧Gro [r] H2 H')
   ⟨ys ++ zs,none,rfl,by rw [hr2]; simp,hy2,hg2,Gro.refl⟩ (fun i σ H' _ hh=>by obtain ⟨_,_,_,_,_,e,_⟩:=hh; exact SqL.of e) ?_ ?_
  ·rintro i x σ H3 hx ⟨ws,pl,rfl,hr3,hw3,hg3,g3⟩
   obtain ⟨j,hj,rfl⟩:∃ j,gs[i]? = some j∧x = .int ((xs.length:Int) + j):=by
    unfold Xa at hx
    rw [List.getElem?_map] at hx
    obtain ⟨j,h1,h2⟩:=Option.map_eq_some_iff.mp hx
    exact ⟨j,h1,h2.symm⟩
   have hjl:=hlt j (List.mem_of_getElem? hj)
   have hwl:=Paired.length hw3
   rw [U1] at hwl
   have elen:((xs ++ ws).length:Int) = (xs.length:Int) + (X2 [] (ks.map Pat.code) xs.length).length:=by rw [List.length_append,hwl]; simp
   refine (exA rfl ⟨r,exA rfl ⟨.inl (SqL.of hr3),sz,fun t3 ht3=>?_⟩⟩)
   refine (exA rfl (exA rfl ⟨r,_,_,xs.length + j,rfl,rfl,Yz hr3 ht3,by rw [show (xs.length:Int) + (j:Int) = ((xs.length + j:Nat):Int) by omega]; exact Xv (by rw [List.length_append]; omega),?_⟩))
   have eS:(xs ++ ws).set (xs.length + j) (.ref t3) = xs ++ ws.set j (.ref t3):=by rw [List.set_append_right _ _ (by omega)]; congr 1; congr 1; omega
   rw [eS]
   have g4:Gro [r] H3 (upd (upd H3 t3 (.tup [.str "go",.int ((xs ++ ws).length:Nat)])) r (.lst (xs ++ ws.set j (.ref t3)))):=Xe hr3 ht3
   have et:=Xd (ys:=[.str "go",.int ((xs ++ ws).length:Nat)]) (zs:=xs ++ ws.set j (.ref t3)) hr3 ht3
   rw [elen] at g4 et ⊢
   refine ⟨ws.set j (.ref t3),exA rfl ⟨Z1,?_,g4.keep g _ hg3 rg',g3.trans g4⟩⟩
   have:W2 (.tup (goV ((xs.length:Int) + (X2 [] (ks.map Pat.code) xs.length).length))) (gs.take (i + 1)) (X2 [] (ks.map Pat.code) xs.length) = (W2 (.tup (goV ((xs.length:Int) + (X2 [] (ks.map Pat.code) xs.length).length))) (gs.take i) (X2 [] (ks.map Pat.code) xs.length)).set j (.tup (goV ((xs.length:Int) + (X2 [] (ks.map Pat.code) xs.length).length))):=by
    rw [Yb hj]
    unfold W2
    rw [List.foldl_append]
    rfl
   rw [this]
   exact U6 ⟨t3,rfl,et⟩ j (Zp g4.tups hw3)
  ·rintro σ H3 ⟨ws,pl,rfl,hr3,hw3,hg3,g3⟩
   refine q _ ws H3 hr3 ?_ ((g1.trans g2).trans g3)
   rw [show (Xa xs.length gs).length = gs.length by simp [Xa],List.take_length] at hw3
   rw [show W2 (.tup (goV ((xs.length:Int) + (X2 [] (ks.map Pat.code) xs.length).length))) gs (X2 [] (ks.map Pat.code) xs.length) = orC (ks.map Pat.code) xs.length from hset] at hw3
   exact hw3
 refine Z9v ?_
 intro Ez Az1 Az2 Az3 Az4 Az5 Az6
 refine ⟨sz,fun g hg=>?_⟩
 have rg:r ≠ g:=Z7 hr0 hg
 obtain ⟨ec,ew⟩:=Z6m h1
 have q':Zaz { nx:=fun _ H'=>Q .non H',rt:=Q } H r xs (orC (ks.map Pat.code) xs.length):=fun _ ys H' h1 h2 h3=>q ys H' h1 h2 h3
 refine (exA rfl (exA rfl (exA rfl ⟨b,kv,rfl,SqT.of ((Gro.new (S:=[]) hg _).tups _ _ hb),ew,fun s1 hs1=>⟨s1,rfl,⟨_,SqT.of Z1⟩,?_⟩⟩)))
 rw [ec]
 have g0:Gro [r] H (upd (upd H g (.lst [])) s1 (.tup (kv.take (kv.length - 1)))):=(Gro.new hg _).tup hs1
 have hg0:(upd (upd H g (.lst [])) s1 (.tup (kv.take (kv.length - 1)))) g = some (.lst []):=by rw [Zf (Z7 Z1 hs1)]; exact Z1
 have hr0':(upd (upd H g (.lst [])) s1 (.tup (kv.take (kv.length - 1)))) r = some (.lst xs):=by rw [Zf (Z7 (Yz hr0 hg) hs1)]; exact Yz hr0 hg
 have hs0:(upd (upd H g (.lst [])) s1 (.tup (kv.take (kv.length - 1)))) s1 = some (.tup (kv.take (kv.length - 1))):=Z1
 generalize upd (upd H g (.lst [])) s1 (.tup (kv.take (kv.length - 1))) = H0 at g0 hg0 hr0' hs0 ⊢
 refine Z0c (xs:=kv.take (kv.length - 1)) (fun i σ H'=>∃ (ys:List V) (br tr:Option V),σ = [some (.ref r),some (.ref b),some (.ref g),br,tr,none]∧H' r = some (.lst (xs ++ ys))∧Paired (RowAt H') ys (W4 [] ((ks.take i).map Pat.code) xs.length)∧H' g = some (.lst (Xa xs.length (Jr ((ks.take i).map Pat.code) xs.length 0)))∧Gro [r] H H'∧Gro [r,g] H0 H')
  ⟨[],none,none,rfl,by simpa using hr0',.nil,hg0,g0,Gro.refl⟩ (fun i σ H' _ hh=>by obtain ⟨_,_,_,_,_,_,_,_,gg⟩:=hh; exact SqT.of (gg.tups _ _ hs0)) ?_ ?_
 ·rintro i x σ H1 hx ⟨ys,br,tr,rfl,hr1,hy1,hg1,g1,gg1⟩
  have hi:i < kv.length - 1:=by
   have:=(List.getElem?_eq_some_iff.mp hx).1
   rw [List.length_take] at this
   omega
  have hx':kv[i]? = some x:=by rw [List.getElem?_take_of_lt hi] at hx; exact hx
  obtain ⟨p,hpi,hpx⟩:=Zx hk hx'
  have hl:=Paired.length hy1
  have hpf:=V6 (ks.take i) xs.length
  have hsp:Zt (ks.take i) + p.size ≤ Zt ks:=by
   have:=Vz ks i
   rw [Vl hpi,Zt] at this
   omega
  generalize hM:xs.length + (W4 [] ((ks.take i).map Pat.code) xs.length).length = m
  have e1:(xs ++ ys).length = m:=by rw [List.length_append,hl,hM]
  have hf:=Pat.code_fits p (m + 1)
  refine (exA rfl ⟨r,_,rfl,hr1,by omega,fun t1 H2 hr2 ht1 g2=>?_⟩)
  have e2:(xs ++ ys ++ [V.ref t1]).length = m + 1:=by rw [List.length_append,e1]; rfl
  have g12:=g1.trans g2
  refine (exA rfl (exA rfl ⟨r,x,_,p,rfl,hpx.mono g12.tups,hr2,by rw [e2]; omega,fun zs H3 hr3 hz3 g3=>?_⟩))
  rw [e2] at hz3
  have hl3:=Paired.length hz3
  have g23:=g2.trans g3
  have rg':g ∉ [r]:=by simpa using Ne.symm rg
  have hg3:=g23.keep g _ hg1 rg'
  have e3:(xs ++ ys ++ [V.ref t1] ++ zs).length = m + 1 + (p.code (m + 1)).length:=by rw [List.length_append,e2,hl3]
  refine (exA rfl ⟨.inl ⟨rfl,_,SqL.of hg3⟩,exA rfl ⟨r,_,rfl,hr3,by rw [e3]; omega,fun t2 H4 hr4 ht2 g4=>?_⟩⟩)
  have hg4:=g4.keep g _ hg3 rg'
  have hgl:(Xa xs.length (Jr ((ks.take i).map Pat.code) xs.length 0)).length ≤ 1000:=by
   have:∀ (cs:List Cd) (b s:Nat),(Jr cs b s).length = cs.length:=by
    intro cs
    induction cs with
    | nil=>intro b s; rfl
    | cons c cs ih=>intro b s; rw [Jr,List.length_cons,ih,List.length_cons]
   simp only [Xa,List.length_map,this,List.length_take]
   omega
  refine ⟨g,exB rfl rfl ⟨hg4,Y7 hgl,?_⟩⟩
  generalize hH5:upd H4 g (.lst (Xa xs.length (Jr ((ks.take i).map Pat.code) xs.length 0) ++ [V.int ((xs ++ ys ++ [V.ref t1] ++ zs).length:Nat)])) = H5
  have g5:Gro [g] H4 H5:=by rw [← hH5]; exact Gro.set (by simp) hg4 _
  have hr5:H5 r = some (.lst (xs ++ ys ++ [V.ref t1] ++ zs ++ [.ref t2])):=by rw [← hH5,Zf rg]; exact hr4
  have hg5:H5 g = some (.lst (Xa xs.length (Jr ((ks.take (i + 1)).map Pat.code) xs.length 0))):=by
   rw [← hH5,Z1,Yb hpi,List.map_append,List.map_singleton,Tr _ _ _ _ m hM.symm]
   unfold Xa
   rw [List.map_append,List.map_singleton,e3]
   congr 3
   simp only [List.cons.injEq,V.int.injEq,and_true]
   omega
  have e5:(xs ++ ys ++ [V.ref t1] ++ zs ++ [V.ref t2]).length = m + (p.code (m + 1)).length + 2:=by rw [List.length_append,e3]; simp; omega
  refine (exA rfl ⟨r,exA rfl ⟨.inl (SqL.of hr5),sz,fun t6 ht6=>?_⟩⟩)
  refine (exA rfl (exA rfl ⟨r,_,_,m,rfl,rfl,Yz hr5 ht6,by rw [e1]; exact Xv (by rw [e5]; omega),?_⟩))
  have eL:(xs ++ ys ++ [V.ref t1] ++ zs ++ [V.ref t2]).set m (.ref t6) = xs ++ (ys ++ (.ref t6 :: (zs ++ [.ref t2]))):=by
   rw [show xs ++ ys ++ [V.ref t1] ++ zs ++ [V.ref t2] = (xs ++ ys) ++ V.ref t1 :: (zs ++ [V.ref t2]) by simp,Ti e1.symm]
   simp
  rw [eL]
  have g6:Gro [r] H5 (upd (upd H5 t6 (.tup [.str "try",.int ((xs ++ ys ++ [V.ref t1] ++ zs ++ [V.ref t2]).length:Nat)])) r (.lst (xs ++ (ys ++ (.ref t6 :: (zs ++ [.ref t2])))))):=Xe hr5 ht6
  have et:=Xd (ys:=[.str "try",.int ((xs ++ ys ++ [V.ref t1] ++ zs ++ [V.ref t2]).length:Nat)]) (zs:=xs ++ (ys ++ (.ref t6 :: (zs ++ [.ref t2])))) hr5 ht6
  rw [e5] at g6 et ⊢
  have k16:∀ b c,H1 b = some (.tup c)→_:=fun b c h=>g6.tups b c (g5.tups _ _ (g4.tups _ _ (g23.tups _ _ h)))
  have k36:∀ b c,H3 b = some (.tup c)→_:=fun b c h=>g6.tups b c (g5.tups _ _ (g4.tups _ _ h))
  have g15:Gro [r,g] H1 _:=(((g23.trans g4).mono (by simp)).trans (g5.mono (by simp))).trans (g6.mono (by simp))
  refine ⟨ys ++ (.ref t6 :: (zs ++ [.ref t2])),_,_,rfl,Z1,?_,g6.keep g _ hg5 rg',?_,gg1.trans g15⟩
  ·rw [Yb hpi,List.map_append,List.map_singleton,Ts _ _ _ _ m hM.symm]
   refine Zg (Zp k16 hy1) (.cons ⟨t6,rfl,?_⟩ (Zg (Zp k36 hz3) (.cons ⟨t2,rfl,?_⟩ .nil)))
   ·rw [et]
    congr 5
   ·exact g6.tups _ _ (g5.tups _ _ ht2)
  ·have:=(g0.mono (S':=[r,g]) (by simp)).trans (gg1.trans g15)
   refine ⟨fun c o hc hcr=>this.keep c o hc ?_,this.tups⟩
   have:c ≠ g:=Z7 hc hg
   simp at hcr ⊢
   exact ⟨hcr,this⟩
 ·rintro σ H1 ⟨ys,br,tr,rfl,hr1,hy1,hg1,g1,gg1⟩
  rw [List.length_take,show min (kv.length - 1) kv.length = kv.length - 1 by omega] at hy1 hg1
  exact ⟨g,ys,br,tr,rfl,rg,hg,hr1,hy1,hg1,g1,q'⟩
end
theorem Tn:∀ (cs:List Cd) (c:Cd) (b m:Nat),m = b + (To cs b).length→To (cs ++ [c]) b = To cs b ++ c m
 | [],c,b,m,h=>by rw [show m = b from h]; simp [To]
 | d :: cs,c,b,m,h=>by
  rw [To,List.length_append] at h
  rw [List.cons_append,To,Tn cs c (b + (d b).length) m (by omega),To,List.append_assoc]
theorem Xm {α β:Type} {F:α→β→Prop} {x:α} {ys:List β} (h:Paired F [x] ys):∃ y,ys = [y]∧F x y:=by
 cases h with
 | cons r t=>cases t; exact (exA rfl r)
theorem Z26 {α β:Type} {F:α→β→Prop} {x x':α} {ys:List β} (h:Paired F [x,x'] ys):∃ y y',ys = [y,y']∧F x y∧F x' y':=by
 cases h with
 | cons r t =>
  obtain ⟨y,rfl,h'⟩:=Xm t
  exact ⟨_,_,rfl,r,h'⟩
section
variable {P:Program} {w:World} {K:PySem.W.Frag} {mg:Str→Option Value} {base:Heap} {f:Addr} {fd:FuncData}
abbrev Z7h:How→Prop:=fun _=>True
abbrev s_put:Stmt:=top 5
theorem sc_put:FnScope ["rows", "pattern", "kind", "part"] ["rows", "pattern"] (Z5 s_put):=fsc
theorem Zaf {n k:Nat} {it:Addr} (T:Blt mg) (c_ITSELF:mg "ITSELF" = some (.ref it)) (hIT:∀ H,SqT K H it itself) (O_put:Own P w K mg base (2 + k) "put" ["rows", "pattern"] (Td n)) (O_put_or:Own P w K mg base (2 + k + 1) "put_or" ["rows", "branches"] (Z34 n)) (O_put_times:Own P w K mg base (2 + k + 2) "put_times" ["rows", "low", "high", "how", "part"] (Yu Z7h n))
  (O_put_have:Own P w K mg base (2 + k + 1) "put_have" ["rows", "number", "yes", "no"] (Tc n)) (O_put_look:Own P w K mg base (2 + k + 1) "put_look" ["rows", "kind", "part"] (Tb n)) (F:Fun K "put" "put" s_put f fd):FnOk P w K mg base CX0 (2 + k + 3) f fd ["rows", "pattern"] (Td (n + 1)):=by
 refine F.ok sc_put (fun vs H Q E h=>?_) (fun cdv A outer s H vs Q E hr h=>?_)
 ·obtain ⟨r,v,xs,p,rfl,_⟩:=h
  rfl
 obtain ⟨r,v,xs,⟨h,ks⟩,rfl,hp,hr0,hz,q⟩:=h
 refine ltX ?_
 intro Xz
 refine ⟨_,(Z2 (pS 2 sc_put.nd (Zl Zb (pv 1) Z6 (fun _ _=>rfl)))
  (Z4 (Y0 (Ze W9 (pv 2) (Wh (v:=.ref _) rfl c_ITSELF rfl) (by with_unfolding_all rfl)) (Z4 (Z9 (X6 PySem.F.plainAttrs_list PySem.F.slot_list_append PySem.F.type_list_append Zu (pv 0) (Z0 (pv 1) Z3)))) (Z4 (Y0 (Ze Yc (pv 2) Zj (Zn _)) (Z4 (V3 PassesOwn.never rfl (Z0x (Zl Zb (pv 1) Z6 (fun _ _=>rfl))) (pN 3 sc_put.nd) (Z4 (Z9 (Zo (O_put.mono (by omega)) hr rfl (Z0 (pv 0) (Z0 (pv 3) Z3))))))) (Z4 (Y0 (Ze Yc (pv 2) Zj (Zn _)) (Z4 (Z9 (Zo (O_put_or.mono (by omega)) hr rfl (Z0 (pv 0) (Z0 (Zl Zb (pv 1) Z6 (fun _ _=>rfl)) Z3))))) (Z4 (Y0 (Ze Yc (pv 2) Zj (Zn _)) (Z4 (Z9 (Zo (O_put_times.mono (by omega)) hr rfl (Z0 (pv 0) (Z0 (Zl Zb (pv 1) Z6 (fun _ _=>rfl)) (Z0 (Zl Zb (pv 1) Z6 (fun _ _=>rfl)) (Z0 (Zl Zb (pv 1) Z6 (fun _ _=>rfl)) (Z0 (Zl Zb (pv 1) Z6 (fun _ _=>rfl)) Z3)))))))) (Z4 (Y0 (Ze Yc (pv 2) Zj (Zn _)) (Z2 (Z9 (X6 PySem.F.plainAttrs_list PySem.F.slot_list_append PySem.F.type_list_append Zu (pv 0) (Z0 (Zm (Z0 Zj Z3)) Z3)))
  (Z2 (Z9 (Zo (O_put.mono (by omega)) hr rfl (Z0 (pv 0) (Z0 (Zl Zb (pv 1) Z6 (fun _ _=>rfl)) Z3))))
  (Z4 (Z9 (X6 PySem.F.plainAttrs_list PySem.F.slot_list_append PySem.F.type_list_append Zu (pv 0) (Z0 (Zm (Z0 Zj (Z0 (Zl Zb (pv 1) Z6 (fun _ _=>rfl)) Z3))) Z3)))))) (Z4 (Y0 (Ze Yc (pv 2) Zj (Zn _)) (Z4 (Z9 (Zo (O_put_have.mono (by omega)) hr rfl (Z0 (pv 0) (Z0 (Zl Zb (pv 1) Z6 (fun _ _=>rfl)) (Z0 (Zl Zb (pv 1) Z6 (fun _ _=>rfl)) (Z0 (Zl Zb (pv 1) Z6 (fun _ _=>rfl)) Z3))))))) (Z4 (Z9 (Zo (O_put_look.mono (by omega)) hr rfl (Z0 (pv 0) (Z0 (pv 2) (Z0 (Zl Zb (pv 1) Z6 (fun _ _=>rfl)) Z3))))))))))))))))))),?_⟩
 refine Z9m ?_
 intro Ez Az1 Az2 Az3 Az4 Az5 Az6 Az7 Az8 Az9 Az10 Az11 Az12 Az13 Az14 Az15 Az16
 rw [Vn] at q
 rw [Yd] at hz
 obtain ⟨a,kv,rfl,lay,hk⟩:=id hp
 obtain ⟨r0,ea⟩:=lay.head
 refine (ixT ea at0 (?_))
 refine (exA rfl ⟨it,itself,rfl,.inr (hIT _),rfl,rfl,exA rfl (?_)⟩)
 show if inV (.str h.word) itself = true then _ else _
 rw [Z5a]
 refine Wi (fun z=>?_) (fun z=>?_)
 ·refine (exA rfl ⟨.inl ⟨rfl,_,SqL.of hr0⟩,exA rfl ⟨r,xs,exA rfl ⟨rfl,hr0,big (by omega),?_⟩⟩⟩)
  have g1:Gro [r] H (upd H r (.lst (xs ++ [.ref a]))):=Gro.set (by simp) hr0 _
  refine q [.ref a] _ Z1 ?_ g1
  rw [Z4e z]
  exact .cons ((hp.leafy z).mono g1.tups) .nil
 cases h with
 | row =>
  obtain ⟨z10,b,e,er⟩:=lay
  refine (exA rfl ⟨rfl,exA rfl (Zq (by decide +kernel) ?_)⟩)
  refine (ixT e rfl ⟨b,rfl,⟨_,SqT.of er⟩,?_⟩)
  have hkl:=Paired.length hk
  refine Z0c (xs:=kv) (fun i σ H'=>∃ (ys:List V) (pt:Option V),σ = [some (.ref r),some (.ref a),some (.str "row"),pt]∧H' r = some (.lst (xs ++ ys))∧Paired (RowAt H') ys (To ((ks.take i).map Pat.code) xs.length)∧Gro [r] H H')
   ⟨[],none,rfl,by simpa using hr0,.nil,Gro.refl⟩ (fun i σ H' _ hh=>by obtain ⟨_,_,_,_,_,g⟩:=hh; exact SqT.of (g.tups _ _ er)) ?_ ?_
  ·rintro i x σ H1 hx ⟨ys,pt,rfl,hr1,hy1,g1⟩
   obtain ⟨p,hpi,hpx⟩:=Zx hk hx
   have hl:=Paired.length hy1
   have hrf:=V1 (ks:=ks.take i) (fun k _=>Pat.code_fits k) xs.length
   have hsp:Zt (ks.take i) + p.size ≤ Zt ks:=by
    have:=Vz ks i
    rw [Vl hpi,Zt] at this
    omega
   have e1:(xs ++ ys).length = xs.length + (To ((ks.take i).map Pat.code) xs.length).length:=by rw [List.length_append,hl]
   refine (exA rfl (exA rfl ⟨r,x,_,p,rfl,hpx.mono g1.tups,hr1,by rw [e1]; omega,fun zs H2 hr2 hz2 g2=>?_⟩))
   refine ⟨ys ++ zs,exA rfl ⟨by rw [hr2,List.append_assoc],?_,g1.trans g2⟩⟩
   rw [Yb hpi,List.map_append,List.map_singleton,Tn _ _ _ _ rfl]
   rw [e1] at hz2
   exact Zg (Zp g2.tups hy1) hz2
  ·rintro σ H1 ⟨ys,pt,rfl,hr1,hy1,g1⟩
   rw [hkl,List.take_length] at hy1
   exact q ys H1 hr1 hy1 g1
 | alt =>
  obtain ⟨z1,z10,b,e,er⟩:=lay
  refine (exA rfl ⟨rfl,exA rfl (Zd (by decide +kernel) ?_)⟩)
  refine (exA rfl ⟨rfl,exA rfl (Zq (by decide +kernel) ?_)⟩)
  exact (exA rfl (ixT e rfl ⟨r,b,xs,kv,ks,rfl,er,hk,z1,z10,hr0,by omega,fun ys H' h1 h2 h3=>q ys H' h1 h2 h3⟩))
 | times lo hi how =>
  obtain ⟨_,k,e0,e⟩:=lay
  subst e0
  refine (exA rfl ⟨rfl,exA rfl (Zd (show ¬ isw "times" "row" = true by decide +kernel) ?_)⟩)
  refine (exA rfl ⟨rfl,exA rfl (Zd (show ¬ isw "times" "or" = true by decide +kernel) ?_)⟩)
  refine (exA rfl ⟨rfl,exA rfl (Zq (show isw "times" "times" = true by decide +kernel) ?_)⟩)
  obtain ⟨p,rfl,hpk⟩:=Xm hk
  rw [Xg] at hz
  exact (exA rfl (ixT e rfl (ixT e rfl (ixT e rfl (ixT e rfl ⟨r,lo,hi,how,k,xs,p,rfl,trivial,hpk,hr0,by cases how <;> simp only [How.ext] <;> omega,fun ys H' h1 h2 h3=>q ys H' h1 h2 h3⟩)))))
 | grp j =>
  obtain ⟨_,k,e0,e⟩:=lay
  subst e0
  refine (exA rfl ⟨rfl,exA rfl (Zd (show ¬ isw "group" "row" = true by decide +kernel) ?_)⟩)
  refine (exA rfl ⟨rfl,exA rfl (Zd (show ¬ isw "group" "or" = true by decide +kernel) ?_)⟩)
  refine (exA rfl ⟨rfl,exA rfl (Zd (show ¬ isw "group" "times" = true by decide +kernel) ?_)⟩)
  refine (exA rfl ⟨rfl,exA rfl (Zq (show isw "group" "group" = true by decide +kernel) ?_)⟩)
  obtain ⟨p,rfl,hpk⟩:=Xm hk
  rw [Xg] at hz
  have hf:=Pat.code_fits p (xs.length + 1)
  refine (exA rfl ⟨.inl ⟨rfl,_,SqL.of hr0⟩,sz,fun t ht=>⟨r,xs,exA rfl ⟨rfl,Yz hr0 ht,big (by omega),?_⟩⟩⟩)
  have g1:Gro [r] H _:=Xe (zs:=xs ++ [V.ref t]) (o:=.tup [.str "open"]) hr0 ht
  have e1:(xs ++ [V.ref t]).length = xs.length + 1:=by simp
  refine (exA rfl (ixT (g1.tups _ _ e) rfl ⟨r,k,_,p,rfl,hpk.mono g1.tups,Z1,by rw [e1]; omega,fun ys H2 hr2 hp2 g2=>?_⟩))
  rw [e1] at hp2
  have hl:=Paired.length hp2
  have hl2:(xs ++ [V.ref t] ++ ys).length ≤ 1000000:=by rw [List.length_append,e1,hl]; omega
  refine (exA rfl ⟨.inl ⟨rfl,_,SqL.of hr2⟩,ixT (g2.tups _ _ (g1.tups _ _ e)) rfl ⟨sz,fun t2 ht2=>⟨r,exB rfl rfl ⟨Yz hr2 ht2,big hl2,?_⟩⟩⟩⟩)
  have g3:Gro [r] H2 _:=Xe (zs:=xs ++ [V.ref t] ++ ys ++ [V.ref t2]) (o:=.tup [.str "close",.int j]) hr2 ht2
  have et:H2 t = some (.tup [.str "open"]):=g2.tups _ _ (Xd hr0 ht)
  refine q (.ref t :: (ys ++ [.ref t2])) _ (by simp [Z1]) ?_ ((g1.trans g2).trans g3)
  exact .cons ⟨t,rfl,g3.tups _ _ et⟩ (Zg (Zp g3.tups hp2) (.cons ⟨t2,rfl,Xd hr2 ht2⟩ .nil))
 | hav j =>
  obtain ⟨_,y,z',e0,e⟩:=lay
  subst e0
  refine (exA rfl ⟨rfl,exA rfl (Zd (show ¬ isw "have" "row" = true by decide +kernel) ?_)⟩)
  refine (exA rfl ⟨rfl,exA rfl (Zd (show ¬ isw "have" "or" = true by decide +kernel) ?_)⟩)
  refine (exA rfl ⟨rfl,exA rfl (Zd (show ¬ isw "have" "times" = true by decide +kernel) ?_)⟩)
  refine (exA rfl ⟨rfl,exA rfl (Zd (show ¬ isw "have" "group" = true by decide +kernel) ?_)⟩)
  refine (exA rfl ⟨rfl,exA rfl (Zq (show isw "have" "have" = true by decide +kernel) ?_)⟩)
  obtain ⟨p,p',rfl,hpk,hpk'⟩:=Z26 hk
  rw [Zt,Xg] at hz
  exact (exA rfl (ixT e rfl (ixT e rfl (ixT e rfl ⟨r,j,y,z',xs,p,p',rfl,hpk,hpk',hr0,by omega,fun ys H' h1 h2 h3=>q ys H' h1 h2 h3⟩))))
 | look lk =>
  obtain ⟨k,e0,e⟩:=lay
  subst e0
  have t:isw lk.text "row" = false∧isw lk.text "or" = false∧isw lk.text "times" = false∧isw lk.text "group" = false∧isw lk.text "have" = false:=by cases lk <;> decide +kernel
  obtain ⟨t1,t2,t3,t4,t5⟩:=t
  refine (exA rfl ⟨rfl,exA rfl (Zd (show ¬ isw lk.text "row" = true by rw [t1]; decide) ?_)⟩)
  refine (exA rfl ⟨rfl,exA rfl (Zd (show ¬ isw lk.text "or" = true by rw [t2]; decide) ?_)⟩)
  refine (exA rfl ⟨rfl,exA rfl (Zd (show ¬ isw lk.text "times" = true by rw [t3]; decide) ?_)⟩)
  refine (exA rfl ⟨rfl,exA rfl (Zd (show ¬ isw lk.text "group" = true by rw [t4]; decide) ?_)⟩)
  refine (exA rfl ⟨rfl,exA rfl (Zd (show ¬ isw lk.text "have" = true by rw [t5]; decide) ?_)⟩)
  obtain ⟨p,rfl,hpk⟩:=Xm hk
  rw [Xg] at hz
  exact (exA rfl (exA rfl (ixT e rfl ⟨r,lk,k,xs,p,rfl,hpk,hr0,by omega,fun ys H' h1 h2 h3=>q ys H' h1 h2 h3⟩)))
 | sign _=>exact absurd rfl z
 | any=>exact absurd rfl z
 | inn _=>exact absurd rfl z
 | out _=>exact absurd rfl z
 | beg=>exact absurd rfl z
 | fin=>exact absurd rfl z
 | again _=>exact absurd rfl z
theorem Z3x {it le ls:Addr} (T:Blt mg) (c_ITSELF:mg "ITSELF" = some (.ref it)) (hIT:∀ H,SqT K H it itself) (c_LEANING:mg "LEANING" = some (.ref le)) (hLE:∀ H,SqT K H le leaning) (c_LAST_ROWS:mg "LAST_ROWS" = some (.ref ls)) (hLS:DcK K w ls lastRows)
  (d1:Def K mg "put" s_put ["rows", "pattern"]) (d2:Def K mg "hold_place" s_hold_place ["rows"]) (d3:Def K mg "put_or" s_put_or ["rows", "branches"]) (d4:Def K mg "put_times" s_put_times ["rows", "low", "high", "how", "part"]) (d5:Def K mg "put_have" s_put_have ["rows", "number", "yes", "no"]) (d6:Def K mg "put_look" s_put_look ["rows", "kind", "part"]) :
  ∀ n,Own P w K mg base (2 + 3 * n) "put" ["rows", "pattern"] (Td n)
 | 0=>d1.own fun f fd F=>FnOk.never fun vs H Q E h=>by
  obtain ⟨_,_,_,_,_,hp,_⟩:=h
  exact hp.elim
 | n + 1=>by
  have ih:=Z3x T c_ITSELF hIT c_LEANING hLE c_LAST_ROWS hLS d1 d2 d3 d4 d5 d6 n
  have hold:Own P w K mg base 1 "hold_place" ["rows"] Vx:=d2.own fun _ _ F=>Uz T F
  have no:Own P w K mg base (2 + 3 * n) "put_times" ["rows", "low", "high", "how", "part"] (Yu (fun _=>False) n):=d4.own fun _ _ F=>FnOk.never fun vs H Q E h=>by
   obtain ⟨_,_,_,_,_,_,_,_,z,_⟩:=h
   exact z
  have t1:Own P w K mg base (2 + 3 * n + 1) "put_times" ["rows", "low", "high", "how", "part"] (Yu (fun h=>h = .much) n):=d4.own fun _ _ F=>Wn (ok':=fun _=>False) (fun how e z=>by rw [e] at z; cases z) T hold ih no F
  have t2:Own P w K mg base (2 + (3 * n + 1) + 1) "put_times" ["rows", "low", "high", "how", "part"] (Yu Z7h n):=d4.own fun _ _ F=>Wn (k:=3 * n + 1) (ok':=fun h=>h = .much) (fun how _ _=>rfl) T hold (ih.mono (k:=2 + (3 * n + 1)) (by omega)) (t1.mono (k:=2 + (3 * n + 1)) (by omega)) F
  exact d1.own fun _ _ F=>Zaf (k:=3 * n) T c_ITSELF hIT ih (d3.own fun _ _ F=>Z42 T hold ih F) (t2.mono (k:=2 + 3 * n + 2) (by omega)) (d5.own fun _ _ F=>Jv T hold ih F) (d6.own fun _ _ F=>Ju T c_LEANING hLE c_LAST_ROWS hLS hold ih F) F
inductive spCodedI (vs:List V) (H:Hp) (Q:VK):Prop
 | mk (v:V) (p:Pat) (_:vs = [v]) (_:PatAt H 8 v p) (_:p.size ≤ 20000) (_:∀ (t:Addr) (ys:List V) (H':Hp),H' t = some (.tup ys)→Paired (RowAt H') ys (p.code 0 ++ [.tup [.str "found"]])→Gro [] H H'→Q (.ref t) H')
def Up:Sp:=fun vs H Q _=>spCodedI vs H Q
abbrev s_coded:Stmt:=top 4
theorem sc_coded:FnScope ["pattern", "rows"] ["pattern"] (Z5 s_coded):=fsc
theorem Z5z (T:Blt mg) (O_put:Own P w K mg base 26 "put" ["rows", "pattern"] (Td 8)) (F:Fun K "coded" "coded" s_coded f fd):FnOk P w K mg base CX0 27 f fd ["pattern"] Up:=by
 refine F.ok sc_coded (fun vs H Q E h=>?_) (fun cdv A outer s H vs Q E hr h=>?_)
 ·obtain ⟨v,p,rfl,_⟩:=h
  rfl
 obtain ⟨v,p,rfl,hp,hz,q⟩:=h
 refine ltX ?_
 intro Xz
 refine ⟨_,(Z2 (pS 1 sc_coded.nd (U5 Z3))
  (Z2 (Z9 (Zo (O_put.mono (by omega)) hr rfl (Z0 (pv 1) (Z0 (pv 0) Z3))))
  (Z2 (Z9 (X6 PySem.F.plainAttrs_list PySem.F.slot_list_append PySem.F.type_list_append Zu (pv 1) (Z0 (Zm (Z0 Zj Z3)) Z3)))
  (Z4 (Zw (Vb Wf rfl T.b_tuple PyProof.Rows.Boot.«tuple» (Z0 (pv 1) Z3))))))),?_⟩
 refine Z3l ?_
 intro Ez Az1 Az2 Az3
 refine ⟨sz,fun r hr0=>?_⟩
 have g0:Gro [] H (upd H r (.lst [])):=Gro.new hr0 _
 refine (exA rfl (exA rfl ⟨r,v,[],p,rfl,hp.mono g0.tups,Z1,by simp; omega,fun ys H1 hr1 hy1 g1=>?_⟩))
 have hl:=Paired.length hy1
 have hf:=Pat.code_fits p 0
 have hl1:([] ++ ys).length ≤ 1000000:=by rw [List.nil_append,hl]; show (p.code 0).length ≤ _; omega
 refine (exA rfl ⟨.inl ⟨rfl,_,SqL.of hr1⟩,sz,fun t ht=>⟨r,exB rfl rfl ⟨Yz hr1 ht,big hl1,?_⟩⟩⟩)
 have g2:Gro [r] H1 _:=Xe (zs:=[] ++ ys ++ [V.ref t]) (o:=.tup [.str "found"]) hr1 ht
 refine (exA rfl ⟨r,exA rfl (.inl ⟨SqL.of Z1,fun t3 ht3=>?_⟩)⟩)
 have et:=Xd (ys:=[.str "found"]) (zs:=[] ++ ys ++ [V.ref t]) hr1 ht
 generalize upd (upd H1 t (.tup [.str "found"])) r (.lst ([] ++ ys ++ [V.ref t])) = H2 at *
 have g3:Gro [] H2 (upd H2 t3 (.tup ([] ++ ys ++ [V.ref t]))):=Gro.new ht3 _
 have gg:Gro [r] (upd H r (.lst [])) (upd H2 t3 (.tup ([] ++ ys ++ [V.ref t]))):=(g1.trans g2).trans (g3.mono (by simp))
 refine q t3 _ _ Z1 ?_ ⟨fun c o hc _=>?_,fun c zs hc=>gg.tups _ _ (g0.tups _ _ hc)⟩
 ·rw [List.nil_append]
  exact Zg (Zp (fun b c h=>g3.tups _ _ (g2.tups _ _ h)) hy1) (.cons ⟨t,rfl,g3.tups _ _ et⟩ .nil)
 ·exact gg.keep c o (g0.keep c o hc (by simp)) (by simpa using Z7 hc hr0)
end
section
variable {P:Program} {w:World} {K:PySem.W.Frag} {mg:Str→Option Value} {base:Heap} {f:Addr} {fd:FuncData}
inductive spAlkI (n:Nat) (vs:List V) (H:Hp) (Q:VK):Prop
 | mk (x y:V) (_:vs = [x,y]) (_:Wg H n x y) (_:Q (.bl true) H)
def Z1w (n:Nat):Sp:=fun vs H Q _=>spAlkI n vs H Q
abbrev s_l_alike:Stmt:=top 41
theorem sc_l_alike:FnScope ["_law_found", "_law_due", "_law_k"] ["_law_found", "_law_due"] (Z5 s_l_alike):=fsc
theorem Zah {n:Nat} (T:Blt mg) (O_l_alike:Own P w K mg base (2 + n) "_law_alike" ["_law_found", "_law_due"] (Z1w n)) (F:Fun K "_law_alike" "_law_alike" s_l_alike f fd):FnOk P w K mg base CX0 (2 + n + 1) f fd ["_law_found", "_law_due"] (Z1w (n + 1)):=by
 refine F.ok sc_l_alike (fun vs H Q E h=>?_) (fun cdv A outer s H vs Q E hr h=>?_)
 ·obtain ⟨x,y,rfl,_⟩:=h
  rfl
 obtain ⟨x,y,rfl,hxy,q⟩:=h
 refine ltX ?_
 intro Xz
 refine ⟨_,(Z2 (Y0 (Z3o (Tu (pv 1))) (Z4 (Zw (Z6z (Tu (pv 0))))) Zr)
  (Z2 (Y0 (Yt (Zc (Zz (T := "bool") (Xk (by simp))) rfl T.b_isinstance PyProof.Rows.Boot.«isinstance» (Z0 (pv 1) (Z0 (Yx (v:=.ty "bool") rfl T.b_bool PyProof.Rows.Boot.«bool» rfl) Z3)))) (Z4 (Zw (Z12 (Zc (Zz (T := "bool") (Xk (by simp))) rfl T.b_isinstance PyProof.Rows.Boot.«isinstance» (Z0 (pv 0) (Z0 (Yx (v:=.ty "bool") rfl T.b_bool PyProof.Rows.Boot.«bool» rfl) Z3))) (Z10 (X5 Yc (pv 0) (pv 1) (Zn _)))))) Zr)
  (Z2 (Y0 (Yt (Zc (Zz (T := "int") (Xk (by simp))) rfl T.b_isinstance PyProof.Rows.Boot.«isinstance» (Z0 (pv 1) (Z0 (Yx (v:=.ty "int") rfl T.b_int PyProof.Rows.Boot.«int» rfl) Z3)))) (Z4 (Zw (Z12 (Zc (Zz (T := "int") (Xk (by simp))) rfl T.b_isinstance PyProof.Rows.Boot.«isinstance» (Z0 (pv 0) (Z0 (Yx (v:=.ty "int") rfl T.b_int PyProof.Rows.Boot.«int» rfl) Z3))) (Z12 (Za7 (Zc (Zz (T := "bool") (Xk (by simp))) rfl T.b_isinstance PyProof.Rows.Boot.«isinstance» (Z0 (pv 0) (Z0 (Yx (v:=.ty "bool") rfl T.b_bool PyProof.Rows.Boot.«bool» rfl) Z3)))) (Z10 (X5 Yc (pv 0) (pv 1) (Zn _))))))) Zr)
  (Z2 (Y0 (Yt (Zc (Zz (T := "str") (Xk (by simp))) rfl T.b_isinstance PyProof.Rows.Boot.«isinstance» (Z0 (pv 1) (Z0 (Yx (v:=.ty "str") rfl T.b_str PyProof.Rows.Boot.«str» rfl) Z3)))) (Z4 (Zw (Z12 (Zc (Zz (T := "str") (Xk (by simp))) rfl T.b_isinstance PyProof.Rows.Boot.«isinstance» (Z0 (pv 0) (Z0 (Yx (v:=.ty "str") rfl T.b_str PyProof.Rows.Boot.«str» rfl) Z3))) (Z10 (X5 Yc (pv 0) (pv 1) (Zn _)))))) Zr)
  (Z2 (Y0 (PW.pt (Z7w (Ze Z27 (Zc (Zz (T := "tuple") (Xk (by simp))) rfl T.b_isinstance PyProof.Rows.Boot.«isinstance» (Z0 (pv 1) (Z0 (Yx (v:=.ty "tuple") rfl T.b_tuple PyProof.Rows.Boot.«tuple» rfl) Z3))) (Zc (Zz (T := "tuple") (Xk (by simp))) rfl T.b_isinstance PyProof.Rows.Boot.«isinstance» (Z0 (pv 0) (Z0 (Yx (v:=.ty "tuple") rfl T.b_tuple PyProof.Rows.Boot.«tuple» rfl) Z3))) (Zn _)) (Z3m (Ze Z27 (Zc (Zz (T := "list") (Xk (by simp))) rfl T.b_isinstance PyProof.Rows.Boot.«isinstance» (Z0 (pv 1) (Z0 (Yx (v:=.ty "list") rfl T.b_list PyProof.Rows.Boot.«list» rfl) Z3))) (Zc (Zz (T := "list") (Xk (by simp))) rfl T.b_isinstance PyProof.Rows.Boot.«isinstance» (Z0 (pv 0) (Z0 (Yx (v:=.ty "list") rfl T.b_list PyProof.Rows.Boot.«list» rfl) Z3))) (Zn _))))) (Z4 (Zw W7)) Zr)
  (Z2 (Y0 (Ze Z27 (Zc Zk rfl T.b_len PyProof.Rows.Boot.«len» (Z0 (pv 0) Z3)) (Zc Zk rfl T.b_len PyProof.Rows.Boot.«len» (Z0 (pv 1) Z3)) (Zn _)) (Z4 (Zw W7)) Zr)
  (Z2 (V3 PassesOwn.never rfl (Yw rfl T.b_range (Z0 (Zc Zk rfl T.b_len PyProof.Rows.Boot.«len» (Z0 (pv 1) Z3)) Z3)) (pN 2 sc_l_alike.nd) (Z4 (Y0 (Z3n (Yt (Zo (O_l_alike.mono (by omega)) hr rfl (Z0 (Zl Zb (pv 0) (pv 2) (fun _ _=>rfl)) (Z0 (Zl Zb (pv 1) (pv 2) (fun _ _=>rfl)) Z3))))) (Z4 (Zw W7)) Zr)))
  (Z4 (Zw W7))))))))),?_⟩
 refine Z9o ?_
 intro Ez Az1 Az2 Az3 Az4 Az5 Az6 Az7 Az8 Az9 Az10 Az11 Az12 Az13 Az14 Az15
 rcases hxy with ⟨rfl,hx⟩ | ⟨a,b,xs,ys,rfl,rfl,ha,hb,hz,hp⟩
 ·cases x with
  | non=>exact (exA rfl (exA rfl (Zq (by decide) (exA rfl q))))
  | bl i =>
   refine ⟨_,rfl,_,rfl,Zd (by simp) ?_⟩
   refine ⟨_,rfl,_,_,rfl,rfl,_,rfl,Zq (by decide) ?_⟩
   refine ⟨_,rfl,_,_,rfl,rfl,_,rfl,Zq (by decide) ?_⟩
   refine (exA rfl (exA rfl ⟨rfl,?_⟩))
   rw [decide_eq_true rfl]
   exact q
  | int i =>
   refine ⟨_,rfl,_,rfl,Zd (by simp) ?_⟩
   refine ⟨_,rfl,_,_,rfl,rfl,_,rfl,Zd (by decide) ?_⟩
   refine ⟨_,rfl,_,_,rfl,rfl,_,rfl,Zq (by decide) ?_⟩
   refine ⟨_,rfl,_,_,rfl,rfl,_,rfl,Zq (by decide) ?_⟩
   refine ⟨_,rfl,_,_,rfl,rfl,_,rfl,_,rfl,Zq (by decide) ?_⟩
   refine (exA rfl (exA rfl ⟨rfl,?_⟩))
   rw [decide_eq_true rfl]
   exact q
  | str i =>
   refine ⟨_,rfl,_,rfl,Zd (by simp) ?_⟩
   refine ⟨_,rfl,_,_,rfl,rfl,_,rfl,Zd (by decide) ?_⟩
   refine ⟨_,rfl,_,_,rfl,rfl,_,rfl,Zd (by decide) ?_⟩
   refine ⟨_,rfl,_,_,rfl,rfl,_,rfl,Zq (by decide) ?_⟩
   refine ⟨_,rfl,_,_,rfl,rfl,_,rfl,Zq (by decide) ?_⟩
   refine (exA rfl (exA rfl ⟨rfl,?_⟩))
   rw [decide_eq_true rfl]
   exact q
  | _=>exact absurd (show false = true from hx) (by decide)
 ·have hl:=Paired.length hp
  refine (exA rfl (exA rfl (Zd (by simp) ?_)))
  refine (exA rfl ⟨_,_,rfl,.inl ⟨ys,hb,rfl⟩,exA rfl (Zd (by decide) ?_)⟩)
  refine (exA rfl ⟨_,_,rfl,.inl ⟨ys,hb,rfl⟩,exA rfl (Zd (by decide) ?_)⟩)
  refine (exA rfl ⟨_,_,rfl,.inl ⟨ys,hb,rfl⟩,exA rfl (Zd (by decide) ?_)⟩)
  refine (exA rfl ⟨_,_,rfl,.inl ⟨ys,hb,rfl⟩,exA rfl ⟨_,_,rfl,.inl ⟨xs,ha,rfl⟩,rfl,exA rfl (Zd (by decide) ?_)⟩⟩)
  refine (exA rfl ⟨_,_,rfl,.inl ⟨ys,hb,rfl⟩,exA rfl ⟨_,_,rfl,.inl ⟨xs,ha,rfl⟩,rfl,exA rfl (Zd (by decide) ?_)⟩⟩)
  refine (exA rfl ⟨a,xs,rfl,.inr (SqT.of ha),exA rfl ⟨b,ys,rfl,.inr (SqT.of hb),rfl,exA rfl (Zd (by rw [hl]; simp) ?_)⟩⟩)
  refine (exA rfl ⟨b,ys,rfl,.inr (SqT.of hb),exA rfl ⟨by omega,by omega,?_⟩⟩)
  refine J6 (fun i σ H'=>∃ k:Option V,σ = [some (.ref a),some (.ref b),k]∧H' = H) ⟨none,rfl,rfl⟩ ?_ ?_
  ·rintro i σ H' hi ⟨k,rfl,rfl⟩
   have hi2:i < ys.length:=by simpa using hi
   have hi1:i < xs.length:=by omega
   obtain ⟨y',hy',hs⟩:=Zx hp (List.getElem?_eq_getElem hi1)
   have ez:(0:Int) + (i:Int) = ((i:Nat):Int):=by omega
   refine ⟨_,rfl,_,rfl,a,xs,_,_,rfl,rfl,SqT.of ha,by rw [ez]; exact Xy (List.getElem?_eq_getElem hi1),_,rfl,_,rfl,b,ys,_,_,rfl,rfl,SqT.of hb,by rw [ez]; exact Xy hy',_,_,rfl,hs,_,rfl,?_⟩
   exact Zd (by decide) (exA rfl rfl)
  ·rintro σ H' ⟨k,rfl,rfl⟩
   exact q
end
theorem Z6b:∀ xs:List Str,(Txt.join "" xs).length = (xs.map (·.length)).sum:=by
 have fold:∀ (xs:List Str) (acc:Array Nat),(xs.foldl (fun a p=>a ++ ("":Str).cps ++ p.cps) acc).size = acc.size + (xs.map (·.length)).sum:=by
  intro xs
  induction xs with
  | nil=>intro acc; simp
  | cons x xs ih =>
   intro acc
   rw [List.foldl_cons,ih,Array.size_append,Array.size_append,List.map_cons,List.sum_cons]
   show acc.size + 0 + x.length + _ = _
   omega
 intro xs
 cases xs with
 | nil=>rfl
 | cons x xs =>
  show (xs.foldl (fun a p=>a ++ ("":Str).cps ++ p.cps) x.cps).size = _
  rw [fold,List.map_cons,List.sum_cons]
  rfl
theorem Z13:∀ {xs:List Str},(∀ x ∈ xs,x.length = 1)→(xs.map (·.length)).sum = xs.length
 | [],_=>rfl
 | x :: xs,h=>by
  rw [List.map_cons,List.sum_cons,Z13 (fun y hy=>h y (by simp [hy])),h x (by simp),List.length_cons]
  omega
section
variable {P:Program} {w:World} {K:PySem.W.Frag} {mg:Str→Option Value} {base:Heap} {f C:Addr} {fd:FuncData}
inductive spTextI (vs:List V) (H:Hp) (Q:VK):Prop
 | mk (b l:Addr) (n:Int) (_:vs = [.ref b,.ref l,.int n]) (_:BoxAt H b) (_:LetAt H l) (_:0 ≤ n) (_:n ≤ 1000) (_:∀ (t:Str) (H':Hp),(t.length:Int) = n→BoxAt H' b→Gro [b] H H'→Q (.str t) H')
def Z0l:Sp:=fun vs H Q _=>spTextI vs H Q
abbrev s_l_text:Stmt:=top 40
theorem Z3a:FnScope ["_law_box", "_law_letters_here", "_law_size"] ["_law_box", "_law_letters_here", "_law_size"] (Z5 s_l_text):=fsc
theorem Z8d (T:Blt mg) (O_l_take:Own P w K mg base 1 "_law_take" ["_law_box", "_law_many"] Vw) (F:Fun K "_law_text" "_law_text" s_l_text f fd):FnOk P w K mg base CX0 2 f fd ["_law_box", "_law_letters_here", "_law_size"] Z0l:=by
 refine F.ok Z3a (fun vs H Q E h=>?_) (fun cdv A outer s H vs Q E hr h=>?_)
 ·obtain ⟨b,l,n,rfl,_⟩:=h
  rfl
 obtain ⟨b,l,n,rfl,hb,hl,h0,h1,q⟩:=h
 have bl:b ≠ l:=hb.ne_let hl
 have lS:l ∉ [b]:=by simpa using Ne.symm bl
 refine ltX ?_
 intro Xz
 refine ⟨_,(Z4 (Zw (X6 PySem.F.plainAttrs_str PySem.F.slot_str_join PySem.F.type_str_join Z8n Zj (Z0 (Xl rfl (show CScope _ ["_law_box", "_law_letters_here", "_law_size"] (Z5 s_l_text) _ from ⟨rfl,by decide +kernel,rfl,by decide +kernel,by decide +kernel,by decide +kernel,by decide +kernel⟩) (Yw rfl T.b_range (Z0 (pv 2) Z3)) (fun _ _ _ _=>Xt) (fun _ _ _ _=>(Zl (r:=Zb3 K) Xj (pv 2) (Zo (O_l_take.mono (by omega)) hr rfl (Z0 (pv 1) (Z0 Z6 Z3))) (fun _ _=>rfl)))) Z3)))),?_⟩
 refine ⟨rfl,exA rfl (exA rfl ⟨by omega,by omega,?_⟩)⟩
 refine Wb (n:=n.toNat) (fun i ys H'=>(∃ xs:List Str,ys = xs.map V.str∧xs.length = i∧∀ x ∈ xs,x.length = 1)∧BoxAt H' b∧Gro [b] H H') ⟨⟨[],rfl,rfl,by simp⟩,hb,Gro.refl⟩ (Y7 (by omega)) (fun i ys H' ⟨⟨xs,e1,e2,_⟩,_⟩=>by rw [e1,List.length_map,e2]; exact Nat.le_refl _) ?_ ?_
 ·rintro i ys H1 hi ⟨⟨xs,rfl,e2,e3⟩,hb1,g1⟩
  refine (exA rfl (exA rfl ⟨b,3,rfl,hb1,by decide,by decide,fun r H2 h20 h21 hb2 g2=>?_⟩))
  refine Zcd ((hl.gro g1 lS).gro g2 lS) h20 h21 fun s hs=>⟨⟨xs ++ [s],by simp,by simp [e2],fun x hx=>?_⟩,hb2,g1.trans g2⟩
  rcases List.mem_append.mp hx with z | z
  ·exact e3 x z
  ·rw [List.mem_singleton.mp z]; exact hs
 ·rintro ys H1 ⟨⟨xs,rfl,e2,e3⟩,hb1,g1⟩ a ha
  have hs:=Z13 e3
  have e0:("":Str).length = 0:=rfl
  refine ⟨_,a,xs,rfl,rfl,SqL.of Z1,by rw [hs,e0]; omega,?_⟩
  exact q _ _ (by rw [Z6b,hs]; omega) (hb1.new ha) (g1.tup ha)
end
theorem close_rw {o:Op} {k:Int}:(o.rw).close = some k ↔ o = .close k:=by
 cases o with
 | close j =>
  constructor
  ·intro h
   have h':(if ("close":Str) = "close" then some j else none) = some k:=h
   rw [if_pos rfl] at h'
   injection h' with h'
   rw [h']
  ·intro h
   cases h
   show (if ("close":Str) = "close" then some k else none) = some k
   rw [if_pos rfl]
 | try_ z =>
  refine ⟨fun h=>?_,fun h=>by cases h⟩
  have h':(if ("try":Str) = "close" then some (z:Int) else none) = some k:=h
  rw [if_neg (by decide +kernel)] at h'
  cases h'
 | go z =>
  refine ⟨fun h=>?_,fun h=>by cases h⟩
  have h':(if ("go":Str) = "close" then some (z:Int) else none) = some k:=h
  rw [if_neg (by decide +kernel)] at h'
  cases h'
 | bar z =>
  refine ⟨fun h=>?_,fun h=>by cases h⟩
  have h':(if ("bar":Str) = "close" then some (z:Int) else none) = some k:=h
  rw [if_neg (by decide +kernel)] at h'
  cases h'
 | _=>exact ⟨fun h=>(by cases h),fun h=>(by cases h)⟩
theorem Z7j (o:Op):(o.rw).tame:=by
 cases o with
 | pat h=>trivial
 | close k=>exact ⟨_,_,rfl,fun _=>⟨k,rfl⟩⟩
 | _=>exact ⟨_,_,rfl,fun z=>absurd z (by decide +kernel)⟩
theorem mem_closes {es:List Op} {k:Int}:k ∈ Yj (es.map Op.rw) ↔ Op.close k ∈ es:=by
 unfold Yj
 rw [List.mem_filterMap]
 constructor
 ·rintro ⟨r,hr,h⟩
  obtain ⟨o,ho,rfl⟩:=List.mem_map.mp hr
  rw [close_rw.mp h] at ho
  exact ho
 ·intro h
  exact ⟨_,List.mem_map.mpr ⟨_,h,rfl⟩,close_rw.mpr rfl⟩
theorem Zai {ns:List Int} (h:ns ≠ []):mxL ns ∈ ns:=by
 unfold mxL
 have:=(argBest_gt (fun i=>ns.getD i 0) (ns.length - 1)).1
 have hl:0 < ns.length:=List.length_pos_iff.mpr h
 rw [List.getD_eq_getElem?_getD]
 have hlt:argBest (fun i j=>decide (ns.getD i 0 > ns.getD j 0)) (ns.length - 1) < ns.length:=by omega
 rw [List.getElem?_eq_getElem hlt]
 exact List.getElem_mem hlt
theorem Zbp {ns:List Int} {x:Int} (h:x ∈ ns):x ≤ mxL ns:=by
 obtain ⟨j,hj,e⟩:=List.mem_iff_getElem.mp h
 have h1:=(argBest_gt (fun i=>ns.getD i 0) (ns.length - 1)).2 j (by omega)
 have h2:ns.getD j 0 = x:=by rw [List.getD_eq_getElem?_getD,List.getElem?_eq_getElem hj,e]; rfl
 rw [← h2]
 exact h1
def Yq (p:Pat):List Op:=p.ops 0 ++ [.found]
theorem Tl (p:Pat):(Yq p).map Op.rw = p.code 0 ++ [.tup [.str "found"]]:=by
 unfold Yq
 rw [List.map_append,Pat.ops_rw p 0]
 rfl
theorem Z3g (p:Pat):∀ o ∈ Yq p,o.ok:=fun o ho=>by
 rcases List.mem_append.mp ho with ho | ho
 ·exact Z71 p 0 o ho
 ·rw [List.mem_singleton.mp ho]; trivial
theorem Z6p {p:Pat} {n:Nat} (hw:p.wf) (hn:p.nm n) (hh:n = 0 ∨ p.has n):Z50 ((Yq p).map Op.rw) = n:=by
 have bd:∀ k ∈ Yj ((Yq p).map Op.rw),1 ≤ k∧k ≤ n:=fun k hk=>by
  rcases List.mem_append.mp (mem_closes.mp hk) with h | h
  ·exact Z79 p hn (Tw p 0 _ h k rfl)
  ·cases List.mem_singleton.mp h
 unfold Z50
 by_cases e:Yj ((Yq p).map Op.rw) = []
 ·rw [if_pos e]
  rcases hh with h | h
  ·rw [h]; rfl
  ·have:(n:Int) ∈ Yj ((Yq p).map Op.rw):=mem_closes.mpr (List.mem_append.mpr (.inl (Z09 p hw h 0)))
   rw [e] at this
   simp at this
 ·rw [if_neg e]
  have h1:=bd _ (Zai e)
  rcases hh with h | h
  ·omega
  ·have:=Zbp (mem_closes.mpr (List.mem_append.mpr (.inl (Z09 p hw h 0))):(n:Int) ∈ Yj ((Yq p).map Op.rw))
   omega
theorem U7 {H:Hp}:∀ n,Paired (EnA H) (List.replicate n V.non) (List.replicate n (none:En))
 | 0=>.nil
 | n + 1=>.cons rfl (U7 n)
structure MSt (C m ra ch:Addr) (t:Str) (n:Nat) (es:List Op) (H:Hp) (M:MM) (cf:Cf):Prop where
 at_:MAt C H m M
 am:AM H ra t ch M cf
 cs:M.cs.length ≤ 40000
 ro:∃ ys,H ra = some (.tup ys)∧Paired (RowAt H) ys (es.map Op.rw)
 ok:∀ o ∈ es,o.ok
 en:es[es.length - 1]? = some .found
 tx:t.length ≤ 1000
 nn:n ≤ 900
theorem MSt.gro {C m ra ch:Addr} {t:Str} {n:Nat} {es:List Op} {H H':Hp} {M:MM} {cf:Cf} {S:List Addr} (h:MSt C m ra ch t n es H M cf) (g:Gro S H H') (h1:m ∉ S) (h2:ch ∉ S):MSt C m ra ch t n es H' M cf:=by
 obtain ⟨ys,e1,e2⟩:=h.ro
 exact ⟨h.at_.gro g h1 (by rw [h.am.fresh.2.2.2]; exact h2),h.am.mono g.tups,h.cs,⟨ys,g.tups _ _ e1,Zp g.tups e2⟩,h.ok,h.en,h.tx,h.nn⟩
def MG (cap:Nat) (C m ra ch:Addr) (t:Str) (n:Nat) (es:List Op) (H:Hp) (ws:List Way):Prop:=∃ (M:MM) (cf:Cf) (B:Nat),MSt C m ra ch t n es H M cf∧Yl es t n (es.length - 1) [] [] cf ws B∧cf.csl + B ≤ cap∧cap ≤ 40000∧∀ w ∈ ws,w.1 ≤ t.length∧GOk t n w.2
def ME (C m ra ch:Addr) (t:Str) (n:Nat) (es:List Op) (H:Hp):Prop:=∃ M:MM,MSt C m ra ch t n es H M .ended
theorem MG.gro {cap:Nat} {C m ra ch:Addr} {t:Str} {n:Nat} {es:List Op} {H H':Hp} {ws:List Way} {S:List Addr} (h:MG cap C m ra ch t n es H ws) (g:Gro S H H') (h1:m ∉ S) (h2:ch ∉ S):MG cap C m ra ch t n es H' ws:=by
 obtain ⟨M,cf,B,h3,h4⟩:=h
 exact ⟨M,cf,B,h3.gro g h1 h2,h4⟩
theorem MG.ob {cap:Nat} {C m ra ch:Addr} {t:Str} {n:Nat} {es:List Op} {H:Hp} {ws:List Way} (h:MG cap C m ra ch t n es H ws):∃ dx s,H m = some (.ins C dx (MS.fs s)):=by
 obtain ⟨M,cf,B,h3,_⟩:=h
 obtain ⟨⟨dx,e⟩,_⟩:=h3.at_
 exact ⟨dx,_,e⟩
theorem Z59 {cap:Nat} {C m ra ch:Addr} {t:Str} {n:Nat} {es:List Op} {H:Hp} {w:Way} {ws:List Way} {most:Int} {Q:VK} {E:XK} (h:MG cap C m ra ch t n es H (w :: ws)) (hm:(cap:Int) < most)
  (q:∀ (H':Hp) (tt:Addr) (gv:V),MG cap C m ra ch t n es H' ws→H' tt = some (.tup [.str "way",.int w.1,gv])→GsAt H' gv w.2→Gro [m,ch] H H'→Q (.ref tt) H'):Vv C [.ref m,.int most] H Q E:=by
 obtain ⟨M,cf,B,st,y,hB,hcap,hws⟩:=h
 obtain ⟨ys,hra,hys⟩:=id st.ro
 have hcs:=st.cs
 refine ⟨m,ra,ch,most,t,n,es,ys,M,cf,rfl,by omega,st.at_,st.am,by omega,hra,hys,st.ok,st.tx,st.nn,?_⟩
 cases y with
 | cons r y hk =>
  rename_i j k' xs
  have hw:=hws w (by simp)
  refine .inl ⟨j,_,r,st.en,hw.1,hw.2,by omega,by omega,fun H' tt gv M' hM' hAM' hl' htt hgs g'=>?_⟩
  have hcl:=Uv es t cf j
  rw [r.eq] at hcl
  have hcl':([] ++ xs).length ≤ cf.csl + j:=hcl
  have hbl:=Z54 ([] ++ xs)
  refine q H' tt gv ⟨M',_,k',⟨hM',hAM',by rw [hl']; show ([] ++ xs).length ≤ _; omega,⟨ys,g'.tups _ _ hra,Zp g'.tups hys⟩,st.ok,st.en,st.tx,st.nn⟩,y,?_,hcap,fun v hv=>hws v (by simp [hv])⟩ htt hgs g'
  show (bk ([] ++ xs)).csl + k' ≤ cap
  omega
theorem Z7i {cap:Nat} {C m ra ch:Addr} {t:Str} {n:Nat} {es:List Op} {H:Hp} {most:Int} {Q:VK} {E:XK} (h:(MG cap C m ra ch t n es H []∧(cap:Int) < most) ∨ (ME C m ra ch t n es H∧1 ≤ most))
  (q:∀ (H':Hp) (tt:Addr),ME C m ra ch t n es H'→H' tt = some (.tup [.str "none"])→Gro [m,ch] H H'→Q (.ref tt) H'):Vv C [.ref m,.int most] H Q E:=by
 rcases h with ⟨⟨M,cf,B,st,y,hB,hcap,hws⟩,hm⟩ | ⟨⟨M,st⟩,hm⟩
 ·obtain ⟨ys,hra,hys⟩:=id st.ro
  have hcs:=st.cs
  refine ⟨m,ra,ch,most,t,n,es,ys,M,cf,rfl,by omega,st.at_,st.am,by omega,hra,hys,st.ok,st.tx,st.nn,?_⟩
  cases y with
  | nil r hk =>
   refine .inr ⟨_,r,by omega,by omega,fun H' tt M' hM' hAM' hl' htt g'=>?_⟩
   exact q H' tt ⟨M',⟨hM',hAM',by omega,⟨ys,g'.tups _ _ hra,Zp g'.tups hys⟩,st.ok,st.en,st.tx,st.nn⟩⟩ htt g'
 ·obtain ⟨ys,hra,hys⟩:=id st.ro
  have hcs:=st.cs
  refine ⟨m,ra,ch,most,t,n,es,ys,M,.ended,rfl,by omega,st.at_,st.am,by omega,hra,hys,st.ok,st.tx,st.nn,?_⟩
  refine .inr ⟨0,Rc.refl,by omega,by show 0 + 0 ≤ _; omega,fun H' tt M' hM' hAM' hl' htt g'=>?_⟩
  exact q H' tt ⟨M',⟨hM',hAM',by omega,⟨ys,g'.tups _ _ hra,Zp g'.tups hys⟩,st.ok,st.en,st.tx,st.nn⟩⟩ htt g'
theorem Zbo {cap:Nat} {C m ra ch gd:Addr} {t:Str} {i n B:Nat} {p:Pat} {ws:List Way} {H:Hp} {ys:List V} (hM:MAt C H m (ms0 ra t i (.ref gd) ch)) (hg:H gd = some (.tup (List.replicate n .non))) (hra:H ra = some (.tup ys)) (hys:Paired (RowAt H) ys ((Yq p).map Op.rw))
  (ht:t.length ≤ 1000) (hn:n ≤ 900) (y:Yl (Yq p) t n (0 + (p.ops 0).length) [] [] (.run ⟨0,i,List.replicate n none,[],[]⟩) ws B) (hws:∀ w ∈ ws,w.1 ≤ t.length∧GOk t n w.2) (hc:B ≤ cap) (hcap:cap ≤ 40000):MG cap C m ra ch t n (Yq p) H ws:=by
 have hl:(Yq p).length - 1 = (p.ops 0).length:=by unfold Yq; rw [List.length_append]; rfl
 refine ⟨ms0 ra t i (.ref gd) ch,.run ⟨0,i,List.replicate n none,[],[]⟩,_,⟨hM,.inl ⟨rfl,rfl,rfl,rfl,rfl,rfl,rfl,⟨gd,_,rfl,hg,U7 n⟩,rfl,.nil⟩,Nat.zero_le _,⟨ys,hra,hys⟩,Z3g p,?_,ht,hn⟩,y.to (by rw [hl]; omega),by show 0 + _ ≤ _; omega,hcap,hws⟩
 rw [hl]
 unfold Yq
 rw [List.getElem?_append_right (Nat.le_refl _),Nat.sub_self]
 rfl
theorem Z0p {H:Hp} {n:Nat} {i:Str}:Wg H (n + 1) (.str i) (.str i):=.inl ⟨rfl,rfl⟩
theorem Uu {H:Hp} {n:Nat} {i:Int}:Wg H (n + 1) (.int i) (.int i):=.inl ⟨rfl,rfl⟩
theorem Z7r {H:Hp} {n:Nat}:∀ {x:En} {v v':V},EnA H v x→EnA H v' x→Wg H (n + 2) v v'
 | none,_,_,h,h'=>by
  have e:_ = V.non:=h
  have e':_ = V.non:=h'
  rw [e,e']
  exact .inl ⟨rfl,rfl⟩
 | some p,_,_,⟨a,e,h⟩,⟨a',e',h'⟩=>.inr ⟨a,a',_,_,e,e',h,h',by simp,.cons Uu (.cons Uu .nil)⟩
theorem Z0q {H:Hp} {n:Nat}:∀ {g:Gs} {es es':List V},Paired (EnA H) es g→Paired (EnA H) es' g→Paired (Wg H (n + 2)) es es'
 | [],_,_,.nil,.nil=>.nil
 | _ :: _,_,_,.cons h t,.cons h' t'=>.cons (Z7r h h') (Z0q t t')
theorem Z7q {H:Hp} {n:Nat} {g:Gs} {v v':V} (h:GsAt H v g) (h':GsAt H v' g) (hl:g.length ≤ 1000000):Wg H (n + 3) v v':=by
 obtain ⟨a,es,e1,e2,e3⟩:=h
 obtain ⟨a',es',e1',e2',e3'⟩:=h'
 exact .inr ⟨a,a',es,es',e1,e1',e2,e2',by rw [Paired.length e3]; exact hl,Z0q e3 e3'⟩
theorem Z5g {H:Hp} {n i:Nat} {a b:Addr} {g:Gs} {v v':V} (ha:H a = some (.tup [.str "way",.int i,v])) (hb:H b = some (.tup [.str "way",.int i,v'])) (h:GsAt H v g) (h':GsAt H v' g) (hl:g.length ≤ 1000000):Wg H (n + 4) (.ref a) (.ref b) :=
 .inr ⟨a,b,_,_,rfl,rfl,ha,hb,by simp,.cons Z0p (.cons Uu (.cons (Z7q h h' hl) .nil))⟩
theorem Z3d {H:Hp} {n:Nat} {a b:Addr} (ha:H a = some (.tup [.str "none"])) (hb:H b = some (.tup [.str "none"])):Wg H (n + 2) (.ref a) (.ref b):=.inr ⟨a,b,_,_,rfl,rfl,ha,hb,by simp,.cons Z0p .nil⟩
structure PDefs (K:PySem.W.Frag) (mg:Str→Option Value):Prop where
 coded:Def K mg "coded" s_coded ["pattern"]
 put:Def K mg "put" s_put ["rows", "pattern"]
 hold_place:Def K mg "hold_place" s_hold_place ["rows"]
 put_or:Def K mg "put_or" s_put_or ["rows", "branches"]
 put_times:Def K mg "put_times" s_put_times ["rows", "low", "high", "how", "part"]
 put_have:Def K mg "put_have" s_put_have ["rows", "number", "yes", "no"]
 put_look:Def K mg "put_look" s_put_look ["rows", "kind", "part"]
 takes_sign:Def K mg "takes_sign" s_takes_sign ["row", "text", "at"]
 lies_in:Def K mg "lies_in" s_lies_in ["runs", "sign"]
 with_entry:Def K mg "with_entry" s_with_entry ["groups", "number", "begin", "end"]
structure RDefs (K:PySem.W.Frag) (mg:Str→Option Value):Prop where
 l_take:Def K mg "_law_take" s_l_take ["_law_box", "_law_many"]
 l_sign:Def K mg "_law_sign" s_l_sign ["_law_cell"]
 l_letters:Def K mg "_law_letters" s_l_letters ["_law_box"]
 l_text:Def K mg "_law_text" s_l_text ["_law_box", "_law_letters_here", "_law_size"]
 l_alike:Def K mg "_law_alike" s_l_alike ["_law_found", "_law_due"]
structure Gx (P:Program) (w:World) (K:PySem.W.Frag) (mg:Str→Option Value) (base:Heap) (C:Addr):Prop where
 letters:Own P w K mg base 2 "_law_letters" ["_law_box"] W1
 take:Own P w K mg base 1 "_law_take" ["_law_box", "_law_many"] Vw
 text:Own P w K mg base 2 "_law_text" ["_law_box", "_law_letters_here", "_law_size"] Z0l
 alike:Own P w K mg base 7 "_law_alike" ["_law_found", "_law_due"] (Z1w 5)
 coded:Own P w K mg base 27 "coded" ["pattern"] Up
 init:OwnC P w K mg base 1 C "Machine" ["self", "rows", "text", "at"] (Z0m C)
 way:OwnM P w K mg base 6 C "way" ["self", "most"] (Vv C)
section
variable {K:PySem.W.Frag} {mg:Str→Option Value}
theorem Z3w {P:Program} {w:World} {base:Heap} {x:Str} {st:Stmt} {ps:List Str} {sp:Nat→Sp} (D:Def K mg x st ps) (no:∀ vs H Q E,¬ sp 0 vs H Q E) (step:∀ n f fd,Own P w K mg base (2 + n) x ps (sp n)→Fun K x x st f fd→FnOk P w K mg base CX0 (2 + n + 1) f fd ps (sp (n + 1))) :
  ∀ n,Own P w K mg base (2 + n) x ps (sp n)
 | 0=>D.own fun f fd F=>FnOk.never no
 | n + 1=>D.own fun f fd F=>step n f fd (Z3w D no step n) F
theorem gx_of {P:Program} {w:World} {base:Heap} {it le ls dn C:Addr} {ds:List (Key × V)} (T:Blt mg) (c_ITSELF:mg "ITSELF" = some (.ref it)) (hIT:∀ H,SqT K H it itself) (c_LEANING:mg "LEANING" = some (.ref le)) (hLE:∀ H,SqT K H le leaning) (c_LAST_ROWS:mg "LAST_ROWS" = some (.ref ls)) (hLS:DcK K w ls lastRows)
  (c_DOINGS:mg "DOINGS" = some (.ref dn)) (hDN:DcK K w dn ds) (DD:DoingsA K ds) (MA:MachDefsA K mg C) (PD:PDefs K mg) (QD:RDefs K mg):Gx P w K mg base C:=by
 have noA:∀ vs H Q E,¬ Z1w 0 vs H Q E:=fun vs H Q E ⟨x,y,_,hp,_⟩=>hp.elim
 have al:=Z3w (P:=P) (w:=w) (base:=base) (sp:=Z1w) QD.l_alike noA (fun n f fd O F=>Zah T O F) 5
 have pu:=Z3x (P:=P) (w:=w) (base:=base) T c_ITSELF hIT c_LEANING hLE c_LAST_ROWS hLS PD.put PD.hold_place PD.put_or PD.put_times PD.put_have PD.put_look 8
 have co:Own P w K mg base 27 "coded" ["pattern"] Up:=PD.coded.own fun _ _ F=>Z5z T pu F
 have ta:Own P w K mg base 1 "_law_take" ["_law_box", "_law_many"] Vw:=QD.l_take.own fun _ _ F=>Z8e F
 have si:Own P w K mg base 1 "_law_sign" ["_law_cell"] Z33:=QD.l_sign.own fun _ _ F=>Z8f F
 have le:Own P w K mg base 2 "_law_letters" ["_law_box"] W1:=QD.l_letters.own fun _ _ F=>Z29 T ta si F
 have tx:Own P w K mg base 2 "_law_text" ["_law_box", "_law_letters_here", "_law_size"] Z0l:=QD.l_text.own fun _ _ F=>Z8d T ta F
 exact ⟨le,ta,tx,al,co,Z5t T MA.base_,Z5s T MA c_DOINGS hDN DD PD.takes_sign PD.lies_in PD.with_entry⟩
end
section
variable {P:Program} {w:World} {K:PySem.W.Frag} {mg:Str→Option Value} {base:Heap} {f:Addr} {fd:FuncData}
inductive spSgI (vs:List V) (H:Hp) (Q:VK):Prop
 | mk (b:Str) (_:vs = [.str b]) (_:1 ≤ b.length∧b.length ≤ 3) (_:∀ (v:V) (H':Hp),PatAt H' 2 v (brP b)→Gro [] H H'→Q v H')
def Zc8:Sp:=fun vs H Q _=>spSgI vs H Q
abbrev s_l_signs_of:Stmt:=top 42
theorem Us:FnScope ["_law_signs"] ["_law_signs"] (Z5 s_l_signs_of):=fsc
theorem Zbm (T:Blt mg) (F:Fun K "_law_signs_of" "_law_signs_of" s_l_signs_of f fd):FnOk P w K mg base CX0 1 f fd ["_law_signs"] Zc8:=by
 refine F.ok Us (fun vs H Q E h=>?_) (fun cdv A outer s H vs Q E hr h=>?_)
 ·obtain ⟨b,rfl,_⟩:=h
  rfl
 obtain ⟨b,rfl,hb,q⟩:=h
 refine ltX ?_
 intro Xz
 refine ⟨_,(Z2 (Y0 (Ze Yc (Zc Y1 rfl T.b_len PyProof.Rows.Boot.«len» (Z0 (pv 0) Z3)) Z6 (Zn _)) (Z4 (Zw (Zm (Z0 Zj (Z0 (pv 0) Z3))))) Zr)
  (Z4 (Zw (Zm (Z0 Zj (Z0 (Vb Wf rfl T.b_tuple PyProof.Rows.Boot.«tuple» (Z0 (Xl rfl (show CScope _ ["_law_signs"] (Z5 s_l_signs_of) _ from ⟨rfl,by decide +kernel,rfl,by decide +kernel,by decide +kernel,by decide +kernel,by decide +kernel⟩) (Yw rfl T.b_range (Z0 (Zc Y1 rfl T.b_len PyProof.Rows.Boot.«len» (Z0 (pv 0) Z3)) Z3)) (fun _ _ _ _=>Xt) (fun _ _ _ _=>(Zm (Z0 Zj (Z0 (Zl Z1c (pv 1) (pv 0) (fun _ _=>rfl)) Z3))))) Z3)) Z3)))))),?_⟩
 refine Z9j ?_
 intro Ez Az1 Az2
 refine exA rfl ⟨b,rfl,Yy (by omega),rfl,_,rfl,Wi (fun c=>?_) (fun c=>?_)⟩
 ·have h1:b.length = 1:=by
   have z:=of_decide_eq_true c
   injection z
   omega
  refine exA rfl ⟨sz,fun p hp=>q _ _ ?_ (Gro.new hp _)⟩
  unfold brP
  rw [if_pos h1]
  exact ⟨p,[],rfl,⟨rfl,h1,Z1⟩,.nil⟩
 ·have h1:¬ b.length = 1:=fun z=>c (decide_eq_true (by rw [z]; rfl))
  refine exA rfl ⟨b,rfl,Yy (by omega),exA rfl ⟨by omega,by omega,?_⟩⟩
  refine Wb (n:=b.length) (fun i ys H'=>Paired (PatAt H' 1) ys (((List.range i).map (chr b)).map sgP)∧Gro [] H H') ⟨.nil,Gro.refl⟩ (Y7 (by omega)) (fun i ys H' ⟨hp,_⟩=>by rw [Paired.length hp,List.length_map,List.length_map,List.length_range]; exact Nat.le_refl _) ?_ ?_
  ·rintro i ys H' hi ⟨hp,g⟩
   have hc:=Z7f (t:=b) (i:=0 + (i:Int)) (by omega) (by omega)
   refine exA rfl (exA rfl ⟨b,_,_,rfl,rfl,Yy (by omega),hc,⟨sz,fun p hpn=>⟨?_,g.tup hpn⟩⟩⟩)
   rw [List.range_succ,List.map_append,List.map_append]
   refine (Tv (Gro.new (S:=[]) hpn _).tups hp).snoc ⟨p,[],rfl,⟨rfl,rfl,?_⟩,.nil⟩
   rw [Z1,show (0 + (i:Int)).toNat = i by omega]
   rfl
  ·rintro ys H' ⟨hp,g⟩ dl hdl
   refine ⟨dl,exA rfl (.inl ⟨SqL.of Z1,fun r hr=>⟨sz,fun p hpn=>q _ _ ?_ ?_⟩⟩)⟩
   ·unfold brP
    rw [if_neg h1]
    have g1:Gro [] H' (upd (upd (upd H' dl (.lst ys)) r (.tup ys)) p (.tup [.str "row",.ref r])):=((Gro.new hdl _).tup hr).tup hpn
    refine ⟨p,ys,rfl,⟨?_,r,Z1,by rw [Zf (Z7 Z1 hpn)]; exact Z1⟩,Tv g1.tups hp⟩
    rw [Paired.length hp,List.length_map,List.length_map,List.length_range]
    omega
   ·exact ((g.trans (Gro.new hdl _)).tup hr).tup hpn
end
def PrA (H:Hp) (v:V) (p:Nat × Nat):Prop:=EnA H v (some p)
theorem Z5m {t:Str} {i k:Nat} {bs:List Str} {b:Str}:prK t i k (bs ++ [b]) = prK t i k bs ++ if (k ≤ i∧sub t (i - k) i = b)∧b.length = k then [(i - k,i)] else []:=by
 unfold prK
 rw [List.flatMap_append,List.flatMap_singleton]
theorem Z5n {t:Str} {i:Nat} {bs:List Str} {b:Str}:prA t i (bs ++ [b]) = prA t i bs ++ if Jj t i b then [(i,i + b.length)] else []:=by
 unfold prA
 rw [List.flatMap_append,List.flatMap_singleton]
theorem Z69 (l:Lk):inV (V.str l.text) [V.str "behind",V.str "notbehind"] = l.leans:=by cases l <;> decide +kernel
theorem Ym {H H':Hp} (t:∀ b xs,H b = some (.tup xs)→H' b = some (.tup xs)) {vs:List V} {ps:List (Nat × Nat)} (h:Paired (PrA H) vs ps):Paired (PrA H') vs ps:=Paired.mapP h fun _ _ ⟨a,e,q⟩=>⟨a,e,t _ _ q⟩
section
variable {P:Program} {w:World} {K:PySem.W.Frag} {mg:Str→Option Value} {base:Heap} {f:Addr} {fd:FuncData}
inductive spPrI (vs:List V) (H:Hp) (Q:VK):Prop
 | mk (l:Lk) (t:Str) (i:Nat) (lb:Addr) (bs:List Str) (_:vs = [.str l.text,.str t,.int i,.ref lb]) (_:H lb = some (.lst (bs.map V.str))) (_:BsOk bs) (_:i ≤ t.length) (_:t.length ≤ 300) (_:∀ (r:Addr) (xs:List V) (H':Hp),H' r = some (.lst xs)→Paired (PrA H') xs (prs l t i bs)→Gro [] H H'→Q (.ref r) H')
def Zc9:Sp:=fun vs H Q _=>spPrI vs H Q
abbrev s_l_pairs:Stmt:=top 43
theorem sc_l_pairs:FnScope ["_law_word", "_law_text_here", "_law_at", "_law_branches", "_law_some", "_law_k"] ["_law_word", "_law_text_here", "_law_at", "_law_branches"] (Z5 s_l_pairs):=fsc
theorem Zbn (T:Blt mg) (F:Fun K "_law_pairs" "_law_pairs" s_l_pairs f fd):FnOk P w K mg base CX0 1 f fd ["_law_word", "_law_text_here", "_law_at", "_law_branches"] Zc9:=by
 refine F.ok sc_l_pairs (fun vs H Q E h=>?_) (fun cdv A outer s H vs Q E hr h=>?_)
 ·obtain ⟨l,t,i,lb,bs,rfl,_⟩:=h
  rfl
 obtain ⟨l,t,i,lb,bs,rfl,hlb,hb,hi,ht,q⟩:=h
 refine ltX ?_
 intro Xz
 refine ⟨_,(Z2 (pS 4 sc_l_pairs.nd (U5 Z3))
  (Z2 (Y0 (Ze W9 (pv 0) (Zm (Z0 Zj (Z0 Zj Z3))) (by with_unfolding_all rfl)) (Z2 (V3 PassesOwn.never rfl (Yw rfl T.b_range (Z0 Z6 Z3)) (pN 5 sc_l_pairs.nd) (Z4 (pS 4 sc_l_pairs.nd (Yi Zad (pv 4) (Xl rfl (show CScope _ ["_law_word", "_law_text_here", "_law_at", "_law_branches", "_law_some", "_law_k"] (Z5 s_l_pairs) _ from ⟨rfl,by decide +kernel,rfl,by decide +kernel,by decide +kernel,by decide +kernel,by decide +kernel⟩) (Xu (pv 3)) (fun _ _ _ _=>(Uw (PW.pt (U2 (Ze Zab (pv 6) (pv 3) (Zn _)) (U2 (Ze Yc (Yn Th (pv 2) (Yf (Yi W8 (pv 3) (pv 6))) (Yf (pv 3))) (pv 0) (Zn _)) (V2 (Ze Yc (Zc Y1 rfl T.b_len PyProof.Rows.Boot.«len» (Z0 (pv 0) Z3)) (pv 6) (Zn _)))))))) (fun _ _ _ _=>(Zm (Z0 (Yi W8 (pv 3) (pv 6)) (Z0 (pv 3) Z3)))))))))
  (Z4 (Zw (pv 4)))) Zr)
  (Z4 (Zw (Xl rfl (show CScope _ ["_law_word", "_law_text_here", "_law_at", "_law_branches", "_law_some", "_law_k"] (Z5 s_l_pairs) _ from ⟨rfl,by decide +kernel,rfl,by decide +kernel,by decide +kernel,by decide +kernel,by decide +kernel⟩) (Xu (pv 3)) (fun _ _ _ _=>(Uw (Ze Yc (Yn Th (pv 2) (Yf (pv 3)) (Yf (Yi Xh (pv 3) (Zc Y1 rfl T.b_len PyProof.Rows.Boot.«len» (Z0 (pv 0) Z3))))) (pv 0) (Zn _)))) (fun _ _ _ _=>(Zm (Z0 (pv 3) (Z0 (Yi Xh (pv 3) (Zc Y1 rfl T.b_len PyProof.Rows.Boot.«len» (Z0 (pv 0) Z3))) Z3))))))))),?_⟩
 refine Z9y ?_
 intro Ez Az1 Az2 Az3 Az4 Az5
 refine ⟨sz,fun a0 ha0=>?_⟩
 have g0:=Gro.new (S:=[]) ha0 (.lst [])
 have hlb0:=g0.keep _ _ hlb (by simp)
 have e0:(upd H a0 (.lst [])) a0 = some (.lst []):=Z1
 generalize upd H a0 (.lst []) = H0 at *
 refine exA rfl ⟨sz,fun w0 hw0=>⟨w0,_,rfl,.inr (SqT.of Z1),rfl,rfl,_,rfl,?_⟩⟩
 have g1:=g0.trans (Gro.new (S:=[]) hw0 (.tup [.str "behind",.str "notbehind"]))
 have hlb1:=(Gro.new (S:=[]) hw0 (.tup [.str "behind",.str "notbehind"])).keep _ _ hlb0 (by simp)
 have e1:=(Gro.new (S:=[]) hw0 (.tup [.str "behind",.str "notbehind"])).keep _ _ e0 (by simp)
 generalize upd H0 w0 (.tup [.str "behind",.str "notbehind"]) = H1 at *
 show if inV (V.str l.text) [V.str "behind",V.str "notbehind"] = true then _ else _
 rw [Z69]
 have hlen:=hb.le
 refine Wi (fun hl=>?_) (fun hl=>?_)
 ·refine exA rfl ⟨by decide,by decide,?_⟩
  refine J6 (n:=4) (fun k σ H'=>∃ (r:Addr) (xs:List V) (kv:Option V),σ = [some (.str l.text),some (.str t),some (.int i),some (.ref lb),some (.ref r),kv]∧H' r = some (.lst xs)∧Paired (PrA H') xs ((List.range k).flatMap fun k=>prK t i k bs)∧xs.length ≤ 2 * k∧Gro [] H1 H') ⟨a0,[],none,rfl,e1,.nil,Nat.le_refl _,Gro.refl⟩ ?_ ?_
  ·rintro k σ H' hk ⟨r,xs,kv,rfl,hr,hp,hl',g⟩
   have hlb':=g.keep _ _ hlb1 (by simp)
   refine exA rfl (exA rfl ⟨lb,rfl,⟨_,SqL.of hlb'⟩,?_⟩)
   refine T1 (xs:=bs.map V.str) (fun y ys H''=>Paired (PrA H'') ys (prK t i k (bs.take y))∧ys.length ≤ y∧Gro [] H' H'') ⟨.nil,Nat.le_refl _,Gro.refl⟩ (Y7 (by rw [List.length_map]; omega)) (fun y ys H'' ⟨_,h,_⟩=>h) (fun y ys H'' ⟨_,_,g''⟩=>SqL.of (g''.keep _ _ hlb' (by simp))) ?_ ?_
   ·rintro y ys H'' v hv ⟨hz,hzl,g''⟩
    rw [List.getElem?_map] at hv
    obtain ⟨b,hb',rfl⟩:=Option.map_eq_some_iff.mp hv
    have hbl:=(hb.all b (List.mem_of_getElem? hb')).2
    rw [Yb hb',Z5m]
    have no:¬ ((k ≤ i∧sub t (i - k) i = b)∧b.length = k)→Paired (PrA H'') ys (prK t i k (bs.take y) ++ if (k ≤ i∧sub t (i - k) i = b)∧b.length = k then [(i - k,i)] else [])∧ys.length ≤ y + 1∧Gro [] H' H'':=fun c=>by
     rw [if_neg c,List.append_nil]
     exact ⟨hz,by omega,g''⟩
    refine exA rfl (exA rfl (exB rfl rfl (exA rfl (Wi (fun z1=>?y1) (fun z1=>Z76 ?n1)))))
    case n1=>exact no fun c=>z1 (decide_eq_true (by omega))
    have hki:k ≤ i:=by have:=of_decide_eq_true z1; omega
    have hs:Txt.slice t (some ((i:Int) - (0 + (k:Int)))) (some (i:Int)) = sub t (i - k) i:=by
     rw [show (i:Int) - (0 + (k:Int)) = ((i - k:Nat):Int) by omega,Xf (by omega) (by omega)]
     rfl
    refine exA rfl (exA rfl (exA rfl (exB rfl rfl ⟨_,rfl,exA rfl ⟨_,rfl,t,rfl,Yy (by omega),exA rfl ⟨rfl,exA rfl (Wi (fun z2=>?y2) (fun z2=>Z76 ?n2))⟩⟩⟩)))
    case n2=>exact no fun c=>z2 (decide_eq_true (by rw [hs,c.1.2]))
    have hsb:sub t (i - k) i = b:=by
     have z:=of_decide_eq_true z2
     rw [hs] at z
     injection z
    refine exA rfl ⟨b,rfl,Yy (by omega),exA rfl ⟨rfl,exA rfl (Wi (fun z3=>?y3) (fun z3=>?n3))⟩⟩
    case n3=>exact no fun c=>z3 (decide_eq_true (by rw [c.2]; show V.int _ = V.int _; congr 1; omega))
    have hbk:b.length = k:=by
     have z:=of_decide_eq_true z3
     injection z
     omega
    refine exA rfl (exA rfl (exB rfl rfl (exA rfl ⟨sz,fun p hpn=>?_⟩)))
    rw [if_pos ⟨⟨hki,hsb⟩,hbk⟩]
    refine ⟨(Ym (Gro.new (S:=[]) hpn _).tups hz).snoc ⟨p,rfl,?_⟩,by simp; omega,g''.tup hpn⟩
    rw [Z1]
    show some (HO.tup [V.int _,V.int _]) = some (HO.tup [V.int _,V.int _])
    rw [show (i:Int) - (0 + (k:Int)) = ((i - k:Nat):Int) by omega]
   ·rintro ys H'' ⟨hz,hzl,g''⟩ dl hdl
    rw [List.length_map] at hzl
    rw [List.length_map,List.take_length] at hz
    have gd:=Gro.new (S:=[]) hdl (.lst ys)
    refine ⟨r,dl,xs,ys,rfl,rfl,gd.keep _ _ (g''.keep _ _ hr (by simp)) (by simp),Z1,Yy (by omega),fun p hpn=>?_⟩
    have gp:=Gro.new (S:=[]) hpn (.lst (xs ++ ys))
    refine ⟨p,xs ++ ys,_,rfl,Z1,?_,by simp; omega,((g.trans g'').trans gd).trans gp⟩
    rw [List.range_succ,List.flatMap_append,List.flatMap_singleton]
    exact Zg (Ym (fun b xs h=>gp.tups _ _ (gd.tups _ _ (g''.tups _ _ h))) hp) (Ym (fun b xs h=>gp.tups _ _ (gd.tups _ _ h)) hz)
  ·rintro σ H' ⟨r,xs,kv,rfl,hr,hp,hl',g⟩
   refine exA rfl (q r xs H' hr ?_ (g1.trans g))
   unfold prs prB
   rw [if_pos hl]
   exact hp
 ·refine exA rfl ⟨lb,rfl,⟨_,SqL.of hlb1⟩,?_⟩
  refine T1 (xs:=bs.map V.str) (fun y ys H''=>Paired (PrA H'') ys (prA t i (bs.take y))∧ys.length ≤ y∧Gro [] H1 H'') ⟨.nil,Nat.le_refl _,Gro.refl⟩ (Y7 (by rw [List.length_map]; omega)) (fun y ys H'' ⟨_,h,_⟩=>h) (fun y ys H'' ⟨_,_,g''⟩=>SqL.of (g''.keep _ _ hlb1 (by simp))) ?_ ?_
  ·rintro y ys H'' v hv ⟨hz,hzl,g''⟩
   rw [List.getElem?_map] at hv
   obtain ⟨b,hb',rfl⟩:=Option.map_eq_some_iff.mp hv
   have hbl:=(hb.all b (List.mem_of_getElem? hb')).2
   rw [Yb hb',Z5n]
   have hs:Txt.slice t (some (i:Int)) (some ((i:Int) + (b.length:Int))) = sub t i (i + b.length):=by
    rw [show (i:Int) + (b.length:Int) = ((i + b.length:Nat):Int) by omega,Xf (by omega) (by omega)]
    rfl
   refine exA rfl (exA rfl ⟨_,rfl,exA rfl (exA rfl ⟨b,rfl,Yy (by omega),exB rfl rfl ⟨_,rfl,t,rfl,Yy (by omega),exA rfl ⟨rfl,exA rfl (Wi (fun z2=>?y4) (fun z2=>?n4))⟩⟩⟩)⟩)
   case n4 =>
    have c:¬ Jj t i b:=fun c=>z2 (decide_eq_true (by rw [hs]; exact congrArg V.str c))
    rw [if_neg c,List.append_nil]
    exact ⟨hz,by omega,g''⟩
   have c:Jj t i b:=by
    have z:=of_decide_eq_true z2
    rw [hs] at z
    injection z
   refine exA rfl (exA rfl (exA rfl ⟨b,rfl,Yy (by omega),exB rfl rfl ⟨sz,fun p hpn=>?_⟩⟩))
   rw [if_pos c]
   refine ⟨(Ym (Gro.new (S:=[]) hpn _).tups hz).snoc ⟨p,rfl,?_⟩,by simp; omega,g''.tup hpn⟩
   rw [Z1]
   show some (HO.tup [V.int _,V.int _]) = some (HO.tup [V.int _,V.int _])
   rw [show ((i + b.length:Nat):Int) = (i:Int) + (b.length:Int) by omega]
  ·rintro ys H'' ⟨hz,hzl,g''⟩ dl hdl
   rw [List.length_map,List.take_length] at hz
   have gd:=Gro.new (S:=[]) hdl (.lst ys)
   refine q dl ys _ Z1 ?_ ((g1.trans g'').trans gd)
   unfold prs
   rw [if_neg hl]
   exact Ym gd.tups hz
end
theorem Z7g {n:Int} (b:Str):(brP b).nm n:=by
 unfold brP
 split
 ·exact nm_node.mpr ⟨trivial,fun k hk=>by simp at hk⟩
 ·refine nm_node.mpr ⟨trivial,fun k hk=>?_⟩
  obtain ⟨x,_,rfl⟩:=List.mem_map.mp hk
  exact nm_node.mpr ⟨trivial,fun k hk=>by simp at hk⟩
theorem Zap {n:Int} (bs:List Str):(inP bs).nm n:=by
 unfold inP
 split
 ·exact Z7g _
 ·refine nm_node.mpr ⟨trivial,fun k hk=>?_⟩
  obtain ⟨x,_,rfl⟩:=List.mem_map.mp hk
  exact Z7g x
theorem Z75 (l:Lk) (bs:List Str):(lkP l bs).nm ((1:Nat):Int):=by
 refine nm_node.mpr ⟨trivial,fun k hk=>?_⟩
 rw [List.mem_singleton.mp hk]
 refine nm_node.mpr ⟨(by decide:(1:Int) ≤ 1∧(1:Int) ≤ ((1:Nat):Int)),fun k hk=>?_⟩
 rw [List.mem_singleton.mp hk]
 exact Zap bs
theorem Z86 (l:Lk) (bs:List Str) (so:Option Str):(Z57 l bs so).nm ((1:Nat):Int):=by
 cases so with
 | none=>exact Z75 l bs
 | some s =>
  refine nm_node.mpr ⟨trivial,fun k hk=>?_⟩
  rcases List.mem_cons.mp hk with rfl | hk
  ·exact Z75 l bs
  ·rw [List.mem_singleton.mp hk]
   exact nm_node.mpr ⟨trivial,fun k hk=>by simp at hk⟩
theorem Z4a (l:Lk) (bs:List Str):(lkP l bs).has ((1:Nat):Int):=has_node.mpr (.inr ⟨_,List.mem_cons_self,has_node.mpr (.inl rfl)⟩)
theorem Z5u (l:Lk) (bs:List Str) (so:Option Str):(Z57 l bs so).has ((1:Nat):Int):=by
 cases so with
 | none=>exact Z4a l bs
 | some s=>exact has_node.mpr (.inr ⟨_,List.mem_cons_self,Z4a l bs⟩)
theorem Z0o:∀ ss:List Str,Zt (ss.map sgP) = ss.length
 | []=>rfl
 | s :: ss=>by
  rw [List.map_cons,Zt,Z0o ss,List.length_cons]
  show (Pat.node (.sign s) []).size + _ = _
  rw [Yd,Zt]
  omega
theorem T6 {b:Str} (hb:b.length ≤ 3):(brP b).size ≤ 4:=by
 unfold brP
 split
 ·show (Pat.node (.sign b) []).size ≤ 4
  rw [Yd,Zt]
  omega
 ·rw [Yd,Z0o,Z38]
  omega
theorem Z6d {bs:List Str} (hb:BsOk bs):(inP bs).size ≤ 9:=by
 match bs,hb with
 | [b],hb=>exact Nat.le_trans (T6 (hb.all b (by simp)).2) (by decide)
 | [b,b'],hb =>
  show (Pat.node .alt [brP b,brP b']).size ≤ 9
  have h1:=T6 (hb.all b (by simp)).2
  have h2:=T6 (hb.all b' (by simp)).2
  rw [Yd,Zt,Zt,Zt]
  omega
 | [],hb=>exact absurd hb.ne (by decide)
 | _ :: _ :: _ :: _,hb=>exact absurd hb.le (by simp)
theorem Z3y {l:Lk} {bs:List Str} {so:Option Str} (hb:BsOk bs):(Z57 l bs so).size ≤ 20:=by
 have h1:=Z6d hb
 have h2:(lkP l bs).size ≤ 11:=by
  show (Pat.node (.look l) [Pat.node (.grp 1) [inP bs]]).size ≤ 11
  rw [Yd,Zt,Zt,Yd,Zt,Zt]
  omega
 cases so with
 | none=>exact Nat.le_trans h2 (by decide)
 | some s =>
  show (Pat.node .row [lkP l bs,Pat.node (.sign s) []]).size ≤ 20
  rw [Yd,Zt,Zt,Zt,Yd,Zt]
  omega
def DuA (H:Hp) (v:V) (d:Nat × En):Prop:=∃ (a:Addr) (x:V),v = .ref a∧H a = some (.tup [.int d.1,x])∧EnA H x d.2
theorem Y6 {H H':Hp} (t:∀ b xs,H b = some (.tup xs)→H' b = some (.tup xs)) {vs:List V} {ds:List (Nat × En)} (h:Paired (DuA H) vs ds):Paired (DuA H') vs ds:=Paired.mapP h fun _ _ ⟨a,x,e,q,y⟩=>⟨a,x,e,t _ _ q,y.mono t⟩
theorem Z4u {s t:Str} {ds:List (Nat × En)} {d:Nat × En}:Z6j (some s) t (ds ++ [d]) = Z6j (some s) t ds ++ if sub t d.1 (d.1 + 1) = s then [(d.1 + 1,d.2)] else []:=by
 show List.flatMap _ (ds ++ [d]) = List.flatMap _ ds ++ _
 rw [List.flatMap_append,List.flatMap_singleton]
section
variable {P:Program} {w:World} {K:PySem.W.Frag} {mg:Str→Option Value} {base:Heap} {f C:Addr} {fd:FuncData}
inductive spLawI (K:PySem.W.Frag) (vs:List V) (H:Hp) (Q:VK):Prop
 | mk (a:Addr) (ns:List Int) (_:vs = [.ref a]) (_:SqL K H a (ns.map V.int)) (_:ns.length ≤ 63) (_:∀ H',Q (.bl true) H')
def Z1v (K:PySem.W.Frag):Sp:=fun vs H Q _=>spLawI K vs H Q
abbrev Xo:Stmt:=top 44
theorem sc_law:FnScope ["_law_script", "_law_box", "_law_letters_here", "_law_text_here", "_law_at", "_law_ahead", "_law_word", "_law_branches", "_law_inner", "_law_pairs_here", "_law_due", "_law_p", "_law_sign_here", "_law_machine", "_law_one"] ["_law_script"] (Z5 Xo):=fsc
theorem Zag (T:Blt mg) (MT:Txt K mg C) (O_l_letters:Own P w K mg base 2 "_law_letters" ["_law_box"] W1) (O_l_take:Own P w K mg base 1 "_law_take" ["_law_box", "_law_many"] Vw) (O_l_text:Own P w K mg base 2 "_law_text" ["_law_box", "_law_letters_here", "_law_size"] Z0l)
  (O_l_signs_of:Own P w K mg base 1 "_law_signs_of" ["_law_signs"] Zc8) (O_l_pairs:Own P w K mg base 1 "_law_pairs" ["_law_word", "_law_text_here", "_law_at", "_law_branches"] Zc9) (O_l_alike:Own P w K mg base 7 "_law_alike" ["_law_found", "_law_due"] (Z1w 5)) (O_coded:Own P w K mg base 27 "coded" ["pattern"] Up) (O_Machine:OwnC P w K mg base 1 C "Machine" ["self", "rows", "text", "at"] (Z0m C)) (O_Machine_way:OwnM P w K mg base 6 C "way" ["self", "most"] (Vv C))
  (F:Fun K "law" "law" Xo f fd):FnOk P w K mg base CX0 210 f fd ["_law_script"] (Z1v K):=by
 refine F.ok sc_law (fun vs H Q E h=>?_) (fun cdv A outer s H vs Q E hr h=>?_)
 ·obtain ⟨a,ns,rfl,_⟩:=h
  rfl
 obtain ⟨a,ns,rfl,hS,h63,q⟩:=h
 refine ltX ?_
 intro Xz
 refine ⟨_,(Z2 (pS 1 sc_law.nd (Vb Jb rfl T.b_list PyProof.Rows.Boot.«list» (Z0 (pv 0) Z3)))
  (Z2 (pS 2 sc_law.nd (Zo (O_l_letters.mono (by omega)) hr rfl (Z0 (pv 1) Z3)))
  (Z2 (pS 3 sc_law.nd (Zo (O_l_text.mono (by omega)) hr rfl (Z0 (pv 1) (Z0 (pv 2) (Z0 (Zo (O_l_take.mono (by omega)) hr rfl (Z0 (pv 1) (Z0 Z6 Z3))) Z3)))))
  (Z2 (pS 4 sc_law.nd (Zo (O_l_take.mono (by omega)) hr rfl (Z0 (pv 1) (Z0 (Yi Xh (Zc Y1 rfl T.b_len PyProof.Rows.Boot.«len» (Z0 (pv 3) Z3)) Z6) Z3))))
  (Z2 (Y0 (Ze Yc (Zo (O_l_take.mono (by omega)) hr rfl (Z0 (pv 1) (Z0 Z6 Z3))) Z6 (Zn _)) (Z2 (pS 5 sc_law.nd (Zo (O_l_text.mono (by omega)) hr rfl (Z0 (pv 1) (Z0 (pv 2) (Z0 (Zo (O_l_take.mono (by omega)) hr rfl (Z0 (pv 1) (Z0 Z6 Z3))) Z3)))))
  (Z2 (pS 3 sc_law.nd (Yi Ua (pv 5) (pv 3)))
  (Z4 (pS 4 sc_law.nd (Yi Xh (pv 4) (Zc Y1 rfl T.b_len PyProof.Rows.Boot.«len» (Z0 (pv 5) Z3))))))) Zr)
  (Z2 (pS 6 sc_law.nd (Zl Xj (U5 (Z0 Zj (Z0 Zj (Z0 Zj (Z0 Zj (Z0 Zj Z3)))))) (Zo (O_l_take.mono (by omega)) hr rfl (Z0 (pv 1) (Z0 Z6 Z3))) (fun _ _=>rfl)))
  (Z2 (Ws (i:=7) sc_law.nd rfl rfl rfl (show CScope _ ["_law_script", "_law_box", "_law_letters_here", "_law_text_here", "_law_at", "_law_ahead", "_law_word", "_law_branches", "_law_inner", "_law_pairs_here", "_law_due", "_law_p", "_law_sign_here", "_law_machine", "_law_one"] (Z5 Xo) _ from ⟨rfl,by decide +kernel,rfl,by decide +kernel,by decide +kernel,by decide +kernel,by decide +kernel⟩) (Yw rfl T.b_range (Z0 (Yi Xh Z6 (Zo (O_l_take.mono (by omega)) hr rfl (Z0 (pv 1) (Z0 Z6 Z3)))) Z3)) (fun _ _ _ _=>Xt) (fun _ _ _ _=>(Zo (O_l_text.mono (by omega)) hr rfl (Z0 (pv 2) (Z0 (pv 3) (Z0 (Yi Xh Z6 (Zo (O_l_take.mono (by omega)) hr rfl (Z0 (pv 2) (Z0 Z6 Z3)))) Z3))))) rfl)
  (Z2 (pS 8 sc_law.nd (Zo (O_l_signs_of.mono (by omega)) hr rfl (Z0 (Zl Xj (pv 7) Z6 (fun _ _=>rfl)) Z3)))
  (Z2 (Y0 (Ze Yc (Zc Zk rfl T.b_len PyProof.Rows.Boot.«len» (Z0 (pv 7) Z3)) Z6 (Zn _)) (Z4 (pS 8 sc_law.nd (Zm (Z0 Zj (Z0 (Zm (Z0 (pv 8) (Z0 (Zo (O_l_signs_of.mono (by omega)) hr rfl (Z0 (Zl Xj (pv 7) Z6 (fun _ _=>rfl)) Z3)) Z3))) Z3))))) Zr)
  (Z2 (pS 9 sc_law.nd (Zo (O_l_pairs.mono (by omega)) hr rfl (Z0 (pv 6) (Z0 (pv 3) (Z0 (pv 4) (Z0 (pv 7) Z3))))))
  (Z2 (Ws (i:=10) sc_law.nd rfl rfl rfl (show CScope _ ["_law_script", "_law_box", "_law_letters_here", "_law_text_here", "_law_at", "_law_ahead", "_law_word", "_law_branches", "_law_inner", "_law_pairs_here", "_law_due", "_law_p", "_law_sign_here", "_law_machine", "_law_one"] (Z5 Xo) _ from ⟨rfl,by decide +kernel,rfl,by decide +kernel,by decide +kernel,by decide +kernel,by decide +kernel⟩) (Xu (Yn Z37 (pv 9) V7 (Yf Z6))) (fun _ _ _ _=>Xt) (fun _ _ _ _=>(Zm (Z0 (pv 5) (Z0 (pv 0) Z3)))) rfl)
  (Z2 (Y0 (Ze Yc (pv 6) Zj (Zn _)) (Z4 (Ws (i:=10) sc_law.nd rfl rfl rfl (show CScope _ ["_law_script", "_law_box", "_law_letters_here", "_law_text_here", "_law_at", "_law_ahead", "_law_word", "_law_branches", "_law_inner", "_law_pairs_here", "_law_due", "_law_p", "_law_sign_here", "_law_machine", "_law_one"] (Z5 Xo) _ from ⟨rfl,by decide +kernel,rfl,by decide +kernel,by decide +kernel,by decide +kernel,by decide +kernel⟩) (Xu (Yn Z37 (pv 9) V7 (Yf Z6))) (fun _ _ _ _=>Xt) (fun _ _ _ _=>(Zm (Z0 (Zl (r:=Z3k K) Zb (pv 0) Z6 (fun _ _=>rfl)) (Z0 (pv 0) Z3)))) rfl)) Zr)
  (Z2 (Y0 (PW.pt (Z7w (Ze Yc (pv 6) Zj (Zn _)) (Z3m (Ze Yc (pv 6) Zj (Zn _))))) (Z4 (Ws (i:=10) sc_law.nd rfl rfl rfl (show CScope _ ["_law_script", "_law_box", "_law_letters_here", "_law_text_here", "_law_at", "_law_ahead", "_law_word", "_law_branches", "_law_inner", "_law_pairs_here", "_law_due", "_law_p", "_law_sign_here", "_law_machine", "_law_one"] (Z5 Xo) _ from ⟨rfl,by decide +kernel,rfl,by decide +kernel,by decide +kernel,by decide +kernel,by decide +kernel⟩) (Yw rfl T.b_range (Z0 (Yi W8 Z6 (Zc (Z53 rfl) rfl T.b_min PyProof.Rows.Boot.«min» (Z0 Z6 (Z0 (Zc Zk rfl T.b_len PyProof.Rows.Boot.«len» (Z0 (pv 9) Z3)) Z3)))) Z3)) (fun _ _ _ _=>Xt) (fun _ _ _ _=>(Zm (Z0 (pv 5) (Z0 Z11 Z3)))) rfl)) Zr)
  (Z2 (pS 11 sc_law.nd (Zm (Z0 (pv 6) (Z0 (Zm (Z0 Zj (Z0 Z6 (Z0 (pv 8) Z3)))) Z3))))
  (Z2 (Y0 (Ze Yc (Zo (O_l_take.mono (by omega)) hr rfl (Z0 (pv 1) (Z0 Z6 Z3))) Z6 (Zn _)) (Z2 (pS 12 sc_law.nd (Zl Xj (pv 2) (Zo (O_l_take.mono (by omega)) hr rfl (Z0 (pv 1) (Z0 Z6 Z3))) (fun _ _=>rfl)))
  (Z2 (pS 11 sc_law.nd (Zm (Z0 Zj (Z0 (Zm (Z0 (pv 11) (Z0 (Zm (Z0 Zj (Z0 (pv 12) Z3))) Z3))) Z3))))
  (Z4 (Tq (i:=10) sc_law.nd rfl rfl rfl (show CScope3 "_law_one" ["_law_script", "_law_box", "_law_letters_here", "_law_text_here", "_law_at", "_law_ahead", "_law_word", "_law_branches", "_law_inner", "_law_pairs_here", "_law_due", "_law_p", "_law_sign_here", "_law_machine", "_law_one"] ["_law_script", "_law_box", "_law_letters_here", "_law_text_here", "_law_at", "_law_ahead", "_law_word", "_law_branches", "_law_inner", "_law_pairs_here", "_law_due", "_law_p", "_law_sign_here", "_law_machine", "0"] (Z5 Xo) _ from ⟨rfl,by decide +kernel,rfl,by decide +kernel,by decide +kernel,by decide +kernel,by decide +kernel,rfl,by decide +kernel⟩) (Xu (pv 10)) (fun _ _ _ _=>(Uw (Ze Yc (Yn Th (pv 4) (Yf (Zl (r:=Z3k K) Zb (pv 0) Z6 (fun _ _=>rfl))) (Yf (Yi Xh (Zl (r:=Z3k K) Zb (pv 0) Z6 (fun _ _=>rfl)) Z6))) (pv 13) (Zn _)))) (fun _ _ _ _=>(Zm (Z0 (Yi Xh (Zl (r:=Z3k K) Zb (pv 0) Z6 (fun _ _=>rfl)) Z6) (Z0 (Zl (r:=Z3k K) Zb (pv 0) Z6 (fun _ _=>rfl)) Z3)))) rfl)))) Zr)
  (Z2 (pS 13 sc_law.nd (Z81 (O_Machine.mono (by omega)) hr rfl (Z0 (Zo (O_coded.mono (by omega)) hr rfl (Z0 (pv 11) Z3)) (Z0 (pv 3) (Z0 (pv 4) Z3)))))
  (Z2 (V3 PassesOwn.never rfl (Xu (pv 10)) (pN 14 sc_law.nd) (Z4 (Y0 (Z3n (Yt (Zo (O_l_alike.mono (by omega)) hr rfl (Z0 (Yh (O_Machine_way.mono (by omega)) MT.cl hr (pv 13) (Z0 Z6 Z3)) (Z0 (Zm (Z0 Zj (Z0 (Zl Zb (pv 14) Z6 (fun _ _=>rfl)) (Z0 (Zm (Z0 (Zl Zb (pv 14) Z6 (fun _ _=>rfl)) Z3)) Z3)))) Z3))))) (Z4 (Zw W7)) Zr)))
  (Z4 (Zw (Zo (O_l_alike.mono (by omega)) hr rfl (Z0 (Yh (O_Machine_way.mono (by omega)) MT.cl hr (pv 13) (Z0 Z6 Z3)) (Z0 (Zm (Z0 Zj Z3)) Z3)))))))))))))))))))))),?_⟩
 refine Z9s ?_
 intro Ez Az1 Az2 Az3 Az4 Az5 Az6 Az7 Az8 Az9 Az10 Az11 Az12 Az13 Az14 Az15 Az16 Az17 Az18 Az19 Az20 Az21 Az22 Az23 Az24 Az25 Az26 Az27 Az28
 refine (exA rfl ⟨a,exA rfl ⟨.inl hS,fun b hb=>?_⟩⟩)
 refine (exA rfl ⟨b,rfl,⟨ns,Z1,h63⟩,fun l H1 hb1 hl1 g1=>?_⟩)
 have bl:b ≠ l:=hb1.ne_let hl1
 have lS:l ∉ [b]:=by simpa using Ne.symm bl
 have rest14:∀ (H':Hp) (pv:V) (dl lb:Addr) (dv:List V) (at_:Nat) (lk:Lk) (bs:List Str) (so:Option Str) (t:Str) (s5 s8 s9 s12:Option V),BsOk bs→(∀ s,so = some s→s.length = 1)→PatAt H' 6 pv (Z57 lk bs so)→t.length ≤ 220→at_ ≤ t.length →
   H' dl = some (.lst dv)→Paired (DuA H') dv (Z6j so t (Z0d lk at_ (prs lk t at_ bs))) →
   Az14 Ez [some (.ref a),some (.ref b),some (.ref l),some (.str t),some (.int at_),s5,some (.str lk.text),some (.ref lb),s8,s9,some (.ref dl),some pv,s12,none,none] H':=by
  intro H' pv dl lb dv at_ lk bs so t s5 s8 s9 s12 hbs hso hp0 ht hat hdl0 hdv
  have hnm:=Z86 lk bs so
  have hhs:=Z5u lk bs so
  have hsz:=Z3y (l:=lk) (so:=so) hbs
  have hwf:=hp0.wf
  have hyl0:=fun hs=>Za9 (es:=Yq (Z57 lk bs so)) (t:=t) (l:=lk) (i:=at_) hbs hso hnm hat (by omega) hs
  have hws:=Z4v (t:=t) (l:=lk) (i:=at_) hbs hso hat
  have hyl1:=hyl0 ⟨[.found],rfl⟩
  clear hyl0
  generalize Z57 lk bs so = p at *
  generalize Z6j so t (Z0d lk at_ (prs lk t at_ bs)) = ds at *
  refine exA rfl ⟨pv,p,rfl,hp0.deep (by decide),by omega,fun ra ys H8 hra hys g8=>?_⟩
  rw [← Tl] at hys
  have hyl:ys.length ≤ 1000000:=by
   have h1:=Pat.code_fits p 0
   rw [Paired.length hys,Tl,List.length_append]
   show (p.code 0).length + 1 ≤ _
   omega
  refine (exA rfl (exA rfl (fun m dx hm hdx hne=>?_)))
  have g9:Gro [] H8 (upd (upd H8 dx (.own m)) m (.ins C dx [])):=(Gro.new hdx _).trans (Gro.new (by rw [Zf (Ne.symm hne)]; exact hm) _)
  have e9:(upd (upd H8 dx (.own m)) m (.ins C dx [])) m = some (.ins C dx []):=Z1
  have hdl8:=g8.keep _ _ hdl0 (by simp)
  have rm:dl ≠ m:=Z7 hdl8 hm
  have hdl9:=g9.keep _ _ hdl8 (by simp)
  generalize upd (upd H8 dx (.own m)) m (.ins C dx []) = H9 at *
  have hcnt:Z50 ((Yq p).map Op.rw) = ((1:Nat):Int):=Z6p hwf hnm (.inr hhs)
  refine ⟨m,dx,ra,t,at_,ys,_,rfl,e9,g9.tups _ _ hra,Zp g9.tups hys,by omega,fun r hr=>?tame,by rw [hcnt]; omega,by rw [hcnt]; omega,fun ch gd2 HA hcn hMA hgA gA=>⟨rfl,?_⟩⟩
  case tame =>
   obtain ⟨o,_,rfl⟩:=List.mem_map.mp hr
   exact Z7j o
  rw [hcnt] at hgA
  have hgA':HA gd2 = some (.tup (List.replicate 1 .non)):=hgA
  have rc:dl ≠ ch:=Z7 hdl9 hcn
  have hdlA:=gA.keep _ _ hdl9 (by simpa using rm)
  have tA:=fun b xs h=>gA.tups b xs (g9.tups b xs (g8.tups b xs h))
  have hdvA:=Y6 tA hdv
  have hraA:=gA.tups _ _ (g9.tups _ _ hra)
  have hysA:=Zp (fun b xs h=>gA.tups _ _ (g9.tups _ _ h)) hys
  have mg0:=Zbo (cap:=4900) (n:=1) (B:=4100) hMA hgA' hraA hysA (by omega) (by decide) hyl1 hws (by decide) (by decide)
  have rS:dl ∉ [m,ch]:=by simp [rm,rc]
  refine (exA rfl ⟨dl,rfl,⟨_,SqL.of hdlA⟩,?_⟩)
  refine Z1l (xs:=dv) (fun i σ H'=>∃ (ov:Option V),σ = [some (.ref a),some (.ref b),some (.ref l),some (.str t),some (.int at_),s5,some (.str lk.text),some (.ref lb),s8,s9,some (.ref dl),some pv,s12,some (.ref m),ov]∧MG 4900 C m ra ch t 1 (Yq p) H' ((ds.drop i).map toW)∧Gro [m,ch] HA H')
   ⟨none,rfl,mg0,Gro.refl⟩ (fun k σ H' _ ⟨_,_,_,g⟩=>SqL.of (g.keep _ _ hdlA rS)) ?_ ?_
  ·rintro i x1 σ H1 hx1 ⟨ov,rfl,hmg,g⟩
   obtain ⟨d,hd,da,x,rfl,hda,hx⟩:=Zx hdvA hx1
   rw [List.drop_eq_getElem_cons (List.getElem?_eq_some_iff.mp hd).1,(List.getElem?_eq_some_iff.mp hd).2,List.map_cons] at hmg
   obtain ⟨dx1,s1,f1⟩:=hmg.ob
   refine (exA rfl ⟨m,dx1,exA rfl ⟨f1,Z73 _,?_⟩⟩)
   refine Z59 (E:=E0) hmg (by decide) fun H2 tt gv hmg2 htt hgs2 g2=>?_
   have hda2:=(g.trans g2).tups _ _ hda
   have hx2:=hx.mono (g.trans g2).tups
   refine ixT hda2 at0 (ixT hda2 rfl ⟨sz,fun e0 he0=>⟨sz,fun d' hd'=>?_⟩⟩)
   have g3:Gro [] H2 (upd (upd H2 e0 (.tup [x])) d' (.tup [.str "way",.int d.1,.ref e0])):=(Gro.new he0 _).tup hd'
   have hge:GsAt (upd (upd H2 e0 (.tup [x])) d' (.tup [.str "way",.int d.1,.ref e0])) (.ref e0) [d.2] :=
    ⟨e0,[x],rfl,by rw [Zf (Z7 Z1 hd')]; exact Z1,.cons (hx2.mono g3.tups) .nil⟩
   refine ⟨_,_,rfl,Z5g (g3.tups _ _ htt) Z1 (hgs2.mono g3.tups) hge (by simp [toW]),exA rfl (Zd (by decide) ?_)⟩
   exact ⟨_,rfl,hmg2.gro g3 (by simp) (by simp),g.trans (g2.trans (g3.mono (by simp)))⟩
  ·rintro σ H1 ⟨ov,rfl,hmg,g⟩
   rw [List.drop_of_length_le (by rw [Paired.length hdvA]; exact Nat.le_refl _)] at hmg
   obtain ⟨dx1,s1,f1⟩:=hmg.ob
   refine (exA rfl ⟨m,dx1,exA rfl ⟨f1,Z73 _,?_⟩⟩)
   refine Z7i (E:=E0) (.inl ⟨hmg,by decide⟩) fun H2 tt hme htt g2=>⟨sz,fun d hd=>?_⟩
   have g3:=Gro.new (S:=[]) hd (.tup [.str "none"])
   exact ⟨_,_,rfl,Z3d (g3.tups _ _ htt) Z1,q _⟩
 have rest16:∀ (H':Hp) (iv:V) (dl lb:Addr) (dv:List V) (at_:Nat) (lk:Lk) (bs:List Str) (t:Str) (s5 s9:Option V),BoxAt H' b→LetAt H' l→BsOk bs→PatAt H' 3 iv (inP bs)→t.length ≤ 220→at_ ≤ t.length →
   H' dl = some (.lst dv)→Paired (DuA H') dv (Z0d lk at_ (prs lk t at_ bs))→dv.length ≤ 1→dl ≠ b →
   Az16 Ez [some (.ref a),some (.ref b),some (.ref l),some (.str t),some (.int at_),s5,some (.str lk.text),some (.ref lb),some iv,s9,some (.ref dl),none,none,none,none] H':=by
  intro H' iv dl lb dv at_ lk bs t s5 s9 hb' hl' hbs hiv ht hat hdl hdv hdn dlb
  refine exA rfl (exA rfl ⟨sz,fun k1 hk1=>⟨sz,fun k2 hk2=>?_⟩⟩)
  have g0:Gro [] H' (upd (upd H' k1 (.tup [.str "group",.int 1,iv])) k2 (.tup [.str lk.text,.ref k1])):=(Gro.new hk1 _).tup hk2
  have hp0:PatAt (upd (upd H' k1 (.tup [.str "group",.int 1,iv])) k2 (.tup [.str lk.text,.ref k1])) 5 (.ref k2) (lkP lk bs) :=
   ⟨k2,[.ref k1],rfl,⟨.ref k1,rfl,Z1⟩,.cons ⟨k1,[iv],rfl,⟨⟨by decide,by decide⟩,iv,rfl,by rw [Zf (Z7 Z1 hk2)]; exact Z1⟩,.cons (hiv.mono g0.tups) .nil⟩ .nil⟩
  have hdl0:=g0.keep _ _ hdl (by simp)
  have hdv0:=Y6 g0.tups hdv
  have hb0:=hb'.gro g0 (by simp)
  have hl0:=hl'.gro g0 (by simp)
  generalize upd (upd H' k1 (.tup [.str "group",.int 1,iv])) k2 (.tup [.str lk.text,.ref k1]) = H0 at *
  refine exA rfl ⟨b,2,rfl,hb0,by decide,by decide,fun r H3 _ _ hb3 g3=>⟨rfl,_,rfl,Wi (fun _=>?_) (fun _=>?_)⟩⟩
  ·refine exA rfl (exA rfl ⟨b,3,rfl,hb3,by decide,by decide,fun r1 H4 r10 r11 hb4 g4=>?_⟩)
   have g04:=g3.trans g4
   refine Zcd (hl0.gro g04 lS) r10 r11 fun s1 hs1=>?_
   have dlS:dl ∉ [b]:=by simpa using dlb
   have hdl4:=g04.keep _ _ hdl0 dlS
   have hdv4:=Y6 g04.tups hdv0
   have hp4:=hp0.mono g04.tups
   refine exA rfl (exA rfl ⟨sz,fun j1 hj1=>⟨sz,fun j2 hj2=>⟨sz,fun j3 hj3=>?_⟩⟩⟩)
   have g5:Gro [] H4 (upd (upd (upd H4 j1 (.tup [.str "sign",.str s1])) j2 (.tup [.ref k2,.ref j1])) j3 (.tup [.str "row",.ref j2])):=((Gro.new hj1 _).tup hj2).tup hj3
   have hp5:PatAt (upd (upd (upd H4 j1 (.tup [.str "sign",.str s1])) j2 (.tup [.ref k2,.ref j1])) j3 (.tup [.str "row",.ref j2])) 6 (.ref j3) (Z57 lk bs (some s1)) :=
    ⟨j3,[.ref k2,.ref j1],rfl,⟨by simp,j2,Z1,by rw [Zf (Z7 Z1 hj3)]; exact Z1⟩,.cons (hp4.mono g5.tups) (.cons ⟨j1,[],rfl,⟨rfl,hs1,((Gro.new (S:=[]) hj2 _).tup hj3).tups _ _ Z1⟩,.nil⟩ .nil)⟩
   have hdl5:=g5.keep _ _ hdl4 (by simp)
   have hdv5:=Y6 g5.tups hdv4
   generalize upd (upd (upd H4 j1 (.tup [.str "sign",.str s1])) j2 (.tup [.ref k2,.ref j1])) j3 (.tup [.str "row",.ref j2]) = H5 at *
   refine exA rfl ⟨dl,rfl,⟨_,SqL.of hdl5⟩,?_⟩
   refine T1 (xs:=dv) (fun y ys H''=>Paired (DuA H'') ys (Z6j (some s1) t ((Z0d lk at_ (prs lk t at_ bs)).take y))∧ys.length ≤ y∧Gro [] H5 H'') ⟨.nil,Nat.le_refl _,Gro.refl⟩ (Y7 (by omega)) (fun y ys H'' ⟨_,h,_⟩=>h) (fun y ys H'' ⟨_,_,g''⟩=>SqL.of (g''.keep _ _ hdl5 (by simp))) ?_ ?_
   ·rintro y ys H'' v hv ⟨hz,hzl,g''⟩
    obtain ⟨d,hd,da,x,rfl,hda,hx⟩:=Zx (Y6 g''.tups hdv5) hv
    rw [Yb hd,Z4u]
    have hs:Txt.slice t (some (d.1:Int)) (some ((d.1:Int) + 1)) = sub t d.1 (d.1 + 1):=by
     rw [show (d.1:Int) + 1 = ((d.1 + 1:Nat):Int) by omega,Xf (by omega) (by omega)]
     rfl
    refine exA rfl (ixT hda at0 ⟨_,rfl,ixT hda at0 (exB rfl rfl ⟨_,rfl,t,rfl,Yy (by omega),exA rfl ⟨rfl,exA rfl (Wi (fun z2=>?_) (fun z2=>?_))⟩⟩)⟩)
    ·have c:sub t d.1 (d.1 + 1) = s1:=by
      have z:=of_decide_eq_true z2
      rw [hs] at z
      injection z
     refine ixT hda at0 (exB rfl rfl (ixT hda rfl ⟨sz,fun p hpn=>?_⟩))
     rw [if_pos c]
     have gp:=Gro.new (S:=[]) hpn (.tup [.int ((d.1:Int) + 1),x])
     exact ⟨(Y6 gp.tups hz).snoc ⟨p,x,rfl,Z1,hx.mono gp.tups⟩,by simp; omega,g''.trans gp⟩
    ·have c:¬ sub t d.1 (d.1 + 1) = s1:=fun c=>z2 (decide_eq_true (by rw [hs,c]))
     rw [if_neg c,List.append_nil]
     exact ⟨hz,by omega,g''⟩
   ·rintro ys H'' ⟨hz,hzl,g''⟩ d2 hd2
    rw [Paired.length hdv5,List.take_length] at hz
    have gd:=Gro.new (S:=[]) hd2 (.lst ys)
    exact rest14 _ (.ref j3) d2 lb ys at_ lk bs (some s1) t s5 (some iv) s9 _ hbs (fun s e=>by cases e; exact hs1) ((hp5.mono g''.tups).mono gd.tups) ht hat Z1 (Y6 gd.tups hz)
  ·have dlS:dl ∉ [b]:=by simpa using dlb
   exact rest14 H3 (.ref k2) dl lb dv at_ lk bs none t s5 (some iv) s9 none hbs (fun s e=>by cases e) ((hp0.mono g3.tups).deep (by decide)) ht hat (g3.keep _ _ hdl0 dlS) (Y6 g3.tups hdv0)
 have rest18:∀ (H':Hp) (iv:V) (pr dl lb:Addr) (pvs dv:List V) (at_:Nat) (lk:Lk) (bs:List Str) (t:Str) (s5:Option V),BoxAt H' b→LetAt H' l→BsOk bs→PatAt H' 3 iv (inP bs)→t.length ≤ 220→at_ ≤ t.length→H' pr = some (.lst pvs)→Paired (PrA H') pvs (prs lk t at_ bs) →
   H' dl = some (.lst dv)→Paired (DuA H') dv (((prs lk t at_ bs).take 1).map fun p=>(at_,some p))→dv.length ≤ 1→dl ≠ b →
   Az18 Ez [some (.ref a),some (.ref b),some (.ref l),some (.str t),some (.int at_),s5,some (.str lk.text),some (.ref lb),some iv,some (.ref pr),some (.ref dl),none,none,none,none] H':=by
  intro H' iv pr dl lb pvs dv at_ lk bs t s5 hb' hl' hbs hiv ht hat hpr hpp hdl hdv hdn dlb
  have six:Z0d lk at_ (prs lk t at_ bs) = (if (prs lk t at_ bs).isEmpty = true then [(at_,none)] else [])→Za Az6 Az16 Ez [some (.ref a),some (.ref b),some (.ref l),some (.str t),some (.int at_),s5,some (.str lk.text),some (.ref lb),some iv,some (.ref pr),some (.ref dl),none,none,none,none] H':=by
   intro hdue
   refine exA rfl ⟨pr,_,rfl,.inl (SqL.of hpr),⟨_,_,rfl,exB rfl rfl ?_⟩⟩
   have key:∀ n:Nat,(n = 1∧prs lk t at_ bs = []) ∨ (n = 0∧prs lk t at_ bs ≠ [])→LCW (Itr 0 n) [some (.ref a),some (.ref b),some (.ref l),some (.str t),some (.int at_),s5,some (.str lk.text),some (.ref lb),some iv,some (.ref pr),some (.ref dl),none,none,none,none] Zb1 (Zb2 (Z1u (Jk 5) (Z1u (tC V.non) Z5d))) (fun ys H1=>∀ dl':Addr,H1 dl' = none→Z0a 10 (.ref dl') [some (.ref a),some (.ref b),some (.ref l),some (.str t),some (.int at_),s5,some (.str lk.text),some (.ref lb),some iv,some (.ref pr),some (.ref dl),none,none,none,none] (upd H1 dl' (.lst ys)) (Az16 Ez)) H':=by
    intro n hn
    refine Wb (n:=n) (fun i ys H''=>Paired (DuA H'') ys (List.replicate i (at_,none))∧Gro [] H' H'') ⟨.nil,Gro.refl⟩ (Y7 (by omega)) (fun i ys H'' ⟨h,_⟩=>by rw [Paired.length h,List.length_replicate]; exact Nat.le_refl _) ?_ ?_
    ·rintro i ys H'' hi ⟨hz,g''⟩
     refine exA rfl ⟨sz,fun p hpn=>?_⟩
     have gp:=Gro.new (S:=[]) hpn (.tup [.int at_,.non])
     refine ⟨?_,g''.trans gp⟩
     rw [List.replicate_succ']
     exact (Y6 gp.tups hz).snoc ⟨p,.non,rfl,Z1,rfl⟩
    ·rintro ys H'' ⟨hz,g''⟩ d2 hd2
     have gd:=Gro.new (S:=[]) hd2 (.lst ys)
     have gz:=g''.trans gd
     refine rest16 _ iv d2 lb ys at_ lk bs t s5 _ (hb'.gro gz (by simp)) (hl'.gro gz (by simp)) hbs (hiv.mono gz.tups) ht hat Z1 ?_ (by rw [Paired.length hz,List.length_replicate]; omega) (Ne.symm (Z7 (hb'.gro g'' (by simp)).choose_spec.1 hd2))
     rw [hdue]
     rcases hn with ⟨rfl,e⟩ | ⟨rfl,e⟩
     ·rw [e]
      exact Y6 gd.tups hz
     ·rw [if_neg (by simpa using e)]
      exact Y6 gd.tups hz
   have hl:=Paired.length hpp
   cases pvs with
   | nil =>
    refine exA rfl ⟨by decide,by decide,key 1 (.inl ⟨rfl,?_⟩)⟩
    exact List.eq_nil_of_length_eq_zero hl.symm
   | cons v vs =>
    have hm:(if ((v :: vs).length:Int) < 1 then ((v :: vs).length:Int) else 1) = 1:=if_neg (by simp; omega)
    rw [hm]
    refine exA rfl ⟨by decide,by decide,key 0 (.inr ⟨rfl,fun e=>?_⟩)⟩
    rw [e] at hl
    cases hl
  have nob:Z0d lk at_ (prs lk t at_ bs) = ((prs lk t at_ bs).take 1).map (fun p=>(at_,some p))→Az16 Ez [some (.ref a),some (.ref b),some (.ref l),some (.str t),some (.int at_),s5,some (.str lk.text),some (.ref lb),some iv,some (.ref pr),some (.ref dl),none,none,none,none] H':=fun hdue =>
   rest16 H' iv dl lb dv at_ lk bs t s5 _ hb' hl' hbs hiv ht hat hdl (by rw [hdue]; exact hdv) hdn dlb
  cases lk with
  | ahead=>exact exA rfl ⟨rfl,_,rfl,Zd (by decide +kernel) (exA rfl ⟨rfl,exA rfl (Zd (by decide +kernel) (exA rfl ⟨rfl,exA rfl (Zd (by decide +kernel) (nob rfl))⟩))⟩)⟩
  | behind=>exact exA rfl ⟨rfl,_,rfl,Zd (by decide +kernel) (exA rfl ⟨rfl,exA rfl (Zd (by decide +kernel) (exA rfl ⟨rfl,exA rfl (Zd (by decide +kernel) (nob rfl))⟩))⟩)⟩
  | notahead=>exact exA rfl ⟨rfl,_,rfl,Zd (by decide +kernel) (exA rfl ⟨rfl,exA rfl (Zq (by decide +kernel) (Z99 (six rfl)))⟩)⟩
  | notbehind=>exact exA rfl ⟨rfl,_,rfl,Zd (by decide +kernel) (exA rfl ⟨rfl,exA rfl (Zd (by decide +kernel) (exA rfl ⟨rfl,exA rfl (Zq (by decide +kernel) (six rfl))⟩))⟩)⟩
  | once =>
   refine exA rfl ⟨rfl,_,rfl,Zq (by decide +kernel) ?_⟩
   refine exA rfl (exA rfl ⟨pr,_,rfl,SqL.of hpr,fun d2 hd2=>⟨d2,rfl,⟨_,SqL.of Z1⟩,?_⟩⟩)
   have gC:=Gro.new (S:=[]) hd2 (.lst (Ui pvs none (some 1)))
   have eC:(upd H' d2 (.lst (Ui pvs none (some 1)))) d2 = some (.lst (pvs.take 1)):=by rw [Z1,Z4y]
   generalize upd H' d2 (.lst (Ui pvs none (some 1))) = HX at *
   have hpx:=X7 1 (Ym gC.tups hpp)
   refine Z4f (xs:=pvs.take 1) (fun y ys H''=>Paired (DuA H'') ys ((((prs .once t at_ bs).take 1).take y).map fun p=>(p.2,some p))∧ys.length ≤ y∧Gro [] HX H'') ⟨.nil,Nat.le_refl _,Gro.refl⟩ (Y7 (by rw [List.length_take]; omega)) (fun y ys H'' ⟨_,h,_⟩=>h) (fun y ys H'' ⟨_,_,g''⟩=>SqL.of (g''.keep _ _ eC (by simp))) ?_ ?_
   ·rintro y ys H'' v hv ⟨hz,hzl,g''⟩
    obtain ⟨p,hp,pa,rfl,hpa⟩:=Zx (Ym g''.tups hpx) hv
    rw [Yb hp,List.map_append]
    refine ixT hpa rfl (exA rfl ⟨sz,fun k hk=>?_⟩)
    have gp:=Gro.new (S:=[]) hk (.tup [.int p.2,.ref pa])
    exact ⟨(Y6 gp.tups hz).snoc ⟨k,.ref pa,rfl,Z1,pa,rfl,gp.tups _ _ hpa⟩,by simp; omega,g''.trans gp⟩
   ·rintro ys H'' ⟨hz,hzl,g''⟩ d3 hd3
    rw [List.take_of_length_le (by rw [Paired.length hpx]; exact Nat.le_refl _)] at hz
    have gd:=Gro.new (S:=[]) hd3 (.lst ys)
    have gz:=(gC.trans g'').trans gd
    refine exA rfl ⟨rfl,exA rfl (Zd (by decide +kernel) (exA rfl ⟨rfl,exA rfl (Zd (by decide +kernel) ?_)⟩))⟩
    refine rest16 _ iv d3 lb ys at_ .once bs t s5 _ (hb'.gro gz (by simp)) (hl'.gro gz (by simp)) hbs (hiv.mono gz.tups) ht hat Z1 (Y6 gd.tups hz) ?_ (Ne.symm (Z7 (hb'.gro (gC.trans g'') (by simp)).choose_spec.1 hd3))
    rw [List.length_take] at hzl
    omega
 have rest20:∀ (H':Hp) (iv:V) (lb:Addr) (at_:Nat) (lk:Lk) (bs:List Str) (t:Str) (s5:Option V),BoxAt H' b→LetAt H' l→BsOk bs→PatAt H' 3 iv (inP bs)→t.length ≤ 220→at_ ≤ t.length→H' lb = some (.lst (bs.map V.str)) →
   Az20 Ez [some (.ref a),some (.ref b),some (.ref l),some (.str t),some (.int at_),s5,some (.str lk.text),some (.ref lb),some iv,none,none,none,none,none,none] H':=by
  intro H' iv lb at_ lk bs t s5 hb' hl' hbs hiv ht hat hlb
  refine exA rfl (exA rfl (exA rfl (exA rfl ⟨lk,t,at_,lb,bs,rfl,hlb,hbs,hat,by omega,fun pr pvs H2 hpr hpp g2=>?_⟩)))
  refine exA rfl (exA rfl ⟨pr,_,rfl,SqL.of hpr,fun d2 hd2=>⟨d2,rfl,⟨_,SqL.of Z1⟩,?_⟩⟩)
  have gC:=Gro.new (S:=[]) hd2 (.lst (Ui pvs none (some 1)))
  have eC:(upd H2 d2 (.lst (Ui pvs none (some 1)))) d2 = some (.lst (pvs.take 1)):=by rw [Z1,Z4y]
  have hprC:=gC.keep _ _ hpr (by simp)
  have hppC:=Ym gC.tups hpp
  generalize upd H2 d2 (.lst (Ui pvs none (some 1))) = HX at *
  have hpx:=X7 1 hppC
  refine Z4f (xs:=pvs.take 1) (fun y ys H''=>Paired (DuA H'') ys ((((prs lk t at_ bs).take 1).take y).map fun p=>(at_,some p))∧ys.length ≤ y∧Gro [] HX H'') ⟨.nil,Nat.le_refl _,Gro.refl⟩ (Y7 (by rw [List.length_take]; omega)) (fun y ys H'' ⟨_,h,_⟩=>h) (fun y ys H'' ⟨_,_,g''⟩=>SqL.of (g''.keep _ _ eC (by simp))) ?_ ?_
  ·rintro y ys H'' v hv ⟨hz,hzl,g''⟩
   obtain ⟨p,hp,hv'⟩:=Zx (Ym g''.tups hpx) hv
   rw [Yb hp,List.map_append]
   refine exA rfl (exA rfl ⟨sz,fun k hk=>?_⟩)
   have gp:=Gro.new (S:=[]) hk (.tup [.int at_,v])
   exact ⟨(Y6 gp.tups hz).snoc ⟨k,v,rfl,Z1,EnA.mono gp.tups hv'⟩,by simp; omega,g''.trans gp⟩
  ·rintro ys H'' ⟨hz,hzl,g''⟩ d3 hd3
   rw [List.take_of_length_le (by rw [Paired.length hpx]; exact Nat.le_refl _)] at hz
   have gd:=Gro.new (S:=[]) hd3 (.lst ys)
   have gy:=(g2.trans gC).trans g''
   have gz:=gy.trans gd
   refine rest18 _ iv pr d3 lb pvs ys at_ lk bs t s5 (hb'.gro gz (by simp)) (hl'.gro gz (by simp)) hbs (hiv.mono gz.tups) ht hat (gd.keep _ _ (g''.keep _ _ hprC (by simp)) (by simp)) (Ym (g''.trans gd).tups hppC) Z1 (Y6 gd.tups hz) ?_ (Ne.symm (Z7 (hb'.gro gy (by simp)).choose_spec.1 hd3))
   rw [List.length_take] at hzl
   omega
 have rest22:∀ (H':Hp) (lb:Addr) (at_:Nat) (lk:Lk) (bs:List Str) (t:Str) (s5:Option V),BoxAt H' b→LetAt H' l→BsOk bs→t.length ≤ 220→at_ ≤ t.length→H' lb = some (.lst (bs.map V.str)) →
   Az22 Ez [some (.ref a),some (.ref b),some (.ref l),some (.str t),some (.int at_),s5,some (.str lk.text),some (.ref lb),none,none,none,none,none,none,none] H':=by
  intro H' lb at_ lk bs t s5 hb' hl' hbs ht hat hlb
  match bs,hbs,hlb with
  | [b0],hbs,hlb =>
   refine ixL hlb rfl ⟨b0,rfl,hbs.all b0 (by simp),fun v H2 hv g2=>?_⟩
   have hlb2:=g2.keep _ _ hlb (by simp)
   refine exA rfl ⟨lb,_,rfl,.inl (SqL.of hlb2),rfl,_,rfl,Zd (show ¬ decide (V.int 1 = V.int 2) = true by decide) ?_⟩
   exact rest20 H2 v lb at_ lk [b0] t s5 (hb'.gro g2 (by simp)) (hl'.gro g2 (by simp)) hbs (hv.deep (by decide)) ht hat hlb2
  | [b0,b1],hbs,hlb =>
   refine ixL hlb rfl ⟨b0,rfl,hbs.all b0 (by simp),fun v H2 hv g2=>?_⟩
   have hlb2:=g2.keep _ _ hlb (by simp)
   refine exA rfl ⟨lb,_,rfl,.inl (SqL.of hlb2),rfl,_,rfl,Zq (show decide (V.int 2 = V.int 2) = true by decide) ?_⟩
   refine exA rfl (ixL hlb2 rfl ⟨b1,rfl,hbs.all b1 (by simp),fun v2 H3 hv2 g3=>⟨sz,fun k1 hk1=>⟨sz,fun k2 hk2=>?_⟩⟩⟩)
   have g4:Gro [] H3 (upd (upd H3 k1 (.tup [v,v2])) k2 (.tup [.str "or",.ref k1])):=(Gro.new hk1 _).tup hk2
   have hp4:PatAt (upd (upd H3 k1 (.tup [v,v2])) k2 (.tup [.str "or",.ref k1])) 3 (.ref k2) (inP [b0,b1]) :=
    ⟨k2,[v,v2],rfl,⟨by simp,by simp,k1,Z1,by rw [Zf (Z7 Z1 hk2)]; exact Z1⟩,.cons ((hv.mono g3.tups).mono g4.tups) (.cons (hv2.mono g4.tups) .nil)⟩
   have g24:=(g2.trans g3).trans g4
   exact rest20 _ (.ref k2) lb at_ lk [b0,b1] t s5 (hb'.gro g24 (by simp)) (hl'.gro g24 (by simp)) hbs hp4 ht hat (g24.keep _ _ hlb (by simp))
  | [],hbs,_=>exact absurd hbs.ne (by decide)
  | _ :: _ :: _ :: _,hbs,_=>exact absurd hbs.le (by simp)
 have rest24:∀ (H':Hp) (at_:Nat) (t:Str) (s5:Option V),BoxAt H' b→LetAt H' l→t.length ≤ 220→at_ ≤ t.length →
   Az24 Ez [some (.ref a),some (.ref b),some (.ref l),some (.str t),some (.int at_),s5,none,none,none,none,none,none,none,none,none] H':=by
  intro H' at_ t s5 hb' hl' ht hat
  refine ⟨sz,fun a1 ha1=>exA rfl ⟨b,5,rfl,hb'.new ha1,by decide,by decide,fun r2 H2 r20 r21 hb2 g2=>?_⟩⟩
  have e2:H2 a1 = some (.lst [.str "ahead",.str "notahead",.str "behind",.str "notbehind",.str "once"]):=g2.keep a1 _ Z1 (by simpa using Ne.symm (Z7 hb'.choose_spec.1 ha1))
  obtain ⟨lk,elk⟩:∃ lk:Lk,atI [V.str "ahead",V.str "notahead",V.str "behind",V.str "notbehind",V.str "once"] r2 = some (.str lk.text):=by
   have:r2 = 0 ∨ r2 = 1 ∨ r2 = 2 ∨ r2 = 3 ∨ r2 = 4:=by omega
   rcases this with rfl | rfl | rfl | rfl | rfl
   ·exact ⟨.ahead,rfl⟩
   ·exact ⟨.notahead,rfl⟩
   ·exact ⟨.behind,rfl⟩
   ·exact ⟨.notbehind,rfl⟩
   ·exact ⟨.once,rfl⟩
  refine ⟨a1,_,_,_,rfl,rfl,SqL.of e2,elk,?_⟩
  have hl2:=(hl'.new ha1).gro g2 lS
  clear e2 elk g2
  refine exA rfl ⟨b,2,rfl,hb2,by decide,by decide,fun r3 H3 r30 r31 hb3 g3=>exB rfl rfl (exA rfl ⟨by omega,by omega,?_⟩)⟩
  have hl3:=hl2.gro g3 lS
  refine Wb (n:=(1 + r3).toNat) (fun i ys H''=>∃ bs:List Str,ys = bs.map V.str∧bs.length = i∧(∀ b ∈ bs,1 ≤ b.length∧b.length ≤ 3)∧BoxAt H'' b∧Gro [b] H3 H'') ⟨[],rfl,rfl,fun b hb=>by simp at hb,hb3,Gro.refl⟩ (Y7 (by omega)) (fun i ys H'' ⟨bs,e,el,_⟩=>by rw [e,List.length_map,el]; exact Nat.le_refl _) ?_ ?_
  ·rintro i ys H'' hi ⟨bs,rfl,hbl,hall,hb'',g''⟩
   have hl'':=hl3.gro g'' lS
   refine exA rfl (exA rfl (exA rfl ⟨b,3,rfl,hb'',by decide,by decide,fun n1 H4 n10 n11 hb4 g4=>exB rfl rfl ⟨b,l,_,rfl,hb4,hl''.gro g4 lS,by omega,by omega,fun t1 H5 ht1 hb5 g5=>?_⟩⟩))
   refine ⟨bs ++ [t1],by rw [List.map_append]; rfl,by simp [hbl],fun x hx=>?_,hb5,(g''.trans g4).trans g5⟩
   rcases List.mem_append.mp hx with hx | hx
   ·exact hall x hx
   ·rw [List.mem_singleton.mp hx]
    omega
  ·rintro ys H'' ⟨bs,rfl,hbl,hall,hb'',g''⟩ lb hlb
   have gd:=Gro.new (S:=[]) hlb (.lst (bs.map V.str))
   exact rest22 _ lb at_ lk bs t s5 (hb''.gro gd (by simp)) ((hl3.gro g'' lS).gro gd (by simp)) ⟨by omega,by omega,hall⟩ ht hat Z1
 refine exA rfl (exA rfl (exA rfl ⟨b,11,rfl,hb1,by decide,by decide,fun n1 H2 n10 n11 hb2 g2=>⟨b,l,n1,rfl,hb2,hl1.gro g2 lS,n10,by omega,fun t0 H3 ht0 hb3 g3=>?_⟩⟩))
 refine exA rfl (exA rfl ⟨t0,rfl,Yy (by omega),exB rfl rfl ⟨b,_,rfl,hb3,by omega,by omega,fun at0 H4 a0 a1 hb4 g4=>?_⟩⟩)
 obtain ⟨at_,rfl⟩:=Int.eq_ofNat_of_zero_le a0
 refine exA rfl ⟨b,4,rfl,hb4,by decide,by decide,fun r5 H5 _ _ hb5 g5=>⟨rfl,_,rfl,Wi (fun _=>?_) (fun _=>?_)⟩⟩
 ·have g15:=((g2.trans g3).trans g4).trans g5
  refine exA rfl (exA rfl (exA rfl ⟨b,190,rfl,hb5,by decide,by decide,fun n6 H6 n60 n61 hb6 g6=>⟨b,l,n6,rfl,hb6,(hl1.gro g15 lS).gro g6 lS,n60,by omega,fun t1 H7 ht1 hb7 g7=>?_⟩⟩))
  refine exA rfl (exA rfl ⟨_,_,rfl,rfl,Yy (by omega),exA rfl (exA rfl ⟨t1,rfl,Yy (by omega),exB rfl rfl ?_⟩)⟩)
  have e:(at_:Int) + (t1.length:Int) = ((at_ + t1.length:Nat):Int):=by omega
  have hl7:=((hl1.gro g15 lS).gro g6 lS).gro g7 lS
  have:=rest24 H7 (at_ + t1.length) (t1 ++ t0) (some (.str t1)) hb7 hl7 (by rw [Z4c]; omega) (by rw [Z4c]; omega)
  rw [← e] at this
  exact this
 ·have g15:=((g2.trans g3).trans g4).trans g5
  exact rest24 H5 at_ t0 none hb5 (hl1.gro g15 lS) (by omega) (by omega)
end
section
variable {K:PySem.W.Frag} {mg:Str→Option Value} {h:Heap}
theorem def_mk {x:Str} {st:Stmt} {ps:List Str} {f:Addr} {oc:Value} {od an:Option Addr} {osl:Array (Option Value)} {kV doc pm cdv ct:Value} (X:K.In h) (G:h.Ns mainGlobals mg) (a:PySem.W.nsIn K mainGlobals x = some (some (.ref f)))
  (l:K.lookup f = some ⟨oc,od,.func (PySem.W.fnOf x x (Ys st) (Yk st) (Z5 st) .none kV doc pm an cdv ct),osl⟩) (c:PySem.W.codeIn K cdv x = true) (k:PySem.W.keepIn K (.ref f) = true)
  (hb:∀ (kV doc pm:Value) (an:Option Addr) (cdv ct:Value) (us:List Value),us.length = ps.length→bindArgs (PySem.W.fnOf x x (Ys st) (Yk st) (Z5 st) .none kV doc pm an cdv ct) ⟨us,[]⟩ = pure (ps.zip us)):Def K mg x st ps :=
 ⟨f,_,Vj (st:=st) l c k,PySem.W.mg_of X G a,(Vj (st:=st) l c k).binds hb⟩
theorem const_mk7 {x:Str} {pl:Addr} {od:Option Addr} {n:Nat} {sl:Array (Option Value)} {x1 x2 x3 x4 x5 x6 x7:Str} {t1 t2 t3 t4 t5 t6 t7:Tok} (X:K.In h) (G:h.Ns mainGlobals mg) (a:PySem.W.nsIn K mainGlobals x = some (some (.ref pl))) (l:K.lookup pl = some ⟨.type "tuple",od,.seq #[.str x1 t1,.str x2 t2,.str x3 t3,.str x4 t4,.str x5 t5,.str x6 t6,.str x7 t7] n,sl⟩) :
  ∃ pl,mg x = some (.ref pl)∧∀ H,SqT K H pl [.str x1,.str x2,.str x3,.str x4,.str x5,.str x6,.str x7]:=⟨pl,PySem.W.mg_of X G a,fun H=>.inr ⟨_,_,n,l,rfl,rfl,sz,(.cons ⟨_,rfl⟩ (.cons ⟨_,rfl⟩ (.cons ⟨_,rfl⟩ (.cons ⟨_,rfl⟩ (.cons ⟨_,rfl⟩ (.cons ⟨_,rfl⟩ (.cons ⟨_,rfl⟩ .nil)))))))⟩⟩
theorem top_mk {l:PySem.W.OpenLaw} {w:World} {fa f:Addr} {oc:Value} {od an:Option Addr} {osl:Array (Option Value)} {kV doc pm cdv ct:Value} (X:K.In h) (G:h.Ns mainGlobals mg) (hfa:mg "law" = some (.ref fa)) (a:PySem.W.nsIn K mainGlobals "law" = some (some (.ref f)))
  (lk:K.lookup f = some ⟨oc,od,.func (PySem.W.fnOf "law" "law" (Ys Xo) (Yk Xo) (Z5 Xo) .none kV doc pm an cdv ct),osl⟩) (c:PySem.W.codeIn K cdv "law" = true) (k:PySem.W.keepIn K (.ref f) = true)
  (rest:∀ (base:Heap) (f:Addr) (fd:FuncData),Fun K "law" "law" Xo f fd→FnOk l.prog w K mg base CX0 210 f fd ["_law_script"] (Z1v K)) :
  ∃ fd:FuncData,(∀ (s:Shared) (v:Value),BindsTo s fd ⟨[v],[]⟩ [("_law_script",v)])∧∀ base:Heap,K.In base→base.Ns mainGlobals mg→FnOk l.prog w K mg base CX0 210 fa fd ["_law_script"] (Z1v K):=by
 have e:=hfa.symm.trans (PySem.W.mg_of X G a)
 cases e
 exact ⟨PySem.W.fnOf "law" "law" (Ys Xo) (Yk Xo) (Z5 Xo) .none kV doc pm an cdv ct,fun s v=>.of_eq rfl,fun base _ _=>rest base _ _ (Vj (st:=Xo) lk c k)⟩
theorem const_mkD5 {w:World} {x:Str} {pl:Addr} {n:Nat} {h1 h2 h3 h4 h5:Int} {k1 k2 k3 k4 k5 v1 v2 v3 v4 v5:Str} {t1 t2 t3 t4 t5 u1 u2 u3 u4 u5:Tok} (X:K.In h) (G:h.Ns mainGlobals mg) (a:PySem.W.nsIn K mainGlobals x = some (some (.ref pl)))
  (l:K.lookup pl = some ⟨.type "dict",none,.dict #[⟨h1,.str k1 t1,.str v1 u1⟩,⟨h2,.str k2 t2,.str v2 u2⟩,⟨h3,.str k3 t3,.str v3 u3⟩,⟨h4,.str k4 t4,.str v4 u4⟩,⟨h5,.str k5 t5,.str v5 u5⟩] n,#[]⟩) (hd:(pl == sysModules) = false)
  (e:h1 = PyData.keyHash w.params k1∧h2 = PyData.keyHash w.params k2∧h3 = PyData.keyHash w.params k3∧h4 = PyData.keyHash w.params k4∧h5 = PyData.keyHash w.params k5) (nd:([(.inr k1),(.inr k2),(.inr k3),(.inr k4),(.inr k5)]:List Key).Nodup) :
  ∃ pl,mg x = some (.ref pl)∧DcK K w pl [(.inr k1,.str v1),(.inr k2,.str v2),(.inr k3,.str v3),(.inr k4,.str v4),(.inr k5,.str v5)] :=
 ⟨pl,PySem.W.mg_of X G a,dcK_of l hd (.cons (Wc e.1) (.cons (Wc e.2.1) (.cons (Wc e.2.2.1) (.cons (Wc e.2.2.2.1) (.cons (Wc e.2.2.2.2) .nil))))) nd⟩
theorem const_mk2 {x:Str} {pl:Addr} {od:Option Addr} {n:Nat} {sl:Array (Option Value)} {x1 x2:Str} {t1 t2:Tok} (X:K.In h) (G:h.Ns mainGlobals mg) (a:PySem.W.nsIn K mainGlobals x = some (some (.ref pl))) (l:K.lookup pl = some ⟨.type "tuple",od,.seq #[.str x1 t1,.str x2 t2] n,sl⟩) :
  ∃ pl,mg x = some (.ref pl)∧∀ H,SqT K H pl [.str x1,.str x2]:=⟨pl,PySem.W.mg_of X G a,fun H=>.inr ⟨_,_,n,l,rfl,rfl,sz,(.cons ⟨_,rfl⟩ (.cons ⟨_,rfl⟩ .nil))⟩⟩
theorem law_of {P:Program} {w:World} {C:Addr} (T:Blt mg) (MA:MachDefsA K mg C) (X:∀ base,Gx P w K mg base C) (d1:Def K mg "_law_signs_of" s_l_signs_of ["_law_signs"]) (d2:Def K mg "_law_pairs" s_l_pairs ["_law_word", "_law_text_here", "_law_at", "_law_branches"]) (base:Heap) (f:Addr) (fd:FuncData) (F:Fun K "law" "law" Xo f fd):FnOk P w K mg base CX0 210 f fd ["_law_script"] (Z1v K) :=
 Zag T MA.base_.tx (X base).letters (X base).take (X base).text (d1.own fun _ _ F=>Zbm T F) (d2.own fun _ _ F=>Zbn T F) (X base).alike (X base).coded (X base).init (X base).way F
end
theorem walk {l:PySem.W.OpenLaw} {q:Program} {loose:List Str} {XP:(Str→Option Value)→Heap→Prop} {YP:World→Heap→Prop} {d:DefRec} {K:Params→PySem.W.Frag} (hn:l.most = some 63) (hdf:d.params.defaults = [])
  (hY:∀ (w:World) (h:Heap),YP w h→(K w.params).In h)
  (F:∀ (w:World) (mg:Str→Option Value) (fa:Addr) (h:Heap),(K w.params).In h→h.Ns mainGlobals mg→mg d.name = some (.ref fa) →
   ∃ fd:FuncData,(∀ (s:Shared) (u:Value),BindsTo s fd ⟨[u],[]⟩ [("_law_script",u)])∧∀ base:Heap,(K w.params).In base→base.Ns mainGlobals mg→FnOk l.prog w (K w.params) mg base CX0 210 fa fd ["_law_script"] (Z1v (K w.params))) :
  PySem.W.WalkO q loose XP YP l.row.toRowW d [] (fun f vs=>PySem.call f vs) :=
 L2.walk_of (n:=63) (k:=210) (x := "_law_script") (CX:=fun _=>CX0) (sp:=fun w=>Z1v (K w.params)) hn (by decide) hdf ⟨rfl,by decide,by decide⟩ hY F (fun _ _ a ns hl _ hS=>⟨a,ns,rfl,hS,hl,fun _=>rfl⟩) fun _ _ _ _ _ z=>z
end Seek
namespace PySem.W.Fast
def tw221299343745571154:=0
def tw15053085717821727756:=0
def tw16384850559438009960:=0
def tw11422574739474194570:=0
def tw16273857729899977201:=0
def tw6357708329482912153:=0
def tw14086691006694011167:=0
def tw10254702322000420019:=0
def tw15028147741701745464:=0
def tw5283573483455026070:=0
def tw4031644129544333389:=0
def tw16586230614077729096:=0
def tw1591896253792059943:=0
def tw10591593886266837169:=0
def tw2789362114029574279:=0
def tw10143365476370922586:=0
def tw6100402900916551014:=0
def tw9762830994251402326:=0
def tw14666073469971361919:=0
def tw3816604282477632733:=0
def tw9878960757191032745:=0
def tw13357205464201535598:=0
def tw3701434983194686735:=0
def tw12183723875671641389:=0
def tw6978231901425354136:=0
def tw9353085861087071637:=0
def tw758241890626566292:=0
def tw18293162572542960795:=0
def tw12441604257184539064:=0
def tw131771075765151604:=0
def tw14504225285138825368:=0
def tw17000548951916050273:=0
def tw1264803370367337279:=0
def tw3495929226418288837:=0
def tw625326411554710520:=0
def tw5753148920193299516:=0
def tw13821756781661542704:=0
def tw5741025127878220167:=0
def tw11565293182286403238:=0
def tw17958196354045319957:=0
def tw1218339999181279976:=0
def tw11590047153079582183:=0
def tw2422356219556709667:=0
def tw12072762608689525031:=0
def tw17935178352039169304:=0
def tw15742622996440477139:=0
def tw15554108748388771682:=0
def tw15632312851538885299:=0
def tw9164956670665431157:=0
def tw9993072191157811680:=0
def tw16177217210911460136:=0
def tw3544636194766182886:=0
def tw7821017244052391066:=0
def tw11219187097259187247:=0
def tw8884608915050357602:=0
def tw7576556017428204601:=0
def tw2127197688113418472:=0
def tw15114834743092801270:=0
def tw10862073017173247866:=0
def tw7141350315481251489:=0
def tw15773863780893323708:=0
def tw13335613524106167536:=0
def tw18067962980413709347:=0
def tw7460931968200124619:=0
def tw3280067048928628752:=0
def tw16720326398263449623:=0
def tw15294553761216487585:=0
def tw14040345720097602272:=0
def tw503814595518516775:=0
def tw8190502816114612656:=0
def tw16219331680562011393:=0
def tw8753625470859877241:=0
def tw17676144823885402271:=0
def tw7232840726798204040:=0
def tw10426884325164469636:=0
def tw8362273499136596213:=0
def tw6157672362854685308:=0
def tw8227634948673930908:=0
def tw16998721888414769600:=0
def tw1922827859030602208:=0
def tw11010923045531838519:=0
def tw2914765894228074171:=0
def tw5999799943524338118:=0
def tw13089024199406128313:=0
def tw1323348522441349944:=0
def tw15227171196345873036:=0
def tw12555457707951590230:=0
def tw14106123394819164008:=0
def tw12473143098770150916:=0
def tw9801221320232894915:=0
def tw6674857210782709728:=0
def tw8795700522536301904:=0
def tw4492308807690947137:=0
def tw13221886986903234227:=0
def tw16585300013138033460:=0
def tw14732016667847072705:=0
def tw8698898399430189348:=0
def tw13835118824093629100:=0
def tw488627966082605825:=0
def tw658071225809719074:=0
def tw3743324085712579195:=0
def tw12036305154886821961:=0
def tw8135437154509045393:=0
def tw9865686744045377723:=0
def tw15796328674533047955:=0
def tw10869419715979388559:=0
def tw13499538392513732541:=0
def tw6795553163816995281:=0
def tw507789294015545865:=0
def tw14399556336681592881:=0
def tw12684302004356282350:=0
def tw1482438396843851978:=0
def tw15255400404083066637:=0
def tw13486507081438442314:=0
def tw13026970344976168605:=0
def tw6740196809031648260:=0
def tw699838161450599683:=0
def tw7853831202170745675:=0
def tw11026542401065291347:=0
def tw1571099383842195362:=0
def tw4264067021948738554:=0
def tw8963236291602646434:=0
def tw14114439259658548388:=0
def tw6876139144705737552:=0
def tw12192094105008223346:=0
def tw16977952484950221019:=0
def tw16186627181752755984:=0
def tw11682146781926360975:=0
def tw8060843454899637025:=0
def tw1116513646519932141:=0
def tw1084613586960098957:=0
def tw6272340402446570062:=0
def tw7505792459782210263:=0
def tw7492971802425919667:=0
def tw4284785544257813542:=0
def tw3224675309917819303:=0
def tw3109993452581416472:=0
def tw17784719976298042865:=0
def tw8491417678627884787:=0
def tw3471689825257579221:=0
def tw11329285187406400486:=0
def tw4712829088331362561:=0
def tw12015696306419016272:=0
def tw8844726919101640404:=0
def tw17940607255062892584:=0
def tw14640471350614130327:=0
def tw10851600332246744182:=0
def tw6237266886678931794:=0
def tw12404299951743642986:=0
def tw8642620229103907484:=0
def tw9726158659027545575:=0
def tw8854645191775263801:=0
def tw6807152541762325845:=0
def tw5014717165980332109:=0
def tw3153785011011910032:=0
def tw13448606952406276346:=0
def tw12198931048192772355:=0
def tw10610249412681933497:=0
def tw15874832066926839497:=0
def tw13546566428984489849:=0
end PySem.W.Fast
open PySem PySem.W PyProof.Rows
set_option maxRecDepth 100000 in
set_option maxHeartbeats 0 in
theorem PySem.Challenge.cw_seek_k12_looks_holds : PySem.Challenge.rw_seek_k12_looks.Holds := by
 w_on; o_law; k_head; (case hw=>w_witness2)
 k_fill
 refine Seek.walk (l:=PySem.Challenge.rw_seek_k12_looks) rfl rfl (fun w h Y=>PySem.W.kIn_of Y) ?F
 case F =>
  intro w mg fa h KX G hmg
  have z:∀ {x:Str} {K:PySem.W.Frag},K.In h→PySem.W.nsIn K mainGlobals x = some none→mg x = none:=fun X e=>PySem.W.mg_none_of X G e
  have T:Seek.Blt mg:=by
   refine' ⟨z KX ?b1,z KX ?b2,z KX ?b3,z KX ?b4,z KX ?b5,z KX ?b6,z KX ?b7,z KX ?b8,z KX ?b9,z KX ?b10,z KX ?b11,z KX ?b12,z KX ?b13⟩
   (case b1=>k_is); (case b2=>k_is); (case b3=>k_is); (case b4=>k_is); (case b5=>k_is); (case b6=>k_is); (case b7=>k_is); (case b8=>k_is); (case b9=>k_is); (case b10=>k_is); (case b11=>k_is); (case b12=>k_is); (case b13=>k_is)
  have mc:∃ C,Seek.MachDefsA (L2.KOf KX) mg C:=by
   dsimp only [L2.KOf]
   exact (by
   refine' ⟨_,⟨⟨PySem.W.mg_of KX G ?aC,Seek.txt_mk ?pg ?hd ?po ?sa ?na1 ?na2 ?na3 ?na4 ?na5 ?na6 ?na7 ?na8 ?na9 ?na10,?mk,?kc,Seek.mdef_mk (m := "__init__") (qual := "Machine.__init__") (st:=Seek.s_Machine___init__) (ps:=["self", "rows", "text", "at"]) ?m0a ?m0i ?m0l ?m0c ?m0k (fun _ _ _ _ _ _ us hl=>match us,hl with | [_,_,_,_],_=>rfl),Seek.mdef_mk (m := "way") (qual := "Machine.way") (st:=Seek.s_Machine_way) (ps:=["self", "most"]) ?m1a ?m1i ?m1l ?m1c ?m1k (fun _ _ _ _ _ _ us hl=>match us,hl with | [_,_],_=>rfl),Seek.mdef_mk (m := "moves") (qual := "Machine.moves") (st:=Seek.s_Machine_moves) (ps:=["self"]) ?m2a ?m2i ?m2l ?m2c ?m2k (fun _ _ _ _ _ _ us hl=>match us,hl with | [_],_=>rfl),Seek.mdef_mk (m := "move") (qual := "Machine.move") (st:=Seek.s_Machine_move) (ps:=["self"]) ?m3a ?m3i ?m3l ?m3c ?m3k (fun _ _ _ _ _ _ us hl=>match us,hl with | [_],_=>rfl),Seek.mdef_mk (m := "enter") (qual := "Machine.enter") (st:=Seek.s_Machine_enter) (ps:=["self", "state"]) ?m4a ?m4i ?m4l ?m4c ?m4k (fun _ _ _ _ _ _ us hl=>match us,hl with | [_,_],_=>rfl),Seek.mdef_mk (m := "go_back") (qual := "Machine.go_back") (st:=Seek.s_Machine_go_back) (ps:=["self"]) ?m5a ?m5i ?m5l ?m5c ?m5k (fun _ _ _ _ _ _ us hl=>match us,hl with | [_],_=>rfl)⟩,Seek.mdef_mk (m := "hold") (qual := "Machine.hold") (st:=Seek.s_Machine_hold) (ps:=["self", "number"]) ?m10a ?m10i ?m10l ?m10c ?m10k (fun _ _ _ _ _ _ us hl=>match us,hl with | [_,_],_=>rfl),Seek.mdef_mk (m := "let_go") (qual := "Machine.let_go") (st:=Seek.s_Machine_let_go) (ps:=["self"]) ?m11a ?m11i ?m11l ?m11c ?m11k (fun _ _ _ _ _ _ us hl=>match us,hl with | [_],_=>rfl),Seek.mdef_mk (m := "drop_choices") (qual := "Machine.drop_choices") (st:=Seek.s_Machine_drop_choices) (ps:=["self", "size"]) ?m12a ?m12i ?m12l ?m12c ?m12k (fun _ _ _ _ _ _ us hl=>match us,hl with | [_,_],_=>rfl),Seek.mdef_mk (m := "entry") (qual := "Machine.entry") (st:=Seek.s_Machine_entry) (ps:=["self", "number"]) ?m13a ?m13i ?m13l ?m13c ?m13k (fun _ _ _ _ _ _ us hl=>match us,hl with | [_,_],_=>rfl)⟩⟩
   (case aC=>k_is); (case pg=>k_is); (case hd=>k_is); (case po=>k_is); (case sa=>k_is); (case na1=>k_is); (case na2=>k_is); (case na3=>k_is); (case na4=>k_is); (case na5=>k_is); (case na6=>k_is); (case na7=>k_is); (case na8=>k_is); (case na9=>k_is); (case na10=>k_is); (case mk=>k_is); (case kc=>k_is); (case m0a=>k_is); (case m0i=>k_is); (case m0l=>k_is); (case m0c=>k_is); (case m0k=>k_is); (case m1a=>k_is); (case m1i=>k_is); (case m1l=>k_is); (case m1c=>k_is); (case m1k=>k_is); (case m2a=>k_is); (case m2i=>k_is); (case m2l=>k_is); (case m2c=>k_is); (case m2k=>k_is); (case m3a=>k_is); (case m3i=>k_is); (case m3l=>k_is); (case m3c=>k_is); (case m3k=>k_is); (case m4a=>k_is); (case m4i=>k_is); (case m4l=>k_is); (case m4c=>k_is); (case m4k=>k_is); (case m5a=>k_is); (case m5i=>k_is); (case m5l=>k_is); (case m5c=>k_is); (case m5k=>k_is); (case m10a=>k_is); (case m10i=>k_is); (case m10l=>k_is); (case m10c=>k_is); (case m10k=>k_is); (case m11a=>k_is); (case m11i=>k_is); (case m11l=>k_is); (case m11c=>k_is); (case m11k=>k_is); (case m12a=>k_is); (case m12i=>k_is); (case m12l=>k_is); (case m12c=>k_is); (case m12k=>k_is); (case m13a=>k_is); (case m13i=>k_is); (case m13l=>k_is); (case m13c=>k_is); (case m13k=>k_is))
  have dc:∃ dn ds,mg "DOINGS" = some (.ref dn)∧L2.DcK (L2.KOf KX) w dn ds∧Seek.DoingsA (L2.KOf KX) ds:=by
   dsimp only [L2.KOf]
   exact (by
   refine' ⟨_,_,PySem.W.mg_of KX G ?da,L2.dcK_of ?dl ?dd ?dp ?dn,?dq⟩
   (case da=>k_is); (case dl=>k_is); (case dd=>decide); (case dp=>exact .cons (Seek.dent_ref rfl) (.cons (Seek.dent_ref rfl) (.cons (Seek.dent_ref rfl) (.cons (Seek.dent_ref rfl) (.cons (Seek.dent_ref rfl) (.cons (Seek.dent_ref rfl) (.cons (Seek.dent_ref rfl) (.cons (Seek.dent_ref rfl) (.cons (Seek.dent_ref rfl) (.cons (Seek.dent_ref rfl) (.cons (Seek.dent_ref rfl) (.cons (Seek.dent_ref rfl) (.cons (Seek.dent_ref rfl) (.cons (Seek.dent_ref rfl) (.cons (Seek.dent_ref rfl) (.cons (Seek.dent_ref rfl) (.cons (Seek.dent_ref rfl) (.cons (Seek.dent_ref rfl) (.cons (Seek.dent_ref rfl) (.cons (Seek.dent_ref rfl) (.cons (Seek.dent_ref rfl) (.cons (Seek.dent_ref rfl) (.cons (Seek.dent_ref rfl) (.nil)))))))))))))))))))))))); (case dn=>decide +kernel)
   refine' ⟨?w1,?w2,?w3,?w4,?w5,?w6,?w7,?w8,?w9,?w10,?w11,?w12,?w13,?w14,?w15,?w16,?w17,?w18,?w19,?w20,?w21,?w22,?w23⟩
   (case w1=>refine' Seek.dn_mk (x := "do_sign") (st:=Seek.s_do_sign) (ps:=["machine", "row"]) ?v ?l ?c ?k (fun _ _ _ _ _ _ us hl=>match us,hl with | [_,_],_=>rfl); (case v=>with_unfolding_all rfl); (case l=>k_is); (case c=>k_is); (case k=>k_is))
   (case w2=>refine' Seek.dn_mk (x := "do_sign") (st:=Seek.s_do_sign) (ps:=["machine", "row"]) ?v ?l ?c ?k (fun _ _ _ _ _ _ us hl=>match us,hl with | [_,_],_=>rfl); (case v=>with_unfolding_all rfl); (case l=>k_is); (case c=>k_is); (case k=>k_is))
   (case w3=>refine' Seek.dn_mk (x := "do_sign") (st:=Seek.s_do_sign) (ps:=["machine", "row"]) ?v ?l ?c ?k (fun _ _ _ _ _ _ us hl=>match us,hl with | [_,_],_=>rfl); (case v=>with_unfolding_all rfl); (case l=>k_is); (case c=>k_is); (case k=>k_is))
   (case w4=>refine' Seek.dn_mk (x := "do_sign") (st:=Seek.s_do_sign) (ps:=["machine", "row"]) ?v ?l ?c ?k (fun _ _ _ _ _ _ us hl=>match us,hl with | [_,_],_=>rfl); (case v=>with_unfolding_all rfl); (case l=>k_is); (case c=>k_is); (case k=>k_is))
   (case w5=>refine' Seek.dn_mk (x := "do_begin") (st:=Seek.s_do_begin) (ps:=["machine", "row"]) ?v ?l ?c ?k (fun _ _ _ _ _ _ us hl=>match us,hl with | [_,_],_=>rfl); (case v=>with_unfolding_all rfl); (case l=>k_is); (case c=>k_is); (case k=>k_is))
   (case w6=>refine' Seek.dn_mk (x := "do_end") (st:=Seek.s_do_end) (ps:=["machine", "row"]) ?v ?l ?c ?k (fun _ _ _ _ _ _ us hl=>match us,hl with | [_,_],_=>rfl); (case v=>with_unfolding_all rfl); (case l=>k_is); (case c=>k_is); (case k=>k_is))
   (case w7=>refine' Seek.dn_mk (x := "do_again") (st:=Seek.s_do_again) (ps:=["machine", "row"]) ?v ?l ?c ?k (fun _ _ _ _ _ _ us hl=>match us,hl with | [_,_],_=>rfl); (case v=>with_unfolding_all rfl); (case l=>k_is); (case c=>k_is); (case k=>k_is))
   (case w8=>refine' Seek.dn_mk (x := "do_try") (st:=Seek.s_do_try) (ps:=["machine", "row"]) ?v ?l ?c ?k (fun _ _ _ _ _ _ us hl=>match us,hl with | [_,_],_=>rfl); (case v=>with_unfolding_all rfl); (case l=>k_is); (case c=>k_is); (case k=>k_is))
   (case w9=>refine' Seek.dn_mk (x := "do_go") (st:=Seek.s_do_go) (ps:=["machine", "row"]) ?v ?l ?c ?k (fun _ _ _ _ _ _ us hl=>match us,hl with | [_,_],_=>rfl); (case v=>with_unfolding_all rfl); (case l=>k_is); (case c=>k_is); (case k=>k_is))
   (case w10=>refine' Seek.dn_mk (x := "do_have") (st:=Seek.s_do_have) (ps:=["machine", "row"]) ?v ?l ?c ?k (fun _ _ _ _ _ _ us hl=>match us,hl with | [_,_],_=>rfl); (case v=>with_unfolding_all rfl); (case l=>k_is); (case c=>k_is); (case k=>k_is))
   (case w11=>refine' Seek.dn_mk (x := "do_hold") (st:=Seek.s_do_hold) (ps:=["machine", "row"]) ?v ?l ?c ?k (fun _ _ _ _ _ _ us hl=>match us,hl with | [_,_],_=>rfl); (case v=>with_unfolding_all rfl); (case l=>k_is); (case c=>k_is); (case k=>k_is))
   (case w12=>refine' Seek.dn_mk (x := "do_hold") (st:=Seek.s_do_hold) (ps:=["machine", "row"]) ?v ?l ?c ?k (fun _ _ _ _ _ _ us hl=>match us,hl with | [_,_],_=>rfl); (case v=>with_unfolding_all rfl); (case l=>k_is); (case c=>k_is); (case k=>k_is))
   (case w13=>refine' Seek.dn_mk (x := "do_close") (st:=Seek.s_do_close) (ps:=["machine", "row"]) ?v ?l ?c ?k (fun _ _ _ _ _ _ us hl=>match us,hl with | [_,_],_=>rfl); (case v=>with_unfolding_all rfl); (case l=>k_is); (case c=>k_is); (case k=>k_is))
   (case w14=>refine' Seek.dn_mk (x := "do_turn") (st:=Seek.s_do_turn) (ps:=["machine", "row"]) ?v ?l ?c ?k (fun _ _ _ _ _ _ us hl=>match us,hl with | [_,_],_=>rfl); (case v=>with_unfolding_all rfl); (case l=>k_is); (case c=>k_is); (case k=>k_is))
   (case w15=>refine' Seek.dn_mk (x := "do_next") (st:=Seek.s_do_next) (ps:=["machine", "row"]) ?v ?l ?c ?k (fun _ _ _ _ _ _ us hl=>match us,hl with | [_,_],_=>rfl); (case v=>with_unfolding_all rfl); (case l=>k_is); (case c=>k_is); (case k=>k_is))
   (case w16=>refine' Seek.dn_mk (x := "do_once") (st:=Seek.s_do_once) (ps:=["machine", "row"]) ?v ?l ?c ?k (fun _ _ _ _ _ _ us hl=>match us,hl with | [_,_],_=>rfl); (case v=>with_unfolding_all rfl); (case l=>k_is); (case c=>k_is); (case k=>k_is))
   (case w17=>refine' Seek.dn_mk (x := "do_kept") (st:=Seek.s_do_kept) (ps:=["machine", "row"]) ?v ?l ?c ?k (fun _ _ _ _ _ _ us hl=>match us,hl with | [_,_],_=>rfl); (case v=>with_unfolding_all rfl); (case l=>k_is); (case c=>k_is); (case k=>k_is))
   (case w18=>refine' Seek.dn_mk (x := "do_peeked") (st:=Seek.s_do_peeked) (ps:=["machine", "row"]) ?v ?l ?c ?k (fun _ _ _ _ _ _ us hl=>match us,hl with | [_,_],_=>rfl); (case v=>with_unfolding_all rfl); (case l=>k_is); (case c=>k_is); (case k=>k_is))
   (case w19=>refine' Seek.dn_mk (x := "do_bar") (st:=Seek.s_do_bar) (ps:=["machine", "row"]) ?v ?l ?c ?k (fun _ _ _ _ _ _ us hl=>match us,hl with | [_,_],_=>rfl); (case v=>with_unfolding_all rfl); (case l=>k_is); (case c=>k_is); (case k=>k_is))
   (case w20=>refine' Seek.dn_mk (x := "do_barred") (st:=Seek.s_do_barred) (ps:=["machine", "row"]) ?v ?l ?c ?k (fun _ _ _ _ _ _ us hl=>match us,hl with | [_,_],_=>rfl); (case v=>with_unfolding_all rfl); (case l=>k_is); (case c=>k_is); (case k=>k_is))
   (case w21=>refine' Seek.dn_mk (x := "do_lean") (st:=Seek.s_do_lean) (ps:=["machine", "row"]) ?v ?l ?c ?k (fun _ _ _ _ _ _ us hl=>match us,hl with | [_,_],_=>rfl); (case v=>with_unfolding_all rfl); (case l=>k_is); (case c=>k_is); (case k=>k_is))
   (case w22=>refine' Seek.dn_mk (x := "do_here") (st:=Seek.s_do_here) (ps:=["machine", "row"]) ?v ?l ?c ?k (fun _ _ _ _ _ _ us hl=>match us,hl with | [_,_],_=>rfl); (case v=>with_unfolding_all rfl); (case l=>k_is); (case c=>k_is); (case k=>k_is))
   (case w23=>refine' Seek.dn_mk (x := "do_found") (st:=Seek.s_do_found) (ps:=["machine", "row"]) ?v ?l ?c ?k (fun _ _ _ _ _ _ us hl=>match us,hl with | [_,_],_=>rfl); (case v=>with_unfolding_all rfl); (case l=>k_is); (case c=>k_is); (case k=>k_is)))
  have p0:=(by
   refine' Seek.def_mk (x := "coded") (st:=Seek.s_coded) (ps:=["pattern"]) KX G ?a ?l ?c ?k (fun _ _ _ _ _ _ us hl=>match us,hl with | [_],_=>rfl)
   (case a=>k_is); (case l=>k_is); (case c=>k_is); (case k=>k_is))
  have p1:=(by
   refine' Seek.def_mk (x := "put") (st:=Seek.s_put) (ps:=["rows", "pattern"]) KX G ?a ?l ?c ?k (fun _ _ _ _ _ _ us hl=>match us,hl with | [_,_],_=>rfl)
   (case a=>k_is); (case l=>k_is); (case c=>k_is); (case k=>k_is))
  have p2:=(by
   refine' Seek.def_mk (x := "hold_place") (st:=Seek.s_hold_place) (ps:=["rows"]) KX G ?a ?l ?c ?k (fun _ _ _ _ _ _ us hl=>match us,hl with | [_],_=>rfl)
   (case a=>k_is); (case l=>k_is); (case c=>k_is); (case k=>k_is))
  have p3:=(by
   refine' Seek.def_mk (x := "put_or") (st:=Seek.s_put_or) (ps:=["rows", "branches"]) KX G ?a ?l ?c ?k (fun _ _ _ _ _ _ us hl=>match us,hl with | [_,_],_=>rfl)
   (case a=>k_is); (case l=>k_is); (case c=>k_is); (case k=>k_is))
  have p4:=(by
   refine' Seek.def_mk (x := "put_times") (st:=Seek.s_put_times) (ps:=["rows", "low", "high", "how", "part"]) KX G ?a ?l ?c ?k (fun _ _ _ _ _ _ us hl=>match us,hl with | [_,_,_,_,_],_=>rfl)
   (case a=>k_is); (case l=>k_is); (case c=>k_is); (case k=>k_is))
  have p5:=(by
   refine' Seek.def_mk (x := "put_have") (st:=Seek.s_put_have) (ps:=["rows", "number", "yes", "no"]) KX G ?a ?l ?c ?k (fun _ _ _ _ _ _ us hl=>match us,hl with | [_,_,_,_],_=>rfl)
   (case a=>k_is); (case l=>k_is); (case c=>k_is); (case k=>k_is))
  have p6:=(by
   refine' Seek.def_mk (x := "put_look") (st:=Seek.s_put_look) (ps:=["rows", "kind", "part"]) KX G ?a ?l ?c ?k (fun _ _ _ _ _ _ us hl=>match us,hl with | [_,_,_],_=>rfl)
   (case a=>k_is); (case l=>k_is); (case c=>k_is); (case k=>k_is))
  have p7:=(by
   refine' Seek.def_mk (x := "takes_sign") (st:=Seek.s_takes_sign) (ps:=["row", "text", "at"]) KX G ?a ?l ?c ?k (fun _ _ _ _ _ _ us hl=>match us,hl with | [_,_,_],_=>rfl)
   (case a=>k_is); (case l=>k_is); (case c=>k_is); (case k=>k_is))
  have p8:=(by
   refine' Seek.def_mk (x := "lies_in") (st:=Seek.s_lies_in) (ps:=["runs", "sign"]) KX G ?a ?l ?c ?k (fun _ _ _ _ _ _ us hl=>match us,hl with | [_,_],_=>rfl)
   (case a=>k_is); (case l=>k_is); (case c=>k_is); (case k=>k_is))
  have p9:=(by
   refine' Seek.def_mk (x := "with_entry") (st:=Seek.s_with_entry) (ps:=["groups", "number", "begin", "end"]) KX G ?a ?l ?c ?k (fun _ _ _ _ _ _ us hl=>match us,hl with | [_,_,_,_],_=>rfl)
   (case a=>k_is); (case l=>k_is); (case c=>k_is); (case k=>k_is))
  have q0:=(by
   refine' Seek.def_mk (x := "_law_take") (st:=Seek.s_l_take) (ps:=["_law_box", "_law_many"]) KX G ?a ?l ?c ?k (fun _ _ _ _ _ _ us hl=>match us,hl with | [_,_],_=>rfl)
   (case a=>k_is); (case l=>k_is); (case c=>k_is); (case k=>k_is))
  have q1:=(by
   refine' Seek.def_mk (x := "_law_sign") (st:=Seek.s_l_sign) (ps:=["_law_cell"]) KX G ?a ?l ?c ?k (fun _ _ _ _ _ _ us hl=>match us,hl with | [_],_=>rfl)
   (case a=>k_is); (case l=>k_is); (case c=>k_is); (case k=>k_is))
  have q2:=(by
   refine' Seek.def_mk (x := "_law_letters") (st:=Seek.s_l_letters) (ps:=["_law_box"]) KX G ?a ?l ?c ?k (fun _ _ _ _ _ _ us hl=>match us,hl with | [_],_=>rfl)
   (case a=>k_is); (case l=>k_is); (case c=>k_is); (case k=>k_is))
  have q3:=(by
   refine' Seek.def_mk (x := "_law_text") (st:=Seek.s_l_text) (ps:=["_law_box", "_law_letters_here", "_law_size"]) KX G ?a ?l ?c ?k (fun _ _ _ _ _ _ us hl=>match us,hl with | [_,_,_],_=>rfl)
   (case a=>k_is); (case l=>k_is); (case c=>k_is); (case k=>k_is))
  have q4:=(by
   refine' Seek.def_mk (x := "_law_alike") (st:=Seek.s_l_alike) (ps:=["_law_found", "_law_due"]) KX G ?a ?l ?c ?k (fun _ _ _ _ _ _ us hl=>match us,hl with | [_,_],_=>rfl)
   (case a=>k_is); (case l=>k_is); (case c=>k_is); (case k=>k_is))
  have q5:=(by
   refine' Seek.def_mk (x := "_law_signs_of") (st:=Seek.s_l_signs_of) (ps:=["_law_signs"]) KX G ?a ?l ?c ?k (fun _ _ _ _ _ _ us hl=>match us,hl with | [_],_=>rfl)
   (case a=>k_is); (case l=>k_is); (case c=>k_is); (case k=>k_is))
  have q8:=(by
   refine' Seek.def_mk (x := "_law_pairs") (st:=Seek.s_l_pairs) (ps:=["_law_word", "_law_text_here", "_law_at", "_law_branches"]) KX G ?a ?l ?c ?k (fun _ _ _ _ _ _ us hl=>match us,hl with | [_,_,_,_],_=>rfl)
   (case a=>k_is); (case l=>k_is); (case c=>k_is); (case k=>k_is))
  have c1:∃ pl,mg "ITSELF" = some (.ref pl)∧∀ H,L2.SqT (L2.KOf KX) H pl Seek.itself:=by
   dsimp only [L2.KOf]
   refine' Seek.const_mk7 KX G ?a ?l
   (case a=>k_is); (case l=>k_is)
  have c2:∃ pl,mg "LEANING" = some (.ref pl)∧∀ H,L2.SqT (L2.KOf KX) H pl Seek.leaning:=by
   dsimp only [L2.KOf]
   refine' Seek.const_mk2 KX G ?a ?l
   (case a=>k_is); (case l=>k_is)
  have c3:∃ pl,mg "LAST_ROWS" = some (.ref pl)∧L2.DcK (L2.KOf KX) w pl Seek.lastRows:=by
   dsimp only [L2.KOf]
   refine' Seek.const_mkD5 KX G ?a ?l ?d ?e ?n
   (case a=>k_is); (case l=>k_is); (case d=>decide); (case e=>exact ⟨rfl,rfl,rfl,rfl,rfl⟩); (case n=>decide +kernel)
  obtain ⟨it,hit,hIT⟩:=c1
  obtain ⟨le,hle,hLE⟩:=c2
  obtain ⟨ls,hls,hLS⟩:=c3
  obtain ⟨C,MA⟩:=mc
  obtain ⟨dn,ds,hdn,hDN,DD⟩:=dc
  refine' Seek.top_mk KX G hmg ?a ?l ?c ?k (Seek.law_of T MA (fun base=>Seek.gx_of T hit hIT hle hLE hls hLS hdn hDN DD MA ⟨p0,p1,p2,p3,p4,p5,p6,p7,p8,p9⟩ ⟨q0,q1,q2,q3,q4⟩) q5 q8)
  (case a=>k_is); (case l=>k_is); (case c=>k_is); (case k=>k_is)