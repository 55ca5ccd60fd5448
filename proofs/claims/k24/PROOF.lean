import PyProof.Rows.All
import Wide.All
import OpenK.AllK
import Wide.FinOn
import Lean
import PyProof.EqAt
import PyProof.EqKinds
import PyProof.TupleCall
import PyProof.StrLawsIdx
import PySem.Challenge.RW_seek_k24_whole_replaced
set_option Elab.async false
set_option linter.all false
set_option maxRecDepth 100000
set_option maxHeartbeats 4000000
namespace L2
open PySem PySem.Spec PyProof.Rows
abbrev Ti:=Sum Int Str
def Z3f:Ti->Value->Bool
 |.inl k,v=>Value.isInt k v
 |.inr x,v=>Value.isStrOf x v
def Zl9(w:World):Ti->Int
 |.inl k=>hashInt k
 |.inr x=>hashStr w x
theorem Yx:∀ {k:Ti} {v:Value},Z3f k v=true->(∃i t,k=Sum.inl i/\v=Value.int i t)∨(∃x t,k=Sum.inr x/\v=Value.str x t)
 |.inl i,v,h=>by
  obtain⟨t,e⟩:=Value.isInt_shape (k:=i) (v:=v) h
  exact .inl ⟨i,t,rfl,e⟩
 |.inr x,v,h=>by
  obtain⟨t,e⟩:=Value.isStrOf_shape (x:=x) (v:=v) h
  exact .inr ⟨x,t,rfl,e⟩
theorem Zb9(i:Int)(t:Tok):Z3f (.inl i) (.int i t)=true:=by simp[Z3f,Value.isInt]
theorem Z10(x:Str)(t:Tok):Z3f (.inr x) (.str x t)=true:=by simp[Z3f,Value.isStrOf]
theorem Zj6(a b:Int):decide ((Sum.inl a:Ti)=Sum.inl b)=(a==b):=by
 by_cases e:a=b
 ·subst e;simp
 ·have h:¬(Sum.inl a:Ti)=Sum.inl b:=fun q=>e (Sum.inl.inj q)
  rw[decide_eq_false h]
  exact(beq_eq_false_iff_ne.mpr e).symm
theorem Zj3(a b:Str):decide ((Sum.inr a:Ti)=Sum.inr b)=decide (a=b):=by
 by_cases e:a=b
 ·subst e;simp
 ·have h:¬(Sum.inr a:Ti)=Sum.inr b:=fun q=>e (Sum.inr.inj q)
  rw[decide_eq_false h,decide_eq_false e]
theorem Zj5(a:Int)(b:Str):decide ((Sum.inl a:Ti)=Sum.inr b)=false:=decide_eq_false (fun q=>nomatch q)
theorem Zj4(a:Str)(b:Int):decide ((Sum.inr a:Ti)=Sum.inl b)=false:=decide_eq_false (fun q=>nomatch q)
def Vo(prog:Program)(w:World):PySem.KeyKind prog w Ti where
 is:=Z3f
 hash:=Zl9 w
 inj:=fun v a b ha hb=>by
  rcases Yx ha with⟨i,t,rfl,rfl⟩ | ⟨x,t,rfl,rfl⟩
  ·rcases Yx hb with⟨j,u,rfl,e⟩ | ⟨y,u,rfl,e⟩
   ·injection e with e1 _;rw[e1]
   ·exact nomatch e
  ·rcases Yx hb with⟨j,u,rfl,e⟩ | ⟨y,u,rfl,e⟩
   ·exact nomatch e
   ·injection e with e1 _;rw[e1]
 byValue:=fun k v h=>by
  rcases Yx h with⟨i,t,rfl,rfl⟩ | ⟨x,t,rfl,rfl⟩ <;> rfl
 pyHash:=fun hv h=>by
  rcases Yx hv with⟨i,t,rfl,rfl⟩ | ⟨x,t,rfl,rfl⟩
  ·exact wpAny_pyHash_int h
  ·exact wpAny_pyHash_str h
 eqBool:=fun hu hv h=>by
  rcases Yx hu with⟨i,t,rfl,rfl⟩ | ⟨x,t,rfl,rfl⟩
  ·rcases Yx hv with⟨j,u,rfl,rfl⟩ | ⟨y,u,rfl,rfl⟩
   ·rw[Zj6]at h;exact wpAny_eqBool_int h
   ·rw[Zj5]at h;exact SeqAt.EqAt.int_str i t y u _ _ _ _ h
  ·rcases Yx hv with⟨j,u,rfl,rfl⟩ | ⟨y,u,rfl,rfl⟩
   ·rw[Zj4]at h;exact SeqAt.EqAt.str_int x t j u _ _ _ _ h
   ·rw[Zj3]at h;exact wpAny_eqBool_str h
 «strs»:=fun k x t v h=>by
  rcases Yx h with⟨i,u,rfl,e⟩ | ⟨y,u,rfl,e⟩
  ·exact nomatch e
  ·injection e with e1 _
   subst e1
   cases v <;> rfl
theorem Z6c(prog:Program)(w:World)(i:Int)(t:Tok):(Vo prog w).is (.inl i) (.int i t)=true:=Zb9 i t
theorem Z6b(prog:Program)(w:World)(x:Str)(t:Tok):(Vo prog w).is (.inr x) (.str x t)=true:=Z10 x t
inductive V where
 |non | bl (b:Bool) | int (i:Int) | str (x:Str) | byt (b:Array UInt8) | flt (b:UInt64) | ref (a:Addr) | ty (n:String)
 deriving DecidableEq
def RelV:V->Value->Prop
 |.non,u=>u=Value.none
 |.bl b,u=>u=Value.bool b
 |.int i,u=>∃t,u=Value.int i t
 |.str x,u=>∃t,u=Value.str x t
 |.byt b,u=>∃t,u=Value.bytes b t
 |.flt b,u=>∃t,u=Value.float b t
 |.ref a,u=>u=Value.ref a
 |.ty n,u=>u=Value.type n
abbrev Vals:List V->List Value->Prop:=Paired RelV
theorem Vals.length{xs:List V}{us:List Value}(r:Vals xs us):xs.length=us.length:=Paired.length r
theorem Vals.get:∀ {xs:List V} {us:List Value} {i:Nat} {x:V},Vals xs us->xs[i]? = some x->∃u,us[i]? = some u/\RelV x u
 |_,_,_,_,.nil,e=>by simp at e
 |_,_,0,_,.cons r _,e=>by simp at e;subst e;exact⟨_,rfl,r⟩
 |_,_,i+1,x,.cons _ t,e=>by
  obtain⟨u,h1,h2⟩:=Vals.get (i:=i) (x:=x) t (by simpa using e)
  exact⟨u,by simpa using h1,h2⟩
theorem Vals.set{x:V}{u:Value}(r:RelV x u):∀ {xs:List V} {us:List Value} (i:Nat),Vals xs us->Vals (xs.set i x) (us.set i u)
 |_,_,_,.nil=>.nil
 |_,_,0,.cons _ t=>.cons r t
 |_,_,i+1,.cons q t=>.cons q (Vals.set r i t)
theorem Vals.append:∀ {xs ys:List V} {us ws:List Value},Vals xs us->Vals ys ws->Vals (xs++ys) (us++ws)
 |_,_,_,_,.nil,s=>s
 |_,_,_,_,.cons r t,s=>.cons r (Vals.append t s)
theorem Vals.take:∀ {xs:List V} {us:List Value} (n:Nat),Vals xs us->Vals (xs.take n) (us.take n)
 |_,_,0,_=>.nil
 |_,_,_+1,.nil=>.nil
 |_,_,n+1,.cons r t=>.cons r (Vals.take n t)
theorem Vals.drop:∀ {xs:List V} {us:List Value} (n:Nat),Vals xs us->Vals (xs.drop n) (us.drop n)
 |_,_,0,r=>r
 |_,_,_+1,.nil=>.nil
 |_,_,n+1,.cons _ t=>Vals.drop n t
def RelO:Option V->Option Value->Prop
 |some v,some u=>RelV v u
 |none,none=>True
 |_,_=>False
def KV{κ:Type}:List (κ×V)->List (κ×Value)->Prop:=Paired fun(p:κ×V) (q:κ×Value)=>p.1=q.1/\RelV p.2 q.2
def kV:Ti->V
 |.inl i=>.int i
 |.inr x=>.str x
inductive HO where
 /-- a list -/
 |lst (xs:List V)
 /-- a tuple (never changes) -/
 |tup (xs:List V)
 /-- a dict whose keys are ints and texts;one whose keys are tuples of ints and texts (the empty one is both) -/
 |dK (kvs:List (Ti×V)) | dT (kvs:List (List Ti×V))
 /-- a set of ints: its members,its size -/
 |set (S:Int->Bool) (n:Nat)
 /-- an instance of the class at C,its dict at dx,its attributes -/
 |ins (C dx:Addr) (fs:List (Str×V))
 /-- the dict of the instance at x -/
 |own (x:Addr)
 /-- the dict of an exception -/
 |xd (fs:List (Str×V))
 /-- a bound method,f of x -/
 |met (f x:Addr)
 /-- a range object lo,lo+1,.. below hi -/
 |rng (lo hi:Int)
 /-- a thing that is known to the object (the script;a dict while a loop walks it): read,never written while it is so -/
 |frz (o:Obj) (u:HO)
 /-- a code object's table -/
 |tbl (ps:Array Value)
 /-- any other thing,by what is true of its one object (a def of one's own: SetO a S n:=HO.ext fun h=>..) -/
 |ext (φ:Heap->Prop)
abbrev Hp:=Addr->Option HO
def Zq(H:Hp)(a:Addr)(o:HO):Hp:=fun b=>if b=a then some o else H b
theorem Z2{H:Hp}{a:Addr}{o:HO}:Zq H a o a=some o:=by unfold Zq;rw[if_pos rfl]
theorem Zi{H:Hp}{a b:Addr}{o:HO}(h:b≠a):Zq H a o b=H b:=by unfold Zq;rw[if_neg h]
theorem Z93{H:Hp}{a:Addr}{o u:HO}:Zq (Zq H a o) a u=Zq H a u:=by
 funext b;unfold Zq;split <;> rfl
theorem Z3e{H:Hp}{a b:Addr}{o u:HO}(h:H a=some o)(h':H b=some u)(d:o≠u):a≠b:=by
 intro e;subst e;rw[h]at h';exact d (Option.some.inj h')
theorem Z7{H:Hp}{a b:Addr}{o:HO}(h:H a=some o)(h':H b=none):a≠b:=by
 intro e;subst e;rw[h]at h';cases h'
section
variable(P:Program)(w:World)
def ObjOk(H:Hp)(h:Heap)(a:Addr):HO->Prop
 |.lst xs=>xs.length<=sizeLine/\∃(its:List Value) (n:Nat),Vals xs its/\h.get? a=some { cls:=.type "list",data:=.seq its.toArray n }
 |.tup xs=>xs.length<=sizeLine/\∃its:List Value,Vals xs its/\IsTup h a its.toArray
 |.dK kvs=>kvs.length<=sizeLine/\(a==sysModules)=false/\∃vs,KV kvs vs/\h.DictOf (Vo P w) a vs
 |.dT kvs=>kvs.length<=sizeLine/\(a==sysModules)=false/\∃xs:List (List Ti×Addr×Value),
   Paired (fun(p:List Ti×V) (q:List Ti×Addr×Value)=>p.1=q.1/\H q.2.1=some (.tup (p.1.map kV))/\RelV p.2 q.2.2) kvs xs /\
   ∃o es ep,h.get? a=some o/\o.ExactDict/\o.data=.dict es ep/\es.toList=xs.map (entryOfKey (tupleKind (Vo P w)))/\(xs.map (·.1)).Nodup
 |.set S n=>h.SetOf (intKind P w) a S n
 |.ins C dx fs=>H dx=some (.own a)/\fs.length<=1000/\dx≠a/\h.get? a=some (W.instObj C dx) /\
   ∃mA,h.Ns1 dx mA/\(∀f,RelO (fs.lookup f) (mA f))/\PySem.Within mA (fs.map (·.1))
 |.own _=>∃o,h.get? a=some o
 |.xd fs=>∃mA,h.Ns1 a mA/\∀f,RelO (fs.lookup f) (mA f)
 |.rng lo hi=>∃t u v,h.get? a=some { cls:=.type "range",data:=.fields #[.int lo t,.int hi u,.int 1 v] }
 |.frz o u=>h.get? a=some o/\ObjOk H h a u
 |.tbl ps=>h.get? a=some { cls:=.none,data:=.fields ps }
 |.met f x=>h.get? a=some (W.methodObj (.ref f) (.ref x))
 |.ext φ=>φ h/\(∃o,h.get? a=some o)/\∀h1 h2:Heap,φ h1->(∀o,h1.get? a=some o->h2.get? a=some o)->φ h2
def HOk(H:Hp)(h:Heap):Prop:=∀a o,H a=some o->ObjOk P w H h a o
end
section
variable{P:Program}{w:World}{H H':Hp}{h h':Heap}{a:Addr}{o:HO}
theorem ObjOk.lt(x:ObjOk P w H h a o):a<h.objs.size:=by
 cases o with
 |lst xs=>obtain⟨_,_,_,_,e⟩:=x;exact Heap.lt_size e
 |tup xs=>obtain⟨_,_,_,p⟩:=x;exact p.lt
 |dK kvs=>obtain⟨_,_,_,_,o,_,_,e,_⟩:=x;exact Heap.lt_size e
 |dT kvs=>obtain⟨_,_,_,_,o,_,_,e,_⟩:=x;exact Heap.lt_size e
 |set S n=>obtain⟨o,_,_,_,e,_⟩:=x;exact Heap.lt_size e
 |ins C dx fs=>obtain⟨_,_,_,e,_⟩:=x;exact Heap.lt_size e
 |own y=>obtain⟨_,e⟩:=x;exact Heap.lt_size e
 |xd fs=>obtain⟨_,⟨_,_,_,e,_⟩,_⟩:=x;exact Heap.lt_size e
 |rng lo hi=>obtain⟨_,_,_,e⟩:=x;exact Heap.lt_size e
 |frz ob u=>obtain⟨e,_⟩:=x;exact Heap.lt_size e
 |tbl ps=>exact Heap.lt_size (show h.get? a=some _ from x)
 |met f y=>exact Heap.lt_size (show h.get? a=some _ from x)
 |ext φ=>obtain⟨_,⟨_,e⟩,_⟩:=x;exact Heap.lt_size e
theorem Paired.mapP{α β:Type}{F G:α->β->Prop}:∀ {l₁:List α} {l₂:List β},Paired F l₁ l₂->(∀a b,F a b->G a b)->Paired G l₁ l₂
 |_,_,.nil,_=>.nil
 |_,_,.cons r t,f=>.cons (f _ _ r) (Paired.mapP t f)
theorem ObjOk.stay(x:ObjOk P w H h a o)(k:∀b u,(b=a∨H b=some (.own a))->h.get? b=some u->h'.get? b=some u)
  (ho:∀b,H b=some (.own a)->H' b=some (.own a)) (ht:∀b xs,H b=some (.tup xs)->H' b=some (.tup xs)):ObjOk P w H' h' a o:=by
 induction o with
 |lst xs=>obtain⟨z,its,n,r,e⟩:=x;exact⟨z,its,n,r,k _ _ (.inl rfl) e⟩
 |tup xs=>obtain⟨z,its,r,ob,e,c⟩:=x;exact⟨z,its,r,ob,k _ _ (.inl rfl) e,c⟩
 |dK kvs=>obtain⟨z,y,vs,r,ob,es,ep,e,c⟩:=x;exact⟨z,y,vs,r,ob,es,ep,k _ _ (.inl rfl) e,c⟩
 |dT kvs =>
  obtain⟨z,y,xs,r,ob,es,ep,e,c⟩:=x
  exact⟨z,y,xs,Paired.mapP r fun p q z=>⟨z.1,ht _ _ z.2.1,z.2.2⟩,ob,es,ep,k _ _ (.inl rfl) e,c⟩
 |set S n=>obtain⟨ob,es,ep,t,e,c⟩:=x;exact⟨ob,es,ep,t,k _ _ (.inl rfl) e,c⟩
 |ins C dx fs =>
  obtain⟨d,z,ne,e,mA,⟨od,es,ep,e2,c⟩,r⟩:=x
  exact⟨ho _ d,z,ne,k _ _ (.inl rfl) e,mA,⟨od,es,ep,k _ _ (.inr d) e2,c⟩,r⟩
 |own y=>obtain⟨ob,e⟩:=x;exact⟨ob,k _ _ (.inl rfl) e⟩
 |xd fs=>obtain⟨mA,⟨od,es,ep,e,c⟩,r⟩:=x;exact⟨mA,⟨od,es,ep,k _ _ (.inl rfl) e,c⟩,r⟩
 |rng lo hi=>obtain⟨t,u,v,e⟩:=x;exact⟨t,u,v,k _ _ (.inl rfl) e⟩
 |frz ob u ih=>obtain⟨e,q⟩:=x;exact⟨k _ _ (.inl rfl) e,ih q⟩
 |tbl ps =>
  have e:h.get? a=some { cls:=.none,data:=.fields ps }:=x
  show h'.get? a=some { cls:=.none,data:=.fields ps }
  exact k a _ (.inl rfl) e
 |met f y =>
  have e:h.get? a=some (W.methodObj (.ref f) (.ref y)):=x
  show h'.get? a=some (W.methodObj (.ref f) (.ref y))
  exact k a _ (.inl rfl) e
 |ext φ=>obtain⟨p,⟨o,e⟩,st⟩:=x;exact⟨st _ _ p fun o q=>k _ _ (.inl rfl) q,⟨o,k _ _ (.inl rfl) e⟩,st⟩
theorem HOk.lt(x:HOk P w H h)(e:H a=some o):a<h.objs.size:=(x a o e).lt
theorem HOk.fresh(x:HOk P w H h)(e:h.objs.size<=a):H a=none:=by
 cases q:H a with
 |none=>rfl
 |some u=>exact absurd (Nat.lt_of_lt_of_le (x.lt q) e) (Nat.lt_irrefl _)
theorem HOk.kept(x:HOk P w H h)(k:∀b u,h.get? b=some u->h'.get? b=some u):HOk P w H h':=fun a o e =>
 (x a o e).stay (fun b u _ q=>k b u q) (fun _ q=>q) fun _ _ q=>q
theorem HOk.laid(x:HOk P w H h)(k:∀b u,h.get? b=some u->h'.get? b=some u)(hp:h.objs.size<=a)(new:ObjOk P w (Zq H a o) h' a o):HOk P w (Zq H a o) h':=fun b u e=>by
 have hn:=x.fresh hp
 by_cases hb:b=a
 ·subst hb;rw[Z2]at e;cases e;exact new
 ·rw[Zi hb]at e
  exact(x b u e).stay (fun c v _ q=>k c v q) (fun c q=>by rw[Zi (Z7 q hn)];exact q) fun c xs q=>by rw[Zi (Z7 q hn)];exact q
end
def Rd(H:Hp)(a:Addr)(u:HO):Prop:=H a=some u∨∃o,H a=some (.frz o u)
theorem Rd.ok{P:Program}{w:World}{H:Hp}{h:Heap}{a:Addr}{u:HO}(r:Rd H a u)(x:HOk P w H h):ObjOk P w H h a u:=by
 rcases r with r | ⟨o,r⟩
 ·exact x a u r
 ·obtain⟨_,q⟩:=x a _ r
  exact q
def Zlw:Option HO->Prop
 |some (.lst _)=>True
 |some (.dK _)=>True
 |some (.dT _)=>True
 |some (.set _ _)=>True
 |some (.ins _ _ _)=>True
 |some (.ext _)=>True
 |_=>False
section
variable{P:Program}{w:World}{H:Hp}{h h':Heap}{x e:Addr}{o':HO}
theorem HOk.write(ok:HOk P w H h)(mu:Zlw (H x))(he:e=x∨H e=some (.own x))(k:∀b u,b≠e->h.get? b=some u->h'.get? b=some u)(heo:∃u,h'.get? e=some u)
  (new:ObjOk P w (Zq H x o') h' x o'):HOk P w (Zq H x o') h':=fun b u q=>by
 have nown:∀c y,H c=some (.own y)->c≠x:=fun c y r z=>by subst z;rw[r]at mu;exact mu
 have ntup:∀c xs,H c=some (.tup xs)->c≠x:=fun c xs r z=>by subst z;rw[r]at mu;exact mu
 by_cases hb:b=x
 ·subst hb;rw[Z2]at q;cases q;exact new
 ·rw[Zi hb]at q
  by_cases hbe:b=e
  ·have q':H b=some (.own x):=by
    rcases he with z | z
    ·exact absurd (hbe.trans z) hb
    ·rw[hbe];exact z
   rw[q]at q';cases q'
   obtain⟨v,hv⟩:=heo
   exact⟨v,by rw[hbe];exact hv⟩
  ·refine(ok b u q).stay (fun c v hc r=>k c v ?_ r) (fun c r=>by rw[Zi (nown c b r)];exact r) fun c xs r=>by rw[Zi (ntup c xs r)];exact r
   rcases hc with rfl | hc
   ·exact hbe
   ·rintro rfl
    rcases he with z | z
    ·exact nown c b hc z
    ·rw[hc]at z;cases z;exact hb rfl
end
structure Un(fs ex:List Addr)(H H':Hp)(h h':Heap):Prop where
 keep:∀b o,h.get? b=some o->H b=none->b∉fs->b∉ex->h'.get? b=some o
 slot:∀b o,h.get? b=some o->H b=none->b∈fs->b∉ex->∃sl,h'.get? b=some { o with slots:=sl }
 free:∀b o,h.get? b=some o->H b=none->b∉ex->H' b=none
 there:∀b o,h.get? b=some o->b∉ex->∃o',h'.get? b=some o'
 tups:∀b xs,H b=some (.tup xs)->H' b=some (.tup xs)
 frzs:∀b o u,H b=some (.frz o u)->H' b=some (.frz o u)
 tbls:∀b ps,H b=some (.tbl ps)->∃more,H' b=some (.tbl (ps++more))
section
variable{fs fs' ex ex':List Addr}{H H1 H2:Hp}{h h1 h2 h':Heap}{a x e:Addr}{o:HO}
theorem Un.any(u:Un fs ex H H1 h h1){b:Addr}{ob:Obj}(q:h.get? b=some ob)(n:H b=none)(hx:b∉ex):∃sl,h1.get? b=some { ob with slots:=sl }:=by
 by_cases hb:b∈fs
 ·exact u.slot b ob q n hb hx
 ·exact⟨ob.slots,u.keep b ob q n hb hx⟩
theorem Un.kept(k:∀b u,h.get? b=some u->h'.get? b=some u):Un fs ex H H h h' :=
 ⟨fun b ob q _ _ _=>k b ob q,fun b ob q _ _ _=>⟨ob.slots,k b ob q⟩,fun _ _ _ n _=>n,fun b ob q _=>⟨ob,k b ob q⟩,fun _ _ q=>q,fun _ _ _ q=>q,fun _ ps q=>⟨#[],by rw[q];simp⟩⟩
theorem Un.refl:Un fs ex H H h h:=Un.kept fun _ _ q=>q
theorem Un.laid(k:∀b u,h.get? b=some u->h'.get? b=some u)(hp:h.objs.size<=a)(hn:H a=none):Un fs ex H (Zq H a o) h h' where
 keep:=fun b u q _ _ _=>k b u q
 slot:=fun b u q _ _ _=>⟨u.slots,k b u q⟩
 free:=fun b u q n _=>by rw[Zi (Nat.ne_of_lt (Nat.lt_of_lt_of_le (Heap.lt_size q) hp))];exact n
 there:=fun b u q _=>⟨u,k b u q⟩
 tups:=fun b xs q=>by rw[Zi (Z7 q hn)];exact q
 frzs:=fun b u xs q=>by rw[Zi (Z7 q hn)];exact q
 tbls:=fun b ps q=>⟨#[],by rw[Zi (Z7 q hn),q];simp⟩
theorem Un.write(mu:Zlw (H x))(he:e=x∨H e=some (.own x))(k:∀b u,b≠e->h.get? b=some u->h'.get? b=some u)(heo:∃u,h'.get? e=some u):Un fs ex H (Zq H x o) h h':=by
 have hx:∀b,H b=none->b≠x:=fun b n z=>by subst z;rw[n]at mu;exact mu
 have hb:∀b,H b=none->b≠e:=fun b n z=>by
  subst z
  rcases he with r | r
  ·exact hx b n r
  ·rw[n]at r;cases r
 have hm:∀b u,H b=some u->¬Zlw (some u)->b≠x:=fun b u q nm z=>by subst z;rw[q]at mu;exact nm mu
 refine⟨fun b u q n _ _=>k b u (hb b n) q,fun b u q n _ _=>⟨u.slots,k b u (hb b n) q⟩,fun b u q n _=>by rw[Zi (hx b n)];exact n,fun b u q _=>?_,
  fun b xs q=>by rw[Zi (hm b _ q fun z=>z)];exact q,fun b u xs q=>by rw[Zi (hm b _ q fun z=>z)];exact q,fun b ps q=>⟨#[],by rw[Zi (hm b _ q fun z=>z),q];simp⟩⟩
 by_cases hbe:b=e
 ·subst hbe;exact heo
 ·exact⟨u,k b u hbe q⟩
end
def Zlm(h:Heap)(H:Hp):List Addr:=(List.range h.objs.size).filter fun a=>(H a).isSome
def Z7e(h:Heap)(H:Hp):Heap:=W.hideAll h (Zlm h H)
theorem Zbc(h:Heap)(H:Hp):(Z7e h H).objs.size=h.objs.size:=W.hideAll_size _ _
theorem Zcx{h:Heap}{H:Hp}{b:Addr}{o:Obj}(e:h.get? b=some o)(n:H b=none):(Z7e h H).get? b=some o :=
 W.hideAll_get _ e fun hm=>by
  have q:(H b).isSome=true:=(List.mem_filter.mp hm).2
  rw[n]at q;simp at q
theorem Zfz{h:Heap}{H:Hp}{b:Addr}{o:Obj}(e:(Z7e h H).get? b=some o):h.get? b=some o/\H b=none:=by
 have e':h.get? b=some o:=W.of_hideAll (Zlm h H) e
 refine⟨e',?_⟩
 cases q:H b with
 |none=>rfl
 |some x =>
  have hm:b∈Zlm h H:=List.mem_filter.mpr ⟨List.mem_range.mpr (Heap.lt_size e'),by simp[q]⟩
  have z:(Z7e h H).get? b=none:=W.hideAll_none (Zlm h H) hm
  rw[z]at e;cases e
def Zgg(g h:Heap)(L:Addr):List (Addr×Obj):=(List.range h.objs.size).filterMap fun a=>if a=L∨(g.get? a).isSome=true then none else(h.get? a).map fun o=>(a,o)
def rest(g h:Heap)(L d:Addr):List (Addr×Obj):=(Zgg g h L).filter fun p=>decide (p.1≠d)
structure Mod(K:W.Frag)(mg:Str->Option Value)(base:Heap):Prop where
 kin:K.In base
 glob:base.Ns mainGlobals mg
 blt:∃mb,base.Ns builtinsNs mb/\∀x:Str,x≠"__name__"->mb x=bootBuiltins x
 nolimit:base.NoLimit
structure Cx where
 prog:Program
 w:World
 K:W.Frag
 mg:Str->Option Value
 base:Heap
 A:Around
 N:List Str
 s₀:Shared
 H₀:Hp
 env:Env
 outer:List Env
 stack:List Env
 ex:List Addr
 fn:Str->Bool
 calm:Bool
 pn:List (Addr×Obj)
 xe:Value->Shared->Prop
def Z3m(l:List Env):List Addr:=l.filterMap (·.frame)
abbrev Cx.fs(X:Cx):List Addr:=Z3m X.outer
def Zls(sc:Scope)(x:Str):Prop:=sc.names.lookup x=some .local∨sc.names.lookup x=some .cell∨sc.names.lookup x=some .free
def Zjw(sc:Scope)(x:Str):Prop:=sc.names.lookup x=some .local∨sc.names.lookup x=some .cell
def Zmq(env:Env)(h:Heap)(m:Str->Option Value)(x:Str)(u:Value):Prop :=
 (env.kindOf x=some .local/\m x=some u)∨((env.kindOf x=some .cell∨env.kindOf x=some .free)/\∃c,env.cells.lookup x=some c/\h.IsCell c (some u))
structure Cx.Ok(X:Cx):Prop where
 mod:Mod X.K X.mg X.base
 kind:X.env.scope.kind=.function
 glob:X.env.globals=mainGlobals
 blt:X.env.builtins=builtinsNs
 above:X.s₀.heap.objs.size<=X.env.locals
 inj:∀x y c,X.env.cells.lookup x=some c->X.env.cells.lookup y=some c->x=y
 has:∀x,(X.env.kindOf x=some .cell∨X.env.kindOf x=some .free)->∃c,X.env.cells.lookup x=some c
 cab:∀x c,X.fn x=true->X.env.cells.lookup x=some c->X.s₀.heap.objs.size<=c
 hd:X.calm=true->X.A.handled=none
 frames:X.A.frames=some X.stack
 stk:X.stack=X.outer∨(X.stack=X.env::X.outer/\X.env.frame=some X.env.locals)
 exf:∀b∈X.ex,b≠X.env.locals/\∀x c,X.env.cells.lookup x=some c->c≠b
 bs:∀b o,X.base.get? b=some o->X.s₀.heap.get? b=some o/\X.H₀ b=none
 bsz:X.base.objs.size<=X.s₀.heap.objs.size
 noex:∀b o,X.base.get? b=some o->b∉X.ex
 exfs:∀b∈X.ex,b∉X.fs
 funs:X.s₀.heap.FunFrames X.base X.outer
 frf:∀b∈X.fs,X.H₀ b=none
structure Inv(X:Cx)(Z6:List (Addr×Obj))(σ:List (Option V))(H:Hp)(s:Shared):Prop where
 ok:X.Ok
 os:s.os=X.s₀.os
 bare:AllBare s.gens
 base:Un X.fs X.ex X.H₀ H X.s₀.heap s.heap
 loc:∃m,s.heap.Ns X.env.locals m/\∀(i:Nat) (x:Str) (v:V),X.N[i]? = some x->σ[i]? = some (some v)->Zls X.env.scope x->∃u,RelV v u/\Zmq X.env s.heap m x u
 cell:∀x c,X.env.cells.lookup x=some c->∃v,s.heap.IsCell c v
 free:H X.env.locals=none
 freeC:∀x c,X.env.cells.lookup x=some c->H c=none
 pin:∀p∈X.pn++Z6,s.heap.get? p.1=some p.2/\H p.1=none/\p.1≠X.env.locals/\p.1∉X.fs/\∀v,p.2.data≠.cell v
 hok:HOk X.prog X.w H s.heap
 len:σ.length=X.N.length
section
variable{X:Cx}{Z6:List (Addr×Obj)}{σ:List (Option V)}{H H':Hp}{s:Shared}{h':Heap}
theorem Cx.Ok.nofr(ok:X.Ok){b:Addr}{o:Obj}(e:X.base.get? b=some o):b∉X.fs:=fun hb=>by
 have:=(ok.funs.mem hb).1
 rw[e]at this;cases this
theorem Inv.bs(I:Inv X Z6 σ H s):∀b o,X.base.get? b=some o->s.heap.get? b=some o/\H b=none:=fun b o e =>
 ⟨I.base.keep b o (I.ok.bs b o e).1 (I.ok.bs b o e).2 (I.ok.nofr e) (I.ok.noex b o e),I.base.free b o (I.ok.bs b o e).1 (I.ok.bs b o e).2 (I.ok.noex b o e)⟩
theorem Inv.bk(I:Inv X Z6 σ H s):∀b o,X.base.get? b=some o->s.heap.get? b=some o:=fun b o e=>(I.bs b o e).1
theorem Inv.mod(I:Inv X Z6 σ H s):Mod X.K X.mg X.base:=I.ok.mod
theorem Inv.kIn(I:Inv X Z6 σ H s):X.K.In s.heap:=I.ok.mod.kin.keeps I.bk
theorem Inv.fr(I:Inv X Z6 σ H s):∃m,Fr X.base X.env.locals s.heap m :=
 let⟨m,hn,_⟩:=I.loc
 ⟨m,hn,I.bk,Nat.le_trans I.ok.bsz I.ok.above⟩
theorem Inv.lt(I:Inv X Z6 σ H s):X.env.locals<s.heap.objs.size:=let⟨_,hn,_⟩:=I.loc;hn.lt
theorem Inv.sz(I:Inv X Z6 σ H s):X.s₀.heap.objs.size<=s.heap.objs.size:=Nat.le_trans I.ok.above (Nat.le_of_lt I.lt)
theorem Inv.nofs(I:Inv X Z6 σ H s){a:Addr}(h:s.heap.objs.size<=a):a∉X.fs:=fun hb=>by
 obtain⟨_,o,ho,_⟩:=I.ok.funs.mem hb
 exact absurd (Nat.lt_of_lt_of_le (Heap.lt_size ho) (Nat.le_trans I.sz h)) (Nat.lt_irrefl _)
theorem Inv.cne(I:Inv X Z6 σ H s):∀x c,X.env.cells.lookup x=some c->c≠X.env.locals:=fun x c e z=>by
 obtain⟨v,o,ho,hd⟩:=I.cell x c e
 obtain⟨m,⟨o',es,ep,ho',hd',_⟩,_⟩:=I.loc
 rw[z,ho']at ho;cases ho;rw[hd']at hd;cases hd
theorem Inv.funs(I:Inv X Z6 σ H s):s.heap.FunFrames X.base X.outer:=by
 have all:∀(l:List Env),(∀b∈Z3m l,b∈X.fs)->X.s₀.heap.FunFrames X.base l->s.heap.FunFrames X.base l:=by
  intro l
  induction l with
  |nil=>intro _ _;trivial
  |cons env r ih =>
   intro hs hl
   obtain⟨hk,⟨L,o,hf,hn,ho,hd⟩,hr⟩:=hl
   have hL:L∈X.fs:=hs L (by unfold Z3m;rw[List.filterMap_cons,hf];exact List.mem_cons_self)
   obtain⟨sl,e⟩:=I.base.slot L o ho (I.ok.frf L hL) hL fun z=>I.ok.exfs L z hL
   exact⟨hk,⟨L,_,hf,hn,e,hd⟩,ih (fun b hb=>hs b (by unfold Z3m;rw[List.filterMap_cons,hf];exact List.mem_cons_of_mem _ hb)) hr⟩
 exact all X.outer (fun _ hb=>hb) I.ok.funs
theorem Inv.stack(I:Inv X Z6 σ H s):s.heap.FunFrames X.base X.stack:=by
 rcases I.ok.stk with e | ⟨e,hf⟩
 ·rw[e];exact I.funs
 ·rw[e]
  obtain⟨m,hn,_⟩:=I.loc
  refine .cons (by rw[I.ok.kind];decide) hf hn ?_ I.funs
  exact Heap.get?_none_of_le (Nat.le_trans I.ok.bsz I.ok.above)
theorem Inv.stkSub(I:Inv X Z6 σ H s):∀b∈Z3m X.stack,b∈X.env.locals::X.fs:=fun b hb=>by
 rcases I.ok.stk with e | ⟨e,hf⟩
 ·rw[e]at hb;exact List.mem_cons_of_mem _ hb
 ·rw[e]at hb
  unfold Z3m at hb
  rw[List.filterMap_cons,hf]at hb
  exact hb
theorem Inv.stkFree(I:Inv X Z6 σ H s):∀b∈Z3m X.stack,H b=none:=fun b hb=>by
 rcases List.mem_cons.mp (I.stkSub b hb) with e | hb
 ·rw[e];exact I.free
 ·obtain⟨_,o,ho,_⟩:=I.ok.funs.mem hb
  exact I.base.free b o ho (I.ok.frf b hb) fun z=>I.ok.exfs b z hb
theorem Inv.step{g':Array GenState}{t':Nat}{d':Drawn}{ch:List Addr}(I:Inv X Z6 σ H s)
  (hch:∀b∈ch,(b∈X.ex∨X.s₀.heap.objs.size<=b)/\b≠X.env.locals/\(∀x c,X.env.cells.lookup x=some c->c≠b)/\∀p∈X.pn++Z6,p.1≠b)
  (keep:∀b o,b≠X.env.locals->b∉X.fs->b∉ch->s.heap.get? b=some o->H b=none->h'.get? b=some o)
  (slot:∀b o,b≠X.env.locals->b∈X.fs->b∉ch->s.heap.get? b=some o->H b=none->∃sl,h'.get? b=some { o with slots:=sl }) (free:∀b o,b∉ch->s.heap.get? b=some o->H b=none->H' b=none)
  (there:∀b o,b∉ch->s.heap.get? b=some o->∃o',h'.get? b=some o')
  (tups:∀b xs,H b=some (.tup xs)->H' b=some (.tup xs)) (frzs:∀b o u,H b=some (.frz o u)->H' b=some (.frz o u)) (tbls:∀b ps,H b=some (.tbl ps)->∃more,H' b=some (.tbl (ps++more)))
  (ns:∀m,s.heap.Ns X.env.locals m->h'.Ns X.env.locals m) (hok:HOk X.prog X.w H' h') (hg:AllBare g') :
  Inv X Z6 σ H' { s with heap:=h',gens:=g',drawn:=d',toks:=t' }:=by
 have neL:∀b o,X.s₀.heap.get? b=some o->b≠X.env.locals:=fun b o e=>Nat.ne_of_lt (Nat.lt_of_lt_of_le (Heap.lt_size e) I.ok.above)
 have neC:∀b o,X.s₀.heap.get? b=some o->b∉X.ex->b∉ch:=fun b o e hx hb=>by
  rcases(hch b hb).1 with z | z
  ·exact hx z
  ·exact absurd (Nat.lt_of_lt_of_le (Heap.lt_size e) z) (Nat.lt_irrefl _)
 have cellK:∀x c,X.env.cells.lookup x=some c->∀v,s.heap.IsCell c v->h'.IsCell c v:=fun x c e v ⟨o,ho,hd⟩=>by
  have nch:c∉ch:=fun z=>(hch c z).2.2.1 x c e rfl
  by_cases hc:c∈X.fs
  ·obtain⟨sl,q⟩:=slot c o (I.cne x c e) hc nch ho (I.freeC x c e)
   exact⟨_,q,hd⟩
  ·exact⟨o,keep c o (I.cne x c e) hc nch ho (I.freeC x c e),hd⟩
 refine⟨I.ok,I.os,hg,⟨fun b o e n hb hx=>?_,fun b o e n hb hx=>?_,fun b o e n hx=>?_,fun b o e hx=>?_,fun b xs e=>tups b xs (I.base.tups b xs e),fun b o xs e=>frzs b o xs (I.base.frzs b o xs e),fun b ps e=>?_⟩,?_,fun x c e=>?_,?_,fun x c e=>?_,fun p hp=>?_,hok,I.len⟩
 ·exact keep b o (neL b o e) hb (neC b o e hx) (I.base.keep b o e n hb hx) (I.base.free b o e n hx)
 ·obtain⟨sl,e1⟩:=I.base.slot b o e n hb hx
  obtain⟨sl',e2⟩:=slot b _ (neL b o e) hb (neC b o e hx) e1 (I.base.free b o e n hx)
  exact⟨sl',e2⟩
 ·obtain⟨o',e1⟩:=I.base.there b o e hx
  exact free b o' (neC b o e hx) e1 (I.base.free b o e n hx)
 ·obtain⟨o',e1⟩:=I.base.there b o e hx
  exact there b o' (neC b o e hx) e1
 ·obtain⟨m1,e1⟩:=I.base.tbls b ps e
  obtain⟨m2,e2⟩:=tbls b _ e1
  exact⟨m1++m2,by rw[e2,Array.append_assoc]⟩
 ·obtain⟨m,hn,hl⟩:=I.loc
  refine⟨m,ns m hn,fun i x v e1 e2 e3=>?_⟩
  obtain⟨u,r,l⟩:=hl i x v e1 e2 e3
  refine⟨u,r,?_⟩
  rcases l with l | ⟨k,c,e,z⟩
  ·exact .inl l
  ·exact .inr ⟨k,c,e,cellK x c e _ z⟩
 ·obtain⟨v,z⟩:=I.cell x c e
  exact⟨v,cellK x c e v z⟩
 ·obtain⟨m,⟨o,_,_,ho,_⟩,_⟩:=I.loc
  exact free _ o (fun z=>(hch _ z).2.1 rfl) ho I.free
 ·obtain⟨v,o,ho,hd⟩:=I.cell x c e
  exact free c o (fun z=>(hch c z).2.2.1 x c e rfl) ho (I.freeC x c e)
 ·obtain⟨e,n,ne,nf,d⟩:=I.pin p hp
  have nch:p.1∉ch:=fun z=>(hch p.1 z).2.2.2 p hp rfl
  exact⟨keep p.1 p.2 ne nf nch e n,free p.1 p.2 nch e n,ne,nf,d⟩
theorem Inv.un{t':Nat}(I:Inv X Z6 σ H s)(u:Un X.fs [] H H' s.heap h')(hok:HOk X.prog X.w H' h'):Inv X Z6 σ H' { s with heap:=h',toks:=t' }:=by
 obtain⟨m,⟨o,es,ep,ho,r⟩,_⟩:=id I.loc
 obtain⟨sl,hL⟩:=u.any ho I.free (by simp)
 exact I.step (g':=s.gens) (d':=s.drawn) (ch:=[]) (fun _ z=>nomatch z) (fun b o _ hb _ e n=>u.keep b o e n hb (by simp)) (fun b o _ hb _ e n=>u.slot b o e n hb (by simp)) (fun b o _ e n=>u.free b o e n (by simp)) (fun b o _ e=>u.there b o e (by simp)) u.tups u.frzs u.tbls (fun m' hm=>by
  obtain⟨o',es',ep',ho',r'⟩:=hm
  rw[ho]at ho';cases ho'
  exact⟨_,es',ep',hL,r'⟩) hok I.bare
theorem Inv.call{g':Array GenState}{t':Nat}{d':Drawn}{ch:List Addr}(I:Inv X Z6 σ H s)(u:Un (Z3m X.stack) ch H H' s.heap h')(hok:HOk X.prog X.w H' h')(hg:AllBare g')
  (hch:∀b∈ch,(b∈X.ex∨X.s₀.heap.objs.size<=b)/\b≠X.env.locals/\(∀x c,X.env.cells.lookup x=some c->c≠b)/\∀p∈X.pn++Z6,p.1≠b) :
  Inv X Z6 σ H' { s with heap:=h',gens:=g',drawn:=d',toks:=t' }:=by
 obtain⟨m,⟨o,es,ep,ho,r⟩,_⟩:=id I.loc
 obtain⟨sl,hL⟩:=u.any ho I.free fun z=>(hch _ z).2.1 rfl
 exact I.step (ch:=ch) hch (fun b o hL hb hc e n=>u.keep b o e n (fun z=>(List.mem_cons.mp (I.stkSub b z)).elim hL hb) hc) (fun b o _ _ hc e n=>u.any e n hc) (fun b o hc e n=>u.free b o e n hc) (fun b o hc e=>u.there b o e hc) u.tups u.frzs u.tbls (fun m' hm=>by
  obtain⟨o',es',ep',ho',r'⟩:=hm
  rw[ho]at ho';cases ho'
  exact⟨_,es',ep',hL,r'⟩) hok hg
theorem Inv.turned{t':Nat}{it:Addr}(I:Inv X Z6 σ H s)(k:∀b o,b≠it->s.heap.get? b=some o->h'.get? b=some o)(hn:H it=none)(hL:it≠X.env.locals)
  (h1:it∈X.ex∨X.s₀.heap.objs.size<=it) (h2:∀x c,X.env.cells.lookup x=some c->c≠it) (h3:∀p∈X.pn++Z6,p.1≠it):Inv X Z6 σ H { s with heap:=h',toks:=t' }:=by
 have nit:∀b u,H b=some u->b≠it:=fun b u e z=>by rw[z,hn]at e;cases e
 refine I.step (g':=s.gens) (d':=s.drawn) (ch:=[it]) (fun b hb=>?_) (fun b o _ _ hc e _=>k b o (fun z=>hc (by simp[z])) e) (fun b o _ _ hc e _=>⟨o.slots,k b o (fun z=>hc (by simp[z])) e⟩) (fun _ _ _ _ n=>n)
  (fun b o hc e=>⟨o,k b o (fun z=>hc (by simp[z])) e⟩) (fun _ _ e=>e) (fun _ _ _ e=>e) (fun b ps e=>⟨#[],by rw[e];simp⟩) (fun m hm=>?_) (fun b u e=>?_) I.bare
 ·have e:b=it:=by simpa using hb
  subst e
  exact⟨h1,hL,h2,h3⟩
 ·obtain⟨o,es,ep,ho,r⟩:=hm
  exact⟨o,es,ep,k _ o (Ne.symm hL) ho,r⟩
 ·refine(I.hok b u e).stay (fun c v hc q=>k c v ?_ q) (fun _ q=>q) fun _ _ q=>q
  rcases hc with z | z
  ·rw[z];exact nit b u e
  ·exact nit c _ z
theorem Inv.tok(I:Inv X Z6 σ H s)(t:Nat):Inv X Z6 σ H { s with toks:=t }:=I.un (h':=s.heap) (t':=t) Un.refl I.hok
theorem Inv.kept{t':Nat}(I:Inv X Z6 σ H s)(k:∀b u,s.heap.get? b=some u->h'.get? b=some u):Inv X Z6 σ H { s with heap:=h',toks:=t' }:=I.un (Un.kept k) (I.hok.kept k)
theorem Inv.laid{a:Addr}{o:HO}{t':Nat}(I:Inv X Z6 σ H s)(k:∀b u,s.heap.get? b=some u->h'.get? b=some u)(hp:s.heap.objs.size<=a)(new:ObjOk X.prog X.w (Zq H a o) h' a o) :
  Inv X Z6 σ (Zq H a o) { s with heap:=h',toks:=t' }:=I.un (Un.laid k hp (I.hok.fresh hp)) (I.hok.laid k hp new)
theorem Inv.write{x e:Addr}{o:HO}{t':Nat}(I:Inv X Z6 σ H s)(mu:Zlw (H x))(he:e=x∨H e=some (.own x))(k:∀b u,b≠e->s.heap.get? b=some u->h'.get? b=some u)(heo:∃u,h'.get? e=some u)
  (new:ObjOk X.prog X.w (Zq H x o) h' x o):Inv X Z6 σ (Zq H x o) { s with heap:=h',toks:=t' }:=I.un (Un.write mu he k heo) (I.hok.write mu he k heo new)
theorem Inv.weak{σ':List (Option V)}(I:Inv X Z6 σ H s)(hl:σ'.length=σ.length)(w:∀(i:Nat) v,σ'[i]? = some (some v)->σ[i]? = some (some v)):Inv X Z6 σ' H s :=
 ⟨I.ok,I.os,I.bare,I.base,let⟨m,hn,hl'⟩:=I.loc;⟨m,hn,fun i x v e1 e2 e3=>hl' i x v e1 (w i v e2) e3⟩,I.cell,I.free,I.freeC,I.pin,I.hok,hl.trans I.len⟩
theorem Inv.pins_of{pins':List (Addr×Obj)}(I:Inv X Z6 σ H s)(h:∀p∈pins',s.heap.get? p.1=some p.2/\H p.1=none/\p.1≠X.env.locals/\p.1∉X.fs/\∀v,p.2.data≠.cell v):Inv X pins' σ H s :=
 ⟨I.ok,I.os,I.bare,I.base,I.loc,I.cell,I.free,I.freeC,fun p hp=>(List.mem_append.mp hp).elim (fun z=>I.pin p (List.mem_append_left _ z)) (h p),I.hok,I.len⟩
theorem Z6v{N:List Str}(hN:N.Nodup){i j:Nat}{x:Str}(a:N[i]? = some x)(b:N[j]? = some x):i=j:=by
 obtain⟨h1,e1⟩:=List.getElem?_eq_some_iff.mp a
 obtain⟨h2,e2⟩:=List.getElem?_eq_some_iff.mp b
 exact(List.getElem_inj hN).mp (e1.trans e2.symm)
theorem Z3u{M:Model}{A:Around}{E:Value->Shared->Prop}{i:Nat}{x:Str}{v:V}{u:Value}{Q:Unit->Shared->Prop}(I:Inv X Z6 σ H s)(hN:X.N.Nodup)(hi:X.N[i]? = some x)(hx:Zjw X.env.scope x)(r:RelV v u)
  (h:∀s',Inv X Z6 (σ.set i (some v)) H s'->(∃a,Heap.SameBut a s.heap s'.heap/\(a=X.env.locals∨X.env.cells.lookup x=some a))->Q () s') (hf:X.fn x=true∨X.env.scope.names.lookup x=some .local:=by first | exact .inl rfl | exact .inr rfl | assumption):wpAny M A (storeName X.env x u) Q E s:=by
 obtain⟨m,hn,hl⟩:=id I.loc
 have hcls:(X.env.scope.kind==.class||(X.env.scope.kind==.module&&X.env.locals != X.env.globals))=false:=by rw[I.ok.kind];rfl
 have hiσ:i<σ.length:=by rw[I.len];exact(List.getElem?_eq_some_iff.mp hi).1
 have cne:=I.cne
 have tracked:∀ {a:Addr} {h':Heap},(∃o,s.heap.get? a=some o/\H a=none)->Heap.SameBut a s.heap h'->HOk X.prog X.w H h':=fun{a h'} ha hs b ob e=>by
  obtain⟨_,_,hfree⟩:=ha
  refine(I.hok b ob e).stay (fun c w' hc q=>(hs.2 c ?_).trans q) (fun _ q=>q) fun _ _ q=>q
  rintro rfl
  rcases hc with rfl | hc
  ·rw[hfree]at e;cases e
  ·rw[hfree]at hc;cases hc
 rcases hx with hk | hk
 ·refine wpAny_storeName_local hk hn (fun h' hn' hs=>?_) hcls
  obtain⟨oL,_,_,hoL,_⟩:=id hn
  refine h _ ⟨I.ok,I.os,I.bare,⟨fun b o e n hb hx=>?_,fun b o e n hb hx=>?_,I.base.free,fun b o e hx=>?_,I.base.tups,I.base.frzs,I.base.tbls⟩,⟨_,hn',fun j y v' e1 e2 e3=>?_⟩,fun y c e=>?_,I.free,I.freeC,fun p hp=>?_,tracked ⟨oL,hoL,I.free⟩ hs,by simpa using I.len⟩ ⟨_,hs,.inl rfl⟩
  ·exact(hs.2 b (Nat.ne_of_lt (Nat.lt_of_lt_of_le (Heap.lt_size e) I.ok.above))).trans (I.base.keep b o e n hb hx)
  ·obtain⟨sl,e1⟩:=I.base.slot b o e n hb hx
   exact⟨sl,(hs.2 b (Nat.ne_of_lt (Nat.lt_of_lt_of_le (Heap.lt_size e) I.ok.above))).trans e1⟩
  ·obtain⟨o',e1⟩:=I.base.there b o e hx
   exact⟨o',(hs.2 b (Nat.ne_of_lt (Nat.lt_of_lt_of_le (Heap.lt_size e) I.ok.above))).trans e1⟩
  ·by_cases hj:j=i
   ·subst hj
    rw[hi]at e1;cases e1
    rw[List.getElem?_set_self hiσ]at e2
    cases e2
    exact⟨u,r,.inl ⟨hk,by simp⟩⟩
   ·rw[List.getElem?_set_ne (Ne.symm hj)]at e2
    obtain⟨u',r',q⟩:=hl j y v' e1 e2 e3
    refine⟨u',r',?_⟩
    rcases q with⟨k,e⟩ | ⟨k,c,e,z⟩
    ·refine .inl ⟨k,?_⟩
     have:y≠x:=fun e=>hj (Z6v hN e1 (e ▸ hi))
     simp[this,e]
    ·exact .inr ⟨k,c,e,z.sameBut hs (cne y c e)⟩
  ·obtain⟨w',z⟩:=I.cell y c e
   exact⟨w',z.sameBut hs (cne y c e)⟩
  ·obtain⟨e,n,ne,nf,d⟩:=I.pin p hp
   exact⟨(hs.2 p.1 ne).trans e,n,ne,nf,d⟩
 ·have hfn:X.fn x=true:=by
   rcases hf with z | z
   ·exact z
   ·rw[z]at hk;cases hk
  obtain⟨c,hc⟩:=I.ok.has x (.inl hk)
  obtain⟨w',z⟩:=I.cell x c hc
  refine wpAny_storeName_cell I.ok.kind hk hc z (fun h' hc' hs=>?_)
  obtain⟨oc,hoc,hocd⟩:=id z
  refine h { s with heap:=h' } ⟨I.ok,I.os,I.bare,⟨fun b o e n hb hx=>?_,fun b o e n hb hx=>?_,I.base.free,fun b o e hx=>?_,I.base.tups,I.base.frzs,I.base.tbls⟩,⟨m,hn.sameBut hs (Ne.symm (cne x c hc)),fun j y v' e1 e2 e3=>?_⟩,fun y c' e=>?_,I.free,I.freeC,fun p hp=>?_,tracked ⟨oc,hoc,I.freeC x c hc⟩ hs,by simpa using I.len⟩ ⟨c,hs,.inr hc⟩
  ·exact(hs.2 b (Nat.ne_of_lt (Nat.lt_of_lt_of_le (Heap.lt_size e) (I.ok.cab x c hfn hc)))).trans (I.base.keep b o e n hb hx)
  ·obtain⟨sl,e1⟩:=I.base.slot b o e n hb hx
   exact⟨sl,(hs.2 b (Nat.ne_of_lt (Nat.lt_of_lt_of_le (Heap.lt_size e) (I.ok.cab x c hfn hc)))).trans e1⟩
  ·obtain⟨o',e1⟩:=I.base.there b o e hx
   exact⟨o',(hs.2 b (Nat.ne_of_lt (Nat.lt_of_lt_of_le (Heap.lt_size e) (I.ok.cab x c hfn hc)))).trans e1⟩
  ·by_cases hj:j=i
   ·subst hj
    rw[hi]at e1;cases e1
    rw[List.getElem?_set_self hiσ]at e2
    cases e2
    exact⟨u,r,.inr ⟨.inl hk,c,hc,hc'⟩⟩
   ·rw[List.getElem?_set_ne (Ne.symm hj)]at e2
    obtain⟨u',r',q⟩:=hl j y v' e1 e2 e3
    refine⟨u',r',?_⟩
    rcases q with q | ⟨k,c',e,z'⟩
    ·exact .inl q
    ·refine .inr ⟨k,c',e,z'.sameBut hs ?_⟩
     rintro rfl
     exact hj (Z6v hN e1 (I.ok.inj _ _ _ e hc ▸ hi))
  ·by_cases hcc:c'=c
   ·subst hcc;exact⟨_,hc'⟩
   ·obtain⟨w2,z2⟩:=I.cell y c' e
    exact⟨w2,z2.sameBut hs hcc⟩
  ·obtain⟨e,n,ne,nf,d⟩:=I.pin p hp
   refine⟨(hs.2 p.1 ?_).trans e,n,ne,nf,d⟩
   intro q
   rw[q,hoc]at e
   have q':oc=p.2:=Option.some.inj e
   exact d w' (by rw[← q'];exact hocd)
theorem Z2r{M:Model}{A:Around}{E:Value->Shared->Prop}{i:Nat}{x:Str}{v:V}{u:Value}{Q:Unit->Shared->Prop}(I:Inv X Z6 σ H s)(hN:X.N.Nodup)(hi:X.N[i]? = some x)(hx:Zjw X.env.scope x)(r:RelV v u)
  (h:∀s',Inv X Z6 (σ.set i (some v)) H s'->Q () s') (hf:X.fn x=true∨X.env.scope.names.lookup x=some .local:=by first | exact .inl rfl | exact .inr rfl | assumption):wpAny M A (storeName X.env x u) Q E s :=
 Z3u I hN hi hx r (fun s' I' _=>h s' I') hf
theorem Inv.call'{s':Shared}{ch:List Addr}(I:Inv X Z6 σ H s)(ho:s'.os=s.os)(u:Un (Z3m X.stack) ch H H' s.heap s'.heap)(hok:HOk X.prog X.w H' s'.heap)(hg:AllBare s'.gens)
  (hch:∀b∈ch,(b∈X.ex∨X.s₀.heap.objs.size<=b)/\b≠X.env.locals/\(∀x c,X.env.cells.lookup x=some c->c≠b)/\∀p∈X.pn++Z6,p.1≠b):Inv X Z6 σ H' s':=by
 obtain⟨h',g',d',t',o'⟩:=s'
 have e:o'=s.os:=ho
 subst e
 exact I.call (g':=g') (t':=t') (d':=d') u hok hg hch
end
abbrev XK:=Value->Option Addr->Hp->Prop
abbrev St:=List (Option V)
abbrev VK:=V->Hp->Prop
abbrev TE:=St->Hp->VK->Prop
abbrev TT:=St->Hp->(Bool->Hp->Prop)->Prop
abbrev TA:=St->Hp->(List V->Hp->Prop)->Prop
structure Ends where
 nx:St->Hp->Prop
 rt:VK
 bk:St->Hp->Prop:=fun _ _=>False
 ct:St->Hp->Prop:=fun _ _=>False
abbrev TS:=Ends->St->Hp->Prop
def EP(X:Cx)(Z6:List (Addr×Obj))(σ:St)(Q:VK)(u:Value)(s':Shared):Prop:=∃v H',Inv X Z6 σ H' s'/\RelV v u/\Q v H'
def TP(X:Cx)(Z6:List (Addr×Obj))(σ:St)(Q:Bool->Hp->Prop)(b:Bool)(s':Shared):Prop:=∃H',Inv X Z6 σ H' s'/\Q b H'
def AP(X:Cx)(Z6:List (Addr×Obj))(σ:St)(Q:List V->Hp->Prop)(us:List Value)(s':Shared):Prop:=∃vs H',Inv X Z6 σ H' s'/\Vals vs us/\Q vs H'
def SP(X:Cx)(Z6:List (Addr×Obj))(D:Ends)(f:Flow)(s':Shared):Prop :=
 match f with
 |.next=>∃σ' H',Inv X Z6 σ' H' s'/\D.nx σ' H'
 |.brk=>∃σ' H',Inv X Z6 σ' H' s'/\D.bk σ' H'
 |.cont=>∃σ' H',Inv X Z6 σ' H' s'/\D.ct σ' H'
 |.ret u=>∃v σ' H',Inv X Z6 σ' H' s'/\RelV v u/\D.rt v H'
def PE(X:Cx)(e:Expr)(t:TE):Prop :=
 ∀(Z6:List (Addr×Obj)) (s:Shared) (σ:St) (H:Hp) (Q:VK),Inv X Z6 σ H s->t σ H Q->wpAny (model X.prog X.w) X.A (eval e X.env) (EP X Z6 σ Q) X.xe s
def PT(X:Cx)(e:Expr)(t:TT):Prop :=
 ∀(Z6:List (Addr×Obj)) (s:Shared) (σ:St) (H:Hp) (Q:Bool->Hp->Prop),Inv X Z6 σ H s->t σ H Q->wpAny (model X.prog X.w) X.A (isTrue e X.env (eval e X.env)) (TP X Z6 σ Q) X.xe s
def PW(X:Cx)(e:Expr)(t:TT):Prop :=
 ∀(whole:Sem Value) (Z6:List (Addr×Obj)) (s:Shared) (σ:St) (H:Hp) (Q:Bool->Hp->Prop),Inv X Z6 σ H s->t σ H Q->wpAny (model X.prog X.w) X.A (isTrue e X.env whole) (TP X Z6 σ Q) X.xe s
theorem PW.pt{X:Cx}{e:Expr}{t:TT}(h:PW X e t):PT X e t:=h _
def PA(X:Cx)(es:List Expr)(t:TA):Prop :=
 ∀(pos:Pos) (Z6:List (Addr×Obj)) (s:Shared) (σ:St) (H:Hp) (Q:List V->Hp->Prop),Inv X Z6 σ H s->t σ H Q->wpAny (model X.prog X.w) X.A (spliced (backTo pos (starEach es X.env))) (AP X Z6 σ Q) X.xe s
def PS(X:Cx)(st:Stmt)(t:TS):Prop :=
 ∀(Z6:List (Addr×Obj)) (s:Shared) (σ:St) (H:Hp) (D:Ends),Inv X Z6 σ H s->t D σ H->wpAny (model X.prog X.w) X.A (exec st X.env) (SP X Z6 D) X.xe s
def PSs(X:Cx)(st:List Stmt)(t:TS):Prop :=
 ∀(Z6:List (Addr×Obj)) (s:Shared) (σ:St) (H:Hp) (D:Ends),Inv X Z6 σ H s->t D σ H->wpAny (model X.prog X.w) X.A (execs st X.env) (SP X Z6 D) X.xe s
theorem W9{α:Type}{t:Sem α}{Q Q':α->Shared->Prop}{M:Model}{A:Around}{E:Value->Shared->Prop}{s:Shared}(h:wpAny M A t Q E s)(hQ:∀a s,Q a s->Q' a s):wpAny M A t Q' E s:=wpAny_mono h hQ fun _ _ x=>x
section
variable{X:Cx}
theorem bin{a b:Expr}{ta tb:TE}(ha:PE X a ta)(hb:PE X b tb){Z6:List (Addr×Obj)}{s:Shared}{σ:St}{H:Hp}{R:V->V->Hp->Prop}(I:Inv X Z6 σ H s)(h:ta σ H fun x H1=>tb σ H1 fun y H2=>R x y H2)
  {α:Type} {Q:α->Shared->Prop} {f:Value->Value->Sem α}
  (hf:∀v u s2 x y H2,Inv X Z6 σ H2 s2->RelV x v->RelV y u->R x y H2->wpAny (model X.prog X.w) X.A (f v u) Q X.xe s2) :
  wpAny (model X.prog X.w) X.A (eval a X.env) (fun v s₁=>wpAny (model X.prog X.w) X.A (eval b X.env) (fun u s₂=>wpAny (model X.prog X.w) X.A (f v u) Q X.xe s₂) X.xe s₁) X.xe s:=by
 refine W9 (ha Z6 s σ H _ I h) fun v s1 ⟨x,H1,I1,r1,q1⟩=>?_
 refine W9 (hb Z6 s1 σ H1 _ I1 q1) fun u s2 ⟨y,H2,I2,r2,q2⟩=>?_
 exact hf v u s2 x y H2 I2 r1 r2 q2
def Xc(i:Nat):TE:=fun σ H Q=>∃v,σ[i]? = some (some v)/\Q v H
def tC(v:V):TE:=fun _ H Q=>Q v H
theorem Zij{i:Nat}{x:Str}{pos:Pos}(hN:X.N[i]? = some x)(hv:Zls X.env.scope x)(hd:(x==("__debug__":Str))=false:=by decide)(hcd:(x==("__classdict__":Str))=false:=by decide):PE X (.Name x pos) (Xc i):=by
 intro Z6 s σ H Q I h
 obtain⟨v,e,h⟩:=h
 obtain⟨m,hn,hl⟩:=I.loc
 obtain⟨u,r,l⟩:=hl i x v hN e hv
 have fin:EP X Z6 σ Q u s:=⟨v,H,I,r,h⟩
 rcases l with⟨hk,hm⟩ | ⟨hk,c,hc,hcell⟩
 ·exact wpAny_Name (wpAny_loadName_local I.ok.kind hk hn hm fin) hd
 ·rcases hk with hk | hk
  ·exact wpAny_Name (wpAny_loadName_cell I.ok.kind hk hc hcell fin) hd
  ·exact wpAny_Name (wpAny_loadName_free I.ok.kind hk hc hcell fin hcd) hd
theorem Z4{i j pos}:PE X (.Constant (.int i) j pos) (tC (.int i)):=fun _ _ _ H _ I h=>wpAny_Constant_int ⟨.int i,H,I.tok _,⟨_,rfl⟩,h⟩
theorem Tk{b j pos}:PE X (.Constant (.bool b) j pos) (tC (.bl b)):=fun _ _ _ H _ I h=>Constant_bool ⟨.bl b,H,I,rfl,h⟩
theorem Uh{j pos}:PE X (.Constant .none j pos) (tC .non):=fun _ _ _ H _ I h=>Constant_none ⟨.non,H,I,rfl,h⟩
theorem Zg{x j pos}:PE X (.Constant (.str x) j pos) (tC (.str x)):=fun _ _ _ H _ I h=>Calls.Constant_str ⟨.str x,H,I.tok _,⟨_,rfl⟩,h⟩
def Gl(X:Cx)(x:Str):Prop:=X.env.kindOf x=some .globalImplicit
theorem Z0l{E:Value->Shared->Prop}{Z6:List (Addr×Obj)}{s:Shared}{σ:St}{H:Hp}{x:Str}{u:Value}{pos:Pos}{Q:Value->Shared->Prop}(I:Inv X Z6 σ H s)(hg:Gl X x)(hm:X.mg x=some u)(h:Q u s)
  (hd:(x==("__debug__":Str))=false:=by decide):wpAny (model X.prog X.w) X.A (eval (.Name x pos) X.env) Q E s :=
 Calls.Name_function_global I.ok.kind hg (Calls.loadGlobal_global (by rw[I.ok.glob];exact I.mod.glob.keeps I.bk) hm h) hd
theorem Z00{E:Value->Shared->Prop}{Z6:List (Addr×Obj)}{s:Shared}{σ:St}{H:Hp}{x:Str}{u:Value}{pos:Pos}{Q:Value->Shared->Prop}(I:Inv X Z6 σ H s)(hg:Gl X x)(hm:X.mg x=none)(hv:bootBuiltins x=some u)(h:Q u s)
  (hn:x≠"__name__":=by decide) (hd:(x==("__debug__":Str))=false:=by decide):wpAny (model X.prog X.w) X.A (eval (.Name x pos) X.env) Q E s:=by
 obtain⟨mb,h1,h2⟩:=I.mod.blt
 exact Calls.Name_function_global I.ok.kind hg (Calls.loadGlobal_builtin (by rw[I.ok.glob];exact I.mod.glob.keeps I.bk) hm (by rw[I.ok.blt];exact h1.keeps I.bk) ((h2 x hn).trans hv) h) hd
theorem Ud{x:Str}{v:V}{u:Value}{pos:Pos}(hg:Gl X x)(hm:X.mg x=some u)(r:RelV v u)(hd:(x==("__debug__":Str))=false:=by decide):PE X (.Name x pos) (tC v) :=
 fun _ _ _ H _ I h=>Z0l I hg hm ⟨v,H,I,r,h⟩ hd
theorem Z9g{x:Str}{v:V}{u:Value}{pos:Pos}(hg:Gl X x)(hm:X.mg x=none)(hv:bootBuiltins x=some u)(r:RelV v u)(hn:x≠"__name__":=by decide)(hd:(x==("__debug__":Str))=false:=by decide):PE X (.Name x pos) (tC v) :=
 fun _ _ _ H _ I h=>Z00 I hg hm hv ⟨v,H,I,r,h⟩ hn hd
variable{a b:Expr}{ta tb:TE}{pos:Pos}
def PC(X:Cx)(op:CmpOp)(a b:Expr)(t:TE):Prop :=
 ∀(Z6:List (Addr×Obj)) (s:Shared) (σ:St) (H:Hp) (Q:VK),Inv X Z6 σ H s->t σ H Q ->
  wpAny (model X.prog X.w) X.A (eval a X.env) (fun v s₁=>wpAny (model X.prog X.w) X.A (eval b X.env) (fun u s₂=>wpAny (model X.prog X.w) X.A (compareOp op v u) (EP X Z6 σ Q) X.xe s₂) X.xe s₁) X.xe s
theorem Z6x(b:Expr){op:CmpOp}(h:op≠.In)(h2:op≠.NotIn):behindInMarks op b=false:=by
 have e1:(op==CmpOp.In)=false:=by cases op <;> first | rfl | exact absurd rfl h
 have e2:(op==CmpOp.NotIn)=false:=by cases op <;> first | rfl | exact absurd rfl h2
 cases b <;> simp[behindInMarks,e1,e2]
def Zl3(ta:TE):TE:=fun σ H Q=>ta σ H fun x H1=>Q (.bl (decide (x=.non))) H1
def Zkc(ta:TE):TE:=fun σ H Q=>ta σ H fun x H1=>Q (.bl (!decide (x=.non))) H1
theorem RelV.none_iff{x:V}{v:Value}(r:RelV x v):(v==Value.none)=decide (x=.non):=by
 cases x with
 |non=>cases r;rfl
 |bl _=>cases r;rfl
 |int _=>obtain⟨t,rfl⟩:=r;rfl
 |str _=>obtain⟨t,rfl⟩:=r;rfl
 |byt _=>obtain⟨t,rfl⟩:=r;rfl
 |flt _=>obtain⟨t,rfl⟩:=r;rfl
 |ref _=>cases r;rfl
 |ty _=>cases r;rfl
theorem Th{j pos'}(ha:PE X a ta):PC X .Is a (.Constant .none j pos') (Zl3 ta):=by
 intro Z6 s σ H Q I h
 refine W9 (ha Z6 s σ H _ I h) fun v s1 ⟨x,H1,I1,r1,q1⟩=>?_
 exact Constant_none (is_none_gen ⟨.bl _,H1,I1,by rw[r1.none_iff];rfl,q1⟩)
theorem Z57{j pos'}(ha:PE X a ta):PC X .IsNot a (.Constant .none j pos') (Zkc ta):=by
 intro Z6 s σ H Q I h
 refine W9 (ha Z6 s σ H _ I h) fun v s1 ⟨x,H1,I1,r1,q1⟩=>?_
 exact Constant_none (isnot_none_gen ⟨.bl _,H1,I1,by rw[r1.none_iff];rfl,q1⟩)
def tB(t:TE):TT:=fun σ H Q=>t σ H fun x H1=>∃c,x=.bl c/\Q c H1
theorem Zdm{op:CmpOp}{t:TE}(h:PC X op a b t)(h1:behindInMarks op b=false:=by first | exact Z6x _ (by decide) (by decide) | rfl):PE X (.Compare a [op] [b] pos) t:=fun Z6 s σ H Q I hw=>wpAny_Compare1 (h Z6 s σ H Q I hw) h1
theorem Ug{op:CmpOp}{t:TE}(h:PC X op a b t)(h1:behindInMarks op b=false:=by first | exact Z6x _ (by decide) (by decide) | rfl):PT X (.Compare a [op] [b] pos) (tB t):=by
 intro Z6 s σ H Q I hw
 refine wpAny_isTrue_Compare1 (W9 (h Z6 s σ H _ I hw) fun v s1 h1=>W9 h1 fun u s2 h2=>W9 h2 fun c s3 ⟨x,H1,I1,r1,q1⟩=>?_) h1
 obtain⟨d,rfl,q⟩:=q1
 cases r1
 exact wpAny_truthy_bool ⟨H1,I1,q⟩
theorem Wo{e:Expr}{t:TE}(h:PE X e t)(he:∀whole,isTrue e X.env whole=(do let v ← whole;standAt e.pos;holding [v] (truthy v)):=by intro _;rfl):PT X e (tB t):=by
 intro Z6 s σ H Q I hw
 refine isTrue_plain (W9 (h Z6 s σ H _ I hw) fun v s1 ⟨x,H1,I1,r1,q1⟩=>?_) (he _)
 obtain⟨d,rfl,q⟩:=q1
 cases r1
 exact wpAny_truthy_bool ⟨H1,I1,q⟩
variable{tA tB':TT}{rest:List Expr}
def Zl5(t u:TT):TT:=fun σ H Q=>t σ H fun c H1=>if c=true then u σ H1 Q else Q false H1
def Zln(t u:TT):TT:=fun σ H Q=>t σ H fun c H1=>if c=true then Q true H1 else u σ H1 Q
def Zm1(t:TT):TT:=fun σ H Q=>t σ H fun c H1=>Q (!c) H1
theorem Wl(ha:PT X a tA):PW X (.BoolOp .And [a] pos) tA:=by
 intro wh Z6 s σ H Q I h
 refine isTrue_and (W9 (ha Z6 s σ H Q I h) fun c s1 e=>?_)
 cases c with
 |true=>exact isTrue_and_nil e
 |false=>exact e
theorem Vi(ha:PT X a tA):PW X (.BoolOp .Or [a] pos) tA:=by
 intro wh Z6 s σ H Q I h
 refine isTrue_or (W9 (ha Z6 s σ H Q I h) fun c s1 e=>?_)
 cases c with
 |false=>exact isTrue_or_nil e
 |true=>exact e
theorem Vj(ha:PT X a tA)(hb:PW X (.BoolOp .And (b::rest) pos) tB'):PW X (.BoolOp .And (a::b::rest) pos) (Zl5 tA tB'):=by
 intro wh Z6 s σ H Q I h
 refine isTrue_and (W9 (ha Z6 s σ H _ I h) fun c s1 ⟨H1,I1,q1⟩=>?_)
 cases c with
 |true=>exact hb wh Z6 s1 σ H1 Q I1 q1
 |false=>exact⟨H1,I1,q1⟩
theorem T7(ha:PT X a tA)(hb:PW X (.BoolOp .Or (b::rest) pos) tB'):PW X (.BoolOp .Or (a::b::rest) pos) (Zln tA tB'):=by
 intro wh Z6 s σ H Q I h
 refine isTrue_or (W9 (ha Z6 s σ H _ I h) fun c s1 ⟨H1,I1,q1⟩=>?_)
 cases c with
 |true=>exact⟨H1,I1,q1⟩
 |false=>exact hb wh Z6 s1 σ H1 Q I1 q1
theorem Zie(ha:PT X a tA):PT X (.UnaryOp .Not a pos) (Zm1 tA):=by
 intro Z6 s σ H Q I h
 exact isTrue_not (ha Z6 s σ H (fun c H1=>Q (!c) H1) I h)
def Zkg(ta tb:TE):TE:=fun σ H Q=>ta σ H fun x H1=>∃c,x=.bl c/\if c=true then tb σ H1 Q else Q (.bl false) H1
def Zl2(ta tb:TE):TE:=fun σ H Q=>ta σ H fun x H1=>∃c,x=.bl c/\if c=true then Q (.bl true) H1 else tb σ H1 Q
theorem Z5v{op}{t:TE}(h:PE X a t):PE X (.BoolOp op [a] pos) t:=fun Z6 s σ H Q I hw=>BoolOp_one (h Z6 s σ H Q I hw)
theorem Zdo(ha:PE X a ta)(hb:PE X (.BoolOp .And (b::rest) pos) tb):PE X (.BoolOp .And (a::b::rest) pos) (Zkg ta tb):=by
 intro Z6 s σ H Q I h
 refine BoolOp_and (W9 (ha Z6 s σ H _ I h) fun v s1 ⟨x,H1,I1,r1,q1⟩=>?_)
 obtain⟨c,rfl,q1⟩:=q1
 cases r1
 refine wpAny_truthy_bool ?_
 cases c with
 |true=>exact hb Z6 s1 σ H1 Q I1 q1
 |false=>exact⟨.bl false,H1,I1,rfl,q1⟩
theorem Zgz(ha:PE X a ta)(hb:PE X (.BoolOp .Or (b::rest) pos) tb):PE X (.BoolOp .Or (a::b::rest) pos) (Zl2 ta tb):=by
 intro Z6 s σ H Q I h
 refine BoolOp_or (W9 (ha Z6 s σ H _ I h) fun v s1 ⟨x,H1,I1,r1,q1⟩=>?_)
 obtain⟨c,rfl,q1⟩:=q1
 cases r1
 refine wpAny_truthy_bool ?_
 cases c with
 |false=>exact hb Z6 s1 σ H1 Q I1 q1
 |true=>exact⟨.bl true,H1,I1,rfl,q1⟩
def Zn0(t:TT)(ta tb:TE):TE:=fun σ H Q=>t σ H fun c H1=>if c=true then ta σ H1 Q else tb σ H1 Q
theorem W5{c:Expr}(hc:PT X c tA)(ha:PE X a ta)(hb:PE X b tb):PE X (.IfExp c a b pos) (Zn0 tA ta tb):=by
 intro Z6 s σ H Q I h
 refine wpAny_IfExp (W9 (hc Z6 s σ H _ I h) fun d s1 ⟨H1,I1,q1⟩=>?_)
 cases d with
 |true=>exact ha Z6 s1 σ H1 Q I1 q1
 |false=>exact hb Z6 s1 σ H1 Q I1 q1
end
def SqL(K:W.Frag)(H:Hp)(a:Addr)(xs:List V):Prop :=
 Rd H a (.lst xs) ∨
  ∃(o:Obj) (its:Array Value) (n:Nat),K.lookup a=some o/\o.cls=.type "list"/\o.dict=none/\o.data=.seq its n/\its.size<=sizeLine/\Vals xs its.toList
def SqT(K:W.Frag)(H:Hp)(a:Addr)(xs:List V):Prop :=
 Rd H a (.tup xs) ∨
  ∃(o:Obj) (its:Array Value) (n:Nat),K.lookup a=some o/\o.cls=.type "tuple"/\o.data=.seq its n/\its.size<=sizeLine/\Vals xs its.toList
def Zmp:Value->Option V
 |.none=>some .non
 |.bool b=>some (.bl b)
 |.int i _=>some (.int i)
 |.str x _=>some (.str x)
 |.bytes b _=>some (.byt b)
 |.float b _=>some (.flt b)
 |.ref a=>some (.ref a)
 |.type n=>some (.ty n)
 |_=>none
theorem RelV.abs{x:V}{u:Value}(r:RelV x u):Zmp u=some x:=by
 cases x with
 |non=>cases r;rfl
 |bl _=>cases r;rfl
 |int _=>obtain⟨t,rfl⟩:=r;rfl
 |str _=>obtain⟨t,rfl⟩:=r;rfl
 |byt _=>obtain⟨t,rfl⟩:=r;rfl
 |flt _=>obtain⟨t,rfl⟩:=r;rfl
 |ref _=>cases r;rfl
 |ty _=>cases r;rfl
theorem RelV.inj{x y:V}{u:Value}(r:RelV x u)(q:RelV y u):x=y:=Option.some.inj (r.abs.symm.trans q.abs)
theorem Vals.inj:∀ {xs ys:List V} {us:List Value},Vals xs us->Vals ys us->xs=ys
 |_,_,_,.nil,.nil=>rfl
 |_,_,_,.cons r t,.cons r' t'=>by rw[r.inj r',Vals.inj t t']
section
variable{X:Cx}{Z6:List (Addr×Obj)}{σ:St}{H:Hp}{s:Shared}{a:Addr}{xs ys:List V}
theorem SqL.of{K:W.Frag}(h:H a=some (.lst xs)):SqL K H a xs:=.inl (.inl h)
theorem SqT.of{K:W.Frag}(h:H a=some (.tup xs)):SqT K H a xs:=.inl (.inl h)
theorem Inv.list(I:Inv X Z6 σ H s)(h:SqL X.K H a xs):∃its:List Value,Vals xs its/\PlainL s.heap a its.toArray/\xs.length<=sizeLine:=by
 rcases h with h | ⟨o,its,n,hk,hc,hd,hs,hz,r⟩
 ·obtain⟨z,its,n,r,e⟩:=h.ok I.hok
  exact⟨its,r,⟨_,n,e,rfl,rfl,rfl⟩,z⟩
 ·refine⟨its.toList,r,⟨o,n,I.kIn a o hk,hc,hd,by simpa using hs⟩,?_⟩
  have e:=r.length
  simp only[Array.length_toList]at e
  omega
theorem Inv.tuple(I:Inv X Z6 σ H s)(h:SqT X.K H a xs):∃its:List Value,Vals xs its/\IsTup s.heap a its.toArray/\xs.length<=sizeLine:=by
 rcases h with h | ⟨o,its,n,hk,hc,hs,hz,r⟩
 ·obtain⟨z,its,r,p⟩:=h.ok I.hok
  exact⟨its,r,p,z⟩
 ·refine⟨its.toList,r,⟨o,I.kIn a o hk,hc,n,by simpa using hs⟩,?_⟩
  have e:=r.length
  simp only[Array.length_toList]at e
  omega
theorem Inv.list_inj(I:Inv X Z6 σ H s)(h:SqL X.K H a xs)(h':SqL X.K H a ys):xs=ys:=by
 obtain⟨its,r,⟨o,n,e,_,_,d⟩,_⟩:=I.list h
 obtain⟨its',r',⟨o',n',e',_,_,d'⟩,_⟩:=I.list h'
 rw[e]at e';cases e'
 rw[d]at d'
 injection d' with d1 _
 have:its=its':=by simpa using congrArg Array.toList d1
 subst this
 exact r.inj r'
theorem Inv.tuple_inj(I:Inv X Z6 σ H s)(h:SqT X.K H a xs)(h':SqT X.K H a ys):xs=ys:=by
 obtain⟨its,r,⟨o,e,_,n,d⟩,_⟩:=I.tuple h
 obtain⟨its',r',⟨o',e',_,n',d'⟩,_⟩:=I.tuple h'
 rw[e]at e';cases e'
 rw[d]at d'
 injection d' with d1 _
 have:its=its':=by simpa using congrArg Array.toList d1
 subst this
 exact r.inj r'
end
abbrev Cx.wish(X:Cx)(E:Value->Shared->Prop):Cx:={ X with xe:=E }
abbrev Cx.nox(X:Cx):Cx:=X.wish fun _ _=>False
theorem Cx.Ok.wish{X:Cx}(ok:X.Ok)(E:Value->Shared->Prop):(X.wish E).Ok :=
 ⟨ok.mod,ok.kind,ok.glob,ok.blt,ok.above,ok.inj,ok.has,ok.cab,ok.hd,ok.frames,ok.stk,ok.exf,ok.bs,ok.bsz,ok.noex,ok.exfs,ok.funs,ok.frf⟩
theorem Cx.Ok.unwish{X:Cx}{E:Value->Shared->Prop}(ok:(X.wish E).Ok):X.Ok :=
 ⟨ok.mod,ok.kind,ok.glob,ok.blt,ok.above,ok.inj,ok.has,ok.cab,ok.hd,ok.frames,ok.stk,ok.exf,ok.bs,ok.bsz,ok.noex,ok.exfs,ok.funs,ok.frf⟩
section
variable{X:Cx}{Z6:List (Addr×Obj)}{σ:St}{H:Hp}{s:Shared}{E:Value->Shared->Prop}{st:Stmt}{rest:List Stmt}{t u:TS}{e:Expr}{te:TE}{pos:Pos}
theorem Inv.wish(I:Inv X Z6 σ H s)(E:Value->Shared->Prop):Inv (X.wish E) Z6 σ H s:=⟨I.ok.wish E,I.os,I.bare,I.base,I.loc,I.cell,I.free,I.freeC,I.pin,I.hok,I.len⟩
theorem Inv.unwish(I:Inv (X.wish E) Z6 σ H s):Inv X Z6 σ H s:=⟨I.ok.unwish,I.os,I.bare,I.base,I.loc,I.cell,I.free,I.freeC,I.pin,I.hok,I.len⟩
theorem SP.unwish{D:Ends}{f:Flow}{s':Shared}(h:SP (X.wish E) Z6 D f s'):SP X Z6 D f s':=by
 cases f with
 |next=>obtain⟨σ',H',I,q⟩:=h;exact⟨σ',H',I.unwish,q⟩
 |brk=>obtain⟨σ',H',I,q⟩:=h;exact⟨σ',H',I.unwish,q⟩
 |cont=>obtain⟨σ',H',I,q⟩:=h;exact⟨σ',H',I.unwish,q⟩
 |ret u=>obtain⟨v,σ',H',I,r,q⟩:=h;exact⟨v,σ',H',I.unwish,r,q⟩
theorem PSs.nox{st:List Stmt}{t:TS}(h:PSs X.nox st t):PSs X st t:=fun Z6 s σ H D I hw =>
 wpAny_mono (h Z6 s σ H D (I.wish _) hw) (fun _ _ q=>q.unwish) fun _ _ z=>False.elim z
def Zh:TS:=fun D σ H=>D.nx σ H
def Z8(t u:TS):TS:=fun D σ H=>t { D with nx:=u D } σ H
theorem Zk:PSs X [] Zh:=fun _ _ σ H _ I h=>wpAny_execs_nil ⟨σ,H,I,h⟩
theorem Z1(h1:PS X st t)(h2:PSs X rest u):PSs X (st::rest) (Z8 t u):=by
 intro Z6 s σ H D I h
 refine wpAny_execs_cons (W9 (h1 Z6 s σ H { D with nx:=u D } I h) fun f s1 q=>?_)
 cases f with
 |next =>
  obtain⟨σ',H',I',q⟩:=q
  exact h2 Z6 s1 σ' H' D I' q
 |ret v=>exact q
 |brk=>exact q
 |cont=>exact q
theorem Z5(h1:PS X st t):PSs X [st] t:=by
 intro Z6 s σ H D I h
 refine wpAny_execs_cons (W9 (h1 Z6 s σ H D I h) fun f s1 q=>?_)
 cases f with
 |next=>exact wpAny_execs_nil q
 |ret v=>exact q
 |brk=>exact q
 |cont=>exact q
theorem Inv.quiet{Z6:List (Addr×Obj)}{σ:St}{H:Hp}{s:Shared}(I:Inv X Z6 σ H s):interactive X.env=false:=by simp[interactive,I.ok.kind]
def Zke(te:TE):TS:=fun D σ H=>te σ H fun _ H1=>D.nx σ H1
theorem Zn(he:PE X e te)(hs:swapsWith e none pos.line X.env=pure false:=by rfl):PS X (.Expr e pos) (Zke te):=by
 intro Z6 s σ H D I h
 exact wpAny_Expr_any (W9 (he Z6 s σ H _ I h) fun v s1 ⟨x,H1,I1,r1,q1⟩=>⟨σ,H1,I1,q1⟩) I.quiet hs
def Z3q(te:TE):TS:=fun D σ H=>te σ H D.rt
theorem Zl(he:PE X e te):PS X (.Return (some e) pos) (Z3q te):=by
 intro Z6 s σ H D I h
 exact wpAny_Return_some (W9 (he Z6 s σ H _ I h) fun v s1 ⟨x,H1,I1,r1,q1⟩=>⟨x,σ,H1,I1,r1,q1⟩)
def Zkb:TS:=fun D _ H=>D.rt .non H
theorem Z9b:PS X (.Return none pos) Zkb:=fun _ _ σ H _ I h=>wpAny_Return_none ⟨.non,σ,H,I,rfl,h⟩
def Zo(c:TT)(t u:TS):TS:=fun D σ H=>c σ H fun b H1=>if b=true then t D σ H1 else u D σ H1
theorem Zs{c:Expr}{a b:List Stmt}{tc:TT}(hc:PT X c tc)(ha:PSs X a t)(hb:PSs X b u):PS X (.If c a b pos) (Zo tc t u):=by
 intro Z6 s σ H D I h
 refine wpAny_If (W9 (hc Z6 s σ H _ I h) fun d s1 ⟨H1,I1,q1⟩=>?_)
 cases d with
 |true=>exact ha Z6 s1 σ H1 D I1 q1
 |false=>exact hb Z6 s1 σ H1 D I1 q1
def Zha:TS:=fun _ _ _=>False
theorem Z6o:PS X st Zha:=fun _ _ _ _ _ _ h=>h.elim
end
abbrev TG:=V->St->Hp->(St->Hp->Prop)->Prop
abbrev Zk4:=List V->St->Hp->(St->Hp->Prop)->Prop
def PG(X:Cx)(target:Expr)(t:TG):Prop :=
 ∀(Z6:List (Addr×Obj)) (s:Shared) (σ:St) (H:Hp) (v:V) (u:Value) (Q:St->Hp->Prop),Inv X Z6 σ H s->RelV v u->t v σ H Q ->
  wpAny (model X.prog X.w) X.A (assign target X.env u) (fun _ s'=>∃σ' H',Inv X Z6 σ' H' s'/\Q σ' H') X.xe s
def Zlv(X:Cx)(ts:List Expr)(t:Zk4):Prop :=
 ∀(Z6:List (Addr×Obj)) (s:Shared) (σ:St) (H:Hp) (vs:List V) (us:List Value) (Q:St->Hp->Prop),Inv X Z6 σ H s->Vals vs us->t vs σ H Q ->
  wpAny (model X.prog X.w) X.A (assignInOrder ((assignEach ts X.env).map (·.2)) us) (fun _ s'=>∃σ' H',Inv X Z6 σ' H' s'/\Q σ' H') X.xe s
abbrev Zjr:=V->V->V->Hp->(Hp->Prop)->Prop
def Zlc(X:Cx)(t:Zjr):Prop :=
 ∀(Z6:List (Addr×Obj)) (s:Shared) (σ:St) (H:Hp) (o i v:V) (ov iv u:Value) (Q:Hp->Prop),Inv X Z6 σ H s->RelV o ov->RelV i iv->RelV v u->t o i v H Q ->
  wpAny (model X.prog X.w) X.A (setItem ov iv u) (fun _ s'=>∃H',Inv X Z6 σ H' s'/\Q H') X.xe s
abbrev Zlt:=V->V->Hp->VK->Prop
def Zn1(X:Cx)(op:Operator)(t:Zlt):Prop :=
 ∀(Z6:List (Addr×Obj)) (s:Shared) (σ:St) (H:Hp) (x y:V) (v u:Value) (Q:VK),Inv X Z6 σ H s->RelV x v->RelV y u->t x y H Q ->
  wpAny (model X.prog X.w) X.A (inplaceOp op v u) (EP X Z6 σ Q) X.xe s
section
variable{X:Cx}{pos:Pos}
def Z0t(i:Nat):TG:=fun v σ H Q=>Q (σ.set i (some v)) H
theorem Z9d{i:Nat}{x:Str}(hN:X.N.Nodup)(hi:X.N[i]? = some x)(hx:Zjw X.env.scope x)(hf:X.fn x=true∨X.env.scope.names.lookup x=some .local:=by first | exact .inl rfl | exact .inr rfl | assumption):PG X (.Name x pos) (Z0t i):=by
 intro Z6 s σ H v u Q I r h
 exact wpAny_assign_Name (Z2r I hN hi hx r (fun s' I'=>⟨_,H,I',h⟩) hf)
def Zmh:Zk4:=fun vs σ H Q=>vs=[]/\Q σ H
def Zky(t:TG)(u:Zk4):Zk4:=fun vs σ H Q=>∃v r,vs=v::r/\t v σ H fun σ' H'=>u r σ' H' Q
theorem Z9c:Zlv X [] Zmh:=by
 intro Z6 s σ H vs us Q I r h
 obtain⟨e,h⟩:=h
 subst e
 cases r
 exact assignInOrder_nil ⟨σ,H,I,h⟩
theorem Z0e{e:Expr}{es:List Expr}{t:TG}{u:Zk4}(h1:PG X e t)(h2:Zlv X es u)
  (hs:(assignEach (e::es) X.env).map (·.2)=assign e X.env::(assignEach es X.env).map (·.2):=by rfl):Zlv X (e::es) (Zky t u):=by
 intro Z6 s σ H vs us Q I r h
 obtain⟨v,vr,e1,h⟩:=h
 subst e1
 cases r with
 |cons r rr =>
  rw[hs]
  refine assignInOrder_cons (W9 (h1 Z6 s σ H _ _ _ I r h) fun _ s1 ⟨σ1,H1,I1,q1⟩=>?_)
  exact h2 Z6 s1 σ1 H1 _ _ Q I1 rr q1
def Zmf(K:W.Frag)(n:Nat)(t:Zk4):TG:=fun v σ H Q=>∃a xs,v=.ref a/\SqT K H a xs/\xs.length=n/\t xs σ H Q
theorem Zdl{es:List Expr}{k:Nat}{t:Zk4}{n:Nat}(hc:X.calm=true)(h:Zlv X es t)
  (hn:(assignEach es X.env).length=n:=by rfl) (hst:(assignEach es X.env).findIdx? (·.1)=none:=by rfl):PG X (.Tuple es k pos) (Zmf X.K n t):=by
 intro Z6 s σ H v u Q I r hw
 obtain⟨a,xs,e1,hq,hl,hw⟩:=hw
 subst e1
 cases r
 obtain⟨its,rv,ht,hz⟩:=I.tuple hq
 refine assign_Tuple_tuple (I.ok.hd hc) ht (by simp[hn,← hl,rv.length]) hst fun h' hx=>?_
 have I1:Inv X Z6 σ H { s with heap:=h' }:=I.kept (t':=s.toks) fun b o e=>hx b o (Nat.ne_of_lt (Heap.lt_size e)) e
 exact h Z6 _ σ H xs _ Q I1 (by simpa using rv) hw
def Zmg(to ti:TE)(t:Zjr):TG:=fun v σ H Q=>to σ H fun o H1=>ti σ H1 fun i H2=>t o i v H2 fun H3=>Q σ H3
theorem U2{o i:Expr}{to ti:TE}{t:Zjr}(ho:PE X o to)(hi:PE X i ti)(hs:Zlc X t)
  (ha:∀v,assign (.Subscript o i pos) X.env v=(do
   let ov ← holding [v] (eval o X.env)
   let iv ← holding [v,ov] (eval i X.env)
   standAt pos
   holding [v,ov,iv] (setItem ov iv v)
   release [v,ov,iv] []):=by intro _;rfl):PG X (.Subscript o i pos) (Zmg to ti t):=by
 intro Z6 s σ H v u Q I r h
 rw[ha]
 refine wpAny_bind (wpAny_holding (W9 (ho Z6 s σ H _ I h) fun ov s1 ⟨x,H1,I1,r1,q1⟩=>?_))
 refine wpAny_bind (wpAny_holding (W9 (hi Z6 s1 σ H1 _ I1 q1) fun iv s2 ⟨y,H2,I2,r2,q2⟩=>?_))
 refine wpAny_bind (wpAny_standAt (wpAny_bind (wpAny_holding (W9 (hs Z6 s2 σ H2 x y v ov iv u _ I2 r1 r2 r q2) fun _ s3 ⟨H3,I3,q3⟩=>?_))))
 exact wpAny_release ⟨σ,H3,I3,q3⟩
def Z8i(te:TE)(g:TG):TS:=fun D σ H=>te σ H fun x H1=>g x σ H1 D.nx
theorem U1{tg e:Expr}{te:TE}{g:TG}(he:PE X e te)(hg:PG X tg g)(hs:swapsWithSole [tg] e pos.line X.env=pure false:=by rfl)(hw:swappedStores [tg] e X.env=pure none:=by rfl)
  (h1:(assignEach [tg] X.env).map (·.2)=[assign tg X.env]:=by rfl):PS X (.Assign [tg] e pos) (Z8i te g):=by
 intro Z6 s σ H D I h
 refine wpAny_Assign_stores (W9 (he Z6 s σ H _ I h) fun v s1 ⟨x,H1,I1,r1,q1⟩=>?_) hs hw
 rw[h1]
 exact W9 (hg Z6 s1 σ H1 x v _ I1 r1 q1) fun _ s2 q=>q
theorem Zig{i:Nat}{x:Str}{e:Expr}{te:TE}{pos':Pos}(hN:X.N.Nodup)(hi:X.N[i]? = some x)(hx:Zjw X.env.scope x)(he:PE X e te)(hs:swapsWith e (some (.Name x pos')) pos.line X.env=pure false:=by rfl)(hf:X.fn x=true∨X.env.scope.names.lookup x=some .local:=by first | exact .inl rfl | exact .inr rfl | assumption) :
  PS X (.Assign [.Name x pos'] e pos) (Z8i te (Z0t i)):=by
 intro Z6 s σ H D I h
 refine wpAny_Assign_Name (W9 (he Z6 s σ H _ I h) fun v s1 ⟨y,H1,I1,r1,q1⟩=>?_) hs
 exact Z2r I1 hN hi hx r1 (fun s2 I2=>⟨_,H1,I2,q1⟩) hf
def Zm4(i:Nat)(te:TE)(ti:Zlt):TS:=fun D σ H=>∃x,σ[i]? = some (some x)/\te σ H fun y H1=>ti x y H1 fun z H2=>D.nx (σ.set i (some z)) H2
theorem Zdk{i:Nat}{x:Str}{e:Expr}{te:TE}{op:Operator}{ti:Zlt}{pos':Pos}(hN:X.N.Nodup)(hi:X.N[i]? = some x)(hx:Zjw X.env.scope x)(he:PE X e te)(ho:Zn1 X op ti)(hf:X.fn x=true∨X.env.scope.names.lookup x=some .local:=by first | exact .inl rfl | exact .inr rfl | assumption) :
  PS X (.AugAssign (.Name x pos') op e pos) (Zm4 i te ti):=by
 intro Z6 s σ H D I h
 obtain⟨v,e1,h⟩:=h
 obtain⟨m,hn,hl⟩:=I.loc
 have vis:Zls X.env.scope x:=by rcases hx with k | k;exact .inl k;exact .inr (.inl k)
 obtain⟨u,r,l⟩:=hl i x v hi e1 vis
 refine wpAny_AugAssign_Name ?_
 have go:wpAny (model X.prog X.w) X.A (eval e X.env) (fun w s₂=>wpAny (model X.prog X.w) X.A (inplaceOp op u w) (fun r s₃=>wpAny (model X.prog X.w) X.A (storeName X.env x r) (fun _=>SP X Z6 D .next) X.xe s₃) X.xe s₂) X.xe s:=by
  refine W9 (he Z6 s σ H _ I h) fun w s1 ⟨y,H1,I1,r1,q1⟩=>?_
  refine W9 (ho Z6 s1 σ H1 v y u w _ I1 r r1 q1) fun z s2 ⟨zv,H2,I2,r2,q2⟩=>?_
  exact Z2r I2 hN hi hx r2 (fun s3 I3=>⟨_,H2,I3,q2⟩) hf
 rcases l with⟨hk,hm⟩ | ⟨hk,c,hc,hcell⟩
 ·exact wpAny_loadName_local I.ok.kind hk hn hm go
 ·rcases hk with hk | hk
  ·exact wpAny_loadName_cell I.ok.kind hk hc hcell go
  ·rcases hx with k | k
   ·have:X.env.scope.names.lookup x=some .free:=hk
    rw[k]at this;cases this
   ·have:X.env.scope.names.lookup x=some .free:=hk
    rw[k]at this;cases this
def Zna(f:Int->Int->Int):Zlt:=fun x y H Q=>∃i j,x=.int i/\y=.int j/\Q (.int (f i j)) H
theorem Ze0:Zn1 X .Add (Zna fun i j=>i+j):=by
 intro Z6 s σ H x y v u Q I r1 r2 h
 obtain⟨i,j,e1,e2,q⟩:=h
 subst e1;subst e2
 obtain⟨t,rfl⟩:=r1
 obtain⟨t',rfl⟩:=r2
 exact iadd_int ⟨.int _,H,I.tok _,⟨_,rfl⟩,q⟩
def Wm(c:TT)(tb:TS):TS:=fun D σ H=>∃W:Nat->St->Hp->Prop,(∃m,W m σ H)/\∀m σ H,W m σ H ->
 c σ H fun b H1=>if b=true then ∃N:St->Hp->Prop,(∀σ' H',N σ' H'->∃m',m'<m/\W m' σ' H')/\tb { D with nx:=N,ct:=N,bk:=D.nx } σ H1 else D.nx σ H1
theorem Ur{c:Expr}{body:List Stmt}{tc:TT}{tb:TS}(hp:PassesOwn (model X.prog X.w) X.A X.env X.xe)(hc:PT X c tc)(hb:PSs X body tb):PS X (.While c body [] pos) (Wm tc tb):=by
 intro Z6 s σ H D I h
 obtain⟨W,⟨m0,w0⟩,turn⟩:=h
 refine wpAny_While (codeAny_whileLoop (fun n s'=>∃σ' H',Inv X Z6 σ' H' s'/\W n σ' H') ?_ m0 ⟨σ,H,I,w0⟩)
 rintro n s1 ⟨σ1,H1,I1,w1⟩
 refine wpAny_passesOwn hp (W9 (hc Z6 s1 σ1 H1 _ I1 (turn n σ1 H1 w1)) fun b s2 ⟨H2,I2,q2⟩=>?_)
 cases b with
 |true =>
  obtain⟨N,hN,q2⟩:=q2
  rw[if_pos rfl]
  refine wpAny_passesOwn hp (W9 (hb Z6 s2 σ1 H2 _ I2 q2) fun f s3 q3=>?_)
  cases f with
  |next =>
   obtain⟨σ3,H3,I3,n3⟩:=q3
   obtain⟨m',hm,w3⟩:=hN σ3 H3 n3
   exact⟨m',hm,σ3,H3,I3,w3⟩
  |cont =>
   obtain⟨σ3,H3,I3,n3⟩:=q3
   obtain⟨m',hm,w3⟩:=hN σ3 H3 n3
   exact⟨m',hm,σ3,H3,I3,w3⟩
  |brk=>exact q3
  |ret v=>exact q3
 |false =>
  rw[if_neg Bool.false_ne_true]
  exact wpAny_execs_nil ⟨σ1,H2,I2,q2⟩
end
structure It where
 go:Nat->Hp->Prop
 yld:Nat->Hp->V->Hp->Prop
 stop:Nat->Hp->Prop
def Z1u(X:Cx)(Z6:List (Addr×Obj))(H:Hp)(b:Addr):Prop :=
 H b=none/\b≠X.env.locals/\b∉X.fs/\(b∈X.ex∨X.s₀.heap.objs.size<=b)/\(∀x c,X.env.cells.lookup x=some c->c≠b)/\∀p∈X.pn++Z6,p.1≠b
theorem Inv.fpOk{X:Cx}{Z6:List (Addr×Obj)}{σ:St}{H H':Hp}{s:Shared}{b:Addr}(I:Inv X Z6 σ H s)(hb:s.heap.objs.size<=b)(hn:H' b=none):Z1u X Z6 H' b:=by
 refine⟨hn,Nat.ne_of_gt (Nat.lt_of_lt_of_le I.lt hb),I.nofs hb,.inr (Nat.le_trans I.sz hb),fun x c e z=>?_,fun p hp z=>?_⟩
 ·obtain⟨v,q⟩:=I.cell x c e
  exact absurd (Nat.lt_of_lt_of_le q.lt (by rw[z];exact hb)) (Nat.lt_irrefl _)
 ·exact absurd (Nat.lt_of_lt_of_le (Heap.lt_size (I.pin p hp).1) (by rw[z];exact hb)) (Nat.lt_irrefl _)
structure Turn(P:Program)(w:World)(K:W.Frag)(tg:Expr)(J:It)(fp:List Addr)(it:Addr)(tn:Nat->Heap->Prop):Prop where
 mem:it∈fp
 obj:∀i h,tn i h->∀b∈fp,∃o,h.get? b=some o/\∀v,o.data≠.cell v
 keep:∀i h h',tn i h->(∀b∈fp,∀o,h.get? b=some o->h'.get? b=some o)->tn i h'
 item:∀(X:Cx),X.prog=P->X.w=w->X.K=K->X.calm=true->∀(i:Nat) (Z6:List (Addr×Obj)) (s:Shared) (σ:St) (H:Hp) (E:Value->Shared->Prop),Inv X Z6 σ H s->(∀b∈fp,Z1u X Z6 H b)->tn i s.heap->J.go i H ->
  wpAny (model P w) X.A (pyNext (.ref it)) (fun r s1=>∃u,r=some u /\
   wpAny (model P w) X.A (letOwnedTupleGo tg (.ref it) u) (fun _ s2=>∃x H',Inv X Z6 σ H' s2/\RelV x u/\J.yld i H x H'/\tn (i+1) s2.heap/\∀b∈fp,H' b=none) E s1) E s
 done:∀(X:Cx),X.prog=P->X.w=w->X.K=K->X.calm=true->∀(i:Nat) (Z6:List (Addr×Obj)) (s:Shared) (σ:St) (H:Hp) (E:Value->Shared->Prop),Inv X Z6 σ H s->(∀b∈fp,Z1u X Z6 H b)->tn i s.heap->J.stop i H ->
  wpAny (model P w) X.A (pyNext (.ref it)) (fun r s1=>r=none/\Inv X Z6 σ H s1) E s
 self:∀(A:Around) (i:Nat) (s:Shared) (Q:Value->Shared->Prop) (E:Value->Shared->Prop),tn i s.heap->Q (.ref it) s->wpAny (model P w) A (pyIter (.ref it)) Q E s
abbrev TI:=St->Hp->(It->Hp->Prop)->Prop
def Zn2(X:Cx)(Z6:List (Addr×Obj))(σ:St)(tg:Expr)(R:It->Hp->Prop)(itv:Value)(s2:Shared):Prop :=
 ∃(it:Addr) (fp:List Addr) (tn:Nat->Heap->Prop) (J:It) (H':Hp),itv=.ref it/\Inv X Z6 σ H' s2/\Turn X.prog X.w X.K tg J fp it tn/\tn 0 s2.heap/\(∀b∈fp,Z1u X Z6 H' b)/\R J H'
def PI(X:Cx)(tg iter:Expr)(wi:TI):Prop :=
 ∀(Z6:List (Addr×Obj)) (s:Shared) (σ:St) (H:Hp) (R:It->Hp->Prop),Inv X Z6 σ H s->wi σ H R ->
  wpAny (model X.prog X.w) X.A (eval iter X.env) (fun v s1=>wpAny (model X.prog X.w) X.A (pyIter v) (Zn2 X Z6 σ tg R) X.xe s1) X.xe s
theorem Zej {M : Model} {A : Around} {E : Value → Shared → Prop} {s : Shared} {tg : Expr} {it : Addr} {u : Value} {o : Obj} {n : String} {vs : Array Value} {Q : Unit → Shared → Prop} (ho : s.heap.get? it = some o) (hc : o.cls = .type n) (hd : o.data = .fields vs)
    (hn : ["enumerate", "zip", "dict_itemiterator", "dict_reverseitemiterator", "odict_iterator", "itertools.zip_longest", "itertools.pairwise"].contains n = false) (hQ : Q () s) : wpAny M A (letOwnedTupleGo tg (.ref it) u) Q E s := by
  unfold letOwnedTupleGo
  cases tg <;> first
    | exact wpAny_pure hQ
    | (cases u <;> first
        | exact wpAny_pure hQ
        | (refine wpAny_bind (wpAny_load ho ?_)
           rw [hc, hd]
           show wpAny M A (if (["enumerate", "zip", "dict_itemiterator", "dict_reverseitemiterator", "odict_iterator", "itertools.zip_longest", "itertools.pairwise"].contains n && vs[0]? == some (rawInt _)) = true then _ else _) Q E s
           rw [if_neg (by intro h; rw [hn, Bool.false_and] at h; cases h)]
           exact wpAny_pure hQ))
def Zk7(K:W.Frag)(a:Addr):It :=
 ⟨fun i H=>∃xs x,SqL K H a xs/\xs[i]? = some x,fun i H x H'=>H'=H/\∀xs,SqL K H a xs->xs[i]? = some x,fun i H=>∃xs,SqL K H a xs/\xs.length<=i⟩
def Zk6(K:W.Frag)(a:Addr):It :=
 ⟨fun i H=>∃xs x,SqT K H a xs/\xs[i]? = some x,fun i H x H'=>H'=H/\∀xs,SqT K H a xs->xs[i]? = some x,fun i H=>∃xs,SqT K H a xs/\xs.length<=i⟩
def Zjy(lo:Int)(n:Nat):It:=⟨fun i _=>i<n,fun i H x H'=>H'=H/\x=.int (lo+i),fun i _=>n<=i⟩
theorem Zam{P:Program}{w:World}{K:W.Frag}{tg:Expr}(a it:Addr):Turn P w K tg (Zk7 K a) [it] it (fun i h=>h.IsListIter it a i) where
 mem:=by simp
 obj:=fun i h st b hb=>by
  have e:b=it:=by simpa using hb
  subst e
  obtain⟨o,e,c,d⟩:=st
  exact⟨o,e,fun v z=>by rw[d]at z;cases z⟩
 keep:=fun i h h' st k=>st.at fun o e=>k it (by simp) o e
 item:=by
  intro X hP hw hK hc i Z6 s σ H E I hf st hg
  subst hP hw hK
  obtain⟨xs,x,hq,hx⟩:=hg
  obtain⟨its,rv,p,hz⟩:=I.list hq
  obtain⟨u,hu,ru⟩:=rv.get hx
  obtain⟨f0,f1,f2,f3,f4,f5⟩:=hf it (by simp)
  refine wpAny_pyNext_list_item st p.isList (x:=u) (by simpa using hu) fun h' st' sb=>?_
  have I1:Inv X Z6 σ H { s with heap:=h' }:=I.turned (t':=s.toks) (fun b o hb e=>(sb.2 b hb).trans e) f0 f1 f3 f4 f5
  obtain⟨o,e,c,d⟩:=id st'
  exact⟨u,rfl,Zej (s:={ s with heap:=h' }) e c d (by decide) ⟨x,H,I1,ru,⟨rfl,fun ys hy=>by rw[I.list_inj hy hq];exact hx⟩,st',fun b hb=>(hf b hb).1⟩⟩
 done:=by
  intro X hP hw hK hc i Z6 s σ H E I hf st hg
  subst hP hw hK
  obtain⟨xs,hq,hx⟩:=hg
  obtain⟨its,rv,p,hz⟩:=I.list hq
  obtain⟨f0,f1,f2,f3,f4,f5⟩:=hf it (by simp)
  have hl:=rv.length
  exact wpAny_pyNext_list_end (I.ok.hd hc) st p.isList (by simp;omega) fun h' eb=>⟨rfl,I.turned (t':=s.toks) (fun b o hb e=>eb b o hb e) f0 f1 f3 f4 f5⟩
 self:=fun _ _ _ _ _ st h=>wpAny_pyIter_listiter st h
theorem Z7m{P:Program}{w:World}{K:W.Frag}{tg:Expr}(a it:Addr):Turn P w K tg (Zk6 K a) [it] it (fun i h=>h.IsTupleIter it a i) where
 mem:=by simp
 obj:=fun i h st b hb=>by
  have e:b=it:=by simpa using hb
  subst e
  obtain⟨o,e,c,d⟩:=st
  exact⟨o,e,fun v z=>by rw[d]at z;cases z⟩
 keep:=fun i h h' st k=>st.at fun o e=>k it (by simp) o e
 item:=by
  intro X hP hw hK hc i Z6 s σ H E I hf st hg
  subst hP hw hK
  obtain⟨xs,x,hq,hx⟩:=hg
  obtain⟨its,rv,p,hz⟩:=I.tuple hq
  obtain⟨u,hu,ru⟩:=rv.get hx
  obtain⟨f0,f1,f2,f3,f4,f5⟩:=hf it (by simp)
  refine wpAny_pyNext_tuple_item st (show s.heap.IsTuple a its.toArray from p) (x:=u) (by simpa using hu) fun h' st' sb=>?_
  have I1:Inv X Z6 σ H { s with heap:=h' }:=I.turned (t':=s.toks) (fun b o hb e=>(sb.2 b hb).trans e) f0 f1 f3 f4 f5
  obtain⟨o,e,c,d⟩:=id st'
  exact⟨u,rfl,Zej (s:={ s with heap:=h' }) e c d (by decide) ⟨x,H,I1,ru,⟨rfl,fun ys hy=>by rw[I.tuple_inj hy hq];exact hx⟩,st',fun b hb=>(hf b hb).1⟩⟩
 done:=by
  intro X hP hw hK hc i Z6 s σ H E I hf st hg
  subst hP hw hK
  obtain⟨xs,hq,hx⟩:=hg
  obtain⟨its,rv,p,hz⟩:=I.tuple hq
  obtain⟨f0,f1,f2,f3,f4,f5⟩:=hf it (by simp)
  have hl:=rv.length
  exact wpAny_pyNext_tuple_end (I.ok.hd hc) st (show s.heap.IsTuple a its.toArray from p) (by simp;omega) fun h' eb=>⟨rfl,I.turned (t':=s.toks) (fun b o hb e=>eb b o hb e) f0 f1 f3 f4 f5⟩
 self:=fun _ _ _ _ _ st h=>wpAny_pyIter_tupleiter st h
theorem Z7n{P:Program}{w:World}{K:W.Frag}{tg:Expr}(it:Addr)(lo:Int)(n:Nat):Turn P w K tg (Zjy lo n) [it] it (fun i h=>IsRangeIter h it (lo+(i:Nat)*1) ((n:Int)-(i:Nat)) 1) where
 mem:=by simp
 obj:=fun i h st b hb=>by
  have e:b=it:=by simpa using hb
  subst e
  exact⟨_,st,fun v z=>by
   have z':Data.fields _=Data.cell v:=z
   cases z'⟩
 keep:=fun i h h' st k=>k it (by simp) _ st
 item:=by
  intro X hP hw hK hc i Z6 s σ H E I hf st hg
  subst hP hw hK
  obtain⟨f0,f1,f2,f3,f4,f5⟩:=hf it (by simp)
  have W:=Walks.range (prog:=X.prog) (w:=X.w) (I.ok.hd hc) it lo 1 n
  refine W.item i s _ _ hg st fun v h' tk hv st' kk=>?_
  obtain⟨t,rfl⟩:=hv
  have I1:Inv X Z6 σ H { s with heap:=h',toks:=tk }:=I.turned (fun b o hb e=>kk b o (by simpa using hb) e) f0 f1 f3 f4 f5
  refine⟨_,rfl,Zej (s:={ s with heap:=h',toks:=tk }) (n:="range_iterator") st' rfl rfl (by decide) ⟨.int (lo+i),H,I1,⟨t,?_⟩,⟨rfl,rfl⟩,st',fun b hb=>(hf b hb).1⟩⟩
  rw[Int.mul_one]
 done:=by
  intro X hP hw hK hc i Z6 s σ H E I hf st hg
  subst hP hw hK
  obtain⟨f0,f1,f2,f3,f4,f5⟩:=hf it (by simp)
  exact wpAny_pyNext_range_end (I.ok.hd hc) st (by have:n<=i:=hg;omega) fun h' eb=>⟨rfl,I.turned (t':=s.toks) (fun b o hb e=>eb b o hb e) f0 f1 f3 f4 f5⟩
 self:=fun _ _ _ _ _ st h=>wpAny_pyIter_rangeiter st h
section
variable{X:Cx}{tg:Expr}
def Zkx(K:W.Frag)(tl:TE):TI:=fun σ H R=>tl σ H fun x H1=>∃a,x=.ref a/\(∃xs,SqL K H1 a xs)/\R (Zk7 K a) H1
def Zme(K:W.Frag)(tl:TE):TI:=fun σ H R=>tl σ H fun x H1=>∃a,x=.ref a/\(∃xs,SqT K H1 a xs)/\R (Zk6 K a) H1
theorem Vn{l:Expr}{tl:TE}(hl:PE X l tl):PI X tg l (Zkx X.K tl):=by
 intro Z6 s σ H R I h
 refine W9 (hl Z6 s σ H _ I h) fun v s1 ⟨x,H1,I1,r1,q1⟩=>?_
 obtain⟨a,e,⟨xs,hq⟩,q⟩:=q1
 subst e
 cases r1
 obtain⟨its,rv,p,hz⟩:=I1.list hq
 refine wpAny_pyIter_list p.isList ?_
 refine⟨s1.heap.objs.size,[s1.heap.objs.size],_,_,H1,rfl,I1.kept (t':=s1.toks) fun b o e=>Heap.get?_push_of_some _ e,Zam a _,⟨_,Heap.get?_push_size _ rfl,rfl,rfl⟩,fun b hb=>?_,q⟩
 have e:b=s1.heap.objs.size:=by simpa using hb
 subst e
 exact I1.fpOk (Nat.le_refl _) (I1.hok.fresh (Nat.le_refl _))
theorem Jh{l:Expr}{tl:TE}(hl:PE X l tl):PI X tg l (Zme X.K tl):=by
 intro Z6 s σ H R I h
 refine W9 (hl Z6 s σ H _ I h) fun v s1 ⟨x,H1,I1,r1,q1⟩=>?_
 obtain⟨a,e,⟨xs,hq⟩,q⟩:=q1
 subst e
 cases r1
 obtain⟨its,rv,p,hz⟩:=I1.tuple hq
 refine wpAny_pyIter_tuple (show s1.heap.IsTuple a its.toArray from p) ?_
 refine⟨s1.heap.objs.size,[s1.heap.objs.size],_,_,H1,rfl,I1.kept (t':=s1.toks) fun b o e=>Heap.get?_push_of_some _ e,Z7m a _,⟨_,Heap.get?_push_size _ rfl,rfl,rfl⟩,fun b hb=>?_,q⟩
 have e:b=s1.heap.objs.size:=by simpa using hb
 subst e
 exact I1.fpOk (Nat.le_refl _) (I1.hok.fresh (Nat.le_refl _))
theorem Z6l{Z6:List (Addr×Obj)}{σ:St}{H:Hp}{s:Shared}{R:It->Hp->Prop}{E:Value->Shared->Prop}{lo hi:Int}{t u v:Tok}{tk:Nat}(I:Inv X Z6 σ H s)(h1:-(2 ^ 62)<=lo)(h2:lo<2 ^ 62)(h3:-(2 ^ 62)<=hi)(h4:hi<2 ^ 62)
  (q:R (Zjy lo (hi-lo).toNat) H):wpAny (model X.prog X.w) X.A (pyIter (.ref s.heap.objs.size)) (Zn2 X Z6 σ tg R) E { s with heap:=s.heap.push { cls:=.type "range",data:=.fields #[.int lo t,.int hi u,.int 1 v] },toks:=tk }:=by
 refine wpAny_pyIter_range (IsRange.new ..) (small_one h1 h2 h3 h4) ?_
 have I1:Inv X Z6 σ H { s with heap:=s.heap.push { cls:=.type "range",data:=.fields #[.int lo t,.int hi u,.int 1 v] },toks:=tk }:=I.kept fun b o e=>Heap.get?_push_of_some _ e
 refine⟨(s.heap.push { cls:=.type "range",data:=.fields #[.int lo t,.int hi u,.int 1 v] }).objs.size,[(s.heap.push { cls:=.type "range",data:=.fields #[.int lo t,.int hi u,.int 1 v] }).objs.size],_,_,H,rfl,
  I1.kept (t':=tk) fun b o e=>Heap.get?_push_of_some _ e,Z7n _ lo (hi-lo).toNat,?_,fun b hb=>?_,q⟩
 ·have e1:lo+((0:Nat):Int)*1=lo:=by simp
  have e2:(((hi-lo).toNat:Nat):Int)-((0:Nat):Int)=Builtin.Range.rangeSize lo hi 1:=by rw[rangeSize_one];split <;> omega
  show IsRangeIter _ _ (lo+((0:Nat):Int)*1) ((((hi-lo).toNat:Nat):Int)-((0:Nat):Int)) 1
  rw[e1,e2]
  exact Heap.get?_push_size _ rfl
 ·have e:b=(s.heap.push { cls:=.type "range",data:=.fields #[.int lo t,.int hi u,.int 1 v] }).objs.size:=by simpa using hb
  subst e
  exact I1.fpOk (Nat.le_refl _) (I1.hok.fresh (Nat.le_refl _))
def Zkw(ta:TA):TI:=fun σ H R=>ta σ H fun vs H1=>∃j:Int,vs=[.int j]/\-(2 ^ 62)<=j/\j<2 ^ 62/\R (Zjy 0 j.toNat) H1
def Zkv(ta:TA):TI:=fun σ H R=>ta σ H fun vs H1=>∃i j:Int,vs=[.int i,.int j]/\(-(2 ^ 62)<=i/\i<2 ^ 62/\-(2 ^ 62)<=j/\j<2 ^ 62)/\R (Zjy i (j-i).toNat) H1
theorem Wu{a:Expr}{ta:TA}{p pos:Pos}(hg:Gl X "range")(hm:X.mg "range" = none)(ha:PA X [a] ta)(hs:starEach [a] X.env=[(false,eval a X.env)]:=by rfl):PI X tg (.Call (.Name "range" p) [a] [] pos) (Zkw ta):=by
 intro Z6 s σ H R I h
 refine Call_ (Z00 I hg hm boot_range (PyProof.Rows.callWith_type1 (W9 (ha pos Z6 s σ H _ I h) fun us s1 ⟨vs,H1,I1,r1,q1⟩=>?_) hs rfl))
 obtain⟨j,e,q1,q2,q⟩:=q1
 subst e
 cases r1 with
 |cons r rr =>
  cases rr
  obtain⟨t,rfl⟩:=r
  exact call_range_1 (Z6l I1 (by omega) (by omega) q1 q2 (by simpa using q))
theorem Z42{a b:Expr}{ta:TA}{p pos:Pos}(hg:Gl X "range")(hm:X.mg "range" = none)(ha:PA X [a,b] ta)(hs:starEach [a,b] X.env=[(false,eval a X.env),(false,eval b X.env)]:=by rfl)(hs2:starEach [b] X.env=[(false,eval b X.env)]:=by rfl) :
  PI X tg (.Call (.Name "range" p) [a,b] [] pos) (Zkv ta):=by
 intro Z6 s σ H R I h
 refine Call_ (Z00 I hg hm boot_range (PyProof.Rows.callWith_type1 (W9 (ha pos Z6 s σ H _ I h) fun us s1 ⟨vs,H1,I1,r1,q1⟩=>?_) (by rw[hs,hs2]) (by rw[hs2];rfl)))
 obtain⟨i,j,e,⟨q1,q2,q3,q4⟩,q⟩:=q1
 subst e
 cases r1 with
 |cons r rr =>
  cases rr with
  |cons r' rr =>
   cases rr
   obtain⟨t,rfl⟩:=r
   obtain⟨t',rfl⟩:=r'
   exact call_range_2 (Z6l I1 q1 q2 q3 q4 q)
def Wi(wi:TI)(g:TG)(tb:TS):TS:=fun D σ H=>wi σ H fun J H1=>∃W:Nat->Nat->St->Hp->Prop,(∃m,W 0 m σ H1)/\∀i m σ H,W i m σ H ->
 (J.stop i H/\D.nx σ H)∨(J.go i H/\∃N:St->Hp->Prop,(∀σ' H',N σ' H'->∃m',m'<m/\W (i+1) m' σ' H')/\∀x H',J.yld i H x H'->g x σ H' fun σ2 H2=>tb { D with nx:=N,ct:=N,bk:=D.nx } σ2 H2)
def Z1f(fp:List Addr)(h:Heap):List (Addr×Obj):=fp.filterMap fun b=>(h.get? b).map fun o=>(b,o)
theorem T6{fp:List Addr}{h:Heap}{b:Addr}{o:Obj}(hb:b∈fp)(e:h.get? b=some o):(b,o)∈Z1f fp h:=List.mem_filterMap.mpr ⟨b,hb,by rw[e];rfl⟩
theorem Zb6{fp:List Addr}{h:Heap}{p:Addr×Obj}(hp:p∈Z1f fp h):p.1∈fp/\h.get? p.1=some p.2:=by
 obtain⟨b,hb,e⟩:=List.mem_filterMap.mp hp
 cases q:h.get? b with
 |none=>rw[q]at e;cases e
 |some o =>
  rw[q]at e
  have e':(b,o)=p:=Option.some.inj e
  subst e'
  exact⟨hb,q⟩
theorem Inv.pinned{Z6:List (Addr×Obj)}{σ:St}{H:Hp}{s:Shared}{fp:List Addr}(I:Inv X Z6 σ H s)(hf:∀b∈fp,Z1u X Z6 H b)(ho:∀b∈fp,∃o,s.heap.get? b=some o/\∀v,o.data≠.cell v):Inv X (Z6++Z1f fp s.heap) σ H s :=
 I.pins_of fun p hp=>(List.mem_append.mp hp).elim (fun z=>I.pin p (List.mem_append_right _ z)) fun z=>by
  obtain⟨hb,e⟩:=Zb6 z
  obtain⟨f0,f1,f2,_⟩:=hf p.1 hb
  obtain⟨o,e',d⟩:=ho p.1 hb
  rw[e]at e';cases e'
  exact⟨e,f0,f1,f2,d⟩
theorem Inv.unpinned{Z6 pl:List (Addr×Obj)}{σ:St}{H:Hp}{s:Shared}(I:Inv X (Z6++pl) σ H s):Inv X Z6 σ H s:=I.pins_of fun p hp=>I.pin p (List.mem_append_right _ (List.mem_append_left _ hp))
theorem Xr{iter:Expr}{body:List Stmt}{wi:TI}{g:TG}{tb:TS}{pos:Pos}(hp:PassesOwn (model X.prog X.w) X.A X.env X.xe)(hc:X.calm=true)(hi:PI X tg iter wi)(hg:PG X tg g)(hb:PSs X body tb)
  (hs:∀x,foldedSetIterable iter X.env x=pure x:=by intro _;rfl):PS X (.For tg iter body [] pos) (Wi wi g tb):=by
 intro Z6 s σ H D I h
 refine wpAny_For (W9 (hi Z6 s σ H _ I h) fun v s1 h1=>W9 h1 fun itv s2 h2=>?_) hs
 obtain⟨it,fp,tn,J,H2,e,I2,T,st2,f2,W,⟨m0,w0⟩,turn⟩:=h2
 subst e
 have stat:∀ {H':Hp},(∀b∈fp,H' b=none)->∀b∈fp,Z1u X Z6 H' b:=fun hn b hb=>⟨hn b hb,(f2 b hb).2⟩
 refine codeAny_forLoop_any (fun n s'=>∃i σ' H',Inv X Z6 σ' H' s'/\tn i s'.heap/\(∀b∈fp,H' b=none)/\W i n σ' H') ?_ m0 ⟨0,σ,H2,I2,st2,fun b hb=>(f2 b hb).1,w0⟩
 rintro n s3 ⟨i,σ3,H3,I3,st3,fr3,w3⟩
 rcases turn i n σ3 H3 w3 with⟨stop,qn⟩ | ⟨go,N,hN,step⟩
 ·refine wpAny_passesOwn hp (W9 (T.done X rfl rfl rfl hc i Z6 s3 σ3 H3 X.xe I3 (stat fr3) st3 stop) fun r s4 ⟨hr,I4⟩=>?_)
  subst hr
  exact wpAny_execs_nil ⟨σ3,H3,I4,qn⟩
 ·refine wpAny_passesOwn hp (W9 (T.item X rfl rfl rfl hc i Z6 s3 σ3 H3 X.xe I3 (stat fr3) st3 go) fun r s4 ⟨u,hr,h4⟩=>?_)
  subst hr
  refine wpAny_passesOwn hp (W9 h4 fun _ s5 ⟨x,H5,I5,r5,y5,st5,fr5⟩=>?_)
  have I5':=I5.pinned (stat fr5) (T.obj _ _ st5)
  refine wpAny_passesOwn hp (W9 (hg _ s5 σ3 H5 x u _ I5' r5 (step x H5 y5)) fun _ s6 ⟨σ6,H6,I6,q6⟩=>?_)
  refine wpAny_passesOwn hp (W9 (hb _ s6 σ6 H6 _ I6 q6) fun f s7 q7=>?_)
  have again:∀ {σ7:St} {H7:Hp},Inv X (Z6++Z1f fp s5.heap) σ7 H7 s7->N σ7 H7->∃m,m<n/\∃i σ' H',Inv X Z6 σ' H' s7/\tn i s7.heap/\(∀b∈fp,H' b=none)/\W i m σ' H':=fun{σ7 H7} I7 n7=>by
   obtain⟨m',hm,w7⟩:=hN σ7 H7 n7
   refine⟨m',hm,i+1,σ7,H7,I7.unpinned,T.keep _ _ _ st5 fun b hb o e=>(I7.pin (b,o) (List.mem_append_right _ (List.mem_append_right _ (T6 hb e)))).1,fun b hb=>?_,w7⟩
   obtain⟨o,e,d⟩:=T.obj _ _ st5 b hb
   exact(I7.pin (b,o) (List.mem_append_right _ (List.mem_append_right _ (T6 hb e)))).2.1
  cases f with
  |next=>obtain⟨σ7,H7,I7,n7⟩:=q7;exact again I7 n7
  |cont=>obtain⟨σ7,H7,I7,n7⟩:=q7;exact again I7 n7
  |brk=>obtain⟨σ7,H7,I7,q7⟩:=q7;exact⟨σ7,H7,I7.unpinned,q7⟩
  |ret v=>obtain⟨x7,σ7,H7,I7,r7,q7⟩:=q7;exact⟨x7,σ7,H7,I7.unpinned,r7,q7⟩
end
theorem J0{K:W.Frag}{a:Addr}{xs:List V}{g:TG}{tb:TS}{D:Ends}{σ:St}{H:Hp}(Pv:Nat->St->Hp->Prop)(h0:Pv 0 σ H)(hl:∀i σ H,i<=xs.length->Pv i σ H->SqL K H a xs)
  (hs:∀i x σ H,xs[i]? = some x->Pv i σ H->g x σ H fun σ2 H2=>tb { D with nx:=Pv (i+1),ct:=Pv (i+1),bk:=D.nx } σ2 H2) (hd:∀σ H,Pv xs.length σ H->D.nx σ H) :
  ∃W:Nat->Nat->St->Hp->Prop,(∃m,W 0 m σ H)/\∀i m σ H,W i m σ H ->
   ((Zk7 K a).stop i H/\D.nx σ H)∨((Zk7 K a).go i H/\∃N:St->Hp->Prop,(∀σ' H',N σ' H'->∃m',m'<m/\W (i+1) m' σ' H')/\∀x H',(Zk7 K a).yld i H x H'->g x σ H' fun σ2 H2=>tb { D with nx:=N,ct:=N,bk:=D.nx } σ2 H2):=by
 refine⟨fun i m σ H=>m=xs.length-i/\i<=xs.length/\Pv i σ H,⟨xs.length,by simp,Nat.zero_le _,h0⟩,?_⟩
 rintro i m σ H ⟨rfl,hi,p⟩
 have q:=hl i σ H hi p
 by_cases hlt:i<xs.length
 ·refine .inr ⟨⟨xs,xs[i],q,by simp[hlt]⟩,Pv (i+1),fun σ' H' p'=>⟨xs.length-(i+1),by omega,rfl,hlt,p'⟩,fun x H' y=>?_⟩
  obtain⟨e,y⟩:=y
  subst e
  exact hs i x σ _ (y xs q) p
 ·have e:i=xs.length:=by omega
  subst e
  exact .inl ⟨⟨xs,q,Nat.le_refl _⟩,hd σ H p⟩
theorem Z0m{K:W.Frag}{a:Addr}{xs:List V}{g:TG}{tb:TS}{D:Ends}{σ:St}{H:Hp}(Pv:Nat->St->Hp->Prop)(h0:Pv 0 σ H)(hl:∀i σ H,i<=xs.length->Pv i σ H->SqT K H a xs)
  (hs:∀i x σ H,xs[i]? = some x->Pv i σ H->g x σ H fun σ2 H2=>tb { D with nx:=Pv (i+1),ct:=Pv (i+1),bk:=D.nx } σ2 H2) (hd:∀σ H,Pv xs.length σ H->D.nx σ H) :
  ∃W:Nat->Nat->St->Hp->Prop,(∃m,W 0 m σ H)/\∀i m σ H,W i m σ H ->
   ((Zk6 K a).stop i H/\D.nx σ H)∨((Zk6 K a).go i H/\∃N:St->Hp->Prop,(∀σ' H',N σ' H'->∃m',m'<m/\W (i+1) m' σ' H')/\∀x H',(Zk6 K a).yld i H x H'->g x σ H' fun σ2 H2=>tb { D with nx:=N,ct:=N,bk:=D.nx } σ2 H2):=by
 refine⟨fun i m σ H=>m=xs.length-i/\i<=xs.length/\Pv i σ H,⟨xs.length,by simp,Nat.zero_le _,h0⟩,?_⟩
 rintro i m σ H ⟨rfl,hi,p⟩
 have q:=hl i σ H hi p
 by_cases hlt:i<xs.length
 ·refine .inr ⟨⟨xs,xs[i],q,by simp[hlt]⟩,Pv (i+1),fun σ' H' p'=>⟨xs.length-(i+1),by omega,rfl,hlt,p'⟩,fun x H' y=>?_⟩
  obtain⟨e,y⟩:=y
  subst e
  exact hs i x σ _ (y xs q) p
 ·have e:i=xs.length:=by omega
  subst e
  exact .inl ⟨⟨xs,q,Nat.le_refl _⟩,hd σ H p⟩
theorem Vu{lo:Int}{n:Nat}{g:TG}{tb:TS}{D:Ends}{σ:St}{H:Hp}(Pv:Nat->St->Hp->Prop)(h0:Pv 0 σ H)
  (hs:∀i σ H,i<n->Pv i σ H->g (.int (lo+i)) σ H fun σ2 H2=>tb { D with nx:=Pv (i+1),ct:=Pv (i+1),bk:=D.nx } σ2 H2) (hd:∀σ H,Pv n σ H->D.nx σ H) :
  ∃W:Nat->Nat->St->Hp->Prop,(∃m,W 0 m σ H)/\∀i m σ H,W i m σ H ->
   ((Zjy lo n).stop i H/\D.nx σ H)∨((Zjy lo n).go i H/\∃N:St->Hp->Prop,(∀σ' H',N σ' H'->∃m',m'<m/\W (i+1) m' σ' H')/\∀x H',(Zjy lo n).yld i H x H'->g x σ H' fun σ2 H2=>tb { D with nx:=N,ct:=N,bk:=D.nx } σ2 H2):=by
 refine⟨fun i m σ H=>m=n-i/\i<=n/\Pv i σ H,⟨n,by simp,Nat.zero_le _,h0⟩,?_⟩
 rintro i m σ H ⟨rfl,hi,p⟩
 by_cases hlt:i<n
 ·refine .inr ⟨hlt,Pv (i+1),fun σ' H' p'=>⟨n-(i+1),by omega,rfl,hlt,p'⟩,fun x H' y=>?_⟩
  obtain⟨e,y⟩:=y
  subst e y
  exact hs i σ _ hlt p
 ·have e:i=n:=by omega
  subst e
  exact .inl ⟨Nat.le_refl _,hd σ H p⟩
theorem Zbq{c:TT}{tb:TS}{D:Ends}{σ:St}{H:Hp}(Pv:St->Hp->Prop)(μ:St->Hp->Nat)(h0:Pv σ H)
  (hs:∀σ H,Pv σ H->c σ H fun b H1=>if b=true then tb { D with nx:=fun σ' H'=>Pv σ' H'/\μ σ' H'<μ σ H,ct:=fun σ' H'=>Pv σ' H'/\μ σ' H'<μ σ H,bk:=D.nx } σ H1 else D.nx σ H1)
  (mono:∀σ H Q Q',(∀b H1,Q b H1->Q' b H1)->c σ H Q->c σ H Q'):Wm c tb D σ H:=by
 refine⟨fun m σ H=>m=μ σ H/\Pv σ H,⟨_,rfl,h0⟩,?_⟩
 rintro m σ H ⟨rfl,p⟩
 refine mono σ H _ _ (fun b H1 q=>?_) (hs σ H p)
 cases b with
 |true=>exact⟨_,fun σ' H' ⟨p',l⟩=>⟨_,l,rfl,p'⟩,q⟩
 |false=>exact q
abbrev R2:=V->V->Hp->VK->Prop
def Z3s(X:Cx)(f:Value->Value->Sem Value)(r:R2):Prop :=
 ∀(Z6:List (Addr×Obj)) (s:Shared) (σ:St) (H:Hp) (x y:V) (v u:Value) (Q:VK),Inv X Z6 σ H s->RelV x v->RelV y u->r x y H Q ->
  wpAny (model X.prog X.w) X.A (f v u) (EP X Z6 σ Q) X.xe s
def Zmy(X:Cx)(f:Value->Sem Value)(r:V->Hp->VK->Prop):Prop :=
 ∀(Z6:List (Addr×Obj)) (s:Shared) (σ:St) (H:Hp) (x:V) (v:Value) (Q:VK),Inv X Z6 σ H s->RelV x v->r x H Q ->
  wpAny (model X.prog X.w) X.A (f v) (EP X Z6 σ Q) X.xe s
def T8(X:Cx)(f:Value)(r:List V->Hp->VK->Prop):Prop :=
 ∀(Z6:List (Addr×Obj)) (s:Shared) (σ:St) (H:Hp) (xs:List V) (us:List Value) (Q:VK),Inv X Z6 σ H s->Vals xs us->r xs H Q ->
  wpAny (model X.prog X.w) X.A (call f us) (EP X Z6 σ Q) X.xe s
def Z3l(r:R2)(ta tb:TE):TE:=fun σ H Q=>ta σ H fun x H1=>tb σ H1 fun y H2=>r x y H2 Q
def Zms(r:V->Hp->VK->Prop)(ta:TE):TE:=fun σ H Q=>ta σ H fun x H1=>r x H1 Q
def rI(C:Int->Int->Prop)(g:Int->Int->V):R2:=fun x y H Q=>∃i j,x=.int i/\y=.int j/\C i j/\Q (g i j) H
def Zgk(g:Int->Int->V):R2:=fun x y H Q=>∃i j,x=.int i/\y=.int j/\Q (g i j) H
def rU(g:Int->V):V->Hp->VK->Prop:=fun x H Q=>∃i,x=.int i/\Q (g i) H
section
variable{X:Cx}{a b c:Expr}{ta tb tc:TE}{pos:Pos}
theorem Zjq(ha:PE X a ta)(hb:PE X b tb){Z6:List (Addr×Obj)}{s:Shared}{σ:St}{H:Hp}{R:V->V->Hp->Prop}(I:Inv X Z6 σ H s)
  (h:ta σ H fun x H1=>tb σ H1 fun y H2=>R x y H2) {Q:Value->Shared->Prop} {f:Value->Value->Sem Value}
  (hf:∀v u s2 x y H2,Inv X Z6 σ H2 s2->RelV x v->RelV y u->R x y H2->wpAny (model X.prog X.w) X.A (f v u) Q X.xe s2) :
  wpAny (model X.prog X.w) X.A (eval a X.env) (fun v s₁=>wpAny (model X.prog X.w) X.A (eval b X.env) (fun u s₂=>wpAny (model X.prog X.w) X.A (f v u) Q X.xe s₂) X.xe s₁) X.xe s:=by
 refine W9 (ha Z6 s σ H _ I h) fun v s1 ⟨x,H1,I1,r1,q1⟩=>?_
 refine W9 (hb Z6 s1 σ H1 _ I1 q1) fun u s2 ⟨y,H2,I2,r2,q2⟩=>?_
 exact hf v u s2 x y H2 I2 r1 r2 q2
theorem Zx{op:Operator}{r:R2}(ho:Z3s X (binaryOp op) r)(ha:PE X a ta)(hb:PE X b tb):PE X (.BinOp a op b pos) (Z3l r ta tb):=by
 intro Z6 s σ H Q I h
 exact wpAny_BinOp (Zjq ha hb I h fun v u s2 x y H2 I2 rx ry q=>ho Z6 s2 σ H2 x y v u Q I2 rx ry q)
theorem Zah{op:UnaryOp}{r:V->Hp->VK->Prop}(ho:Zmy X (unaryOp op) r)(ha:PE X a ta):PE X (.UnaryOp op a pos) (Zms r ta):=by
 intro Z6 s σ H Q I h
 exact UnaryOp_ (W9 (ha Z6 s σ H _ I h) fun v s1 ⟨x,H1,I1,r1,q1⟩=>ho Z6 s1 σ H1 x v Q I1 r1 q1)
theorem Zmv{f:Value->Value->Sem Value}{C:Int->Int->Prop}{g:Int->Int->Int}
  (rule:∀(i j:Int) (t u:Tok) (s:Shared) (Q:Value->Shared->Prop) (E:Value->Shared->Prop),C i j->Q (.int (g i j) s.toks) { s with toks:=s.toks+1 }->wpAny (model X.prog X.w) X.A (f (.int i t) (.int j u)) Q E s) :
  Z3s X f (rI C fun i j=>.int (g i j)):=by
 intro Z6 s σ H x y v u Q I rx ry h
 obtain⟨i,j,rfl,rfl,hc,q⟩:=h
 obtain⟨t,rfl⟩:=rx
 obtain⟨t',rfl⟩:=ry
 exact rule i j t t' s _ _ hc ⟨.int (g i j),H,I.tok _,⟨_,rfl⟩,q⟩
theorem Zl8{f:Value->Value->Sem Value}{g:Int->Int->Int}
  (rule:∀(i j:Int) (t u:Tok) (s:Shared) (Q:Value->Shared->Prop) (E:Value->Shared->Prop),Q (.int (g i j) s.toks) { s with toks:=s.toks+1 }->wpAny (model X.prog X.w) X.A (f (.int i t) (.int j u)) Q E s) :
  Z3s X f (Zgk fun i j=>.int (g i j)):=by
 intro Z6 s σ H x y v u Q I rx ry h
 obtain⟨i,j,rfl,rfl,q⟩:=h
 obtain⟨t,rfl⟩:=rx
 obtain⟨t',rfl⟩:=ry
 exact rule i j t t' s _ _ ⟨.int (g i j),H,I.tok _,⟨_,rfl⟩,q⟩
theorem Zgs{f:Value->Value->Sem Value}{g:Int->Int->Bool}
  (rule:∀(i j:Int) (t u:Tok) (s:Shared) (Q:Value->Shared->Prop) (E:Value->Shared->Prop),Q (.bool (g i j)) s->wpAny (model X.prog X.w) X.A (f (.int i t) (.int j u)) Q E s) :
  Z3s X f (Zgk fun i j=>.bl (g i j)):=by
 intro Z6 s σ H x y v u Q I rx ry h
 obtain⟨i,j,rfl,rfl,q⟩:=h
 obtain⟨t,rfl⟩:=rx
 obtain⟨t',rfl⟩:=ry
 exact rule i j t t' s _ _ ⟨.bl (g i j),H,I,rfl,q⟩
def Zmr(i j:Int):Prop:=0<j/\j<1073741824
def CMul(i j:Int):Prop:=(-(2 ^ 64)<i/\i<2 ^ 64)∨(-(2 ^ 64)<j/\j<2 ^ 64)
theorem CMul.ok{i j:Int}(h:CMul i j):IntMulOk i j:=by
 rcases h with⟨h1,h2⟩ | ⟨h1,h2⟩
 ·exact .of_left (intBits_le_64 h1 h2)
 ·exact .of_right (intBits_le_64 h1 h2)
theorem Yn:Z3s X (binaryOp .Add) (Zgk fun i j=>.int (i+j)):=Zl8 fun _ _ _ _ _ _ _ q=>add_int q
theorem X3:Z3s X (binaryOp .Sub) (Zgk fun i j=>.int (i-j)):=Zl8 fun _ _ _ _ _ _ _ q=>sub_int q
theorem Zin:Z3s X (binaryOp .Mult) (rI CMul fun i j=>.int (i*j)):=Zmv fun _ _ _ _ _ _ _ hc q=>mul_int q hc.ok
theorem Z9l:Z3s X (binaryOp .FloorDiv) (rI Zmr fun i j=>.int (i / j)):=Zmv fun i j _ _ _ _ _ hc q=>by
 have h1:(0:Int)<j:=hc.1
 have h2:j<1073741824:=hc.2
 exact floordiv_int (by omega) (by rw[Int.fdiv_eq_ediv_of_nonneg i (by omega)];exact q) (.inl (PyProof.noPylong_small (by omega)))
theorem Zdq:Z3s X (binaryOp .Mod) (rI (fun _ j=>0<j) fun i j=>.int (i % j)):=Zmv fun i j _ _ _ _ _ hc q=>by
 have h1:(0:Int)<j:=hc
 exact mod_int' (by omega) (by rw[Int.fmod_eq_emod_of_nonneg i (by omega)];exact q)
theorem Zn3{f:Value->Sem Value}{g:Int->Int}
  (rule:∀(i:Int) (t:Tok) (s:Shared) (Q:Value->Shared->Prop) (E:Value->Shared->Prop),Q (.int (g i) s.toks) { s with toks:=s.toks+1 }->wpAny (model X.prog X.w) X.A (f (.int i t)) Q E s) :
  Zmy X f (rU fun i=>.int (g i)):=by
 intro Z6 s σ H x v Q I rx h
 obtain⟨i,rfl,q⟩:=h
 obtain⟨t,rfl⟩:=rx
 exact rule i t s _ _ ⟨.int (g i),H,I.tok _,⟨_,rfl⟩,q⟩
theorem Z5k:Zmy X (unaryOp .USub) (rU fun i=>.int (-i)):=Zn3 fun _ _ _ _ _ q=>neg_int q
end
def Zl6:V->V->Bool
 |.non,.non=>true | .non,.int _=>true | .int _,.non=>true | .non,.bl _=>true | .bl _,.non=>true | .non,.str _=>true | .str _,.non=>true
 |.int _,.int _=>true | .bl _,.bl _=>true | .str _,.str _=>true | .byt _,.byt _=>true
 |.int _,.str _=>true | .str _,.int _=>true | .bl _,.str _=>true | .str _,.bl _=>true
 |_,_=>false
def Zk0:R2:=fun x y H Q=>Zl6 x y=true/\Q (.bl (decide (x=y))) H
def Zn6:R2:=fun x y H Q=>Zl6 x y=true/\Q (.bl (!decide (x=y))) H
theorem Za2{i j:Int}:decide (V.int i=V.int j)=(i==j):=by
 rw[Bool.eq_iff_iff]
 simp
theorem Ze5{i j:Bool}:decide (V.bl i=V.bl j)=(i==j):=by
 rw[Bool.eq_iff_iff]
 simp
theorem Z28{i j:Str}:decide (V.str i=V.str j)=(i==j):=by
 rw[Bool.eq_iff_iff]
 simp
theorem Za3{i j:Array UInt8}:decide (V.byt i=V.byt j)=(i.toList==j.toList):=by
 rw[Bool.eq_iff_iff]
 cases i
 cases j
 simp
section
variable{X:Cx}{a b c:Expr}{ta tb tc:TE}{pos:Pos}
theorem Yc{Z6:List (Addr×Obj)}{σ:St}{H:Hp}{s:Shared}{Q:VK}{k k':Bool}(I:Inv X Z6 σ H s)(q:Q (.bl k) H)(e:k=k'):EP X Z6 σ Q (.bool k') s:=by
 subst e
 exact⟨.bl k,H,I,rfl,q⟩
theorem Zv:Z3s X (compareOp .Eq) Zk0:=by
 intro Z6 s σ H x y v u Q I rx ry h
 obtain⟨hs,q⟩:=h
 cases x with
 |non =>
  cases rx
  cases y with
  |non=>cases ry;exact PySem.EqNone.eq_none_none (Yc I q (by simp))
  |bl j=>cases ry;exact PySem.EqNone.eq_none_bool (Yc I q (by simp))
  |int j=>obtain⟨t',rfl⟩:=ry;exact PySem.EqNone.eq_none_int (Yc I q (by simp))
  |str j=>obtain⟨t',rfl⟩:=ry;exact PySem.EqNone.eq_none_str (Yc I q (by simp))
  |_=>exact absurd (show false=true from hs) Bool.false_ne_true
 |bl i =>
  cases rx
  cases y with
  |non=>cases ry;exact PySem.EqNone.eq_bool_none (Yc I q (by simp))
  |bl j=>cases ry;exact eq_bool (Yc I q Ze5)
  |str j=>obtain⟨t',rfl⟩:=ry;exact PySem.EqMixed.eq_bool_str (Yc I q (by simp))
  |_=>exact absurd (show false=true from hs) Bool.false_ne_true
 |int i =>
  obtain⟨t,rfl⟩:=rx
  cases y with
  |non=>cases ry;exact PySem.EqNone.eq_int_none (Yc I q (by simp))
  |int j=>obtain⟨t',rfl⟩:=ry;exact eq_int (Yc I q Za2)
  |str j=>obtain⟨t',rfl⟩:=ry;exact PySem.EqMixed.eq_int_str (Yc I q (by simp))
  |_=>exact absurd (show false=true from hs) Bool.false_ne_true
 |str i =>
  obtain⟨t,rfl⟩:=rx
  cases y with
  |non=>cases ry;exact PySem.EqNone.eq_str_none (Yc I q (by simp))
  |bl j=>cases ry;exact PySem.EqMixed.eq_str_bool (Yc I q (by simp))
  |int j=>obtain⟨t',rfl⟩:=ry;exact PySem.EqMixed.eq_str_int (Yc I q (by simp))
  |str j=>obtain⟨t',rfl⟩:=ry;exact eq_str (Yc I q Z28)
  |_=>exact absurd (show false=true from hs) Bool.false_ne_true
 |byt i =>
  obtain⟨t,rfl⟩:=rx
  cases y with
  |byt j=>obtain⟨t',rfl⟩:=ry;exact W.eq_bytes (Yc I q Za3)
  |_=>exact absurd (show false=true from hs) Bool.false_ne_true
 |_=>cases y <;> exact absurd (show false=true from hs) Bool.false_ne_true
theorem Z7j:Z3s X (compareOp .NotEq) Zn6:=by
 intro Z6 s σ H x y v u Q I rx ry h
 obtain⟨hs,q⟩:=h
 cases x with
 |non =>
  cases rx
  cases y with
  |non=>cases ry;exact PySem.EqNone.ne_none_none (Yc I q (by simp))
  |bl j=>cases ry;exact PySem.EqNone.ne_none_bool (Yc I q (by simp))
  |int j=>obtain⟨t',rfl⟩:=ry;exact PySem.EqNone.ne_none_int (Yc I q (by simp))
  |str j=>obtain⟨t',rfl⟩:=ry;exact PySem.EqNone.ne_none_str (Yc I q (by simp))
  |_=>exact absurd (show false=true from hs) Bool.false_ne_true
 |bl i =>
  cases rx
  cases y with
  |non=>cases ry;exact PySem.EqNone.ne_bool_none (Yc I q (by simp))
  |bl j=>cases ry;exact ne_bool (Yc I q (congrArg not Ze5))
  |str j=>obtain⟨t',rfl⟩:=ry;exact PySem.EqMixed.ne_bool_str (Yc I q (by simp))
  |_=>exact absurd (show false=true from hs) Bool.false_ne_true
 |int i =>
  obtain⟨t,rfl⟩:=rx
  cases y with
  |non=>cases ry;exact PySem.EqNone.ne_int_none (Yc I q (by simp))
  |int j=>obtain⟨t',rfl⟩:=ry;exact ne_int (Yc I q (congrArg not Za2))
  |str j=>obtain⟨t',rfl⟩:=ry;exact PySem.EqMixed.ne_int_str (Yc I q (by simp))
  |_=>exact absurd (show false=true from hs) Bool.false_ne_true
 |str i =>
  obtain⟨t,rfl⟩:=rx
  cases y with
  |non=>cases ry;exact PySem.EqNone.ne_str_none (Yc I q (by simp))
  |bl j=>cases ry;exact PySem.EqMixed.ne_str_bool (Yc I q (by simp))
  |int j=>obtain⟨t',rfl⟩:=ry;exact PySem.EqMixed.ne_str_int (Yc I q (by simp))
  |str j=>obtain⟨t',rfl⟩:=ry;exact ne_str (Yc I q (congrArg not Z28))
  |_=>exact absurd (show false=true from hs) Bool.false_ne_true
 |byt i =>
  obtain⟨t,rfl⟩:=rx
  cases y with
  |byt j=>obtain⟨t',rfl⟩:=ry;exact W.ne_bytes (Yc I q (congrArg not Za3))
  |_=>exact absurd (show false=true from hs) Bool.false_ne_true
 |_=>cases y <;> exact absurd (show false=true from hs) Bool.false_ne_true
theorem Vc:Z3s X (compareOp .Lt) (Zgk fun i j=>.bl (decide (i<j))):=Zgs fun _ _ _ _ _ _ _ q=>lt_int q
theorem Zai:Z3s X (compareOp .LtE) (Zgk fun i j=>.bl (decide (i<=j))):=Zgs fun _ _ _ _ _ _ _ q=>le_int q
theorem Z3d:Z3s X (compareOp .Gt) (Zgk fun i j=>.bl (decide (j<i))):=Zgs fun _ _ _ _ _ _ _ q=>gt_int q
theorem Zei:Z3s X (compareOp .GtE) (Zgk fun i j=>.bl (decide (j<=i))):=Zgs fun _ _ _ _ _ _ _ q=>ge_int q
theorem Zaz:Z3s X (compareOp .In) (fun x y H Q=>∃i j,x=.str i/\y=.str j/\Q (.bl (!(Builtin.Str.occurrences j i 0 j.length 1).isEmpty)) H):=by
 intro Z6 s σ H x y v u Q I rx ry h
 obtain⟨i,j,rfl,rfl,q⟩:=h
 obtain⟨t,rfl⟩:=rx
 obtain⟨t',rfl⟩:=ry
 exact in_str (Yc I q rfl)
theorem Z4o:Z3s X (compareOp .NotIn) (fun x y H Q=>∃i j,x=.str i/\y=.str j/\Q (.bl (!(!(Builtin.Str.occurrences j i 0 j.length 1).isEmpty))) H):=by
 intro Z6 s σ H x y v u Q I rx ry h
 obtain⟨i,j,rfl,rfl,q⟩:=h
 obtain⟨t,rfl⟩:=rx
 obtain⟨t',rfl⟩:=ry
 exact notIn_str (Yc I q rfl)
theorem Ze(b:Expr){op:CmpOp}(h:op≠.In:=by decide)(h2:op≠.NotIn:=by decide):behindInMarks op b=false:=by
 have e1:(op==CmpOp.In)=false:=by cases op <;> first | rfl | exact absurd rfl h
 have e2:(op==CmpOp.NotIn)=false:=by cases op <;> first | rfl | exact absurd rfl h2
 cases b <;> simp[behindInMarks,e1,e2]
theorem X7{op:CmpOp}{r:R2}(ho:Z3s X (compareOp op) r)(ha:PE X a ta)(hb:PE X b tb)(hm:behindInMarks op b=false):PE X (.Compare a [op] [b] pos) (Z3l r ta tb):=by
 intro Z6 s σ H Q I h
 exact wpAny_Compare1 (Zjq ha hb I h fun v u s2 x y H2 I2 rx ry q=>ho Z6 s2 σ H2 x y v u Q I2 rx ry q) hm
def Jk(t:TE):TT:=fun σ H Q=>t σ H fun x H'=>∃k,x=.bl k/\Q k H'
theorem Zb{op:CmpOp}{r:R2}(ho:Z3s X (compareOp op) r)(ha:PE X a ta)(hb:PE X b tb)(hm:behindInMarks op b=false):PT X (.Compare a [op] [b] pos) (Jk (Z3l r ta tb)):=by
 intro Z6 s σ H Q I h
 refine wpAny_isTrue_Compare1 (W9 (ha Z6 s σ H _ I h) fun v s1 ⟨x,H1,I1,r1,q1⟩=>W9 (hb Z6 s1 σ H1 _ I1 q1) fun u s2 ⟨y,H2,I2,r2,q2⟩ =>
  W9 (ho Z6 s2 σ H2 x y v u _ I2 r1 r2 q2) fun c s3 ⟨z,H3,I3,r3,k,e,q3⟩=>?_) hm
 subst e
 cases r3
 exact wpAny_truthy_bool ⟨H3,I3,q3⟩
theorem Z1i:(sizeLine:Nat)<2 ^ 63:=by rw[sizeLine_eq];decide
theorem Yi:Z3s X (binaryOp .Add) (fun x y H Q=>∃i j,x=.str i/\y=.str j/\i.length+j.length<=sizeLine/\Q (.str (i++j)) H):=by
 intro Z6 s σ H x y v u Q I rx ry h
 obtain⟨i,j,rfl,rfl,hz,q⟩:=h
 obtain⟨t,rfl⟩:=rx
 obtain⟨t',rfl⟩:=ry
 exact add_str (fun t' tk=>⟨.str (i++j),H,I.tok _,⟨_,rfl⟩,q⟩) hz
theorem Tj{x:V}{us:List Value}(r:Vals [x] us):∃u,us=[u]/\RelV x u:=by
 cases r with
 |cons r1 r2=>cases r2;exact⟨_,rfl,r1⟩
theorem Ze9{x y:V}{us:List Value}(r:Vals [x,y] us):∃u w',us=[u,w']/\RelV x u/\RelV y w':=by
 cases r with
 |cons r1 r2 =>
  cases r2 with
  |cons r3 r4=>cases r4;exact⟨_,_,rfl,r1,r3⟩
theorem Zbi(hc:X.calm=true):T8 X (.builtin "max") (fun xs H Q=>∃i j,xs=[.int i,.int j]/\Q (.int (if j>i then j else i)) H):=by
 intro Z6 s σ H xs us Q I r h
 obtain⟨i,j,rfl,q⟩:=h
 obtain⟨u,w',rfl,⟨t,rfl⟩,⟨t',rfl⟩⟩:=Ze9 r
 refine max_two_ints (I.ok.hd hc) fun h' tk k=>⟨_,H,I.kept k,?_,q⟩
 by_cases hj:j>i
 ·rw[if_pos hj,if_pos hj];exact⟨_,rfl⟩
 ·rw[if_neg hj,if_neg hj];exact⟨_,rfl⟩
theorem Jf:T8 X (.type "int") (fun xs H Q=>(∃i,xs=[.int i]/\Q (.int i) H)∨∃k,xs=[.bl k]/\Q (.int (if k then 1 else 0)) H):=by
 intro Z6 s σ H xs us Q I r h
 rcases h with⟨i,rfl,q⟩ | ⟨k,rfl,q⟩
 ·obtain⟨u,rfl,t,rfl⟩:=Tj r
  exact call_int_int ⟨.int i,H,I,⟨_,rfl⟩,q⟩
 ·obtain⟨u,rfl,r1⟩:=Tj r
  cases r1
  exact call_int_bool ⟨.int (if k then 1 else 0),H,I.tok _,⟨_,rfl⟩,q⟩
theorem Z4u:T8 X (.type "str") (fun xs H Q=>∃i,xs=[.int i]/\i.natAbs.log2<1920/\Q (.str (toString i)) H):=by
 intro Z6 s σ H xs us Q I r h
 obtain⟨i,rfl,hz,q⟩:=h
 obtain⟨u,rfl,t,rfl⟩:=Tj r
 exact PySem.P.str_of_int hz ⟨.str _,H,I.tok _,⟨_,rfl⟩,q⟩
theorem Us:T8 X (.builtin "ord") (fun xs H Q=>∃x,xs=[.str x]/\x.length=1/\Q (.int (x.cps.getD 0 0:Nat)) H):=by
 intro Z6 s σ H xs us Q I r h
 obtain⟨x,rfl,hz,q⟩:=h
 obtain⟨u,rfl,t,rfl⟩:=Tj r
 exact ord_of_one hz ⟨.int _,H,I.tok _,⟨_,rfl⟩,q⟩
end
structure ObjM(h:Heap)(x dx C:Addr)(mA:Str->Option Value):Prop where
 obj:h.get? x=some (W.instObj C dx)
 ns:h.Ns1 dx mA
 ne:dx≠x
theorem Zb7{h:Heap}{dx:Addr}{mA:Str->Option Value}(n:h.Ns1 dx mA):∃od,h.get? dx=some od/\∀name,W.lookIn name od=some (mA name):=by
 obtain⟨o,es,ep,ho,hd,hk,_,hm⟩:=n
 refine⟨o,ho,fun name=>?_⟩
 have e:=hm name
 unfold nsFind findBy at e
 rw[← Array.find?_toList]at e
 unfold W.lookIn
 rw[hd]
 dsimp only
 split
 ·rename_i y q
  rw[q]at e
  exact congrArg some e
 ·rename_i q
  rw[q]at e
  have a:es.toList.any (·.refKey)=false:=by
   rw[List.any_eq_false]
   intro y hy
   obtain⟨z,t,hkey⟩:=hk y (Array.mem_toList_iff.mp hy)
   simp[DictEntry.refKey,hkey]
  have a':¬es.toList.any (·.refKey)=true:=by rw[a];exact Bool.false_ne_true
  rw[if_neg a']
  exact congrArg some e
theorem ObjM.look{h:Heap}{x dx C:Addr}{mA:Str->Option Value}(I:ObjM h x dx C mA):∃od,W.InstAt h x (W.instObj C dx) C (some od)/\∀name,W.lookIn name od=some (mA name) :=
 let⟨od,ho,hl⟩:=Zb7 I.ns
 ⟨od,⟨I.obj,rfl,rfl,ho⟩,hl⟩
section
variable{prog:Program}{w:World}{A:Around}{E:Value->Shared->Prop}{s:Shared}{K:W.Frag}{x dx C f:Addr}{mA:Str->Option Value}{name:Str}{v:Value}
theorem Zg8{expr:Bool}{Q:Value->Shared->Prop}(X:K.In s.heap)(I:ObjM s.heap x dx C mA)(hg:W.plainGet K C name=true)(hh:W.hasDictIn K C=true)
  (ha:W.findIn K (.ref C) name=some none) (hv:mA name=some v) (hv':W.handedIn v=true) (h:Q v { s with toks:=s.toks+1 }) :
  wpAny (model prog w) A (getAttr (.ref x) name expr) Q E s:=by
 obtain⟨od,J,hl⟩:=I.look
 exact W.get_value X J (W.plainGet_of hg).1 (W.findObj_own hh ha rfl (by rw[hl,hv])) hv' h
theorem Zd0{pl:Sem Bool}{Q:Value×List Value->Shared->Prop}(X:K.In s.heap)(I:ObjM s.heap x dx C mA)(hg:W.plainGet K C name=true)
  (hf:W.findIn K (.ref C) name=some (some (.ref f))) (ht:W.isFn K (.ref f)=true) (hv:mA name=none) (h:Q (.ref f,[.ref x]) s) :
  wpAny (model prog w) A (getMethod (.ref x) name pl) Q E s:=by
 obtain⟨od,J,hl⟩:=I.look
 exact W.method_fn X J (W.plainGet_of hg).1 (W.plainGet_of hg).2 hf (beq_iff_eq.mp ht) (by show(W.lookIn name od).map (·.isSome)=some false;rw[hl,hv];rfl) h
theorem Zf5{ns:List Str}{Q:Unit->Shared->Prop}(X:K.In s.heap)(I:ObjM s.heap x dx C mA)
  (hs:W.findIn K (.ref C) "__setattr__" = some (some (.builtin "object.__setattr__"))) (hp:W.plainOver K C=true) (ht:W.takerIn K C name=some none) (hh:W.hasDictIn K C=true)
  (hw:PySem.Within mA ns) (hsz:ns.length<=sizeLine)
  (h:∀h',ObjM h' x dx C (fun y=>if y=name then some v else mA y)->Heap.SameBut dx s.heap h'->Q () { s with heap:=h',toks:=s.toks+2 }) :
  wpAny (model prog w) A (setAttr (.ref x) name v) Q E s:=by
 obtain⟨od,J,hl⟩:=I.look
 refine W.set_plain X J hs (W.osa_open (s:={ s with toks:=s.toks+1 }) (r:=none) X J hp ht fun b=>?_)
 obtain⟨cd,hc,hd'⟩:=W.any_some hh
 have hx:s.heap.get? x=some ⟨.ref C,some dx,.plain,#[]⟩:=I.obj
 refine wpAny_bind (wpAny_pure (wpAny_bind (wpAny_bind (wpAny_loadPart hx (wpAny_bind (W.Looks.here (s:={ s with toks:=s.toks+1 }) (W.looks_clsIn X hc) ?_))))))
 rw[hd']
 refine wpAny_pure (a:=some dx) (wpAny_bind (wpAny_pure (wpAny_bind ?_)))
 refine wpAny_nsSet1 (s:={ s with toks:=s.toks+1 }) I.ns fun h' hn2 hs2=>?_
 obtain⟨oD,esD,epD,hoD,hdD,hcD⟩:=hn2.count (PySem.Within.cons name v hw)
 refine wpAny_bind (wpAny_lookBehind hoD (by rw[hdD];exact pastItsLine_dict (Nat.le_trans hcD (by rw[List.length_cons];omega))) ?_)
 exact wpAny_pure (h _ ⟨(hs2.2 _ (Ne.symm I.ne)).trans I.obj,hn2,I.ne⟩ hs2)
theorem Zcr{R:Result->Shared->Prop}{vs:List Value}{kw:List (Str×Value)}(X:K.In s.heap)(hm:W.makesIn K C=true)
  (hi:W.findIn K (.ref C) "__init__" = some (some (.ref f))) (hf:W.typeIn K (.ref f)=some (.type "function"))
  (h:codeAny (model prog w) (A.under (.builtin "type.__call__" ⟨.ref C::vs,kw⟩)) (.call (.ref f) ⟨.ref (s.heap.objs.size+1)::vs,kw⟩) (W.InitBack (s.heap.objs.size+1) R)
   { s with heap:=(s.heap.push W.emptyDict).push (W.instObj C s.heap.objs.size) }) :
  codeAny (model prog w) A (.call (.ref C) ⟨vs,kw⟩) R s:=by
 obtain⟨hh,g,d,t,os⟩:=s
 exact W.make_core (W.makes_of X hm) (W.looks_findIn X hi) (fun self=>W.bind_fn X self hf) (.inl rfl) h
end
def Yg(f:Str)(v:V):List (Str×V)->List (Str×V)
 | []=>[(f,v)]
 |(g,x)::r=>if g=f then(g,v)::r else(g,x)::Yg f v r
theorem Z18(f g:Str)(v:V):∀fs:List (Str×V),(Yg f v fs).lookup g=if g=f then some v else fs.lookup g
 | []=>by
  show List.lookup g [(f,v)]=_
  by_cases h:g=f
  ·have hb:(g==f)=true:=beq_iff_eq.mpr h
   simp only[List.lookup,hb,if_pos h]
  ·have hb:(g==f)=false:=beq_eq_false_iff_ne.mpr h
   simp only[List.lookup,hb,if_neg h]
 |(k,x)::r=>by
  have ih:=Z18 f g v r
  rw[show Yg f v ((k,x)::r)=(if k=f then(k,v)::r else(k,x)::Yg f v r) from rfl]
  by_cases hk:k=f
  ·rw[if_pos hk]
   by_cases h:g=k
   ·have hb:(g==k)=true:=beq_iff_eq.mpr h
    simp only[List.lookup,hb,if_pos (h.trans hk)]
   ·have hb:(g==k)=false:=beq_eq_false_iff_ne.mpr h
    simp only[List.lookup,hb,if_neg (fun e:g=f=>h (e.trans hk.symm))]
  ·rw[if_neg hk]
   by_cases h:g=k
   ·have hb:(g==k)=true:=beq_iff_eq.mpr h
    simp only[List.lookup,hb,if_neg (fun e:g=f=>hk (h.symm.trans e))]
   ·have hb:(g==k)=false:=beq_eq_false_iff_ne.mpr h
    simp only[List.lookup,hb]
    exact ih
theorem Z0z(f:Str)(v:V):∀fs:List (Str×V),f∈(Yg f v fs).map (·.1)/\∀g,g∈fs.map (·.1)->g∈(Yg f v fs).map (·.1)
 | []=>⟨by simp[Yg],fun g h=>by simp at h⟩
 |(k,x)::r=>by
  obtain⟨i1,i2⟩:=Z0z f v r
  rw[show Yg f v ((k,x)::r)=(if k=f then(k,v)::r else(k,x)::Yg f v r) from rfl]
  by_cases hk:k=f
  ·rw[if_pos hk]
   subst hk
   exact⟨by simp,fun g h=>by simpa using h⟩
  ·rw[if_neg hk]
   refine⟨?_,fun g h=>?_⟩
   ·rw[List.map_cons]
    exact List.mem_cons_of_mem _ i1
   ·rw[List.map_cons]at h ⊢
    rcases List.mem_cons.mp h with e | e
    ·exact List.mem_cons.mpr (.inl e)
    ·exact List.mem_cons_of_mem _ (i2 g e)
theorem Z19(f:Str)(v:V):∀fs:List (Str×V),(Yg f v fs).length<=fs.length+1
 | []=>by simp[Yg]
 |(k,x)::r=>by
  have ih:=Z19 f v r
  rw[show Yg f v ((k,x)::r)=(if k=f then(k,v)::r else(k,x)::Yg f v r) from rfl]
  by_cases hk:k=f
  ·rw[if_pos hk,List.length_cons,List.length_cons];omega
  ·rw[if_neg hk,List.length_cons,List.length_cons];omega
theorem RelO.some_of{v:V}{o:Option Value}(r:RelO (some v) o):∃u,o=some u/\RelV v u:=by
 cases o with
 |none=>exact(show False from r).elim
 |some u=>exact⟨u,rfl,r⟩
theorem RelO.none_of{o:Option Value}(r:RelO none o):o=none:=by
 cases o with
 |none=>rfl
 |some u=>exact(show False from r).elim
theorem Zbd{v:V}{u:Value}(r:RelV v u):W.handedIn u=true:=by
 cases v with
 |non=>cases(show u=Value.none from r);rfl
 |bl b=>cases(show u=Value.bool b from r);rfl
 |int i=>obtain⟨t,e⟩:=(show ∃t,u=Value.int i t from r);cases e;rfl
 |str x=>obtain⟨t,e⟩:=(show ∃t,u=Value.str x t from r);cases e;rfl
 |byt b=>obtain⟨t,e⟩:=(show ∃t,u=Value.bytes b t from r);cases e;rfl
 |flt b=>obtain⟨t,e⟩:=(show ∃t,u=Value.float b t from r);cases e;rfl
 |ref a=>cases(show u=Value.ref a from r);rfl
 |ty n=>cases(show u=Value.type n from r);rfl
section
variable{P:Program}{w:World}{H H':Hp}{h h':Heap}{a C dx:Addr}{fs fs':List (Str×V)}
theorem Z25(hok:HOk P w H h)(e:H a=some (.ins C dx fs)):∃mA,ObjM h a dx C mA/\(∀f,RelO (fs.lookup f) (mA f))/\PySem.Within mA (fs.map (·.1))/\fs.length<=1000/\H dx=some (.own a):=by
 obtain⟨d,z,ne,ob,mA,n,r,q⟩:=(show ObjOk P w H h a (.ins C dx fs) from hok a _ e)
 exact⟨mA,⟨ob,n,ne⟩,r,q,z,d⟩
end
structure Cls(K:W.Frag)(C:Addr):Prop where
 pg:W.plainGet K C Str.empty=true
 hd:W.hasDictIn K C=true
 po:W.plainOver K C=true
 sa:W.findIn K (.ref C) "__setattr__" = some (some (.builtin "object.__setattr__"))
theorem Cls.get{K:W.Frag}{C:Addr}(c:Cls K C)(f:Str):W.plainGet K C f=true:=c.pg
def NoAttr(K:W.Frag)(C:Addr)(f:Str):Prop:=W.findIn K (.ref C) f=some none
theorem NoAttr.taker{K:W.Frag}{C:Addr}{f:Str}(n:NoAttr K C f):W.takerIn K C f=some none:=by
 unfold W.takerIn
 rw[show W.findIn K (.ref C) f=some none from n]
 rfl
structure Meth(K:W.Frag)(C:Addr)(m:Str)(f:Addr):Prop where
 at_:W.findIn K (.ref C) m=some (some (.ref f))
 fn:W.isFn K (.ref f)=true
 kp:W.keepIn K (.ref f)=true
section
variable{X:Cx}{Z6:List (Addr×Obj)}{σ:St}{H:Hp}{s:Shared}{a C dx:Addr}{fs:List (Str×V)}{f:Str}{v:V}{A:Around}{E:Value->Shared->Prop}
theorem Z2l{b:Bool}{Q:Value->Shared->Prop}(I:Inv X Z6 σ H s)(e:H a=some (.ins C dx fs))(c:Cls X.K C)(n:NoAttr X.K C f)(l:fs.lookup f=some v)
  (h:∀u s',Inv X Z6 σ H s'->RelV v u->Q u s'):wpAny (model X.prog X.w) A (getAttr (.ref a) f b) Q E s:=by
 obtain⟨mA,O,r,_,_,_⟩:=Z25 I.hok e
 obtain⟨u,hu,ru⟩:=RelO.some_of (v:=v) (o:=mA f) (by rw[← l];exact r f)
 exact Zg8 I.kIn O (c.get f) c.hd n hu (Zbd ru) (h u _ (I.tok _) ru)
theorem Js{m:Str}{g:Addr}{pl:Sem Bool}{Q:Value×List Value->Shared->Prop}(I:Inv X Z6 σ H s)(e:H a=some (.ins C dx fs))(c:Cls X.K C)(k:Meth X.K C m g)(l:fs.lookup m=none)
  (h:Q (.ref g,[.ref a]) s):wpAny (model X.prog X.w) A (getMethod (.ref a) m pl) Q E s:=by
 obtain⟨mA,O,r,_,_,_⟩:=Z25 I.hok e
 have hn:mA m=none:=RelO.none_of (by rw[← l];exact r m)
 exact Zd0 I.kIn O (c.get m) k.at_ k.fn hn h
theorem Z2f{y:V}{u:Value}{Q:Unit->Shared->Prop}(I:Inv X Z6 σ H s)(e:H a=some (.ins C dx fs))(c:Cls X.K C)(n:NoAttr X.K C f)(hl:fs.length<1000)(ry:RelV y u)
  (h:∀s',Inv X Z6 σ (Zq H a (.ins C dx (Yg f y fs))) s'->Q () s'):wpAny (model X.prog X.w) A (setAttr (.ref a) f u) Q E s:=by
 obtain⟨mA,O,r,wi,_,ho⟩:=Z25 I.hok e
 have hz:(fs.map (·.1)).length<=sizeLine:=by rw[List.length_map,sizeLine_eq];omega
 refine Zf5 I.kIn O c.sa c.po n.taker c.hd wi hz fun h' O' sb=>h _ ?_
 have hd:∃o,h'.get? dx=some o:=let⟨o,_,_,e',_⟩:=O'.ns;⟨o,e'⟩
 refine I.write (x:=a) (e:=dx) (by rw[e];exact True.intro) (.inr ho) (fun b q hb z=>(sb.2 b hb).trans z) hd ?_
 refine⟨by rw[Zi O.ne];exact ho,?_,O.ne,O'.obj,_,O'.ns,fun g=>?_,fun g hg=>?_⟩
 ·have:=Z19 f y fs;omega
 ·show RelO ((Yg f y fs).lookup g) (if g=f then some u else mA g)
  rw[Z18]
  by_cases q:g=f
  ·rw[if_pos q,if_pos q];exact ry
  ·rw[if_neg q,if_neg q];exact r g
 ·by_cases q:g=f
  ·rw[q];exact(Z0z f y fs).1
  ·refine(Z0z f y fs).2 g (wi g fun z=>hg ?_)
   show(if g=f then some u else mA g)=none
   rw[if_neg q];exact z
theorem Inv.made(I:Inv X Z6 σ H s):Inv X Z6 σ (Zq (Zq H s.heap.objs.size (.own (s.heap.objs.size+1))) (s.heap.objs.size+1) (.ins C s.heap.objs.size []))
  { s with heap:=(s.heap.push W.emptyDict).push (W.instObj C s.heap.objs.size) }:=by
 have e1:(s.heap.push W.emptyDict).get? s.heap.objs.size=some W.emptyDict:=Heap.get?_push_size s.heap rfl
 have e2:((s.heap.push W.emptyDict).push (W.instObj C s.heap.objs.size)).get? (s.heap.objs.size+1)=some (W.instObj C s.heap.objs.size):=by
  have:=Heap.get?_push_size (s.heap.push W.emptyDict) (o:=W.instObj C s.heap.objs.size) rfl
  rwa [Heap.size_push]at this
 have e3:(s.heap.push W.emptyDict).Ns s.heap.objs.size (fun _=>none):=⟨W.emptyDict,#[],_,e1,rfl,(fun e he=>absurd he (by simp)),fun _=>rfl⟩
 have I1:=I.laid (a:=s.heap.objs.size) (o:=.own (s.heap.objs.size+1)) (h':=s.heap.push W.emptyDict) (t':=s.toks) (fun b u q=>Heap.get?_push_of_some _ q) (Nat.le_refl _) ⟨_,e1⟩
 refine I1.laid (a:=s.heap.objs.size+1) (o:=.ins C s.heap.objs.size []) (t':=s.toks) (fun b u q=>Heap.get?_push_of_some _ q) (Nat.le_of_eq (Heap.size_push _ _)) ?_
 have ne:s.heap.objs.size≠s.heap.objs.size+1:=Nat.ne_of_lt (Nat.lt_succ_self _)
 refine⟨by rw[Zi ne,Z2],Nat.zero_le _,ne,e2,fun _=>none,(Heap.Ns1.of_empty e3).at fun o q=>Heap.get?_push_of_some _ q,fun _=>True.intro,fun y hy=>absurd rfl hy⟩
theorem Zgd{prog:Program}{w:World}{env:Env}{e:Expr}{f:Str}{pos:Pos}{s:Shared}{Q:Value->Shared->Prop}(hb:attributeBase e f env (eval e env)=eval e env)
  (h:wpAny (model prog w) A (eval e env) (fun o s₁=>wpAny (model prog w) A (getAttr o f true) Q E s₁) E s):wpAny (model prog w) A (eval (.Attribute e f pos) env) Q E s :=
 Attribute_any_ h (by rw[arm_eval_Attribute,hb])
end
def Zl4(K:W.Frag)(ta:TE)(f:Str):TE:=fun σ H Q=>ta σ H fun x H1=>∃a C dx fs v,x=.ref a/\H1 a=some (.ins C dx fs)/\Cls K C/\NoAttr K C f/\fs.lookup f=some v/\Q v H1
def Zbk(K:W.Frag)(ta tv:TE)(f:Str):TS:=fun D σ H=>tv σ H fun y H1=>ta σ H1 fun x H2=>∃a C dx fs,x=.ref a/\H2 a=some (.ins C dx fs)/\Cls K C/\NoAttr K C f/\fs.length<1000 /\
 D.nx σ (Zq H2 a (.ins C dx (Yg f y fs)))
def Zjt(X:Cx)(op:Operator)(rd:V->V->Hp->VK->Prop):Prop :=
 ∀(Z6:List (Addr×Obj)) (s:Shared) (σ:St) (H:Hp) (x y:V) (u v:Value) (Q:VK),Inv X Z6 σ H s->RelV x u->RelV y v->rd x y H Q->wpAny (model X.prog X.w) X.A (inplaceOp op u v) (EP X Z6 σ Q) X.xe s
def Zf7(K:W.Frag)(ta tv:TE)(rd:V->V->Hp->VK->Prop)(f:Str):TS:=fun D σ H=>ta σ H fun x H1=>∃a C dx fs v,x=.ref a/\H1 a=some (.ins C dx fs)/\Cls K C/\NoAttr K C f/\fs.lookup f=some v /\
 tv σ H1 fun y H2=>rd v y H2 fun z H3=>∃dx' fs',H3 a=some (.ins C dx' fs')/\fs'.length<1000/\D.nx σ (Zq H3 a (.ins C dx' (Yg f z fs')))
section
variable{X:Cx}{o e value:Expr}{f:Str}{pos pos' tpos:Pos}{ta tv:TE}{Z6:List (Addr×Obj)}{σ:St}{H:Hp}{s:Shared}{A:Around}{E Q:Value->Shared->Prop}{c:Value}{b:Bool}
theorem Zt(he:PE X e ta)(hb:attributeBase e f X.env (eval e X.env)=eval e X.env):PE X (.Attribute e f pos) (Zl4 X.K ta f):=by
 intro Z6 s σ H Q I h
 refine Zgd hb (W9 (he Z6 s σ H _ I h) fun u s1 ⟨x,H1,I1,rx,a,C,dx,fs,v,ex,ea,c,n,l,q⟩=>?_)
 subst ex
 obtain rfl:u=Value.ref a:=rx
 exact Z2l I1 ea c n l fun u' s2 I2 ru=>⟨v,H1,I2,ru,q⟩
theorem Yk(ha:PE X o ta)(hv:PE X value tv)(hs:swapsWith value (some (.Attribute o f pos')) pos.line X.env=pure false):PS X (.Assign [.Attribute o f pos'] value pos) (Zbk X.K ta tv f):=by
 intro Z6 s σ H D I h
 refine plainObj_wpAny_Assign_Attribute (W9 (hv Z6 s σ H _ I h) fun u s1 ⟨y,H1,I1,ry,q⟩=>W9 (ha Z6 s1 σ H1 _ I1 q) fun ov s2 ⟨x,H2,I2,rx,a,C,dx,fs,ex,ea,c,n,l,q2⟩=>?_) hs
 subst ex
 obtain rfl:ov=Value.ref a:=rx
 exact Z2f I2 ea c n l ry fun s3 I3=>⟨σ,_,I3,q2⟩
theorem Jd{op:Operator}{rd:V->V->Hp->VK->Prop}(ha:PE X o ta)(hv:PE X value tv)(hop:Zjt X op rd):PS X (.AugAssign (.Attribute o f tpos) op value pos) (Zf7 X.K ta tv rd f):=by
 intro Z6 s σ H D I h
 refine wpAny_AugAssign_AttributeAny (W9 (ha Z6 s σ H _ I h) fun ov s1 ⟨x,H1,I1,rx,a,C,dx,fs,v,ex,ea,c,n,l,q⟩=>?_)
 subst ex
 obtain rfl:ov=Value.ref a:=rx
 refine Z2l I1 ea c n l fun u s2 I2 ru=>W9 (hv Z6 s2 σ H1 _ I2 q) fun w3 s3 ⟨y,H2,I3,ry,q3⟩=>W9 (hop Z6 s3 σ H2 v y u w3 _ I3 ru ry q3) fun w4 s4 ⟨z,H3,I4,rz,dx',fs',ea',l',q4⟩=>?_
 exact Z2f I4 ea' c n l' rz fun s5 I5=>⟨σ,_,I5,q4⟩
def Zmc:V->V->Hp->VK->Prop:=fun x y H Q=>∃i j,x=.int i/\y=.int j/\Q (.int (i+j)) H
def Zm6:V->V->Hp->VK->Prop:=fun x y H Q=>∃i j,x=.int i/\y=.int j/\Q (.int (i-j)) H
theorem Z8w:Zjt X .Add Zmc:=by
 rintro Z6 s σ H x y u v Q I rx ry ⟨i,j,rfl,rfl,q⟩
 obtain⟨t,rfl⟩:=(show ∃t,u=Value.int i t from rx)
 obtain⟨t',rfl⟩:=(show ∃t',v=Value.int j t' from ry)
 exact PyProof.Rows.iadd_int ⟨.int (i+j),H,I.tok _,⟨_,rfl⟩,q⟩
theorem Zjb:Zjt X .Sub Zm6:=by
 rintro Z6 s σ H x y u v Q I rx ry ⟨i,j,rfl,rfl,q⟩
 obtain⟨t,rfl⟩:=(show ∃t,u=Value.int i t from rx)
 obtain⟨t',rfl⟩:=(show ∃t',v=Value.int j t' from ry)
 exact PyProof.Rows.isub_int ⟨.int (i-j),H,I.tok _,⟨_,rfl⟩,q⟩
theorem methcall_of{pl:Sem Bool}{m:Str}{apos:Pos}{args:List Expr}{Z6:List (Addr×Obj)}{s:Shared}{σ:St}{H:Hp}{Q:Value->Shared->Prop}{te:TE}(he:PE X e te)(I:Inv X Z6 σ H s)
  (h:te σ H fun x H1=>∃a C dx fs g,x=.ref a/\H1 a=some (.ins C dx fs)/\Cls X.K C/\Meth X.K C m g/\fs.lookup m=none /\
   ∀s1,Inv X Z6 σ H1 s1->wpAny (model X.prog X.w) X.A (callWith pos (.ref g) [.ref a] (backTo pos (starEach args X.env)) (backToKw pos (keywordEach [] X.env))) Q X.xe s1)
  (ht:eval (.Call (.Attribute e m apos) args [] pos) X.env=(do
   let ov ← eval e X.env
   standAt apos.atName
   let(f,first) ← holding [ov] (getMethod ov m pl)
   callWith pos f first (backTo pos (starEach args X.env)) (backToKw pos (keywordEach [] X.env)))) :
  wpAny (model X.prog X.w) X.A (eval (.Call (.Attribute e m apos) args [] pos) X.env) Q X.xe s:=by
 refine W.methodCall_KW (pl:=pl) (W9 (he Z6 s σ H _ I h) fun u s1 ⟨x,H1,I1,rx,a,C,dx,fs,g,ex,ea,c,k,l,q⟩=>?_) ht
 subst ex
 obtain rfl:u=Value.ref a:=rx
 exact Js I1 ea c k l (q s1 I1)
inductive TyOf(K:W.Frag)(H:Hp):V->Value->Prop where
 |non:TyOf K H .non (.type "NoneType")
 |bl (x:Bool):TyOf K H (.bl x) (.type "bool")
 |int (i:Int):TyOf K H (.int i) (.type "int")
 |str (x:Str):TyOf K H (.str x) (.type "str")
 |flt (x:UInt64):TyOf K H (.flt x) (.type "float")
 |lst {a:Addr} {xs:List V} (e:H a=some (.lst xs)):TyOf K H (.ref a) (.type "list")
 |frz {a:Addr} {o:Obj} {xs:List V} (e:H a=some (.frz o (.lst xs))):TyOf K H (.ref a) (.type "list")
 |tup {a:Addr} {xs:List V} (e:H a=some (.tup xs)):TyOf K H (.ref a) (.type "tuple")
 |dK {a:Addr} {kvs:List (Ti×V)} (e:H a=some (.dK kvs)):TyOf K H (.ref a) (.type "dict")
 |dT {a:Addr} {kvs:List (List Ti×V)} (e:H a=some (.dT kvs)):TyOf K H (.ref a) (.type "dict")
 |ins {a C dx:Addr} {fs:List (Str×V)} (e:H a=some (.ins C dx fs)) (cl:Cls K C) (ha:W.findIn K (.ref C) "__class__" = some (some (.builtin "object.__class__")))
   (hn:W.specialIn K (.builtin "object.__class__") "__get__" = some (some (.builtin "getset_descriptor.__get__"))) (htk:W.takesIn K (.builtin "object.__class__")=some true)
   (hm:W.mroIn K C (.type "object")=some true):TyOf K H (.ref a) (.ref C)
theorem Zba{x:V}{u t:Value}(I:Inv X Z6 σ H s)(rx:RelV x u)(ty:TyOf X.K H x t)(e:W.kitOne X.K t c=some b)(h:∀tk,Q (.bool b) { s with toks:=tk }) :
  wpAny (model X.prog X.w) A (call (.builtin "isinstance") [u,c]) Q E s:=by
 cases ty with
 |non=>cases(show u=Value.none from rx);exact W.kia_one W.kitx_none I.kIn True.intro e (fun z=>nomatch z) h
 |bl y=>cases(show u=Value.bool y from rx);exact W.kia_one W.kitx_bool I.kIn True.intro e (fun z=>nomatch z) h
 |int i=>obtain⟨t,q⟩:=(show ∃t,u=Value.int i t from rx);cases q;exact W.kia_one W.kitx_int I.kIn True.intro e (fun z=>nomatch z) h
 |str y=>obtain⟨t,q⟩:=(show ∃t,u=Value.str y t from rx);cases q;exact W.kia_one W.kitx_str I.kIn True.intro e (fun z=>nomatch z) h
 |flt y=>obtain⟨t,q⟩:=(show ∃t,u=Value.float y t from rx);cases q;exact W.kia_one W.kitx_float I.kIn True.intro e (fun z=>nomatch z) h
 | @lst a xs ea =>
  cases(show u=Value.ref a from rx)
  obtain⟨_,_,n,_,h1⟩:=(show ObjOk X.prog X.w H s.heap a (.lst xs) from I.hok a _ ea)
  exact W.kia_one W.kitx_list I.kIn ⟨_,h1,rfl⟩ e (fun z=>nomatch z) h
 | @frz a ob xs ea =>
  cases(show u=Value.ref a from rx)
  obtain⟨_,_,_,n,_,h1⟩:=(show ObjOk X.prog X.w H s.heap a (.frz ob (.lst xs)) from I.hok a _ ea)
  exact W.kia_one W.kitx_list I.kIn ⟨_,h1,rfl⟩ e (fun z=>nomatch z) h
 | @tup a xs ea =>
  cases(show u=Value.ref a from rx)
  obtain⟨_,_,_,p⟩:=(show ObjOk X.prog X.w H s.heap a (.tup xs) from I.hok a _ ea)
  obtain⟨o,h1,h2,_⟩:=p
  exact W.kia_one W.kitx_tuple I.kIn ⟨o,h1,h2⟩ e (fun z=>nomatch z) h
 | @dK a kvs ea =>
  cases(show u=Value.ref a from rx)
  obtain⟨_,_,vs,_,p⟩:=(show ObjOk X.prog X.w H s.heap a (.dK kvs) from I.hok a _ ea)
  obtain⟨o,es,ep,h1,h2,_⟩:=p
  exact W.kia_one W.kitx_dict I.kIn ⟨o,h1,h2.1⟩ e (fun z=>nomatch z) h
 | @dT a kvs ea =>
  cases(show u=Value.ref a from rx)
  obtain⟨_,_,xs,_,o,es,ep,h1,h2,_⟩:=(show ObjOk X.prog X.w H s.heap a (.dT kvs) from I.hok a _ ea)
  exact W.kia_one W.kitx_dict I.kIn ⟨o,h1,h2.1⟩ e (fun z=>nomatch z) h
 | @ins a C dx fs ea cl ha hn htk hm =>
  cases(show u=Value.ref a from rx)
  obtain⟨mA,O,_⟩:=Z25 I.hok ea
  obtain⟨od,J,_⟩:=O.look
  exact W.kia_one (W.kitx_own (cl.get _) cl.hd ha hn htk hm) I.kIn J e (fun z=>nomatch z) h
end
structure Room(k:Nat)(A:Around):Prop where
 hd:A.handled=none
 dp:A.depth+3*k+5<recursionLimit
 un:A.units+16*k+200<cLine
theorem Room.mono{j k:Nat}{A:Around}(r:Room k A)(h:j<=k):Room j A:=⟨r.hd,by have:=r.dp;omega,by have:=r.un;omega⟩
theorem Room.deeper{k:Nat}{A:Around}(r:Room (k+1) A)(env:Env):Room k (A.deeper env) :=
 ⟨r.hd,by have:=r.dp;show A.depth+1+3*k+5<_;omega,by have:=r.un;show A.units+3+16*k+200<_;omega⟩
theorem Z8b{A:Around}{C:Addr}{us:List Value}{kw:List (Str×Value)}:(A.under (.builtin "type.__call__" ⟨.ref C::us,kw⟩)).depth=A.depth+1:=by
 first | rfl | simp[Around.under,Code.weight,Code.isCreation,Code.isGuard,Code.isCaller,Code.frames,Code.isFrame,guardIds]
theorem Z8a{A:Around}{C:Addr}{us:List Value}{kw:List (Str×Value)}:(A.under (.builtin "type.__call__" ⟨.ref C::us,kw⟩)).units=A.units+1:=by
 first | rfl | simp[Around.under,Code.cUnits,Code.frames,Code.isFrame]
theorem Room.make{k:Nat}{A:Around}(r:Room (k+1) A)(C:Addr)(us:List Value)(kw:List (Str×Value)):Room k (A.under (.builtin "type.__call__" ⟨.ref C::us,kw⟩)) :=
 ⟨r.hd,by have:=r.dp;rw[Z8b];omega,by have:=r.un;rw[Z8a];omega⟩
theorem Room.depth{k:Nat}{A:Around}(r:Room k A):A.depth<recursionLimit:=by have:=r.dp;omega
theorem Room.units0{k:Nat}{A:Around}(r:Room k A):A.units<cLine:=by have:=r.un;omega
def Ub:TA:=fun _ H Q=>Q [] H
def Yy(ta:TE)(tr:TA):TA:=fun σ H Q=>ta σ H fun x H1=>tr σ H1 fun xs H2=>Q (x::xs) H2
section
variable{X:Cx}{e:Expr}{es:List Expr}{te:TE}{t:TA}{pos:Pos}
theorem Z3:PA X [] Ub:=fun _ _ _ _ H Q I h=>Calls.spliced_nil ⟨[],H,I,.nil,h⟩
theorem Z0(ha:PE X e te)(hr:PA X es t)(hs:starEach (e::es) X.env=(false,eval e X.env)::starEach es X.env:=by rfl):PA X (e::es) (Yy te t):=by
 intro pos Z6 s σ H Q I h
 rw[hs]
 show wpAny _ _ (spliced ((false,eval e X.env)::backTo pos (starEach es X.env))) _ _ s
 refine Calls.spliced_cons (W9 (ha Z6 s σ H _ I h) fun u s1 ⟨x,H1,I1,r1,q1⟩=>?_)
 exact W9 (hr pos Z6 s1 σ H1 _ I1 q1) fun us s2 ⟨xs,H2,I2,r2,q2⟩=>⟨x::xs,H2,I2,.cons r1 r2,q2⟩
def Za9(t:TA):TE:=fun σ H Q=>t σ H fun xs H1=>xs.length<=sizeLine/\∀p,H1 p=none->Q (.ref p) (Zq H1 p (.tup xs))
def Zgo(t:TA):TE:=fun σ H Q=>t σ H fun xs H1=>xs.length<=sizeLine/\∀p,H1 p=none->Q (.ref p) (Zq H1 p (.lst xs))
theorem Zr{x1}(h:PA X es t):PE X (.Tuple es x1 pos) (Za9 t):=by
 intro Z6 s σ H Q I hq
 refine wpAny_Tuple_spliced (W9 (h pos Z6 s σ H _ I hq) fun us s1 ⟨xs,H1,I1,r,z,q⟩=>⟨by rw[← r.length];exact z,?_⟩)
 have hf:H1 s1.heap.objs.size=none:=I1.hok.fresh (Nat.le_refl _)
 refine⟨.ref s1.heap.objs.size,Zq H1 s1.heap.objs.size (.tup xs),I1.laid (t':=s1.toks) (fun b u e=>Heap.get?_push_of_some _ e) (Nat.le_refl _) ?_,rfl,q _ hf⟩
 exact⟨z,us,r,⟨_,Heap.get?_push_size _ rfl,rfl,_,rfl⟩⟩
theorem Y4(h:PA X es t):PE X (.List es pos) (Zgo t):=by
 intro Z6 s σ H Q I hq
 refine wpAny_List_spliced (W9 (h pos Z6 s σ H _ I hq) fun us s1 ⟨xs,H1,I1,r,z,q⟩=>⟨by rw[← r.length];exact z,?_⟩)
 have hf:H1 s1.heap.objs.size=none:=I1.hok.fresh (Nat.le_refl _)
 refine⟨.ref s1.heap.objs.size,Zq H1 s1.heap.objs.size (.lst xs),I1.laid (t':=s1.toks) (fun b u e=>Heap.get?_push_of_some _ e) (Nat.le_refl _) ?_,rfl,q _ hf⟩
 exact⟨z,us,0,r,Heap.get?_push_size _ rfl⟩
end
abbrev Sp:=List V->Hp->VK->XK->Prop
abbrev Zd7:=List Env->Hp->Shared->XK->Value->Shared->Prop
structure Env0(P:Program)(w:World)(K:W.Frag)(mg:Str->Option Value)(base:Heap)(A:Around)(outer:List Env)(s:Shared)(H:Hp):Prop where
 frames:A.frames=some outer
 mod:Mod K mg base
 bs:∀b o,base.get? b=some o->s.heap.get? b=some o/\H b=none
 bsz:base.objs.size<=s.heap.objs.size
 funs:s.heap.FunFrames base outer
 frf:∀b∈Z3m outer,H b=none
 hok:HOk P w H s.heap
 bare:AllBare s.gens
def CE(outer:List Env)(P:Program)(w:World)(H:Hp)(s:Shared)(Q:VK)(u:Value)(s':Shared):Prop :=
 ∃v H',s'.os=s.os/\AllBare s'.gens/\Un (Z3m outer) [] H H' s.heap s'.heap/\HOk P w H' s'.heap/\RelV v u/\Q v H'
def CR(CX:Zd7)(outer:List Env)(P:Program)(w:World)(H:Hp)(s:Shared)(Q:VK)(E:XK)(r:Result)(s':Shared):Prop :=
 match r with
 |.ok (.ret u)=>CE outer P w H s Q u s'
 |.ok _=>False
 |.error e=>CX outer H s E e s'
structure FnOk(P:Program)(w:World)(K:W.Frag)(mg:Str->Option Value)(base:Heap)(CX:Zd7)(k:Nat)(f:Addr)(fd:FuncData)(ps:List Str)(sp:Sp):Prop where
 len:∀vs H Q E,sp vs H Q E->vs.length=ps.length
 run:∀(A:Around) (outer:List Env) (s:Shared) (H:Hp) (args:Args) (us:List Value) (vs:List V) (Q:VK) (E:XK),Room k A->Env0 P w K mg base A outer s H->BindsTo s fd args (ps.zip us)->Vals vs us->sp vs H Q E ->
  codeAny (model P w) A (.call (.ref f) args) (CR CX outer P w H s Q E) s
theorem FnOk.mono{P:Program}{w:World}{K:W.Frag}{mg:Str->Option Value}{base:Heap}{CX:Zd7}{j k:Nat}{f:Addr}{fd:FuncData}{ps:List Str}{sp:Sp}(F:FnOk P w K mg base CX j f fd ps sp)(h:j<=k) :
  FnOk P w K mg base CX k f fd ps sp:=⟨F.len,fun A outer s H args us vs Q E hr=>F.run A outer s H args us vs Q E (hr.mono h)⟩
theorem FnOk.imp{P:Program}{w:World}{K:W.Frag}{mg:Str->Option Value}{base:Heap}{CX:Zd7}{k:Nat}{f:Addr}{fd:FuncData}{ps:List Str}{sp sp':Sp}(F:FnOk P w K mg base CX k f fd ps sp)
  (h:∀vs H Q E,sp' vs H Q E->sp vs H Q E):FnOk P w K mg base CX k f fd ps sp' :=
 ⟨fun vs H Q E q=>F.len vs H Q E (h _ _ _ _ q),fun A outer s H args us vs Q E hr he hb hv hs=>F.run A outer s H args us vs Q E hr he hb hv (h _ _ _ _ hs)⟩
theorem Env0.make{P:Program}{w:World}{K:W.Frag}{mg:Str->Option Value}{base:Heap}{A:Around}{outer:List Env}{s:Shared}{H:Hp}(e:Env0 P w K mg base A outer s H)(C:Addr)(us:List Value)(kw:List (Str×Value)) :
  Env0 P w K mg base (A.under (.builtin "type.__call__" ⟨.ref C::us,kw⟩)) outer s H:=⟨by first | exact e.frames | (simpa[Around.under,Code.envs,Code.isFrame,pushEnvs] using e.frames),e.mod,e.bs,e.bsz,e.funs,e.frf,e.hok,e.bare⟩
section
variable{X:Cx}{Z6:List (Addr×Obj)}{σ:St}{H:Hp}{s s':Shared}
theorem Inv.env0(I:Inv X Z6 σ H s):Env0 X.prog X.w X.K X.mg X.base X.A X.stack s H :=
 ⟨I.ok.frames,I.ok.mod,I.bs,Nat.le_trans I.ok.bsz I.sz,I.stack,I.stkFree,I.hok,I.bare⟩
theorem Inv.after{Q:VK}{u:Value}(I:Inv X Z6 σ H s)(h:CE X.stack X.prog X.w H s Q u s'):EP X Z6 σ Q u s':=by
 obtain⟨v,H',os,bare,un,hok,r,q⟩:=h
 obtain⟨hh,g,d,t,os'⟩:=s'
 obtain rfl:os'=s.os:=os
 exact⟨v,H',I.call (h':=hh) (g':=g) (d':=d) (t':=t) (ch:=[]) un hok bare (fun b z=>absurd z (by simp)),r,q⟩
end
def Z1r(sp:Sp)(dvs:List V)(E:XK)(t:TA):TE:=fun σ H Q=>t σ H fun vs H1=>sp (vs++dvs) H1 Q E
def Zad(C:Addr)(m:Str)(sp:Sp)(dvs:List V)(E:XK)(ta:TE)(t:TA):TE:=fun σ H Q=>ta σ H fun x H1=>∃a dx fs,x=.ref a/\H1 a=some (.ins C dx fs)/\fs.lookup m=none /\
 t σ H1 fun vs H2=>sp (x::(vs++dvs)) H2 Q E
def Zgw(C:Addr)(sp:Sp)(dvs:List V)(E:XK)(t:TA):TE:=fun σ H Q=>t σ H fun vs H1=>∀x dx,H1 x=none->H1 dx=none->dx≠x ->
 sp (.ref x::(vs++dvs)) (Zq (Zq H1 dx (.own x)) x (.ins C dx [])) (fun v H2=>v=.non/\Q (.ref x) H2) E
def Binds(K:W.Frag)(fd:FuncData)(ps:List Str)(ds:List Value):Prop :=
 ∀(s:Shared) (us:List Value),K.In s.heap->(us++ds).length=ps.length->BindsTo s fd ⟨us,[]⟩ (ps.zip (us++ds))
theorem Binds.all{K:W.Frag}{fd:FuncData}{ps:List Str}(h:∀us:List Value,us.length=ps.length->bindArgs fd ⟨us,[]⟩=pure (ps.zip us)):Binds K fd ps []:=fun s us _ hl=>by
 rw[List.append_nil]at hl ⊢
 exact .of_eq (h us hl)
def U4(CX:Zd7)(X:Cx)(E:XK):Prop:=∀(Z6:List (Addr×Obj)) (σ:St) (H:Hp) (s:Shared) (e:Value) (s':Shared),Inv X Z6 σ H s->CX X.stack H s E e s'->X.xe e s'
section
variable{X:Cx}{CX:Zd7}{k:Nat}{f C:Addr}{fd:FuncData}{ps:List Str}{sp:Sp}{dvs:List V}{ds:List Value}{E:XK}{x m:Str}{p pos apos:Pos}{e o:Expr}{es:List Expr}{ta:TE}{t:TA}
theorem Z5q{Z6:List (Addr×Obj)}{σ:St}{H:Hp}{s:Shared}{Q:VK}{us:List Value}{vs:List V}(F:FnOk X.prog X.w X.K X.mg X.base CX k f fd ps sp)(hr:Room k X.A)(hb:Binds X.K fd ps ds)(hd:Vals dvs ds)(hx:U4 CX X E)
  (I:Inv X Z6 σ H s) (r:Vals vs us) (h:sp (vs++dvs) H Q E):wpAny (model X.prog X.w) X.A (call (.ref f) us) (EP X Z6 σ Q) X.xe s:=by
 have r2:Vals (vs++dvs) (us++ds):=r.append hd
 have hl:(us++ds).length=ps.length:=by rw[← r2.length];exact F.len _ _ _ _ h
 refine wpAny_call (codeAny_mono (F.run X.A X.stack s H ⟨us,[]⟩ (us++ds) (vs++dvs) Q E hr I.env0 (hb s us I.kIn hl) r2 h) fun r s' hq=>?_)
 cases r with
 |error e=>exact hx Z6 σ H s e s' I hq
 |ok fl =>
  cases fl with
  |ret u=>exact I.after hq
  |next=>exact False.elim hq
  |brk=>exact False.elim hq
  |cont=>exact False.elim hq
theorem Z9f(F:FnOk X.prog X.w X.K X.mg X.base CX k f fd ps sp)(hr:Room k X.A)(hg:Gl X x)(hm:X.mg x=some (.ref f))(hk:W.keepIn X.K (.ref f)=true)(hb:Binds X.K fd ps ds)(hd:Vals dvs ds)(hx:U4 CX X E)
  (ha:PA X (e::es) t) (hdb:(x==("__debug__":Str))=false:=by decide) (he:starEach (e::es) X.env=(false,eval e X.env)::starEach es X.env:=by rfl) (hpl:(backTo pos (starEach es X.env)).any (·.1)=false:=by rfl) :
  PE X (.Call (.Name x p) (e::es) [] pos) (Z1r sp dvs E t):=by
 intro Z6 s σ H Q I h
 refine wpAny_Call_Name_kw (Z0l I hg hm ?_ hdb)
 refine W.callWith_K (h₀:=X.base) I.ok.mod.kin hk (W9 (ha pos Z6 s σ H _ I h) fun us s1 ⟨vs,H1,I1,r,q⟩=>⟨I1.kIn,?_⟩) he hpl
 exact Z5q F hr hb hd hx I1 r q
theorem Zfd{pl:Sem Bool}(he:PE X o ta)(c:Cls X.K C)(hm:Meth X.K C m f)(F:FnOk X.prog X.w X.K X.mg X.base CX k f fd ps sp)(hr:Room k X.A)(hb:Binds X.K fd ps ds)(hd:Vals dvs ds)(hx:U4 CX X E)(ha:PA X (e::es) t)
  (hst:starEach (e::es) X.env=(false,eval e X.env)::starEach es X.env:=by rfl) (hpl:(backTo pos (starEach es X.env)).any (·.1)=false:=by rfl)
  (ht:eval (.Call (.Attribute o m apos) (e::es) [] pos) X.env=(do
   let ov ← eval o X.env
   standAt apos.atName
   let(f,first) ← holding [ov] (getMethod ov m pl)
   callWith pos f first (backTo pos (starEach (e::es) X.env)) (backToKw pos (keywordEach [] X.env))):=by rfl) :
  PE X (.Call (.Attribute o m apos) (e::es) [] pos) (Zad C m sp dvs E ta t):=by
 intro Z6 s σ H Q I h
 refine W.methodCall_KW (pl:=pl) (W9 (he Z6 s σ H _ I h) fun u s1 ⟨x,H1,I1,rx,a,dx,fs,ex,ea,l,q⟩=>?_) ht
 subst ex
 obtain rfl:u=Value.ref a:=rx
 refine Js I1 ea c hm l ?_
 refine W.callWith_K (first:=[.ref a]) (h₀:=X.base) I.ok.mod.kin hm.kp (W9 (ha pos Z6 s1 σ H1 _ I1 q) fun us s2 ⟨vs,H2,I2,r,q2⟩=>⟨I2.kIn,?_⟩) hst hpl
 exact Z5q (us:=.ref a::us) (vs:=.ref a::vs) F hr hb hd hx I2 (.cons rfl r) q2
theorem Zc3{pl:Sem Bool}(he:PE X o ta)(c:Cls X.K C)(hm:Meth X.K C m f)(F:FnOk X.prog X.w X.K X.mg X.base CX k f fd ps sp)(hr:Room k X.A)(hb:Binds X.K fd ps ds)(hd:Vals dvs ds)(hx:U4 CX X E)
  (ht:eval (.Call (.Attribute o m apos) [] [] pos) X.env=(do
   let ov ← eval o X.env
   standAt apos.atName
   let(f,first) ← holding [ov] (getMethod ov m pl)
   callWith pos f first (backTo pos (starEach [] X.env)) (backToKw pos (keywordEach [] X.env))):=by rfl) :
  PE X (.Call (.Attribute o m apos) [] [] pos) (Zad C m sp dvs E ta Ub):=by
 intro Z6 s σ H Q I h
 refine W.methodCall_KW (pl:=pl) (W9 (he Z6 s σ H _ I h) fun u s1 ⟨x,H1,I1,rx,a,dx,fs,ex,ea,l,q⟩=>?_) ht
 subst ex
 obtain rfl:u=Value.ref a:=rx
 refine Js I1 ea c hm l ?_
 exact W.callWith_K0 (first:=[.ref a]) I1.kIn hm.kp (Z5q (us:=[.ref a]) (vs:=[.ref a]) F hr hb hd hx I1 (.cons rfl .nil) q)
structure Mk(K:W.Frag)(C f:Addr):Prop where
 makes:W.makesIn K C=true
 init:W.findIn K (.ref C) "__init__" = some (some (.ref f))
 fn:W.isFn K (.ref f)=true
 kp:W.keepIn K (.ref C)=true
theorem Zbz{Z6:List (Addr×Obj)}{σ:St}{H:Hp}{s:Shared}{Q:VK}{us:List Value}{vs:List V}(M:Mk X.K C f)(F:FnOk X.prog X.w X.K X.mg X.base CX k f fd ps sp)(hr:Room (k+1) X.A)(hb:Binds X.K fd ps ds)(hd:Vals dvs ds)
  (hx:U4 CX X E) (I:Inv X Z6 σ H s) (r:Vals vs us)
  (h:∀x dx,H x=none->H dx=none->dx≠x->sp (.ref x::(vs++dvs)) (Zq (Zq H dx (.own x)) x (.ins C dx [])) (fun v H2=>v=.non/\Q (.ref x) H2) E) :
  wpAny (model X.prog X.w) X.A (call (.ref C) us) (EP X Z6 σ Q) X.xe s:=by
 have hq:=h (s.heap.objs.size+1) s.heap.objs.size (I.hok.fresh (Nat.le_succ _)) (I.hok.fresh (Nat.le_refl _)) (Nat.ne_of_lt (Nat.lt_succ_self _))
 have I2:=Inv.made (C:=C) I
 have r2:Vals (V.ref (s.heap.objs.size+1)::(vs++dvs)) (Value.ref (s.heap.objs.size+1)::(us++ds)):=.cons rfl (r.append hd)
 have hl:(Value.ref (s.heap.objs.size+1)::us++ds).length=ps.length:=by
  have e:=r2.length
  rw[F.len _ _ _ _ hq]at e
  exact e.symm
 refine wpAny_call (Zcr (f:=f) I.kIn M.makes M.init (beq_iff_eq.mp M.fn) (codeAny_mono (F.run _ X.stack _ _ ⟨Value.ref (s.heap.objs.size+1)::us,[]⟩ (Value.ref (s.heap.objs.size+1)::(us++ds)) _ _ E (hr.make C us [])
  (I2.env0.make C us []) (hb _ (Value.ref (s.heap.objs.size+1)::us) I2.kIn hl) r2 hq) fun r s' hq'=>?_))
 cases r with
 |error e=>exact hx Z6 σ _ _ e s' I2 hq'
 |ok fl =>
  cases fl with
  |ret u =>
   obtain⟨v,H',I3,rv,ev,q3⟩:=I2.after hq'
   subst ev
   exact⟨rv,⟨V.ref (s.heap.objs.size+1),H',I3,rfl,q3⟩⟩
  |next=>exact False.elim hq'
  |brk=>exact False.elim hq'
  |cont=>exact False.elim hq'
theorem Zff(M:Mk X.K C f)(F:FnOk X.prog X.w X.K X.mg X.base CX k f fd ps sp)(hr:Room (k+1) X.A)(hg:Gl X x)(hm:X.mg x=some (.ref C))(hb:Binds X.K fd ps ds)(hd:Vals dvs ds)(hx:U4 CX X E)
  (ha:PA X (e::es) t) (hdb:(x==("__debug__":Str))=false:=by decide) (he:starEach (e::es) X.env=(false,eval e X.env)::starEach es X.env:=by rfl) (hpl:(backTo pos (starEach es X.env)).any (·.1)=false:=by rfl) :
  PE X (.Call (.Name x p) (e::es) [] pos) (Zgw C sp dvs E t):=by
 intro Z6 s σ H Q I h
 refine wpAny_Call_Name_kw (Z0l I hg hm ?_ hdb)
 refine W.callWith_K (h₀:=X.base) I.ok.mod.kin M.kp (W9 (ha pos Z6 s σ H _ I h) fun us s1 ⟨vs,H1,I1,r,q⟩=>⟨I1.kIn,?_⟩) he hpl
 exact Zbz M F hr hb hd hx I1 r q
end
def PK(X:Cx)(kws:List Keyword)(t:TA):Prop :=
 ∀(pos:Pos) (Z6:List (Addr×Obj)) (s:Shared) (σ:St) (H:Hp) (Q:List V->Hp->Prop),Inv X Z6 σ H s->t σ H Q->wpAny (model X.prog X.w) X.A (evalAll ((backToKw pos (keywordEach kws X.env)).map (·.2))) (AP X Z6 σ Q) X.xe s
section
variable{X:Cx}{CX:Zd7}{k:Nat}{f C:Addr}{fd:FuncData}{ps ks:List Str}{sp:Sp}{E:XK}{x m:Str}{p pos apos kpos:Pos}{e o:Expr}{es:List Expr}{kws:List Keyword}{te ta:TE}{t tk:TA}{nm:Option Str}
theorem Zih:PK X [] Ub:=fun _ _ _ _ H Q I h=>wpAny_evalAll_nil ⟨[],H,I,.nil,h⟩
theorem Zfb(ha:PE X e te)(hr:PK X kws t):PK X (⟨nm,e,kpos⟩::kws) (Yy te t):=by
 intro pos Z6 s σ H Q I h
 show wpAny _ _ (evalAll ((do let v ← eval e X.env;standAt pos;pure v)::(backToKw pos (keywordEach kws X.env)).map (·.2))) _ _ s
 refine wpAny_evalAll_cons (wpAny_bind (W9 (ha Z6 s σ H _ I h) fun u s1 ⟨x,H1,I1,r1,q1⟩=>wpAny_bind (wpAny_standAt (wpAny_pure ?_))))
 exact W9 (hr pos Z6 s1 σ H1 _ I1 q1) fun us s2 ⟨xs,H2,I2,r2,q2⟩=>⟨x::xs,H2,I2,.cons r1 r2,q2⟩
variable{g:List Value->List Value->List Value}{gV:List V->List V->List V}
end
structure FnScope(N P:List Str)(sc:Scope):Prop where
 kind:sc.kind=.function
 co:sc.isCoroutine=false
 gen:sc.isGenerator=false
 nd:N.Nodup
 pre:N.take P.length=P
 par:∀x∈P,sc.names.lookup x=some .local∨sc.names.lookup x=some .cell
 nofree:∀y∈sc.names,y.2≠.free
theorem Z4e{kindOf:Str->Option NameKind}{x:Str}:∀ {binds:List (Str×Value)} {m:Str->Option Value},(∀v,(x,v)∉binds)->bindL kindOf binds m x=m x
 | [],_,_=>rfl
 |(n,v)::r,m,h=>by
  unfold bindL
  rw[Z4e fun w hw=>h w (List.mem_cons_of_mem _ hw)]
  split
  ·have:x≠n:=by rintro rfl;exact h v List.mem_cons_self
   simp[this]
  ·rfl
theorem Z4g{kindOf:Str->Option NameKind}{x:Str}:∀ {binds:List (Str×Value)} {m:Str->Option Value},(∀v,(x,v)∉binds)->bindC kindOf binds m x=m x
 | [],_,_=>rfl
 |(n,v)::r,m,h=>by
  unfold bindC
  rw[Z4g fun w hw=>h w (List.mem_cons_of_mem _ hw)]
  split
  ·rfl
  ·have:x≠n:=by rintro rfl;exact h v List.mem_cons_self
   simp[this]
theorem Z4f{kindOf:Str->Option NameKind}{x:Str}{v:Value}:∀ {P:List Str} {vs:List Value} {i:Nat} {m:Str->Option Value},P.Nodup->P[i]? = some x->vs[i]? = some v->kindOf x=some .local ->
  bindL kindOf (P.zip vs) m x=some v
 | [],_,_,_,_,h,_,_=>by simp at h
 |_::_,[],_,_,_,_,h,_=>by simp at h
 |p::P,w::vs,0,m,nd,h1,h2,hk=>by
  simp at h1 h2;subst h1;subst h2
  show bindL kindOf ((p,w)::P.zip vs) m p=_
  unfold bindL
  rw[Z4e fun v hv=>(List.nodup_cons.mp nd).1 (List.of_mem_zip hv).1,if_pos hk]
  simp
 |p::P,w::vs,i+1,m,nd,h1,h2,hk=>by
  show bindL kindOf ((p,w)::P.zip vs) m x=_
  unfold bindL
  exact Z4f (i:=i) (List.nodup_cons.mp nd).2 (by simpa using h1) (by simpa using h2) hk
theorem Z4h{kindOf:Str->Option NameKind}{x:Str}{v:Value}:∀ {P:List Str} {vs:List Value} {i:Nat} {m:Str->Option Value},P.Nodup->P[i]? = some x->vs[i]? = some v->kindOf x≠some .local ->
  bindC kindOf (P.zip vs) m x=some v
 | [],_,_,_,_,h,_,_=>by simp at h
 |_::_,[],_,_,_,_,h,_=>by simp at h
 |p::P,w::vs,0,m,nd,h1,h2,hk=>by
  simp at h1 h2;subst h1;subst h2
  show bindC kindOf ((p,w)::P.zip vs) m p=_
  unfold bindC
  rw[Z4g fun v hv=>(List.nodup_cons.mp nd).1 (List.of_mem_zip hv).1,if_neg hk]
  simp
 |p::P,w::vs,i+1,m,nd,h1,h2,hk=>by
  show bindC kindOf ((p,w)::P.zip vs) m x=_
  unfold bindC
  exact Z4h (i:=i) (List.nodup_cons.mp nd).2 (by simpa using h1) (by simpa using h2) hk
def start(N:List Str)(vs:List V):St:=vs.map some++List.replicate (N.length-vs.length) none
def Z3r(CX:Zd7)(P:Program)(w:World)(K:W.Frag)(mg:Str->Option Value)(base:Heap)(N:List Str)(qual:Str)(scope:Scope)(f:Addr)(cd:Value)(A:Around)(outer:List Env)(s:Shared)(H:Hp)(E:XK):Cx where
 prog:=P
 w:=w
 K:=K
 mg:=mg
 base:=base
 A:=A.deeper (envOfC qual scope s.heap.objs.size f cd)
 N:=N
 s₀:=s
 H₀:=H
 env:=envOfC qual scope s.heap.objs.size f cd
 outer:=outer
 stack:=envOfC qual scope s.heap.objs.size f cd::outer
 ex:=[]
 calm:=true
 fn:=fun _=>true
 pn:=[]
 xe:=fun e s'=>wpAny (model P w) (A.deeper (envOfC qual scope s.heap.objs.size f cd)) (leaving (envOfC qual scope s.heap.objs.size f cd) e) (fun _ s''=>CX outer H s E e s'') (fun e' s''=>CX outer H s E e' s'') s'
theorem Z7b{sc:Scope}{n:Nat}{x:Str}(h:sc.names.lookup x=some .cell):∃c,(cellsFrom n sc.names []).lookup x=some c:=by
 have q:=W.cellsFrom_some sc.names n [] (.inl h)
 exact Option.isSome_iff_exists.mp q
theorem Zbb{CX:Zd7}{P:Program}{w:World}{K:W.Frag}{mg:Str->Option Value}{base:Heap}{N ps:List Str}{qual:Str}{scope:Scope}{f:Addr}{cd:Value}{A:Around}{outer:List Env}{s s1:Shared}{H:Hp}{E:XK}{us:List Value}{vs:List V}
  (S:FnScope N ps scope) (hd:A.handled=none) (e0:Env0 P w K mg base A outer s H) (hl:vs.length=ps.length) (r:Vals vs us)
  (x:InCallC s s.heap.objs.size (bindL (envOfC qual scope s.heap.objs.size f cd).kindOf (ps.zip us) fun _=>none) (cellsFrom (s.heap.objs.size+1) scope.names []) (bindC (envOfC qual scope s.heap.objs.size f cd).kindOf (ps.zip us) fun _=>none) s1) :
  Inv (Z3r CX P w K mg base N qual scope f cd A outer s H E) [] (start N vs) H s1:=by
 have hpl:ps.length<=N.length:=by have:=congrArg List.length S.pre;rw[List.length_take]at this;omega
 obtain⟨h1,tk,rfl,hk⟩:=x.done
 have noA:∀b:Addr,b∉(Z3r CX P w K mg base N qual scope f cd A outer s H E).ex:=fun b z=>absurd (show b∈([]:List Addr) from z) (by simp)
 refine⟨⟨e0.mod,S.kind,rfl,rfl,Nat.le_refl _,fun y z c h1 h2=>?_,fun y hy=>?_,fun y c _ h=>?_,fun _=>hd,Around.frames_deeper e0.frames,.inr ⟨rfl,rfl⟩,fun b z=>absurd z (noA b),e0.bs,e0.bsz,fun b _ _=>noA b,fun b z=>absurd z (noA b),e0.funs,e0.frf⟩,
  rfl,e0.bare,Un.kept hk,⟨_,x.toInCall.ns,fun i y v h1 h2 h3=>?_⟩,fun y c h=>⟨_,x.cell y c h⟩,e0.hok.fresh (Nat.le_refl _),fun y c h=>?_,fun p hp=>absurd (show p∈([]:List (Addr×Obj)) from hp) (by simp),e0.hok.kept hk,?_⟩
 ·exact name_of_addr x.apart (PySem.mem_of_lookup h1) (PySem.mem_of_lookup h2)
 ·have hy:scope.names.lookup y=some .cell∨scope.names.lookup y=some .free:=hy
  rcases hy with hy | hy
  ·exact Z7b hy
  ·exact absurd rfl (S.nofree _ (PySem.mem_of_lookup hy))
 ·exact Nat.le_of_lt (x.above y c (PySem.mem_of_lookup h))
 ·have hi:i<vs.length:=by
   unfold start at h2
   by_cases hi:i<vs.length
   ·exact hi
   ·rw[List.getElem?_append_right (by simpa using hi)]at h2
    rw[List.getElem?_replicate]at h2
    split at h2 <;> cases h2
  have ha:vs[i]? = some v:=by
   unfold start at h2
   rw[List.getElem?_append_left (by simpa using hi),List.getElem?_map]at h2
   cases e:vs[i]? with
   |none=>rw[e]at h2;cases h2
   |some a=>rw[e]at h2;cases h2;rfl
  obtain⟨u,hu,rv⟩:=r.get ha
  have hp:ps[i]? = some y:=by
   rw[← S.pre,List.getElem?_take_of_lt (by omega)];exact h1
  have ndP:ps.Nodup:=by rw[← S.pre];exact S.nd.sublist (List.take_sublist _ _)
  refine⟨u,rv,?_⟩
  rcases S.par y (List.mem_of_getElem? hp) with k | k
  ·exact .inl ⟨k,Z4f ndP hp hu k⟩
  ·obtain⟨c,e⟩:=Z7b (n:=s.heap.objs.size+1) k
   refine .inr ⟨.inl k,c,e,?_⟩
   have q:=x.cell y c e
   rw[Z4h ndP hp hu (by show scope.names.lookup y≠_;rw[k];decide)]at q
   exact q
 ·exact e0.hok.fresh (Nat.le_of_lt (x.above y c (PySem.mem_of_lookup h)))
 ·unfold start
  show _=N.length
  rw[List.length_append,List.length_map,List.length_replicate]
  omega
theorem Zh1{CX:Zd7}{P:Program}{w:World}{K:W.Frag}{mg:Str->Option Value}{base:Heap}{k:Nat}{f:Addr}{name qual:Str}{params:Arguments}{body:List Stmt}{scope:Scope}{dV kV doc pm cdv ct oc:Value}{an od:Option Addr}
  {osl:Array (Option Value)} {N ps:List Str} {sp:Sp} (lk:K.lookup f=some ⟨oc,od,.func (W.fnOf name qual params body scope dV kV doc pm an cdv ct),osl⟩) (hcd:W.codeIn K cdv qual=true) (S:FnScope N ps scope)
  (len:∀vs H Q E,sp vs H Q E->vs.length=ps.length)
  (hbody:∀(A:Around) (outer:List Env) (s:Shared) (H:Hp) (vs:List V) (Q:VK) (E:XK),Room k (A.deeper (envOfC qual scope s.heap.objs.size f cdv))->sp vs H Q E ->
   ∃t,PSs (Z3r CX P w K mg base N qual scope f cdv A outer s H E) body t/\t { nx:=fun _ H'=>Q .non H',rt:=Q } (start N vs) H) :
  FnOk P w K mg base CX (k+1) f (W.fnOf name qual params body scope dV kV doc pm an cdv ct) ps sp:=by
 refine⟨len,fun A outer s H args us vs Q E hr e0 hb r hsp=>?_⟩
 have hl:=len _ _ _ _ hsp
 have KX:K.In s.heap:=e0.mod.kin.keeps fun b o e=>(e0.bs b o e).1
 have lim:s.heap.NoLimit:=e0.mod.nolimit.keeps fun b o e=>(e0.bs b o e).1
 have hkind:∀y∈ps.zip us,scope.names.lookup y.1=some .local∨(scope.names.lookup y.1=some .cell/\((cellsFrom (s.heap.objs.size+1) scope.names []).lookup y.1).isSome=true):=fun⟨n,v⟩ hy=>by
  rcases S.par n (List.of_mem_zip hy).1 with q | q
  ·exact .inl q
  ·exact .inr ⟨q,W.cellsFrom_some _ _ _ (.inl q)⟩
 refine codeAny_call_function hr.depth (KX _ _ lk) rfl S.co S.gen rfl (W.codeRec_of KX hcd) (hb _ _ _ _ ?_)
 refine wpAny_newFunctionEnv_cells S.kind hkind fun env he s1 x=>?_
 subst he
 refine⟨lim.keeps x.toInCall.keep,codeAny_func ?_⟩
 obtain⟨t,ht,hq⟩:=hbody A outer s H vs Q E (hr.deeper _) hsp
 have I:Inv (Z3r CX P w K mg base N qual scope f cdv A outer s H E) [] (start N vs) H s1:=Zbb S hr.hd e0 hl r x
 refine wpAny_mono (ht [] s1 (start N vs) H _ I hq) (fun fl s' hs=>?_) fun e s' hs=>hs
 have fin:∀ {σ':St} {H':Hp} {v:V} {u:Value},Inv (Z3r CX P w K mg base N qual scope f cdv A outer s H E) [] σ' H' s'->RelV v u->Q v H'->CE outer P w H s Q u s' :=
  fun{σ' H' v u} J rv q=>⟨v,H',J.os,J.bare,J.base,J.hok,rv,q⟩
 cases fl with
 |ret u =>
  obtain⟨v,σ',H',J,rv,q⟩:=hs
  exact fin J rv q
 |next =>
  obtain⟨σ',H',J,q⟩:=hs
  exact fin (v:=V.non) (u:=Value.none) J rfl q
 |brk =>
  obtain⟨_,_,_,q⟩:=hs
  exact False.elim q
 |cont =>
  obtain⟨_,_,_,q⟩:=hs
  exact False.elim q
section
variable{X:Cx}{x:Str}{p pos:Pos}{e:Expr}{es:List Expr}{t:TA}{id T:String}{r:List V->Hp->VK->Prop}
def Zle(r:List V->Hp->VK->Prop)(t:TA):TE:=fun σ H Q=>t σ H fun vs H1=>r vs H1 Q
theorem Zy(hc:T8 X (.builtin id) r)(hg:Gl X x)(hm:X.mg x=none)(hv:bootBuiltins x=some (.builtin id))(ha:PA X (e::es) t)(hn:x≠"__name__":=by decide)(hdb:(x==("__debug__":Str))=false:=by decide)
  (he:starEach (e::es) X.env=(false,eval e X.env)::starEach es X.env:=by rfl) (hpl:(backTo pos (starEach es X.env)).any (·.1)=false:=by rfl):PE X (.Call (.Name x p) (e::es) [] pos) (Zle r t):=by
 intro Z6 s σ H Q I h
 refine wpAny_Call_Name_kw (Z00 I hg hm hv ?_ hn hdb)
 exact PyProof.Rows.callWith_builtin1 (W9 (ha pos Z6 s σ H _ I h) fun us s1 ⟨vs,H1,I1,r1,q1⟩=>hc Z6 s1 σ H1 vs us Q I1 r1 q1) he hpl
theorem Yu(hc:T8 X (.type T) r)(hg:Gl X x)(hm:X.mg x=none)(hv:bootBuiltins x=some (.type T))(ha:PA X (e::es) t)(hn:x≠"__name__":=by decide)(hdb:(x==("__debug__":Str))=false:=by decide)
  (he:starEach (e::es) X.env=(false,eval e X.env)::starEach es X.env:=by rfl) (hpl:(backTo pos (starEach es X.env)).any (·.1)=false:=by rfl):PE X (.Call (.Name x p) (e::es) [] pos) (Zle r t):=by
 intro Z6 s σ H Q I h
 refine wpAny_Call_Name_kw (Z00 I hg hm hv ?_ hn hdb)
 exact PyProof.Rows.callWith_type1 (W9 (ha pos Z6 s σ H _ I h) fun us s1 ⟨vs,H1,I1,r1,q1⟩=>hc Z6 s1 σ H1 vs us Q I1 r1 q1) he hpl
end
end L2
namespace HT
open PySem PyProof.Rows
section
open PySem.SeqAt
open PySem.AutoSeq1 (wpAny_loadPart')
open PySem.MeetsSeq PySem.MeetsSeq2 PySem.MeetsSeq3
end
section
variable{prog:Program}{w:World}{A:Around}{E:Value->Shared->Prop}{s:Shared}
theorem cat_tup{t b:Addr}{vs ws:List Value}{Q:Value->Shared->Prop}(ht:IsTup s.heap t vs.toArray)(hb:IsTup s.heap b ws.toArray)(hv:vs≠[])
  (h1:ws=[]->Q (.ref t) s) (h2:ws≠[]->Q (.ref s.heap.objs.size) { s with heap:=s.heap.push { cls:=.type "tuple",data:=.seq (vs++ws).toArray } })
  (hsz:vs.length+ws.length<=sizeLine):wpAny (model prog w) A (binaryOp .Add (.ref t) (.ref b)) Q E s:=by
 obtain⟨⟨cls,dd,data,sl⟩,ho,hc,n,hd⟩:=id ht
 obtain⟨⟨cls2,dd2,data2,sl2⟩,ho2,hc2,n2,hd2⟩:=id hb
 simp only at hc hd hc2 hd2
 subst hc hd hc2 hd2
 have e:vs.toArray++ws.toArray=(vs++ws).toArray:=by simp
 by_cases hw:ws=[]
 ·exact concat_meets ⟨_,ho,rfl⟩ ⟨_,ho2,rfl⟩ noFill_tuple_add seq_tuple_add PySem.F.slot_tuple_add PySem.F.entry_tuple_add (PySem.F.args_tuple_add_2 _ _)
   (tuple_addW1 t b vs.toArray ws.toArray n n2 dd dd2 sl sl2 (by simpa using hv) (by simp[hw])) ⟨ho,ho2,h1 hw⟩
 ·refine concat_meets ⟨_,ho,rfl⟩ ⟨_,ho2,rfl⟩ noFill_tuple_add seq_tuple_add PySem.F.slot_tuple_add PySem.F.entry_tuple_add (PySem.F.args_tuple_add_2 _ _)
   (tuple_addW2 t b vs.toArray ws.toArray n n2 dd dd2 sl sl2 (by simpa using hv) (by simpa using hw) (by rw[List.size_toArray,List.size_toArray];exact hsz)) ⟨ho,ho2,?_⟩
  rw[e]
  exact h2 hw
def sIx(n d:Nat):Option Int->Nat
 |none=>d
 |some v=>if v<0 then(v+(n:Int)).toNat else min v.toNat n
theorem sIx_none(n d:Nat):sIx n d none=d:=rfl
theorem sIx_nat(n d k:Nat):sIx n d (some (k:Int))=min k n:=by
 show(if(k:Int)<0 then((k:Int)+(n:Int)).toNat else min (k:Int).toNat n)=min k n
 rw[if_neg (by omega),Int.toNat_natCast]
theorem Zhb(n d:Nat)(hd:d<=n)(o:Option Int):sIx n d o<=n:=by
 cases o with
 |none=>exact hd
 |some v =>
  show(if v<0 then(v+(n:Int)).toNat else min v.toNat n)<=n
  by_cases hv:v<0
  ·rw[if_pos hv];omega
  ·rw[if_neg hv];exact Nat.min_le_right _ _
theorem Za5(v:Int)(n d:Nat):(if v<0 then max (v+(n:Int)) 0 else min v (n:Int))=((sIx n d (some v):Nat):Int):=by
 show(if v<0 then max (v+(n:Int)) 0 else min v (n:Int))=(((if v<0 then(v+(n:Int)).toNat else min v.toNat n):Nat):Int)
 by_cases hv:v<0
 ·simp only[if_pos hv];omega
 ·simp only[if_neg hv];omega
theorem Z8h(lo hi:Option Int)(n:Nat):Builtin.Slice.sliceAdjust lo hi 1 (n:Int)=(((sIx n 0 lo:Nat):Int),((sIx n n hi:Nat):Int)):=by
 have h1:¬((1:Int)<0):=by omega
 unfold Builtin.Slice.sliceAdjust
 simp only[h1,if_false]
 refine Prod.ext ?_ ?_
 ·cases lo with
  |none=>rfl
  |some v=>exact Za5 v n 0
 ·cases hi with
  |none=>rfl
  |some v=>exact Za5 v n n
theorem Z7w(i j:Nat):Builtin.Slice.slicePlaces (i:Int) (j:Int) 1=j-i:=by
 unfold Builtin.Slice.slicePlaces
 have h1:(1:Int)>0:=by omega
 simp only[h1,if_true,Int.ediv_one]
 split <;> omega
theorem Z2d{v:Value}{o:Option Int}{Q:Option Int->Shared->Prop}(p:IsPart v o)(h:Q o s):wpAny (model prog w) A (Builtin.Slice.slicePartIndex v) Q E s:=by
 cases p with
 |none=>exact slicePart_none h
 |int i t=>exact slicePart_int h
theorem Z0o{sl:Addr}{vl vu:Value}{lo hi:Option Int}{n:Nat}{Q:Int×Int×Nat->Shared->Prop}(hs:s.heap.IsSliceOf sl vl vu .none)(pl:IsPart vl lo)(pu:IsPart vu hi)
  (h:Q (((sIx n 0 lo:Nat):Int),1,sIx n n hi-sIx n 0 lo) s):wpAny (model prog w) A (Builtin.Slice.sliceApplied (.ref sl) (pure (n:Int))) Q E s:=by
 obtain⟨os,hos,hcs,hds⟩:=id hs
 unfold Builtin.Slice.sliceApplied Builtin.Slice.sliceFields
 refine wpAny_bind (wpAny_bind (wpAny_field hos hds (x:=vl) rfl (wpAny_bind (wpAny_field hos hds (x:=vu) rfl (wpAny_bind (wpAny_field hos hds (x:=.none) rfl (wpAny_pure ?_)))))))
 refine wpAny_bind (slicePart_none ?_)
 show wpAny _ _ (if((1:Int)==0)=true then _ else _) _ _ s
 rw[if_neg (by decide)]
 refine wpAny_bind (Z2d pl (wpAny_bind (Z2d pu (wpAny_bind (wpAny_pure ?_)))))
 show wpAny _ _ (match Builtin.Slice.sliceAdjust lo hi 1 (n:Int) with | (lo,hi)=>pure (lo,(1:Int),Builtin.Slice.slicePlaces lo hi 1)) _ _ s
 rw[Z8h lo hi n]
 show wpAny _ _ (pure (((sIx n 0 lo:Nat):Int),(1:Int),Builtin.Slice.slicePlaces ((sIx n 0 lo:Nat):Int) ((sIx n n hi:Nat):Int) 1)) _ _ s
 rw[Z7w]
 exact wpAny_pure h
theorem Zc1(xs:Array Value)(i k:Nat):((List.range k).filterMap fun(m:Nat)=>xs[((i:Int)+(m:Int)*1).toNat]?).toArray=((xs.toList.drop i).take k).toArray:=by
 have e:(fun(m:Nat)=>xs[((i:Int)+(m:Int)*1).toNat]?)=fun m=>xs[i+m]?:=by
  funext m
  have:((i:Int)+(m:Int)*1).toNat=i+m:=by omega
  rw[this]
 rw[e]
 have:=pick_run xs i k
 rw[List.filterMap_map]at this
 have e2:((fun x=>xs[x]?) ∘ fun x=>i+x)=fun m=>xs[i+m]?:=rfl
 rw[e2]at this
 rw[this]
theorem getItem_tuple_cut{t sl:Addr}{items:Array Value}{vl vu:Value}{lo hi:Option Int}{Q:Value->Shared->Prop}(ht:IsTup s.heap t items)(hs:s.heap.IsSliceOf sl vl vu .none)(pl:IsPart vl lo)(pu:IsPart vu hi)
  (hw:¬(sIx items.size 0 lo=0/\sIx items.size items.size hi=items.size))
  (h:Q (.ref s.heap.objs.size) { s with heap:=s.heap.push { cls:=.type "tuple",data:=.seq ((items.toList.drop (sIx items.size 0 lo)).take (sIx items.size items.size hi-sIx items.size 0 lo)).toArray } })
  (hsz:items.size<=sizeLine):wpAny (model prog w) A (getItem (.ref t) (.ref sl)) Q E s:=by
 have htake:sizeOk (.seq ((items.toList.drop (sIx items.size 0 lo)).take (sIx items.size items.size hi-sIx items.size 0 lo)).toArray):=by
  show((items.toList.drop (sIx items.size 0 lo)).take (sIx items.size items.size hi-sIx items.size 0 lo)).toArray.size<=sizeLine
  rw[List.size_toArray,List.length_take,List.length_drop,Array.length_toList]
  omega
 have hj:sIx items.size items.size hi<=items.size:=Zhb _ _ (Nat.le_refl _) hi
 obtain⟨os,hos,hcs,hds⟩:=id hs
 have hTs:s.TypeIs (.ref sl) "slice":=⟨os,hos,hcs⟩
 unfold getItem
 try with_reducible refine wpAny_holding ?_
 first | refine wpAny_bind (wpAny_pure ?_) | skip
 refine wpAny_bind (wpAny_sequenceKey ht.typeIs (by decide) ?_)
 refine wpAny_bind (wpAny_callSpecial?_slot (name:=Str.ofString "__getitem__") ht.typeIs PyProof.Rows.slot_tuple_getitem
  (wpAny_call_entry PyProof.Rows.slot_tuple_getitem ht.typeIs entry_tuple_getitem ?_ (args_tuple_getitem _ _)))
 show wpAny _ _ (Builtin.Tuple.tupleItemsOf (.ref t) >>= _) _ _ s
 refine wpAny_bind (tupleItemsOf_ ht ?_)
 refine wpAny_bind (wpAny_typeOf hTs ?_)
 rw[if_pos (by decide)]
 refine wpAny_bind (Z0o hs pl pu ?_)
 have hno:¬((((sIx items.size 0 lo:Nat):Int)==0&&(1:Int)==1&&(sIx items.size items.size hi-sIx items.size 0 lo)==items.size)=true):=by
  intro q
  rw[Bool.and_eq_true,Bool.and_eq_true]at q
  have q1:((sIx items.size 0 lo:Nat):Int)=0:=eq_of_beq q.1.1
  have q2:sIx items.size items.size hi-sIx items.size 0 lo=items.size:=eq_of_beq q.2
  exact hw ⟨by omega,by omega⟩
 show wpAny _ _ (if(((sIx items.size 0 lo:Nat):Int)==0&&(1:Int)==1&&(sIx items.size items.size hi-sIx items.size 0 lo)==items.size)=true then _ else _) _ _ s
 rw[if_neg hno,Zc1]
 first
  |exact wpAny_bind (m:=Builtin.Tuple.tupleExact _) (wpAny_newObj_type (wpAny_pure ⟨_,rfl,wpAny_pure h⟩) htake)
  |exact wpAny_bind (m:=Builtin.Tuple.tupleExact _) (wpAny_newObj_type (wpAny_bind (wpAny_pure (wpAny_pure ⟨_,rfl,wpAny_pure h⟩))) htake)
  |exact wpAny_bind (wpAny_bind (m:=Builtin.Tuple.tupleExact _) (wpAny_newObj_type (wpAny_pure (wpAny_pure ⟨_,rfl,wpAny_pure h⟩)) htake))
  |exact wpAny_bind (wpAny_bind (m:=Builtin.Tuple.tupleExact _) (wpAny_newObj_type (wpAny_pure ⟨_,rfl,wpAny_pure h⟩) htake))
end
end HT
namespace L2
open PySem PySem.Spec PyProof.Rows
abbrev TO:=St->Hp->(Option Int->Hp->Prop)->Prop
def PO(X:Cx)(e:Option Expr)(t:TO):Prop :=
 ∀(Z6:List (Addr×Obj)) (s:Shared) (σ:St) (H:Hp) (Q:Option Int->Hp->Prop),Inv X Z6 σ H s->t σ H Q ->
  wpAny (model X.prog X.w) X.A (evalPart e X.env) (fun u s'=>∃o H',Inv X Z6 σ H' s'/\IsPart u o/\Q o H') X.xe s
def Z0g:TO:=fun _ H Q=>Q none H
def Z7g(t:TE):TO:=fun σ H Q=>t σ H fun x H1=>∃i,x=.int i/\Q (some i) H1
section
variable{X:Cx}{e:Expr}{te:TE}{lo hi:Option Expr}{tl th:TO}{pos p2:Pos}
theorem Xs:PO X none Z0g:=by
 intro Z6 s σ H Q I h
 rw[evalPart_none]
 exact wpAny_pure ⟨none,H,I,.none,h⟩
theorem Y2(h:PE X e te):PO X (some e) (Z7g te):=by
 intro Z6 s σ H Q I hw
 rw[evalPart_some]
 refine W9 (h Z6 s σ H _ I hw) fun u s1 ⟨x,H1,I1,r1,q1⟩=>?_
 obtain⟨i,rfl,q⟩:=q1
 obtain⟨t,rfl⟩:=r1
 exact⟨some i,H1,I1,.int i t,q⟩
def Zlu(X:Cx)(r:V->Option Int->Option Int->Hp->VK->Prop):Prop :=
 ∀(Z6:List (Addr×Obj)) (s:Shared) (σ:St) (H:Hp) (x:V) (v vl vu:Value) (lo hi:Option Int) (sl:Addr) (Q:VK),Inv X Z6 σ H s->RelV x v->s.heap.IsSliceOf sl vl vu .none->IsPart vl lo->IsPart vu hi->r x lo hi H Q ->
  ∃T id,typeLookup (.type T) "__getitem__" = pure (some (.builtin id))/\s.TypeIs v T/\wpAny (model X.prog X.w) X.A (getItem v (.ref sl)) (EP X Z6 σ Q) X.xe s
def Zlh(r:V->Option Int->Option Int->Hp->VK->Prop)(te:TE)(tl th:TO):TE:=fun σ H Q=>te σ H fun x H1=>tl σ H1 fun l H2=>th σ H2 fun u H3=>r x l u H3 Q
theorem Y9{r:V->Option Int->Option Int->Hp->VK->Prop}(hr:Zlu X r)(he:PE X e te)(hl:PO X lo tl)(hu:PO X hi th):PE X (.Subscript e (.Slice lo hi none p2) pos) (Zlh r te tl th):=by
 intro Z6 s σ H Q I h
 refine Subscript_ (W9 (he Z6 s σ H _ I h) fun v s1 ⟨x,H1,I1,r1,q1⟩=>?_)
 refine wpAny_Slice (W9 (hl Z6 s1 σ H1 _ I1 q1) fun vl s2 ⟨l,H2,I2,pl,q2⟩=>W9 (hu Z6 s2 σ H2 _ I2 q2) fun vu s3 ⟨u,H3,I3,pu,q3⟩=>?_)
 rw[evalPart_none]
 refine wpAny_pure ?_
 have I4:Inv X Z6 σ H3 { s3 with heap:=s3.heap.push { cls:=.type "slice",data:=.fields #[vl,vu,.none] } }:=I3.kept (t':=s3.toks) fun b ob q=>Heap.get?_push_of_some _ q
 obtain⟨T,id,hT,ht,hg⟩:=hr Z6 { s3 with heap:=s3.heap.push { cls:=.type "slice",data:=.fields #[vl,vu,.none] } } σ H3 x v vl vu l u s3.heap.objs.size Q I4 r1 (Heap.IsSliceOf.new ..) pl pu q3
 show wpAny (model X.prog X.w) X.A (subscriptTail e (.Slice lo hi none p2) v (.ref s3.heap.objs.size)) (EP X Z6 σ Q) X.xe { s3 with heap:=s3.heap.push { cls:=.type "slice",data:=.fields #[vl,vu,.none] } }
 exact tail_any (ops:=[.ref s3.heap.objs.size,v]) ht hT hg (by with_unfolding_all rfl)
def Jv(xs:List V)(lo hi:Option Int):List V:=(xs.drop (HT.sIx xs.length 0 lo)).take (HT.sIx xs.length xs.length hi-HT.sIx xs.length 0 lo)
theorem Z1b(xs:List V)(lo hi:Option Int):(Jv xs lo hi).length<=xs.length:=by
 unfold Jv
 rw[List.length_take,List.length_drop]
 omega
def Zaa(K:W.Frag):V->Option Int->Option Int->Hp->VK->Prop:=fun x lo hi H Q=>∃a xs,x=.ref a/\SqT K H a xs /\
 ¬(HT.sIx xs.length 0 lo=0/\HT.sIx xs.length xs.length hi=xs.length)/\∀p,H p=none->Q (.ref p) (Zq H p (.tup (Jv xs lo hi)))
theorem Jz:Zlu X (Zaa X.K):=by
 intro Z6 s σ H x v vl vu lo hi sl Q I rx hs pl pu h
 obtain⟨a,xs,rfl,hx,hw,q⟩:=h
 cases rx
 obtain⟨its,r,ht,hz⟩:=I.tuple hx
 have hlen:its.toArray.size=xs.length:=by rw[List.size_toArray];exact r.length.symm
 refine⟨"tuple",_,PyProof.Rows.slot_tuple_getitem.lookup,ht.typeIs,?_⟩
 refine HT.getItem_tuple_cut ht hs pl pu (by rw[hlen];exact hw) ?_ (by rw[hlen];exact hz)
 rw[hlen]
 refine⟨.ref s.heap.objs.size,_,I.laid (t':=s.toks) (o:=.tup (Jv xs lo hi)) (fun b ob q=>Heap.get?_push_of_some _ q) (Nat.le_refl _) ?_,rfl,q _ (I.hok.fresh (Nat.le_refl _))⟩
 exact⟨Nat.le_trans (Z1b xs lo hi) hz,_,(r.drop (HT.sIx xs.length 0 lo)).take (HT.sIx xs.length xs.length hi-HT.sIx xs.length 0 lo),IsTup.new _ _⟩
def Zkk(K:W.Frag):R2:=fun x y H Q=>∃a b xs ys,x=.ref a/\y=.ref b/\SqT K H a xs/\SqT K H b ys/\xs≠[]/\xs.length+ys.length<=sizeLine /\
 (ys=[]->Q (.ref a) H)/\(ys≠[]->∀p,H p=none->Q (.ref p) (Zq H p (.tup (xs++ys))))
theorem Vals.nil_iff{xs:List V}{us:List Value}(r:Vals xs us):us=[]↔xs=[]:=by
 cases r with
 |nil=>simp
 |cons _ _=>simp
theorem Z9m:Z3s X (binaryOp .Add) (Zkk X.K):=by
 intro Z6 s σ H x y v u Q I rx ry h
 obtain⟨a,b,xs,ys,rfl,rfl,ha,hb,hx,hz,q1,q2⟩:=h
 cases rx
 cases ry
 obtain⟨its,r1,p1,_⟩:=I.tuple ha
 obtain⟨its2,r2,p2,_⟩:=I.tuple hb
 refine HT.cat_tup p1 p2 (fun z=>hx (r1.nil_iff.mp z)) (fun z=>⟨.ref a,H,I,rfl,q1 (r2.nil_iff.mp z)⟩) (fun z=>?_) (by rw[← r1.length,← r2.length];exact hz)
 refine⟨.ref s.heap.objs.size,_,I.laid (t':=s.toks) (o:=.tup (xs++ys)) (fun b ob q=>Heap.get?_push_of_some _ q) (Nat.le_refl _) ?_,rfl,q2 (fun w=>z (r2.nil_iff.mpr w)) _ (I.hok.fresh (Nat.le_refl _))⟩
 exact⟨by rw[List.length_append];exact hz,_,r1.append r2,IsTup.new _ _⟩
end
def Zgl(n:Nat)(i:Int):Option Nat:=if 0<=i then(if i<n then some i.toNat else none) else if -(n:Int)<=i then some (i+n).toNat else none
def Z3o{α:Type}(xs:List α)(i:Int):Option α:=(Zgl xs.length i).bind fun j=>xs[j]?
theorem Z9v{n:Nat}{i:Int}{j:Nat}(h:Zgl n i=some j):seqIndex? i n=some j/\j<n/\-(n:Int)<=i/\i<n:=by
 unfold Zgl at h
 by_cases h0:0<=i
 ·rw[if_pos h0]at h
  by_cases h1:i<n
  ·rw[if_pos h1]at h
   have e:i.toNat=j:=Option.some.inj h
   exact⟨by rw[seqIndex_of h0 h1,e],by omega,by omega,h1⟩
  ·rw[if_neg h1]at h;cases h
 ·rw[if_neg h0]at h
  by_cases h1:-(n:Int)<=i
  ·rw[if_pos h1]at h
   have e:(i+n).toNat=j:=Option.some.inj h
   exact⟨by rw[seqIndex_neg (by omega) h1,e],by omega,h1,by omega⟩
  ·rw[if_neg h1]at h;cases h
theorem Z5g{α:Type}{xs:List α}{i:Int}{v:α}(h:Z3o xs i=some v):∃j,seqIndex? i xs.length=some j/\xs[j]? = some v/\j<xs.length/\-(xs.length:Int)<=i/\i<xs.length:=by
 unfold Z3o at h
 cases e:Zgl xs.length i with
 |none=>rw[e]at h;cases h
 |some j =>
  rw[e]at h
  obtain⟨h1,h2,h3,h4⟩:=Z9v e
  exact⟨j,h1,h,h2,h3,h4⟩
theorem Ue{α:Type}{xs:List α}{j:Nat}{v:α}(h:xs[j]? = some v):Z3o xs (j:Int)=some v:=by
 have hj:j<xs.length:=(List.getElem?_eq_some_iff.mp h).1
 have e:Zgl xs.length (j:Int)=some j:=by
  unfold Zgl
  rw[if_pos (by omega),if_pos (by omega)];simp
 unfold Z3o;rw[e];exact h
def Zgj(b:Expr):Prop:=∀o i,subscripted b false o i=operate [o,i] (getItem o i)
def Zly(X:Cx)(r:R2):Prop :=
 ∀(value slice:Expr) (Z6:List (Addr×Obj)) (s:Shared) (σ:St) (H:Hp) (x y:V) (v u:Value) (Q:VK),Inv X Z6 σ H s->RelV x v->RelV y u->r x y H Q ->
  subscripted slice false v u=operate [v,u] (getItem v u)->wpAny (model X.prog X.w) X.A (subscriptTail value slice v u) (EP X Z6 σ Q) X.xe s
def Zmz(X:Cx)(id:String)(r:V->List V->Hp->VK->Prop):Prop :=
 ∀(Z6:List (Addr×Obj)) (s:Shared) (σ:St) (H:Hp) (x:V) (xs:List V) (v:Value) (us:List Value) (Q:VK),Inv X Z6 σ H s->RelV x v->Vals xs us->r x xs H Q ->
  wpAny (model X.prog X.w) X.A (call (.builtin id) (v::us)) (EP X Z6 σ Q) X.xe s
section
variable{X:Cx}{a b:Expr}{ta tb:TE}{pos:Pos}
theorem Zd{r:R2}(hr:Zly X r)(ha:PE X a ta)(hb:PE X b tb)(hs:Zgj b):PE X (.Subscript a b pos) (Z3l r ta tb):=by
 intro Z6 s σ H Q I h
 exact Subscript_ (Zjq ha hb I h fun v u s2 x y H2 I2 rx ry q=>hr a b Z6 s2 σ H2 x y v u Q I2 rx ry q (hs _ _))
def Zbl(K:W.Frag):R2:=fun x y H Q=>∃p xs i v,x=.ref p/\y=.int i/\SqL K H p xs/\Z3o xs i=some v/\Q v H
def Uu(K:W.Frag):R2:=fun x y H Q=>∃p xs i v,x=.ref p/\y=.int i/\SqT K H p xs/\Z3o xs i=some v/\Q v H
def Zma:R2:=fun x y H Q=>∃z i c,x=.str z/\y=.int i/\z.length<=sizeLine/\Z3o z.cps.toList i=some c/\Q (.str ⟨#[c]⟩) H
theorem Y1:Zly X (Zbl X.K):=by
 intro value slice Z6 s σ H x y v u Q I rx ry h hs
 obtain⟨p,xs,i,z,rfl,rfl,hq,he,q⟩:=h
 cases rx
 obtain⟨t,rfl⟩:=ry
 obtain⟨its,r,pl,hz⟩:=I.list hq
 obtain⟨j,h1,h2,h3,h4,h5⟩:=Z5g he
 obtain⟨w,ew,rw'⟩:=r.get h2
 have hl:=r.length
 have hn:=Z1i
 have fin:EP X Z6 σ Q w s:=⟨z,H,I,rw',q⟩
 by_cases h0:0<=i
 ·have hj:i.toNat=j:=by
   rw[seqIndex_of h0 h5]at h1
   exact Option.some.inj h1
  exact item_listR pl.isList h0 (by omega) (by rw[hj];simpa using ew) fin hs
 ·have hj:(i+(its.toArray.size:Int)).toNat=j:=by
   rw[seqIndex_neg (by omega) h4]at h1
   rw[List.size_toArray,← hl]
   exact Option.some.inj h1
  exact subscriptTail_builtinR (x:=w) pl.isList.typeIs slot_list_getitem.lookup
   (wpAny_getItem_list_neg (Q:=fun r s'=>r=w/\EP X Z6 σ Q r s') pl.isList (by omega) (by rw[List.size_toArray] <;> omega) (by omega) (by rw[hj];simpa using ew) ⟨rfl,fin⟩) hs
theorem Zc:Zly X (Uu X.K):=by
 intro value slice Z6 s σ H x y v u Q I rx ry h hs
 obtain⟨p,xs,i,z,rfl,rfl,hq,he,q⟩:=h
 cases rx
 obtain⟨t,rfl⟩:=ry
 obtain⟨its,r,pl,hz⟩:=I.tuple hq
 obtain⟨j,h1,h2,h3,h4,h5⟩:=Z5g he
 obtain⟨w,ew,rw'⟩:=r.get h2
 have hl:=r.length
 have hn:=Z1i
 have fin:EP X Z6 σ Q w s:=⟨z,H,I,rw',q⟩
 exact subscriptTail_builtinR (x:=w) pl.typeIs slot_tuple_getitem.lookup
  (getItem_tuple (j:=j) (Q:=fun r s'=>r=w/\EP X Z6 σ Q r s') pl (by omega) (by omega) (by rw[List.size_toArray,← hl];exact h1) (by simpa using ew) ⟨rfl,fin⟩) hs
theorem Jj:Zly X Zma:=by
 intro value slice Z6 s σ H x y v u Q I rx ry h hs
 obtain⟨z,i,c,rfl,rfl,hz,he,q⟩:=h
 obtain⟨t,rfl⟩:=rx
 obtain⟨t',rfl⟩:=ry
 obtain⟨j,h1,h2,h3,h4,h5⟩:=Z5g he
 have hl:z.cps.toList.length=z.length:=by simp[Str.length]
 rw[hl]at h1 h4 h5
 have hn:=Z1i
 exact tail_any (typeIs_str s z t) slot_str_getitem.lookup (getItem_str (c:=c) (by
  have e1:decide (i < -(2 ^ 63:Int))=false:=decide_eq_false (by omega)
  have e2:decide (i≥2 ^ 63)=false:=decide_eq_false (by omega)
  rw[e1,e2,Bool.or_false]) (by rw[h1];simpa using h2) ⟨.str ⟨#[c]⟩,H,I.tok _,⟨_,rfl⟩,q⟩) hs
theorem Z89(its:List Value)(n j:Nat)(u:Value):Obj.mapSeq (·.setIfInBounds j u) { cls:=.type "list",data:=.seq its.toArray n } = { cls:=.type "list",data:=.seq (its.set j u).toArray n }:=by
 simp[Obj.mapSeq]
theorem Inv.lst{Z6:List (Addr×Obj)}{σ:St}{H:Hp}{s:Shared}{p:Addr}{xs:List V}(I:Inv X Z6 σ H s)(h:H p=some (.lst xs)) :
  ∃(its:List Value) (n:Nat),Vals xs its/\s.heap.get? p=some { cls:=.type "list",data:=.seq its.toArray n }/\xs.length<=sizeLine:=by
 obtain⟨z,its,n,r,e⟩:=I.hok p _ h
 exact⟨its,n,r,e,z⟩
theorem Inv.lstUpd{Z6:List (Addr×Obj)}{σ:St}{H:Hp}{s:Shared}{p:Addr}{xs ys:List V}{its its':List Value}{n n':Nat}{f:Obj->Obj}(I:Inv X Z6 σ H s)(h:H p=some (.lst xs))
  (ho:s.heap.get? p=some { cls:=.type "list",data:=.seq its.toArray n }) (hf:f { cls:=.type "list",data:=.seq its.toArray n } = { cls:=.type "list",data:=.seq its'.toArray n' }) (r:Vals ys its') (hz:ys.length<=sizeLine) (t:Nat) :
  Inv X Z6 σ (Zq H p (.lst ys)) { s with heap:=s.heap.update p f,toks:=t }:=by
 have e:(s.heap.update p f).get? p=some { cls:=.type "list",data:=.seq its'.toArray n' }:=by
  rw[Heap.get?_update_self f ho (by rw[hf] <;> rfl),hf]
 refine I.write (x:=p) (e:=p) (by rw[h];trivial) (.inl rfl) (fun b u hb q=>(Heap.get?_update_other _ _ (Ne.symm hb)).trans q) ⟨_,e⟩ ?_
 exact⟨hz,its',n',r,e⟩
def Zkh:V->V->V->Hp->(Hp->Prop)->Prop:=fun o i v H Q=>∃p xs k j,o=.ref p/\i=.int k/\H p=some (.lst xs)/\Zgl xs.length k=some j/\Q (Zq H p (.lst (xs.set j v)))
theorem Xp:Zlc X Zkh:=by
 intro Z6 s σ H o i v ov iv u Q I ro ri rv h
 obtain⟨p,xs,k,j,rfl,rfl,hp,hj,q⟩:=h
 cases ro
 obtain⟨t,rfl⟩:=ri
 obtain⟨its,n,r,ho,hz⟩:=I.lst hp
 obtain⟨h1,h2,h3,h4⟩:=Z9v hj
 have hl:=r.length
 have hn:=Z1i
 have I':Inv X Z6 σ (Zq H p (.lst (xs.set j v))) { s with heap:=s.heap.update p (Obj.mapSeq (·.setIfInBounds j u)) } :=
  I.lstUpd hp ho (Z89 its n j u) (r.set rv j) (by rw[List.length_set];exact hz) s.toks
 by_cases h0:0<=k
 ·have hk:k.toNat=j:=by
   rw[seqIndex_of h0 h4]at h1
   exact Option.some.inj h1
  exact W.ki_setAt ho h0 (by omega) (by rw[List.size_toArray,← hl];exact h4) (by rw[hk];exact⟨_,I',q⟩)
 ·have hk:(k+(its.toArray.size:Int)).toNat=j:=by
   rw[seqIndex_neg (by omega) h3]at h1
   rw[List.size_toArray,← hl]
   exact Option.some.inj h1
  exact W.ki_setBack ho (by omega) (by rw[List.size_toArray,← hl];exact h3) (by omega) (by rw[hk];exact⟨_,I',q⟩)
theorem Z4k(lo hi:Option Int)(n:Nat):(sliceBounds lo hi none n).1=((HT.sIx n 0 lo:Nat):Int)/\(sliceBounds lo hi none n).2.1=((HT.sIx n n hi:Nat):Int)/\(sliceBounds lo hi none n).2.2=1:=by
 refine⟨?_,?_,rfl⟩
 ·cases lo with
  |none=>simp[sliceBounds,HT.sIx]
  |some i =>
   simp only[sliceBounds,HT.sIx,Option.getD_none,show(1:Int)>0 by decide,if_true]
   by_cases h:i<0
   ·simp only[h,if_true] <;> omega
   ·simp only[h,if_false] <;> omega
 ·cases hi with
  |none=>simp[sliceBounds,HT.sIx]
  |some i =>
   simp only[sliceBounds,HT.sIx,Option.getD_none,show(1:Int)>0 by decide,if_true]
   by_cases h:i<0
   ·simp only[h,if_true] <;> omega
   ·simp only[h,if_false] <;> omega
theorem Z3g(its:List Value)(lo hi:Option Int):slicePick its.toArray lo hi none=((its.drop (HT.sIx its.length 0 lo)).take (HT.sIx its.length its.length hi-HT.sIx its.length 0 lo)).toArray:=by
 obtain⟨h1,h2,h3⟩:=Z4k lo hi its.toArray.size
 unfold slicePick
 rw[h1,h2,h3]
 simp only[sliceRange_one,pick_run,List.size_toArray] <;> rfl
def Zm8(K:W.Frag):V->Option Int->Option Int->Hp->VK->Prop:=fun x lo hi H Q=>∃a xs,x=.ref a/\SqL K H a xs/\∀p,H p=none->Q (.ref p) (Zq H p (.lst (Jv xs lo hi)))
theorem Z1z:Zlu X (Zm8 X.K):=by
 intro Z6 s σ H x v vl vu lo hi sl Q I rx hs pl pu h
 obtain⟨a,xs,rfl,hx,q⟩:=h
 cases rx
 obtain⟨its,r,ht,hz⟩:=I.list hx
 have hlen:=r.length
 refine⟨"list",_,slot_list_getitem.lookup,ht.isList.typeIs,?_⟩
 refine wpAny_getItem_list_slice ht.isList hs pl pu .none (by simp) ?_ (by rw[List.size_toArray] <;> omega)
 rw[Z3g,← hlen]
 refine⟨.ref s.heap.objs.size,_,I.laid (t':=s.toks) (o:=.lst (Jv xs lo hi)) (fun b ob q=>Heap.get?_push_of_some _ q) (Nat.le_refl _) ?_,rfl,q _ (I.hok.fresh (Nat.le_refl _))⟩
 exact⟨Nat.le_trans (Z1b xs lo hi) hz,_,0,(r.drop (HT.sIx xs.length 0 lo)).take (HT.sIx xs.length xs.length hi-HT.sIx xs.length 0 lo),Heap.get?_push_size _ rfl⟩
def Z1t:V->Bool
 |.non=>true
 |.bl _=>true
 |.int _=>true
 |.str _=>true
 |_=>false
def Zjv:V->V->Bool
 |.non,.non=>true
 |.bl a,.bl b=>a==b
 |.bl a,.int b=>(if a then 1 else 0)==b
 |.int a,.bl b=>a==(if b then 1 else 0)
 |.int a,.int b=>a==b
 |.str a,.str b=>a==b
 |_,_=>false
theorem Zjd{A:Around}{s:Shared}{y x:V}{u v:Value}(ry:RelV y u)(rx:RelV x v)(fy:Z1t y=true)(fx:Z1t x=true):SeqAt.EqAt A s u v (Zjv y x):=by
 cases y with
 |non =>
  cases ry
  cases x with
  |non=>cases rx;exact SeqAt.EqAt.same _
  |bl b=>cases rx;exact SeqAt.EqAt.none_bool b
  |int b=>obtain⟨t,rfl⟩:=rx;exact SeqAt.EqAt.none_int b t
  |str b=>obtain⟨t,rfl⟩:=rx;exact SeqAt.EqAt.none_str b t
  |_=>exact absurd (show false=true from fx) Bool.false_ne_true
 |bl a =>
  cases ry
  cases x with
  |non=>cases rx;exact SeqAt.EqAt.bool_none a
  |bl b=>cases rx;exact SeqAt.EqAt.bool_bool a b
  |int b=>obtain⟨t,rfl⟩:=rx;exact SeqAt.EqAt.bool_int a b t
  |str b=>obtain⟨t,rfl⟩:=rx;exact SeqAt.EqAt.bool_str a b t
  |_=>exact absurd (show false=true from fx) Bool.false_ne_true
 |int a =>
  obtain⟨t',rfl⟩:=ry
  cases x with
  |non=>cases rx;exact SeqAt.EqAt.int_none a t'
  |bl b=>cases rx;exact SeqAt.EqAt.int_bool a t' b
  |int b=>obtain⟨t,rfl⟩:=rx;exact SeqAt.EqAt.int_int a t' b t
  |str b=>obtain⟨t,rfl⟩:=rx;exact SeqAt.EqAt.int_str a t' b t
  |_=>exact absurd (show false=true from fx) Bool.false_ne_true
 |str a =>
  obtain⟨t',rfl⟩:=ry
  cases x with
  |non=>cases rx;exact SeqAt.EqAt.str_none a t'
  |bl b=>cases rx;exact SeqAt.EqAt.str_bool a t' b
  |int b=>obtain⟨t,rfl⟩:=rx;exact SeqAt.EqAt.str_int a t' b t
  |str b=>obtain⟨t,rfl⟩:=rx;exact SeqAt.EqAt.str_str a t' b t
  |_=>exact absurd (show false=true from fx) Bool.false_ne_true
 |_=>exact absurd (show false=true from fy) Bool.false_ne_true
def Zjl(x:V)(u:Value):Bool:=match u with
 |.none=>Zjv .non x
 |.bool b=>Zjv (.bl b) x
 |.int i _=>Zjv (.int i) x
 |.str z _=>Zjv (.str z) x
 |_=>false
theorem Ze3{x y:V}{u:Value}(r:RelV y u)(f:Z1t y=true):Zjl x u=Zjv y x:=by
 cases y with
 |non=>cases r;rfl
 |bl b=>cases r;rfl
 |int i=>obtain⟨t,rfl⟩:=r;rfl
 |str z=>obtain⟨t,rfl⟩:=r;rfl
 |_=>exact absurd (show false=true from f) Bool.false_ne_true
theorem Z5h{x:V}:∀ {xs:List V} {us:List Value},Vals xs us->xs.all Z1t=true->us.any (Zjl x)=xs.any fun y=>Zjv y x
 |_,_,.nil,_=>rfl
 |y::xs,u::us,.cons r t,f=>by
  rw[List.all_cons,Bool.and_eq_true]at f
  rw[List.any_cons,List.any_cons,Ze3 r f.1,Z5h t f.2]
theorem Z2x{A:Around}{s:Shared}{x:V}{v:Value}(rx:RelV x v)(fx:Z1t x=true):∀ {xs:List V} {us:List Value},Vals xs us->xs.all Z1t=true->∀u∈us,SeqAt.EqAt A s u v (Zjl x u)
 |_,_,.nil,_=>fun u hu=>by cases hu
 |y::xs,u::us,.cons r t,f=>fun u' hu=>by
  rw[List.all_cons,Bool.and_eq_true]at f
  rcases List.mem_cons.mp hu with rfl | hu
  ·rw[Ze3 r f.1];exact Zjd r rx f.1 fx
  ·exact Z2x rx fx t f.2 u' hu
def Zgm(x:V)(xs:List V):Bool:=xs.any fun y=>Zjv y x
def Zmt(K:W.Frag)(neg:Bool):R2:=fun x y H Q=>∃p xs,y=.ref p/\(SqL K H p xs∨SqT K H p xs)/\Z1t x=true/\xs.all Z1t=true/\Q (.bl (if neg then !Zgm x xs else Zgm x xs)) H
theorem Uo:Z3s X (compareOp .In) (Zmt X.K false):=by
 intro Z6 s σ H x y v u Q I rx ry h
 obtain⟨p,xs,rfl,hq,fx,fs,q⟩:=h
 cases ry
 rcases hq with hq | hq
 ·obtain⟨its,r,pl,hz⟩:=I.list hq
  refine SeqAt.in_listAt (Zjl x) pl.isList (fun w hw=>Z2x rx fx r fs w (by simpa using hw)) ⟨.bl _,H,I,rfl,?_⟩
  rw[show its.toArray.any (Zjl x)=its.any (Zjl x) by simp,Z5h r fs]
  exact q
 ·obtain⟨its,r,pl,hz⟩:=I.tuple hq
  refine SeqAt.in_tupleAt (Zjl x) pl (fun w hw=>Z2x rx fx r fs w (by simpa using hw)) ⟨.bl _,H,I,rfl,?_⟩
  rw[show its.toArray.any (Zjl x)=its.any (Zjl x) by simp,Z5h r fs]
  exact q
theorem Y8:T8 X (.builtin "len") (fun xs H Q=>∃p ys,xs=[.ref p]/\(SqL X.K H p ys∨SqT X.K H p ys)/\Q (.int ys.length) H):=by
 intro Z6 s σ H xs us Q I r h
 obtain⟨p,ys,rfl,hq,q⟩:=h
 obtain⟨u,rfl,rx⟩:=Tj r
 cases rx
 have hn:=Z1i
 rcases hq with hq | hq
 ·obtain⟨its,r',pl,hz⟩:=I.list hq
  have hlen:=r'.length
  exact Calls.call_len_list pl.isList (by simp only[List.size_toArray] <;> omega) ⟨.int ys.length,H,I.tok _,⟨s.toks+1,by rw[List.size_toArray,hlen]⟩,q⟩
 ·obtain⟨its,r',pl,hz⟩:=I.tuple hq
  have hlen:=r'.length
  exact len_tuple pl (by simp only[List.size_toArray] <;> omega) ⟨.int ys.length,H,I.tok _,⟨s.toks+1,by rw[List.size_toArray,hlen]⟩,q⟩
theorem Yh:T8 X (.builtin "len") (fun xs H Q=>∃z,xs=[.str z]/\z.length<=sizeLine/\Q (.int z.length) H):=by
 intro Z6 s σ H xs us Q I r h
 obtain⟨z,rfl,hz,q⟩:=h
 obtain⟨u,rfl,t,rfl⟩:=Tj r
 have hn:=Z1i
 exact len_str (by omega) ⟨.int z.length,H,I.tok _,⟨_,rfl⟩,q⟩
theorem Z4v:T8 X (.type "list") (fun xs H Q=>∃p ys,xs=[.ref p]/\(SqL X.K H p ys∨SqT X.K H p ys)/\∀l,H l=none->Q (.ref l) (Zq H l (.lst ys))):=by
 intro Z6 s σ H xs us Q I r h
 obtain⟨p,ys,rfl,hq,q⟩:=h
 obtain⟨u,rfl,rx⟩:=Tj r
 cases rx
 have fin:∀(its:List Value),Vals ys its->ys.length<=sizeLine->∀(h':Heap) (c':Nat),(∀b o',s.heap.get? b=some o'->h'.get? b=some o') ->
   h'.get? s.heap.objs.size=some { cls:=.type "list",dict:=none,data:=.seq its.toArray c',slots:=#[] }->EP X Z6 σ Q (.ref s.heap.objs.size) { s with heap:=h' }:=fun its r' hz h' c' kp e =>
  ⟨.ref s.heap.objs.size,_,I.laid (t':=s.toks) kp (Nat.le_refl _) (show ObjOk X.prog X.w _ h' _ (.lst ys) from⟨hz,its,c',r',e⟩),rfl,q _ (I.hok.fresh (Nat.le_refl _))⟩
 rcases hq with hq | hq
 ·obtain⟨its,r',pl,hz⟩:=I.list hq
  have hlen:=r'.length
  obtain⟨o,ho,hc,n,hd⟩:=pl.isList
  exact call_list_seq p (.inl rfl) ho hc hd (fun h' c' kp e=>fin its r' hz h' c' kp e) (by simp only[List.size_toArray] <;> omega)
 ·obtain⟨its,r',pl,hz⟩:=I.tuple hq
  have hlen:=r'.length
  obtain⟨o,ho,hc,n,hd⟩:=pl
  exact call_list_seq p (.inr rfl) ho hc hd (fun h' c' kp e=>fin its r' hz h' c' kp e) (by simp only[List.size_toArray] <;> omega)
theorem V0:T8 X (.type "tuple") (fun xs H Q=>∃p ys,xs=[.ref p]/\((SqL X.K H p ys/\∀l,H l=none->Q (.ref l) (Zq H l (.tup ys)))∨(SqT X.K H p ys/\Q (.ref p) H))):=by
 intro Z6 s σ H xs us Q I r h
 obtain⟨p,ys,rfl,h⟩:=h
 obtain⟨u,rfl,rx⟩:=Tj r
 cases rx
 rcases h with⟨hq,q⟩ | ⟨hq,q⟩
 ·obtain⟨its,r',pl,hz⟩:=I.list hq
  have hlen:=r'.length
  refine call_tuple_list pl.isList (fun h' kp=>?_) (by simp only[List.size_toArray] <;> omega)
  have I1:Inv X Z6 σ H { s with heap:=h' }:=I.kept (t':=s.toks) kp
  have I2:Inv X Z6 σ (Zq H h'.objs.size (.tup ys)) { s with heap:=h'.push { cls:=.type "tuple",data:=.seq its.toArray } } :=
   I1.laid (t':=s.toks) (fun b o e=>Heap.get?_push_of_some _ e) (Nat.le_refl _) (show ObjOk X.prog X.w _ _ _ (.tup ys) from⟨hz,its,r',IsTup.new _ _⟩)
  exact⟨.ref h'.objs.size,_,I2,rfl,q _ (I1.hok.fresh (Nat.le_refl _))⟩
 ·obtain⟨its,r',pl,hz⟩:=I.tuple hq
  exact call_tuple_same pl ⟨.ref p,H,I,rfl,q⟩
def Zll(K:W.Frag)(T:String)(x:V)(H:Hp):Prop:=match x with
 |.str _=>T="str"
 |.int _=>T="int"
 |.ref p=>(T="list"/\∃xs,SqL K H p xs)∨(T="tuple"/\∃o,K.lookup p=some o/\o.cls=.type "tuple"/\o.dict=none) ∨
   (T="dict"/\((∃kvs,H p=some (.dK kvs))∨∃kvs,H p=some (.dT kvs)))∨(T="set"/\∃S n,H p=some (.set S n))
 |_=>False
theorem Zd9{Z6:List (Addr×Obj)}{σ:St}{H:Hp}{s:Shared}{T:String}{x:V}{v:Value}(I:Inv X Z6 σ H s)(r:RelV x v)(ty:Zll X.K T x H) :
  s.TypeIs v T/\∀a,v=.ref a->∃ob,s.heap.get? a=some ob/\ob.dict=none:=by
 cases x with
 |str z =>
  obtain⟨t,rfl⟩:=r
  cases(show T="str" from ty)
  exact⟨typeIs_str s z t,fun _ e=>nomatch e⟩
 |int i =>
  obtain⟨t,rfl⟩:=r
  cases(show T="int" from ty)
  exact⟨typeIs_int s i t,fun _ e=>nomatch e⟩
 |ref p =>
  cases r
  rcases ty with⟨rfl,xs,hq⟩ | ⟨rfl,o,hk,hc,hd⟩ | ⟨rfl,hk⟩ | ⟨rfl,S,n,hk⟩
  ·obtain⟨its,_,pl,_⟩:=I.list hq
   refine⟨pl.isList.typeIs,fun a e=>?_⟩
   cases e
   obtain⟨o,n,e,c,hd,_⟩:=pl
   exact⟨o,e,hd⟩
  ·refine⟨⟨o,I.kIn p o hk,hc⟩,fun a e=>?_⟩
   cases e
   exact⟨o,I.kIn _ o hk,hd⟩
  ·have z:∃o,s.heap.get? p=some o/\o.ExactDict:=by
    rcases hk with⟨kvs,hk⟩ | ⟨kvs,hk⟩
    ·obtain⟨_,_,_,_,o,_,_,e,ex,_⟩:=I.hok p _ hk
     exact⟨o,e,ex⟩
    ·obtain⟨_,_,_,_,o,_,_,e,ex,_⟩:=I.hok p _ hk
     exact⟨o,e,ex⟩
   obtain⟨o,e,ex⟩:=z
   refine⟨⟨o,e,ex.1⟩,fun a e2=>?_⟩
   cases e2
   exact⟨o,e,ex.2.1⟩
  ·obtain⟨o,_,_,_,e,ex,_⟩:=I.hok p _ hk
   refine⟨⟨o,e,ex.1⟩,fun a e2=>?_⟩
   cases e2
   exact⟨o,e,ex.2.1⟩
 |_=>exact False.elim ty
def Zm3(K:W.Frag)(T:String)(r:V->List V->Hp->VK->Prop)(to:TE):TE:=fun σ H Q=>to σ H fun x H1=>Zll K T x H1/\r x [] H1 Q
def Zn4(K:W.Frag)(T:String)(r:V->List V->Hp->VK->Prop)(to:TE)(t:TA):TE:=fun σ H Q=>to σ H fun x H1=>Zll K T x H1/\t σ H1 fun xs H2=>r x xs H2 Q
variable{o e:Expr}{es:List Expr}{to:TE}{t:TA}{name:Str}{apos cpos:Pos}{T id:String}{r:V->List V->Hp->VK->Prop}
theorem Zdn(pa:PlainAttrs T)(slot:Slot T name id)(hty:typeOf (.builtin id)=pure (.type "method_descriptor"))(hm:Zmz X id r)(ho:PE X o to)
  (hbase:attributeBase o name X.env (eval o X.env)=eval o X.env:=by rfl) (hline:(apos.endLine==cpos.line)=true:=by rfl):PE X (.Call (.Attribute o name apos) [] [] cpos) (Zm3 X.K T r to):=by
 intro Z6 s σ H Q I h
 refine wpAny_Call_method0_late hbase hline (W9 (ho Z6 s σ H _ I h) fun v s1 ⟨x,H1,I1,r1,ty,q1⟩=>?_)
 obtain⟨h1,h2⟩:=Zd9 I1 r1 ty
 exact⟨T,id,pa,slot,hty,h1,h2,Calls.callWith_builtin rfl (PySem.evalArgs_none (hm Z6 s1 σ H1 x [] v [] Q I1 r1 .nil q1))⟩
theorem Yw(pa:PlainAttrs T)(slot:Slot T name id)(hty:typeOf (.builtin id)=pure (.type "method_descriptor"))(hm:Zmz X id r)(ho:PE X o to)(ha:PA X (e::es) t)
  (hbase:attributeBase o name X.env (eval o X.env)=eval o X.env:=by rfl)
  (hfew:((backTo cpos (starEach (e::es) X.env)).all (fun x=>!x.1)&&(backToKw cpos (keywordEach [] X.env)).all (fun x=>x.1.isSome)
   && decide ((e::es).length+([]:List Keyword).length+(if([]:List Keyword).isEmpty then 0 else 1)<30))=true:=by rfl)
  (hline:(apos.endLine==cpos.line)=true:=by rfl) (hs:starEach (e::es) X.env=(false,eval e X.env)::starEach es X.env:=by rfl) (hplain:(backTo cpos (starEach es X.env)).any (·.1)=false:=by rfl) :
  PE X (.Call (.Attribute o name apos) (e::es) [] cpos) (Zn4 X.K T r to t):=by
 intro Z6 s σ H Q I h
 refine wpAny_Call_method_late hbase hfew hline rfl (W9 (ho Z6 s σ H _ I h) fun v s1 ⟨x,H1,I1,r1,ty,q1⟩=>?_)
 obtain⟨h1,h2⟩:=Zd9 I1 r1 ty
 refine⟨T,id,pa,slot,hty,h1,h2,?_⟩
 have hA:=ha cpos Z6 s1 σ H1 _ I1 q1
 rw[hs]at hA ⊢
 refine Calls.callWith_builtin (by show(false||(backTo cpos (starEach es X.env)).any (·.1))=false;rw[hplain] <;> rfl) (Calls.evalArgs_plain ?_)
 exact W9 hA fun us s2 ⟨vs,H2,I2,r2,q2⟩=>hm Z6 s2 σ H2 x vs v us Q I2 r1 r2 q2
end
def Zlx(X:Cx)(id:String)(r:V->List V->Hp->VK->Prop):Prop :=
 ∀(Z6:List (Addr×Obj)) (s:Shared) (σ:St) (H:Hp) (x:V) (xs:List V) (v:Value) (us:List Value) (Q:VK),Inv X Z6 σ H s->RelV x v->Vals xs us->r x xs H Q ->
  wpAny (model X.prog X.w) X.A (call (.builtin id) (v::us)) (EP X Z6 σ Q) X.xe s
theorem Vals.one:∀ {x:V} {us:List Value},Vals [x] us->∃u,us=[u]/\RelV x u
 |_,_,.cons r .nil=>⟨_,rfl,r⟩
theorem Vals.zero:∀ {us:List Value},Vals [] us->us=[]
 |_,.nil=>rfl
theorem Vals.dropLast{xs:List V}{us:List Value}(h:Vals xs us):Vals xs.dropLast us.dropLast:=by
 induction h with
 |nil=>exact .nil
 |cons r t ih =>
  cases t with
  |nil=>exact .nil
  |cons q t'=>exact .cons r ih
theorem Vals.eraseIdx:∀ {xs:List V} {us:List Value} (i:Nat),Vals xs us->Vals (xs.eraseIdx i) (us.eraseIdx i)
 |_,_,_,.nil=>.nil
 |_,_,0,.cons _ t=>t
 |_,_,i+1,.cons r t=>.cons r (Vals.eraseIdx i t)
theorem Vals.rep{xs:List V}{us:List Value}(h:Vals xs us):∀k:Nat,Vals (List.replicate k xs).flatten (List.replicate k us).flatten
 |0=>.nil
 |k+1=>by
  rw[List.replicate_succ,List.replicate_succ,List.flatten_cons,List.flatten_cons]
  exact Vals.append h (Vals.rep h k)
theorem Z8d{α:Type}(l:List α):l.eraseIdx (l.length-1)=l.dropLast:=by
 induction l with
 |nil=>rfl
 |cons a r ih =>
  cases r with
  |nil=>rfl
  |cons b r =>
   have e:(a::b::r).length-1=((b::r).length-1)+1:=by
    have h1:(a::b::r).length=r.length+2:=rfl
    have h2:(b::r).length=r.length+1:=rfl
    omega
   rw[e,List.eraseIdx_cons_succ,ih]
   all_goals rfl
theorem Z4a{α:Type}:∀(l:List α) (i:Nat),(l.eraseIdx i).length<=l.length
 | [],_=>Nat.le_refl _
 |_::_,0=>Nat.le_succ _
 |_::r,i+1=>Nat.succ_le_succ (Z4a r i)
theorem Z4c(its:List Value):∀(k:Nat) (acc:List Value),
  List.foldl (fun x1 x2=>x1++x2) acc.toArray (List.replicate k its.toArray)=(acc++(List.replicate k its).flatten).toArray
 |0,acc=>by simp
 |k+1,acc=>by
  have e:acc.toArray++its.toArray=(acc++its).toArray:=by simp
  have e2:(acc++its)++(List.replicate k its).flatten=acc++(List.replicate (k+1) its).flatten:=by
   rw[List.replicate_succ,List.flatten_cons,List.append_assoc]
  rw[← e2,← Z4c its k (acc++its),← e,List.replicate_succ,List.foldl_cons]
section
variable{X:Cx}{Z6:List (Addr×Obj)}{σ:St}{H:Hp}{s:Shared}{l b:Addr}{xs ys zs:List V}{prog:Program}{w:World}{A:Around}{E:Value->Shared->Prop}
theorem Inv.lset{its its':List Value}{n:Nat}{f:Array Value->Array Value}{t':Nat}(I:Inv X Z6 σ H s)(hH:H l=some (.lst xs))
  (e:s.heap.get? l=some { cls:=.type "list",data:=.seq its.toArray n }) (hf:f its.toArray=its'.toArray) (hv:Vals ys its') (hz:ys.length<=sizeLine) :
  Inv X Z6 σ (Zq H l (.lst ys)) { s with heap:=s.heap.update l (Obj.mapSeq f),toks:=t' }:=by
 have q:=PySem.IsL.update e f
 rw[hf]at q
 refine I.write (x:=l) (e:=l) (by rw[hH];exact trivial) (.inl rfl) (fun b' u hb hu=>(Heap.get?_update_other s.heap (Obj.mapSeq f) (Ne.symm hb)).trans hu) ⟨_,q⟩ ?_
 exact⟨hz,its',_,hv,q⟩
theorem Inv.lnew{its:List Value}{t':Nat}(I:Inv X Z6 σ H s)(hv:Vals ys its)(hz:ys.length<=sizeLine) :
  Inv X Z6 σ (Zq H s.heap.objs.size (.lst ys)) { s with heap:=s.heap.push { cls:=.type "list",data:=.seq its.toArray },toks:=t' } :=
 I.laid (fun _ _ q=>Heap.get?_push_of_some _ q) (Nat.le_refl _) ⟨hz,its,0,hv,Heap.get?_push_size _ rfl⟩
theorem Inv.fresh(I:Inv X Z6 σ H s):H s.heap.objs.size=none:=I.hok.fresh (Nat.le_refl _)
theorem Inv.lstM(I:Inv X Z6 σ H s)(hH:H l=some (.lst xs)):xs.length<=sizeLine/\∃(its:List Value) (n:Nat),Vals xs its/\xs.length=its.length/\s.heap.get? l=some { cls:=.type "list",data:=.seq its.toArray n }:=by
 obtain⟨z,its,n,r,e⟩:=I.hok l _ hH
 exact⟨z,its,n,r,r.length,e⟩
theorem Zci{n:Nat}(h:n<=sizeLine):Builtin.List.listTooLong n=false:=by
 unfold Builtin.List.listTooLong
 exact decide_eq_false (by omega)
def Zfa:V->List V->Hp->VK->Prop:=fun x vs H Q=>∃l xs y,x=.ref l/\vs=[y]/\H l=some (.lst xs)/\xs.length<sizeLine/\Q .non (Zq H l (.lst (xs++[y])))
theorem Zz:Zlx X "list.append" Zfa:=by
 intro Z6 s σ H x vs v us Q I rx rv h
 obtain⟨l,xs,y,rfl,rfl,hH,hz,q⟩:=h
 cases rx
 obtain⟨u,rfl,ru⟩:=rv.one
 obtain⟨z,its,n,r,hl,e⟩:=I.lstM hH
 refine call_meets F.slot_list_append ⟨_,e,rfl⟩ F.entry_list_append (F.args_list_append_2 _ _) (PySem.list_append l its.toArray n u (by rw[List.size_toArray];omega)) ⟨e,?_⟩
 refine⟨.non,_,I.lset (its':=its++[u]) hH e (by simp) (r.append (.cons ru .nil)) ?_,rfl,q⟩
 rw[List.length_append,List.length_singleton]
 omega
def Zf9:V->List V->Hp->VK->Prop:=fun x vs H Q=>∃l b xs zs,x=.ref l/\vs=[.ref b]/\H l=some (.lst xs)/\H b=some (.lst zs)/\xs.length+zs.length<=sizeLine/\Q .non (Zq H l (.lst (xs++zs)))
theorem mt_extend:Zlx X "list.extend" Zf9:=by
 intro Z6 s σ H x vs v us Q I rx rv h
 obtain⟨l,b,xs,zs,rfl,rfl,hH,hB,hz,q⟩:=h
 cases rx
 obtain⟨u,rfl,ru⟩:=rv.one
 cases ru
 obtain⟨z,its,n,r,hl,e⟩:=I.lstM hH
 obtain⟨z2,its2,n2,r2,hl2,e2⟩:=I.lstM hB
 have hsz:its.toArray.size+its2.toArray.size<=sizeLine:=by rw[List.size_toArray,List.size_toArray];omega
 have hlong:¬(!its.toArray.isEmpty&&Builtin.List.listTooLong (its.toArray.size+its2.toArray.size))=true:=by
  rw[Zci hsz,Bool.and_false]
  exact Bool.false_ne_true
 refine call_meets F.slot_list_extend ⟨_,e,rfl⟩ F.entry_list_extend (F.args_list_extend_2 _ _)
  (AutoSeq1.list_extend_list_list_0 l its.toArray n b its2.toArray n2 hlong (by rw[List.size_toArray];omega) (by omega)) ⟨e,e2,?_⟩
 refine⟨.non,_,I.lset (its':=its++its2) hH e (by simp) (r.append r2) ?_,rfl,q⟩
 rw[List.length_append]
 omega
def Zm9:V->List V->Hp->VK->Prop:=fun x vs H Q=>∃l xs y,x=.ref l/\vs=[]/\H l=some (.lst xs)/\xs[xs.length-1]? = some y/\Q y (Zq H l (.lst xs.dropLast))
theorem Zdt:Zlx X "list.pop" Zm9:=by
 intro Z6 s σ H x vs v us Q I rx rv h
 obtain⟨l,xs,y,rfl,rfl,hH,hy,q⟩:=h
 cases rx
 have hus:=rv.zero
 subst hus
 obtain⟨z,its,n,r,hl,e⟩:=I.lstM hH
 obtain⟨u,hu,ru⟩:=r.get hy
 have hy':its.toArray[its.toArray.size-1]? = some u:=by
  show its.toArray[its.length-1]? = some u
  rw[← Array.getElem?_toList,← hl]
  exact hu
 refine call_meets F.slot_list_pop ⟨_,e,rfl⟩ F.entry_list_pop (F.args_list_pop_1 _) (MeetsSeq.list_pop_last l its.toArray n u hy' (by rw[List.size_toArray];omega)) ⟨e,?_⟩
 refine⟨y,_,I.lset (its':=its.dropLast) hH e ?_ r.dropLast ?_,ru,q⟩
 ·show its.toArray.eraseIdxIfInBounds (its.toArray.size-1)=its.dropLast.toArray
  rw[List.size_toArray,List.eraseIdxIfInBounds_toArray,Z8d]
 ·rw[List.length_dropLast]
  omega
def Zdd:V->List V->Hp->VK->Prop:=fun x vs H Q=>∃l xs i k y,x=.ref l/\vs=[.int i]/\H l=some (.lst xs)/\-(2 ^ 63)<=i/\i<2 ^ 63/\seqIndex? i xs.length=some k/\xs[k]? = some y/\Q y (Zq H l (.lst (xs.eraseIdx k)))
theorem Zco:Zlx X "list.pop" Zdd:=by
 intro Z6 s σ H x vs v us Q I rx rv h
 obtain⟨l,xs,i,k,y,rfl,rfl,hH,h1,h2,hk,hy,q⟩:=h
 cases rx
 obtain⟨u,rfl,ru⟩:=rv.one
 obtain⟨t,rfl⟩:=ru
 obtain⟨z,its,n,r,hl,e⟩:=I.lstM hH
 obtain⟨w,hw,rw'⟩:=r.get hy
 refine call_meets F.slot_list_pop ⟨_,e,rfl⟩ F.entry_list_pop (F.args_list_pop_2 _ _)
  (MeetsSeq.list_pop_at l its.toArray n i t k w (fitsIndex_both h1 h2) (by rw[List.size_toArray,← hl];exact hk) (by rw[← Array.getElem?_toList];exact hw) (by rw[List.size_toArray];omega)) ⟨e,?_⟩
 refine⟨y,_,I.lset (its':=its.eraseIdx k) hH e ?_ (r.eraseIdx k) ?_,rw',q⟩
 ·show its.toArray.eraseIdxIfInBounds k=(its.eraseIdx k).toArray
  rw[List.eraseIdxIfInBounds_toArray]
 ·have:=Z4a xs k
  omega
def Zmb:R2:=fun x y H Q=>∃l b xs zs,x=.ref l/\y=.ref b/\H l=some (.lst xs)/\H b=some (.lst zs)/\xs.length+zs.length<=sizeLine/\∀p,H p=none->Q (.ref p) (Zq H p (.lst (xs++zs)))
theorem Z38:Z3s X (binaryOp .Add) Zmb:=by
 intro Z6 s σ H x y v u Q I rx ry h
 obtain⟨l,b,xs,zs,rfl,rfl,hH,hB,hz,q⟩:=h
 cases rx
 cases ry
 obtain⟨z,its,n,r,hl,e⟩:=I.lstM hH
 obtain⟨z2,its2,n2,r2,hl2,e2⟩:=I.lstM hB
 refine PySem.P.add_list e e2 ?_ (by rw[List.size_toArray,List.size_toArray];omega)
 have ea:its.toArray++its2.toArray=(its++its2).toArray:=by simp
 rw[ea]
 exact⟨.ref _,_,I.lnew (t':=s.toks) (r.append r2) (by rw[List.length_append];omega),rfl,q _ I.fresh⟩
theorem Z9r{α:Type}(xs:List α)(k:Nat):(List.replicate k xs).flatten.length=k*xs.length:=by
 induction k with
 |zero=>simp
 |succ k ih=>rw[List.replicate_succ,List.flatten_cons,List.length_append,ih,Nat.succ_mul,Nat.add_comm]
end
end L2
namespace Att
open PySem PySem.W PySem.Calls PyProof.Rows
theorem Z1p{P:Params}{h:Heap}:∀(ns:List Int) (vs:List Value),WellAll P h vs (ns.map WData.int)->IntsAre vs ns:=by
 intro ns
 induction ns with
 |nil =>
  intro vs w
  rw[List.map_nil]at w
  cases w
  exact .nil
 |cons n ns ih =>
  intro vs w
  rw[List.map_cons]at w
  cases w with
  |cons a b =>
   cases a
   exact .cons _ _ (ih _ b)
theorem Zan{l:OpenLaw}{n:Nat}(hn:l.most=some n){P:Params}{h:Heap}{args:List WData}{vals:List Value}
  (hpre:l.row.toRowW.claim.pre args=true) (hwl:WellAll P h vals args) :
  ∃a vs ns,vals=[Value.ref a]/\args=[WData.list (ns.map WData.int)]/\h.get? a=some { cls:=.type "list",data:=.seq vs.toArray }/\IntsAre vs ns/\ns.length<=n:=by
 have hsh:WShape.hasAll [] args [.list .int]=true:=(pre_splitW hpre).1
 have hc:l.pre.holds [] { args:=args }=true:=(pre_splitW hpre).2
 obtain⟨d,r,rfl,h1,h2⟩:=hasAllW_cons hsh
 obtain rfl:=hasAllW_nil h2
 obtain⟨xs,rfl,h3⟩:=hasW_list h1
 obtain⟨ns,rfl⟩:=items_int h3
 have hlen:ns.length<=n:=by
  unfold OpenLaw.pre at hc
  have h4:(WTm.not (.lt (.lit (.int (n:Int))) (.len (.arg 0)))).holds [] { args:=[.list (ns.map .int)] }=true:=by
   have h4:=(holds_andW hc).1
   rw[hn]at h4
   exact h4
  have h5:=condW_of h4 (w_not (w_lt w_lit (w_len_list (w_arg rfl))))
  rw[List.length_map]at h5
  refine Nat.le_of_not_lt fun q=>?_
  have q':(n:Int)<((ns.length:Nat):Int):=by omega
  first
   |(rw[decide_eq_true q']at h5;exact absurd h5 (by decide))
   |(simp at h5;omega)
 cases hwl with
 |cons w1 w2 =>
  cases w2
  cases w1 with
  |list ho hall=>exact⟨_,_,ns,rfl,rfl,ho,Z1p ns _ hall,hlen⟩
theorem Zav(l:OpenLaw)(args:List WData):l.row.toRowW.claim.post args (.bool true) args=true :=
 postW_of (r:=l.row.toRowW) (X:=(true==true))
  (show WShape.has [] (.bool true) .bool=true by first | rfl | decide | simp[WShape.has,WShape.arms,WShape.armsAll])
  (show(WTm.eq .res (.lit (.bool true))).value [] { args:=args,res:=some (.bool true),after:=args }=some (.bool (true==true)) from w_eq_bool (w_res rfl) w_lit) rfl
theorem attach_call{l:OpenLaw}{n:Nat}{q:Program}{loose:List Str}{XP:(Str->Option Value)->Heap->Prop}{YP:World->Heap->Prop}{d:DefRec}
  (hn:l.most=some n) (hdf:d.params.defaults=[])
  (call:∀(w:World) (s₀ s₁:Shared) (mg mb:Str->Option Value) (fa:Addr) (o:Obj) (pm cd doc:Value) (a:Addr) (vs:List Value) (ns:List Int),
   Ground q loose [] XP w s₀ mg mb s₁.heap->YP w s₁.heap ->
   s₁.heap.get? fa=some o->o.data=.func (docDef d.name d.params d.body d.scope pm cd doc)->s₁.heap.CodeRec cd d.name->mg d.name=some (.ref fa) ->
   s₁.heap.get? a=some { cls:=.type "list",data:=.seq vs.toArray }->IntsAre vs ns->ns.length<=n->s₁.gens = #[] ->
   codeAny (model l.prog w) callerA (.call (.ref fa) ⟨[.ref a],[]⟩) (fun r s'=>r=.ok (.ret (.bool true))/\OldK s₁.heap s'.heap/\s'.os=s₁.os/\AllBare s'.gens) s₁) :
  WalkO q loose XP YP l.row.toRowW d [] (fun f vs=>PySem.call f vs):=by
 intro w s₀ s₁ mg mb G Y fa o pm cd doc dV kV ho hd hcd hD hmg hg args vals as hpre hlay hrd hwl hlo
 obtain rfl:dV=.none:=Dflts.none hD hdf
 obtain rfl:kV=.none:=Dflts.noKw hD
 obtain⟨a,vs,ns,rfl,rfl,hobj,hints,hlen⟩:=Zan hn hpre hwl
 refine enter_call (codeAny_mono (call w s₀ s₁ mg mb fa o pm cd doc a vs ns G Y ho (fd_plain hd) hcd hmg hobj hints hlen hg) fun r s' hq=>?_)
 obtain⟨rfl,h2,h3,h4⟩:=hq
 exact⟨.inl ⟨.bool true,.bool true,[],rfl,fun _=>rfl,.bool true,Zav l _,fun _=>⟨List.Pairwise.nil,fun _ hm=>(nomatch hm)⟩⟩,h2,h3,h4⟩
section
variable{prog:Program}{w:World}{A:Around}{E:Value->Shared->Prop}{s:Shared}{K:Frag}
def ledger(h:Heap)(L d:Addr):List (Addr×Obj):=(List.range h.objs.size).filterMap fun a=>if a=L∨a=d then none else(h.get? a).map fun o=>(a,o)
end
end Att
namespace L2
open PySem PySem.Spec PyProof.Rows
theorem Z3t:∀ {vs:List Value} {ns:List Int},IntsAre vs ns->Vals (ns.map V.int) vs
 |_,_,.nil=>.nil
 |_,_,.cons n t h=>.cons ⟨t,rfl⟩ (Z3t h)
def Zjs(H:Hp):Prop:=∀b,H b=none∨∃o xs,H b=some (.frz o (.lst xs))
theorem Zcu{P:Program}{w:World}{K:W.Frag}{mg mb:Str->Option Value}{CX:Zd7}{k:Nat}{fa a:Addr}{fd:FuncData}{x:Str}{sp:Sp}{s₁:Shared}{vs:List Value}{ns:List Int}
  (KX:K.In s₁.heap) (hns:s₁.heap.Ns mainGlobals mg) (hb:s₁.heap.Ns builtinsNs mb) (hbb:∀x:Str,x≠"__name__"->mb x=bootBuiltins x) (hlim:s₁.heap.NoLimit) (hg:s₁.gens = #[])
  (ha:s₁.heap.get? a=some { cls:=.type "list",data:=.seq vs.toArray }) (hi:IntsAre vs ns) (hl:ns.length<=sizeLine) (hr:Room k callerA)
  (F:∀base:Heap,K.In base->base.Ns mainGlobals mg->FnOk P w K mg base CX k fa fd [x] sp) (hbind:∀(s:Shared) (u:Value),BindsTo s fd ⟨[u],[]⟩ [(x,u)])
  (hsp:∀H:Hp,Zjs H->SqL K H a (ns.map V.int)->sp [.ref a] H (fun v _=>v=.bl true) fun _ _ _=>False)
  (hCX:∀H e s',CX [] H s₁ (fun _ _ _=>False) e s'->False) :
  codeAny (model P w) callerA (.call (.ref fa) ⟨[.ref a],[]⟩) (fun r s'=>r=.ok (.ret (.bool true))/\OldK s₁.heap s'.heap/\s'.os=s₁.os/\AllBare s'.gens) s₁:=by
 have rv:=Z3t hi
 have lenV:=hi.length
 have core:∀H:Hp,Zjs H->SqL K H a (ns.map V.int)->HOk P w H s₁.heap->(∀b,H b≠none->b=a)->(H a≠none->K.lookup a=none) ->
   codeAny (model P w) callerA (.call (.ref fa) ⟨[.ref a],[]⟩) (fun r s'=>r=.ok (.ret (.bool true))/\OldK s₁.heap s'.heap/\s'.os=s₁.os/\AllBare s'.gens) s₁:=by
  intro H hO hS hok hA hK
  have base_of:∀ {b:Addr} {o:Obj},s₁.heap.get? b=some o->H b=none->(Z7e s₁.heap H).get? b=some o:=fun e n=>Zcx e n
  have noA:∀ {b:Addr} {o:Obj} {es:Array DictEntry} {ep:Nat},s₁.heap.get? b=some o->o.data=.dict es ep->H b=none:=fun{b o es ep} e d=>by
   cases q:H b with
   |none=>rfl
   |some u =>
    have e':b=a:=hA b (by rw[q];simp)
    subst e'
    rw[ha]at e;cases e
    have d':Data.seq vs.toArray _=Data.dict es ep:=d
    cases d'
  have nsK:∀ {b:Addr} {m:Str->Option Value},s₁.heap.Ns b m->(Z7e s₁.heap H).Ns b m:=fun{b m} ⟨o,es,ep,e,d,r⟩=>⟨o,es,ep,base_of e (noA e d),d,r⟩
  have hKb:K.In (Z7e s₁.heap H):=fun b o e=>base_of (KX b o e) (by
   cases q:H b with
   |none=>rfl
   |some u =>
    have e':b=a:=hA b (by rw[q];simp)
    subst e'
    rw[hK (by rw[q];simp)]at e;cases e)
  have hM:Mod K mg (Z7e s₁.heap H):=⟨hKb,nsK hns,⟨mb,nsK hb,hbb⟩,let⟨mc,h1,h2⟩:=hlim;⟨mc,nsK h1,h2⟩⟩
  have e0:Env0 P w K mg (Z7e s₁.heap H) callerA [] s₁ H:=⟨rfl,hM,fun b o e=>Zfz e,Nat.le_of_eq (Zbc _ _),trivial,fun b hb=>absurd (show b∈([]:List Addr) from hb) (by simp),hok,.of_eq hg⟩
  refine codeAny_mono ((F _ hKb (nsK hns)).run callerA [] s₁ H ⟨[.ref a],[]⟩ [.ref a] [.ref a] _ _ hr e0 (hbind s₁ (.ref a)) (.cons rfl .nil) (hsp H hO hS)) fun r s' h=>?_
  cases r with
  |error e=>exact(hCX H e s' h).elim
  |ok fl =>
   cases fl with
   |next=>exact False.elim h
   |brk=>exact False.elim h
   |cont=>exact False.elim h
   |ret u =>
    obtain⟨v,H',os,bare,un,hok',r',q⟩:=h
    have q':v=.bl true:=q
    subst q'
    obtain rfl:u=Value.bool true:=r'
    refine⟨rfl,OldK.of_keep fun b o e=>?_,os,bare⟩
    cases q:H b with
    |none=>exact un.keep b o e q (by intro z;exact absurd (show b∈([]:List Addr) from z) (by simp)) (by simp)
    |some u =>
     rcases hO b with z | ⟨ob,xs,z⟩
     ·rw[q]at z;cases z
     ·have z2:=un.frzs b ob _ z
      obtain⟨e1,_⟩:=hok b _ z
      obtain⟨e2,_⟩:=hok' b _ z2
      rw[e]at e1;cases e1
      exact e2
 cases hk:K.lookup a with
 |some o =>
  have e:=KX a o hk
  rw[ha]at e
  cases e
  refine core (fun _=>none) (fun _=>.inl rfl) (.inr ⟨_,vs.toArray,_,hk,rfl,rfl,rfl,by rw[List.size_toArray,lenV];exact hl,by simpa using rv⟩) (fun b u z=>by have z':(none:Option HO)=some u:=z;cases z') (fun b z=>absurd rfl z) fun z=>absurd rfl z
 |none =>
  refine core (fun b=>if b=a then some (.frz { cls:=.type "list",data:=.seq vs.toArray } (.lst (ns.map V.int))) else none) (fun b=>?_) (.inl (.inr ⟨{ cls:=.type "list",data:=.seq vs.toArray },if_pos rfl⟩)) (fun b u z=>?_) (fun b z=>?_) fun _=>hk
  ·by_cases hb:b=a
   ·exact .inr ⟨_,_,if_pos hb⟩
   ·exact .inl (if_neg hb)
  ·by_cases hb:b=a
   ·have z':=(if_pos hb).symm.trans z
    cases z'
    subst hb
    exact⟨ha,by rw[List.length_map];exact hl,vs,_,rv,ha⟩
   ·have z':=(if_neg hb).symm.trans z
    cases z'
  ·by_cases hb:b=a
   ·exact hb
   ·exact absurd (if_neg hb) z
abbrev Za8{K:W.Frag}{h:Heap}(_:K.In h):W.Frag:=K
theorem Zew{l:W.OpenLaw}{n k:Nat}{q:Program}{loose:List Str}{XP:(Str->Option Value)->Heap->Prop}{YP:World->Heap->Prop}{d:DefRec}{K:Params->W.Frag}{CX:World->Zd7}{sp:World->Sp}{x:Str}
  (hn:l.most=some n) (hn2:n<=sizeLine) (hdf:d.params.defaults=[]) (hr:Room k callerA)
  (hY:∀(w:World) (h:Heap),YP w h->(K w.params).In h)
  (F:∀(w:World) (mg:Str->Option Value) (fa:Addr) (h:Heap),(K w.params).In h->h.Ns mainGlobals mg->mg d.name=some (.ref fa) ->
   ∃fd:FuncData,(∀(s:Shared) (u:Value),BindsTo s fd ⟨[u],[]⟩ [(x,u)]) /\
    ∀base:Heap,(K w.params).In base->base.Ns mainGlobals mg->FnOk l.prog w (K w.params) mg base (CX w) k fa fd [x] (sp w))
  (hsp:∀(w:World) (H:Hp) (a:Addr) (ns:List Int),ns.length<=n->Zjs H->SqL (K w.params) H a (ns.map V.int)->sp w [.ref a] H (fun v _=>v=.bl true) fun _ _ _=>False)
  (hCX:∀(w:World) (H:Hp) (s:Shared) (e:Value) (s':Shared),CX w [] H s (fun _ _ _=>False) e s'->False) :
  W.WalkO q loose XP YP l.row.toRowW d [] (fun f vs=>PySem.call f vs):=by
 refine Att.attach_call hn hdf fun w s₀ s₁ mg mb fa o pm cd doc a vs ns G Y ho hd hcd hmg hobj hints hlen hg=>?_
 have KX:=hY w _ Y
 obtain⟨fd,hb,hF⟩:=F w mg fa _ KX G.T.g hmg
 exact Zcu KX G.T.g G.T.b G.T.builtins G.T.nolimit hg hobj hints (Nat.le_trans hlen hn2) hr hF hb (fun H hO hS=>hsp w H a ns hlen hO hS) fun H e s'=>hCX w H s₁ e s'
def Xv(s:Stmt)(j:Nat):Stmt:=match s with
 |.ClassDef _ _ _ body _ _ _ _ _ _ _=>body.getD j (.Pass ⟨0,0,0,0⟩)
 |_=>.Pass ⟨0,0,0,0⟩
def W8(s:Stmt):Arguments:=match s with
 |.FunctionDef _ a _ _ _ _ _ _ _ _=>a
 |_=>{ posonlyargs:=[],args:=[],vararg:=none,kwonlyargs:=[],kw_defaults:=[],kwarg:=none,defaults:=[] }
def Xj(s:Stmt):List Stmt:=match s with
 |.FunctionDef _ _ b _ _ _ _ _ _ _=>b
 |_=>[]
def Za(s:Stmt):Scope:=match s with
 |.FunctionDef _ _ _ _ _ _ sc _ _ _=>sc
 |_=>{ kind:=.function,names:=[],isGenerator:=false,isCoroutine:=false }
abbrev W3:Zd7:=fun _ _ _ _ _ _=>False
abbrev E0:XK:=fun _ _ _=>False
theorem Z7i{X:Cx}:U4 W3 X E0:=fun _ _ _ _ _ _ _ h=>h.elim
structure Fun(K:W.Frag)(x qual:Str)(st:Stmt)(f:Addr)(fd:FuncData):Prop where
 ex:∃(oc:Value) (od:Option Addr) (kV doc pm:Value) (an:Option Addr) (cdv ct:Value) (osl:Array (Option Value)),
  fd=W.fnOf x qual (W8 st) (Xj st) (Za st) .none kV doc pm an cdv ct/\K.lookup f=some ⟨oc,od,.func fd,osl⟩/\W.codeIn K cdv qual=true
 kp:W.keepIn K (.ref f)=true
section
variable{P:Program}{w:World}{K:W.Frag}{mg:Str->Option Value}{base:Heap}
theorem Fun.ok{x qual:Str}{st:Stmt}{f:Addr}{fd:FuncData}{N ps:List Str}{k:Nat}{sp:Sp}(F:Fun K x qual st f fd)(S:FnScope N ps (Za st))(len:∀vs H Q E,sp vs H Q E->vs.length=ps.length)
  (hbody:∀(cdv:Value) (A:Around) (outer:List Env) (s:Shared) (H:Hp) (vs:List V) (Q:VK) (E:XK),Room k (A.deeper (envOfC qual (Za st) s.heap.objs.size f cdv))->sp vs H Q E ->
   ∃t,PSs (Z3r W3 P w K mg base N qual (Za st) f cdv A outer s H E).nox (Xj st) t/\t { nx:=fun _ H'=>Q .non H',rt:=Q } (start N vs) H):FnOk P w K mg base W3 (k+1) f fd ps sp:=by
 obtain⟨oc,od,kV,doc,pm,an,cdv,ct,osl,rfl,lk,hcd⟩:=F.ex
 refine Zh1 lk hcd S len fun A outer s H vs Q E hr hsp=>?_
 obtain⟨t,h,q⟩:=hbody cdv A outer s H vs Q E hr hsp
 exact⟨t,h.nox,q⟩
theorem Fun.binds{x qual:Str}{st:Stmt}{f:Addr}{fd:FuncData}{ps:List Str}(F:Fun K x qual st f fd)
  (h:∀(kV doc pm:Value) (an:Option Addr) (cdv ct:Value) (us:List Value),us.length=ps.length->bindArgs (W.fnOf x qual (W8 st) (Xj st) (Za st) .none kV doc pm an cdv ct) ⟨us,[]⟩=pure (ps.zip us)):Binds K fd ps []:=by
 obtain⟨oc,od,kV,doc,pm,an,cdv,ct,osl,rfl,lk,hcd⟩:=F.ex
 exact .all (h kV doc pm an cdv ct)
theorem Z02{x qual:Str}{st:Stmt}{f:Addr}{oc:Value}{od an:Option Addr}{osl:Array (Option Value)}{kV doc pm cdv ct:Value}(l:K.lookup f=some ⟨oc,od,.func (W.fnOf x qual (W8 st) (Xj st) (Za st) .none kV doc pm an cdv ct),osl⟩)
  (c:W.codeIn K cdv qual=true) (k:W.keepIn K (.ref f)=true):Fun K x qual st f (W.fnOf x qual (W8 st) (Xj st) (Za st) .none kV doc pm an cdv ct):=⟨⟨oc,od,kV,doc,pm,an,cdv,ct,osl,rfl,l,c⟩,k⟩
end
theorem Yj{n:Nat}(h:n<=1000):n<sizeLine:=Nat.lt_of_le_of_lt h (by decide)
section
variable{X:Cx}
theorem pv(i:Nat){x:Str}{pos:Pos}(hN:X.N[i]? = some x:=by rfl)(hv:Zls X.env.scope x:=by first | exact Or.inl rfl | exact Or.inr (Or.inl rfl) | exact Or.inr (Or.inr rfl))(hd:(x==("__debug__":Str))=false:=by decide)
  (hcd:(x==("__classdict__":Str))=false:=by decide):PE X (.Name x pos) (Xc i):=Zij hN hv hd hcd
end
theorem Ju{A B:Prop}(h:B):if false=true then A else B:=by
 rw[if_neg Bool.false_ne_true]
 exact h
theorem Te{A B:Prop}(h:A):if true=true then A else B:=by
 rw[if_pos rfl]
 exact h
theorem Ym{c A B:Prop}[Decidable c](h1:c->A)(h2:¬c->B):if c then A else B:=by
 by_cases h:c
 ·rw[if_pos h]
  exact h1 h
 ·rw[if_neg h]
  exact h2 h
def Vl(cells:List (Str×Addr))(cs:List (Str×Addr))(p:Str×NameKind):List (Str×Addr) :=
 if(p.2==.free)=true then(match cells.lookup p.1 with | some c=>(p.1,c)::cs | none=>cs) else cs
def Z8k(names:List (Str×NameKind))(cells:List (Str×Addr)):List (Str×Addr):=names.foldl (Vl cells) []
theorem Z8c{α β:Type}{l:List α}{f:α->β->Sem (ForInStep β)}(g:β->α->β):∀(c:β),(∀x∈l,∀c,f x c=pure (.yield (g c x)))->forIn l c f=pure (l.foldl g c):=by
 induction l with
 |nil=>intro c _;rfl
 |cons x l ih =>
  intro c h
  rw[List.forIn_cons,h x List.mem_cons_self,pure_bind]
  exact ih _ fun y hy=>h y (List.mem_cons_of_mem _ hy)
theorem Jn{scope:Scope}{env:Env}(h:∀p∈scope.names,p.2=.free->∃c,env.cells.lookup p.1=some c):closureFor scope env=pure (Z8k scope.names env.cells):=by
 simp only[closureFor]
 rw[Z8c (Vl env.cells) [] (fun p hp c=>by
  obtain⟨n,k⟩:=p
  by_cases hk:k=.free
  ·subst hk
   obtain⟨a,e⟩:=h _ hp rfl
   have e':env.cells.lookup n=some a:=e
   simp[Vl,cellOf,e']
  ·have hb:(k==NameKind.free)=false:=by simpa using hk
   simp[Vl,hb])]
 rfl
theorem Z8f{cells:List (Str×Addr)}{cs:List (Str×Addr)}{p:Str×NameKind}(h:∀y c,cs.lookup y=some c->cells.lookup y=some c):∀y c,(Vl cells cs p).lookup y=some c->cells.lookup y=some c:=by
 intro y c e
 unfold Vl at e
 split at e
 ·split at e
  ·rename_i c' hc'
   rw[List.lookup_cons]at e
   split at e
   ·rename_i hy
    have:y=p.1:=by simpa using hy
    rw[this,hc']
    exact e
   ·exact h y c e
  ·exact h y c e
 ·exact h y c e
theorem Z7a(names:List (Str×NameKind))(cells:List (Str×Addr)):∀y c,(Z8k names cells).lookup y=some c->cells.lookup y=some c:=by
 have all:∀(names:List (Str×NameKind)) (cs:List (Str×Addr)),(∀y c,cs.lookup y=some c->cells.lookup y=some c)->∀y c,(names.foldl (Vl cells) cs).lookup y=some c->cells.lookup y=some c:=by
  intro names
  induction names with
  |nil=>intro cs h;exact h
  |cons p r ih=>intro cs h;exact ih _ (Z8f h)
 exact all names [] (fun y c e=>by simp at e)
theorem Z6f{cells cs:List (Str×Addr)}{p:Str×NameKind}{y:Str}(h:(cs.lookup y).isSome=true):((Vl cells cs p).lookup y).isSome=true:=by
 unfold Vl
 split
 ·split
  ·rw[List.lookup_cons]
   split
   ·rfl
   ·exact h
  ·exact h
 ·exact h
theorem Zd5{names:List (Str×NameKind)}{cells:List (Str×Addr)}{y:Str}{c:Addr}(hm:(y,NameKind.free)∈names)(hc:cells.lookup y=some c):∃c,(Z8k names cells).lookup y=some c:=by
 have kp:∀(names:List (Str×NameKind)) (cs:List (Str×Addr)),(cs.lookup y).isSome=true->((names.foldl (Vl cells) cs).lookup y).isSome=true:=by
  intro names
  induction names with
  |nil=>intro cs h;exact h
  |cons p r ih=>intro cs h;exact ih _ (Z6f h)
 have all:∀(names:List (Str×NameKind)) (cs:List (Str×Addr)),(y,NameKind.free)∈names->((names.foldl (Vl cells) cs).lookup y).isSome=true:=by
  intro names
  induction names with
  |nil=>intro cs h;cases h
  |cons p r ih =>
   intro cs h
   rcases List.mem_cons.mp h with e | h
   ·subst e
    refine kp r _ ?_
    unfold Vl
    simp[hc]
   ·exact ih _ h
 exact Option.isSome_iff_exists.mp (all names [] hm)
theorem Wg(env:Env):∀(names:List (Str×NameKind)) (y:Str),
  (names.map fun(n,k)=>if(k==NameKind.free&&env.scope.kind==.function&&env.kindOf n==some .cell) then(n,NameKind.cell) else(n,k)).lookup y =
   (names.lookup y).map fun k=>if(k==NameKind.free&&env.scope.kind==.function&&env.kindOf y==some .cell) then NameKind.cell else k
 | [],_=>rfl
 |(n,k)::r,y=>by
  have ih:=Wg env r y
  show List.lookup y ((if(k==NameKind.free&&env.scope.kind==.function&&env.kindOf n==some .cell)=true then(n,NameKind.cell) else(n,k))::_)=_
  cases hx:y==n with
  |true =>
   have e:y=n:=by simpa using hx
   subst e
   by_cases hc:(k==NameKind.free&&env.scope.kind==.function&&env.kindOf y==some .cell)=true
   ·rw[if_pos hc];simp only[List.lookup_cons,hx,Option.map_some];rw[if_pos hc]
   ·rw[if_neg hc];simp only[List.lookup_cons,hx,Option.map_some];rw[if_neg hc]
  |false =>
   by_cases hc:(k==NameKind.free&&env.scope.kind==.function&&env.kindOf n==some .cell)=true
   ·rw[if_pos hc];simp only[List.lookup_cons,hx];exact ih
   ·rw[if_neg hc];simp only[List.lookup_cons,hx];exact ih
def Wp(X:Cx)(N':List Str)(scope:Scope)(x:Str)(C:Addr)(s:Shared)(H:Hp)(ex:List Addr):Cx :=
 { X with N:=x::N',s₀:=s,H₀:=H,env:=compEnvC scope (Z8k scope.names X.env.cells) C X.env,outer:=X.stack,ex:=ex,fn:=fun _=>false,pn:=[],xe:=fun _ _=>False }
structure CScope3(x:Str)(N N':List Str)(osc scope:Scope):Prop where
 kind:scope.kind=.function
 nd:(x::N').Nodup
 own:scope.names.lookup x=some .local
 nocell:∀y∈scope.names,y.2≠.cell
 names:∀y∈scope.names,y.2=.local->scope.names.lookup y.1=some .local
 free:∀y∈scope.names,y.2=.free->osc.names.lookup y.1=some .cell
 nol:∀y∈N',scope.names.lookup y≠some .local
 len:N'.length=N.length
 hid:∀p∈N'.zip N,p.1=p.2∨scope.names.lookup p.1=none
section
variable{X:Cx}{N':List Str}{Z6:List (Addr×Obj)}{σ:St}{H:Hp}{s:Shared}
theorem CScope3.has{x:Str}{scope:Scope}(S:CScope3 x X.N N' X.env.scope scope)(ok:X.Ok):∀p∈scope.names,p.2=.free->∃c,X.env.cells.lookup p.1=some c:=fun p hp hk =>
 ok.has p.1 (.inl (S.free p hp hk))
theorem Z7c{x y:Str}{scope:Scope}{C:Addr}{H₀:Hp}{ex:List Addr}(S:CScope3 x X.N N' X.env.scope scope)(ok:X.Ok)(hk:(Wp X N' scope x C s H₀ ex).env.kindOf y=some .cell∨(Wp X N' scope x C s H₀ ex).env.kindOf y=some .free) :
  X.env.kindOf y=some .cell/\∃c,(Z8k scope.names X.env.cells).lookup y=some c:=by
 have e:(Wp X N' scope x C s H₀ ex).env.kindOf y=(scope.names.lookup y).map fun k=>if(k==NameKind.free&&X.env.scope.kind==.function&&X.env.kindOf y==some .cell) then NameKind.cell else k:=Wg X.env scope.names y
 rw[e]at hk
 cases q:scope.names.lookup y with
 |none=>rw[q]at hk;simp at hk
 |some k =>
  rw[q]at hk
  have hm:=PySem.mem_of_lookup q
  have hfree:k=.free:=by
   cases k with
   |free=>rfl
   |cell=>exact absurd rfl (S.nocell _ hm)
   |_=>simp at hk
  subst hfree
  have h1:=S.free _ hm rfl
  obtain⟨c,hc⟩:=ok.has y (.inl h1)
  exact⟨h1,Zd5 hm hc⟩
theorem Z8g{x:Str}{scope:Scope}{C acc:Addr}{fp:List Addr}{h':Heap}{t':Nat}{m:Str->Option Value}(S:CScope3 x X.N N' X.env.scope scope)(I:Inv X Z6 σ H s)(hf:∀b∈fp,Z1u X Z6 H b)(ho:∀b∈fp,∃o,s.heap.get? b=some o)
  (hC:s.heap.objs.size<=C) (hn:h'.Ns C m) (old:∀b o,s.heap.get? b=some o->h'.get? b=some o):Inv (Wp X N' scope x C s H fp) [] (none::σ) H { s with heap:=h',toks:=t' }:=by
 have sub:=Z7a scope.names X.env.cells
 refine⟨⟨I.ok.mod,S.kind,I.ok.glob,I.ok.blt,hC,fun y z c h1 h2=>I.ok.inj y z c (sub _ _ h1) (sub _ _ h2),fun y hy=>(Z7c S I.ok hy).2,fun y c z _=>absurd (show false=true from z) Bool.false_ne_true,I.ok.hd,I.ok.frames,.inl rfl,fun b hb=>⟨?_,fun y c e=>?_⟩,I.bs,Nat.le_trans I.ok.bsz I.sz,fun b o e hb=>?_,fun b hb z=>?_,I.stack,I.stkFree⟩,
  rfl,I.bare,Un.kept old,⟨m,hn,fun i y v h1 h2 h3=>?_⟩,fun y c e=>?_,I.hok.fresh hC,fun y c e=>I.freeC y c (sub _ _ e),fun p hp=>absurd (show p∈([]:List (Addr×Obj)) from hp) (by simp),I.hok.kept old,?_⟩
 ·obtain⟨o,e⟩:=ho b hb
  exact Nat.ne_of_lt (Nat.lt_of_lt_of_le (Heap.lt_size e) hC)
 ·exact(hf b hb).2.2.2.2.1 y c (sub _ _ e)
 ·rcases(hf b hb).2.2.2.1 with z | z
  ·exact I.ok.noex b o e z
  ·exact absurd (Nat.lt_of_lt_of_le (Heap.lt_size e) (Nat.le_trans I.ok.bsz z)) (Nat.lt_irrefl _)
 ·rcases List.mem_cons.mp (I.stkSub b z) with e | e
  ·exact(hf b hb).2.1 e
  ·exact(hf b hb).2.2.1 e
 ·cases i with
  |zero=>simp at h2
  |succ i =>
   have h0':N'[i]? = some y:=h1
   have h2':σ[i]? = some (some v):=by simpa using h2
   have hk:(Wp X N' scope x C s H fp).env.kindOf y=some .cell∨(Wp X N' scope x C s H fp).env.kindOf y=some .free:=by
    rcases h3 with h3 | h3
    ·exfalso
     have e:(Wp X N' scope x C s H fp).env.kindOf y=(scope.names.lookup y).map fun k=>if(k==NameKind.free&&X.env.scope.kind==.function&&X.env.kindOf y==some .cell) then NameKind.cell else k:=Wg X.env scope.names y
     have h3':(Wp X N' scope x C s H fp).env.kindOf y=some .local:=h3
     rw[e]at h3'
     cases q:scope.names.lookup y with
     |none=>rw[q]at h3';cases h3'
     |some k =>
      rw[q]at h3'
      rw[Option.map_some]at h3'
      split at h3'
      ·cases h3'
      ·cases h3'
       exact S.nol y (List.mem_of_getElem? h0') q
    ·exact h3
   obtain⟨hk1,c,hc⟩:=Z7c S I.ok hk
   have h1':X.N[i]? = some y:=by
    have hlt:i<N'.length:=(List.getElem?_eq_some_iff.mp h0').1
    have hlt2:i<X.N.length:=by rw[← S.len];exact hlt
    have hz:(y,X.N[i])∈N'.zip X.N:=by
     refine List.mem_iff_getElem?.mpr ⟨i,?_⟩
     rw[List.getElem?_zip_eq_some]
     exact⟨h0',List.getElem?_eq_getElem hlt2⟩
    rcases S.hid _ hz with e | e
    ·have e':y=X.N[i]:=e
     rw[List.getElem?_eq_getElem hlt2,← e']
    ·exfalso
     have e':scope.names.lookup y=none:=e
     have e2:(Wp X N' scope x C s H fp).env.kindOf y=(scope.names.lookup y).map fun k=>if(k==NameKind.free&&X.env.scope.kind==.function&&X.env.kindOf y==some .cell) then NameKind.cell else k:=Wg X.env scope.names y
     rw[e2,e']at hk
     rcases hk with hk | hk <;> cases hk
   obtain⟨m1,hn1,hl⟩:=I.loc
   obtain⟨u,r,l⟩:=hl i y v h1' h2' (.inr (.inl hk1))
   refine⟨u,r,.inr ⟨hk,c,hc,?_⟩⟩
   rcases l with⟨l,_⟩ | ⟨_,c',hc',z⟩
   ·rw[hk1]at l;cases l
   ·have:=sub _ _ hc
    rw[hc']at this
    cases this
    obtain⟨o,e,d⟩:=z
    exact⟨o,old _ _ e,d⟩
 ·obtain⟨v,o,e1,d⟩:=I.cell y c (sub _ _ e)
  exact⟨v,o,old _ _ e1,d⟩
 ·show(none::σ).length=(x::N').length
  simp[I.len,S.len]
def Zk5(X:Cx)(ifs:List Expr)(t:TT):Prop :=
 ∀(Z6:List (Addr×Obj)) (s:Shared) (σ:St) (H:Hp) (Q:Bool->Hp->Prop),Inv X Z6 σ H s->t σ H Q ->
  wpAny (model X.prog X.w) X.A (forIn ifs true fun c r=>if r=true then do let ok ← isTrue c X.env (eval c X.env);pure (ForInStep.yield ok) else pure (ForInStep.yield r)) (TP X Z6 σ Q) X.xe s
def Zgn:TT:=fun _ H Q=>Q true H
theorem Ta:Zk5 X [] Zgn:=fun _ _ _ H _ I h=>wpAny_tests_nil ⟨H,I,h⟩
theorem Z55{c:Expr}{t:TT}(h:PT X c t):Zk5 X [c] t:=fun Z6 s σ H Q I hq=>wpAny_tests_one (h Z6 s σ H Q I hq)
def Zjx(J:It)(σ:St)(tt:TT)(te:TE)(Fin:List V->Hp->Prop)(H1:Hp):Prop:=∃W:Nat->Nat->List V->Hp->Prop,(∃m,W 0 m [] H1)/\∀i m ys H,W i m ys H ->
 (J.stop i H/\Fin ys H)∨(J.go i H/\ys.length<sizeLine/\∃N:List V->Hp->Prop,(∀ys' H',N ys' H'->∃m',m'<m/\W (i+1) m' ys' H')/\∀x H',J.yld i H x H'->tt (some x::σ) H' fun b H2 =>
  if b=true then te (some x::σ) H2 fun y H3=>N (ys++[y]) H3 else N ys H2)
def Zlo(wi:TI)(tt:TT)(te:TE):TE:=fun σ H Q=>wi σ H fun J H1=>Zjx J σ tt te (fun ys H=>∀l,H l=none->Q (.ref l) (Zq H l (.lst ys))) H1
theorem Z2n{elt iter:Expr}{x:Str}{px pos:Pos}{scope:Scope}{ifs:List Expr}{tt:TT}{te:TE}{s2:Shared}{it:Addr}{fp:List Addr}{tn:Nat->Heap->Prop}{J:It}{H2:Hp}{E:Value->Shared->Prop}{Fin:List V->Hp->Prop}{RR:Value->Addr->Result->Shared->Prop}
  (hc:X.calm=true) (S:CScope3 x X.N N' X.env.scope scope) (I2:Inv X Z6 σ H2 s2) (T:Turn X.prog X.w X.K (.Name x px) J fp it tn) (st2:tn 0 s2.heap) (f2:∀b∈fp,Z1u X Z6 H2 b) (hw:Zjx J σ tt te Fin H2)
  (ht:∀C s H ex,Zk5 (Wp X N' scope x C s H ex) ifs tt) (he:∀C s H ex,PE (Wp X N' scope x C s H ex) elt te)
  (hRR:∀D C s4 ys H3 m5,Inv X Z6 σ (Zq H3 D (.lst ys)) s4->s4.heap.Ns C m5->Z1u X Z6 (Zq H3 D (.lst ys)) C->H3 D=none->Fin ys H3->RR (.ref D) C (.ok .next) s4) :
  wpAny (model X.prog X.w) X.A (newList []) (fun acc s₃=>wpAny (model X.prog X.w) X.A (newFunctionEnv scope X.env.globals (Z8k scope.names X.env.cells) [] X.env.qual none .none (some X.env)) (fun cenv s₄ =>
   codeAny (model X.prog X.w) X.A (.compStart (.ListComp elt [⟨.Name x px,iter,ifs,0⟩] scope pos) 0 (.ref it) acc { cenv with scope:=relabel scope X.env }) (RR acc cenv.locals) s₄) E s₃) E s2:=by
 obtain⟨W,⟨m0,w0⟩,turn⟩:=hw
 have hob:=T.obj 0 s2.heap st2
 refine wpAny_newObj_type (wpAny_newFunctionEnv S.nocell (by intro y hy;simp at hy) (fun h₁ hns₁ hsb₁=>?_) S.kind)
 dsimp only at hns₁ hsb₁ ⊢
 generalize hG2:s2.heap.push { cls:=.type "list",dict:=none,data:=.seq ([]:List Value).toArray }=G2 at hns₁ hsb₁ ⊢
 have hC:G2.objs.size=s2.heap.objs.size+1:=by rw[← hG2,Heap.size_push]
 have hDC:s2.heap.objs.size≠G2.objs.size:=by rw[hC];exact Nat.ne_of_lt (Nat.lt_succ_self _)
 have hCle:s2.heap.objs.size<=G2.objs.size:=by rw[hC];exact Nat.le_succ _
 have below:∀b,b<s2.heap.objs.size->b≠G2.objs.size/\b≠s2.heap.objs.size:=fun b hb=>⟨by rw[hC];exact Nat.ne_of_lt (Nat.lt_succ_of_lt hb),Nat.ne_of_lt hb⟩
 have old:∀b o,s2.heap.get? b=some o->h₁.get? b=some o:=fun b o e=>hsb₁.extBut b o (below b (Heap.lt_size e)).1 (Heap.get?_push_of_some _ (hG2 ▸ Heap.get?_push_of_some _ e))
 have hacc:h₁.get? s2.heap.objs.size=some { cls:=.type "list",data:=.seq ([]:List Value).toArray 0 }:=hsb₁.extBut _ _ hDC (Heap.get?_push_of_some _ (hG2 ▸ Heap.get?_push_size _ rfl))
 generalize hD:s2.heap.objs.size=D at *
 generalize hCC:G2.objs.size=C at *
 have hDf:D∉fp:=fun hm=>by
  obtain⟨o,e,_⟩:=hob D hm
  exact absurd (Heap.lt_size e) (by rw[hD];exact Nat.lt_irrefl _)
 have I4:Inv (Wp X N' scope x C s2 H2 fp) [] (none::σ) H2 { s2 with heap:=h₁,toks:=s2.toks+([]:List (Str×Value)).length } :=
  Z8g (acc:=D) S I2 f2 (fun b hb=>let⟨o,e,_⟩:=hob b hb;⟨o,e⟩) (by omega) hns₁ old
 have hDn:∀ {σ':St} {H':Hp} {s':Shared},Inv (Wp X N' scope x C s2 H2 fp) [] σ' H' s'->(∀b∈fp,H' b=none)->∀b∈fp,Z1u (Wp X N' scope x C s2 H2 fp) [] H' b:=fun{σ' H' s'} I' hn b hb=>by
  refine⟨hn b hb,(I'.ok.exf b hb).1,I'.ok.exfs b hb,.inl hb,fun y c e=>(I'.ok.exf b hb).2 y c e,fun p hp=>absurd (show p∈([]:List (Addr×Obj)) from hp) (by simp)⟩
 have hDfp:∀ {σ':St} {H':Hp} {s':Shared},Inv (Wp X N' scope x C s2 H2 fp) [] σ' H' s'->H' D=none->Z1u (Wp X N' scope x C s2 H2 fp) [] H' D:=fun{σ' H' s'} I' hn=>by
  refine⟨hn,hDC,fun z=>?_,.inr (by show s2.heap.objs.size<=D;omega),fun y c e=>?_,fun p hp=>absurd (show p∈([]:List (Addr×Obj)) from hp) (by simp)⟩
  ·obtain⟨_,o,e,_⟩:=I'.ok.funs.mem z
   exact absurd (show D<s2.heap.objs.size from Heap.lt_size e) (by rw[hD];exact Nat.lt_irrefl _)
  ·obtain⟨v,z⟩:=I2.cell y c (Z7a _ _ _ _ e)
   intro e2
   exact absurd z.lt (by rw[hD,e2];exact Nat.lt_irrefl _)
 have hgt:∀b o,s2.heap.get? b=some o->b≠C/\b≠D:=fun b o e=>by
  have z:=below b (by rw[← hD];exact Heap.lt_size e)
  exact z
 let LI:Nat->Shared->Prop:=fun n s'=>∃i ys its k σ0 H',Inv (Wp X N' scope x C s2 H2 fp) [] (σ0::σ) H' s'/\tn i s'.heap/\(∀b∈fp,H' b=none)/\H' D=none/\Vals ys its/\ys.length<=sizeLine/\s'.heap.get? D=some { cls:=.type "list",data:=.seq its.toArray k }/\W i n ys H'
 have loop:∀s₃:Shared,s₃ = { s2 with heap:=h₁,toks:=s2.toks+([]:List (Str×Value)).length } ->
   codeAny (model X.prog X.w) X.A (.compLoop (.ListComp elt [⟨.Name x px,iter,ifs,0⟩] scope pos) 0 (.ref it) (.ref D) (compEnvC scope (Z8k scope.names X.env.cells) C X.env))
    (RR (.ref D) C) s₃:=by
  rintro s₃ rfl
  refine codeAny_compLoop_tests LI ?_ m0 ⟨0,[],[],0,none,H2,I4,T.keep _ _ _ st2 (fun b _ o e=>old b o e),fun b hb=>(f2 b hb).1,I2.hok.fresh (by rw[hD];exact Nat.le_refl _),.nil,Nat.zero_le _,hacc,w0⟩
  rintro n s3 ⟨i,ys,its,k,σ0,H3,I3,st3,fr3,frD,rv,hysz,ha3,w3⟩
  have IP:Inv (Wp X N' scope x C s2 H2 fp) [(D,{ cls:=.type "list",data:=.seq its.toArray k })] (σ0::σ) H3 s3:=I3.pins_of fun p hp=>by
   have e:p=(D,{ cls:=.type "list",data:=.seq its.toArray k }):=by simpa using hp
   subst e
   obtain⟨f0,f1,f3,_⟩:=hDfp I3 frD
   exact⟨ha3,f0,f1,f3,fun v z=>by cases z⟩
  have fpP:∀ {H':Hp},(∀b∈fp,H' b=none)->∀b∈fp,Z1u (Wp X N' scope x C s2 H2 fp) [(D,{ cls:=.type "list",data:=.seq its.toArray k })] H' b:=fun{H'} hn b hb=>by
   refine⟨hn b hb,(I3.ok.exf b hb).1,I3.ok.exfs b hb,.inl hb,fun y c e=>(I3.ok.exf b hb).2 y c e,fun p hp=>?_⟩
   have e:p=(D,{ cls:=.type "list",data:=.seq its.toArray k }):=by
    have hp':p∈[(D,({ cls:=.type "list",data:=.seq its.toArray k }:Obj))]:=hp
    simpa using hp'
   subst e
   exact fun z=>hDf (by rw[show D=b from z];exact hb)
  rcases turn i n ys H3 w3 with⟨stop,qn⟩ | ⟨go,hlen,N,hN,step⟩
  ·refine wpAny_mono (T.done (Wp X N' scope x C s2 H2 fp) rfl rfl rfl hc i _ s3 (σ0::σ) H3 (fun _ _=>False) IP (fpP fr3) st3 stop) (fun r s4 ⟨hr,I5⟩=>?_) fun _ _ z=>z.elim
   subst hr
   obtain⟨m5,hn5,_⟩:=I5.loc
   have hD4:=(I5.pin _ (List.mem_append_right _ (List.mem_singleton.mpr rfl))).1
   have hcn:H3 C=none:=I5.free
   have hok':HOk X.prog X.w (Zq H3 D (.lst ys)) s4.heap:=fun b u e=>by
    by_cases hb:b=D
    ·subst hb
     rw[Z2]at e
     cases e
     exact⟨hysz,its,k,rv,hD4⟩
    ·rw[Zi hb]at e
     exact(I5.hok b u e).stay (fun c v hc q=>q) (fun c q=>by rw[Zi (Z7 q frD)];exact q) fun c xs q=>by rw[Zi (Z7 q frD)];exact q
   have un':Un (Z3m X.stack) fp H2 (Zq H3 D (.lst ys)) s2.heap s4.heap:=by
    have u:=I5.base
    refine⟨u.keep,u.slot,fun b o q n hx=>?_,u.there,fun b xs q=>?_,fun b o xs q=>?_,fun b ps q=>?_⟩
    ·rw[Zi (hgt b o q).2]
     exact u.free b o q n hx
    ·have e:=u.tups b xs q
     rw[Zi (Z7 e frD)]
     exact e
    ·have e:=u.frzs b o xs q
     rw[Zi (Z7 e frD)]
     exact e
    ·obtain⟨more,e⟩:=u.tbls b ps q
     exact⟨more,by rw[Zi (Z7 e frD)];exact e⟩
   have I6:Inv X Z6 σ (Zq H3 D (.lst ys)) s4:=I2.call' (ch:=fp) I5.os un' hok' I5.bare (fun b hb=>⟨(f2 b hb).2.2.2.1,(f2 b hb).2.1,(f2 b hb).2.2.2.2.1,(f2 b hb).2.2.2.2.2⟩)
   exact hRR D C s4 ys H3 m5 I6 hn5 (I2.fpOk (by rw[hD];exact hCle) (by rw[Zi (Ne.symm hDC)];exact hcn)) frD qn
  ·refine wpAny_mono (T.item (Wp X N' scope x C s2 H2 fp) rfl rfl rfl hc i _ s3 (σ0::σ) H3 (fun _ _=>False) IP (fpP fr3) st3 go) (fun r s4 ⟨u,hr,h4⟩=>?_) fun _ _ z=>z.elim
   subst hr
   show wpAny (model X.prog X.w) X.A (letOwnedTupleGo (.Name x px) (.ref it) u >>= fun _=>assign (.Name x px) (compEnvC scope (Z8k scope.names X.env.cells) C X.env) u) _ _ s4
   refine wpAny_bind (wpAny_mono h4 (fun _ s5 ⟨xv,H5,I5,r5,y5,st5,fr5⟩=>?_) fun _ _ z=>z.elim)
   have I5':=I5.pinned (fpP fr5) (T.obj _ _ st5)
   have hloc:Zjw (Wp X N' scope x C s2 H2 fp).env.scope x:=.inl (lookup_relabel_local S.own)
   refine wpAny_mono (Z9d (X:=Wp X N' scope x C s2 H2 fp) (i:=0) S.nd rfl hloc (.inr (lookup_relabel_local S.own)) _ s5 (σ0::σ) H5 xv u (fun σ' H'=>σ'=some xv::σ/\H'=H5) I5' r5 ⟨rfl,rfl⟩) (fun _ s6 ⟨σ6,H6,I6,e1,e2⟩=>?_) fun _ _ z=>z.elim
   subst e1 e2
   refine wpAny_mono (ht C s2 H2 fp _ s6 (some xv::σ) H6 _ I6 (step xv H6 y5)) (fun b s7 ⟨H7,I7,q7⟩=>?_) fun _ _ z=>z.elim
   have hpD:∀ {σ':St} {H':Hp} {s':Shared},Inv (Wp X N' scope x C s2 H2 fp) ([(D,{ cls:=.type "list",data:=.seq its.toArray k })]++Z1f fp s5.heap) σ' H' s'->s'.heap.get? D=some { cls:=.type "list",data:=.seq its.toArray k }/\H' D=none:=fun{σ' H' s'} I'=>by
    have z:=I'.pin (D,{ cls:=.type "list",data:=.seq its.toArray k }) (List.mem_append_right _ (List.mem_append_left _ (List.mem_singleton.mpr rfl)))
    exact⟨z.1,z.2.1⟩
   have hpF:∀ {σ':St} {H':Hp} {s':Shared},Inv (Wp X N' scope x C s2 H2 fp) ([(D,{ cls:=.type "list",data:=.seq its.toArray k })]++Z1f fp s5.heap) σ' H' s'->(∀b∈fp,∀o,s5.heap.get? b=some o->s'.heap.get? b=some o)/\∀b∈fp,H' b=none:=fun{σ' H' s'} I'=>by
    refine⟨fun b hb o e=>(I'.pin (b,o) (List.mem_append_right _ (List.mem_append_right _ (T6 hb e)))).1,fun b hb=>?_⟩
    obtain⟨o,e,d⟩:=T.obj _ _ st5 b hb
    exact(I'.pin (b,o) (List.mem_append_right _ (List.mem_append_right _ (T6 hb e)))).2.1
   cases b with
   |false =>
    rw[if_neg Bool.false_ne_true]at q7 ⊢
    obtain⟨m',hm,w7⟩:=hN _ _ q7
    exact⟨m',hm,i+1,ys,its,k,some xv,H7,I7.pins_of (pins':=[]) (fun p hp=>absurd hp (by simp)),T.keep _ _ _ st5 (hpF I7).1,(hpF I7).2,(hpD I7).2,rv,hysz,(hpD I7).1,w7⟩
   |true =>
    rw[if_pos rfl]at q7 ⊢
    refine wpAny_mono (he C s2 H2 fp _ s7 (some xv::σ) H7 _ I7 q7) (fun u8 s8 ⟨y,H8,I8,r8,q8⟩=>?_) fun _ _ z=>z.elim
    obtain⟨m',hm,w8⟩:=hN _ _ q8
    obtain⟨hd1,hd2⟩:=hpD I8
    have hl:=rv.length
    refine append_at hd1 (fun h' hs' e'=>?_) (by rw[List.size_toArray];omega)
    have I9:Inv (Wp X N' scope x C s2 H2 fp) [] (some xv::σ) H8 s8:=I8.pins_of (pins':=[]) (fun p hp=>absurd hp (by simp))
    obtain⟨f0,f1,f3,f4,f5,f6⟩:=hDfp I9 hd2
    refine⟨m',hm,i+1,ys++[y],its++[u8],k+1,some xv,H8,I9.turned (it:=D) (t':=s8.toks) (fun b o hb e=>(hs'.2 b hb).trans e) f0 f1 f4 f5 f6,
     T.keep _ _ _ st5 (fun b hb o e=>(hs'.2 b (fun z=>hDf (by rw[← z];exact hb))).trans ((hpF I8).1 b hb o e)),(hpF I8).2,hd2,rv.append (.cons r8 .nil),by rw[List.length_append,List.length_singleton];omega,?_,w8⟩
    rw[e',List.push_toArray]
 exact codeAny_compStart_list (loop _ rfl) (T.self _ 0 _ _ _ (T.keep _ _ _ st2 (fun b _ o e=>old b o e)) (loop _ rfl))
theorem Zaw{elt iter:Expr}{x:Str}{px pos:Pos}{scope:Scope}{ifs:List Expr}{wi:TI}{tt:TT}{te:TE}(hc:X.calm=true)(S:CScope3 x X.N N' X.env.scope scope)(hi:PI X (.Name x px) iter wi)
  (ht:∀C s H ex,Zk5 (Wp X N' scope x C s H ex) ifs tt) (he:∀C s H ex,PE (Wp X N' scope x C s H ex) elt te) (hs:∀v,foldedSetIterable iter X.env v=pure v:=by intro _;rfl) :
  PE X (.ListComp elt [⟨.Name x px,iter,ifs,0⟩] scope pos) (Zlo wi tt te):=by
 intro Z6 s σ H Q I h
 rw[eval_ListComp]
 refine wpAny_comprehension_free (use:=none) rfl hs (Jn (S.has I.ok)) S.kind S.names (W9 (hi Z6 s σ H _ I h) fun v s1 h1=>W9 h1 fun itv s2 h2=>?_)
 obtain⟨it,fp,tn,J,H2,e,I2,T,st2,f2,hw⟩:=h2
 subst e
 refine Z2n (RR:=fun acc C=>compPost (model X.prog X.w) X.A X.xe none (EP X Z6 σ Q) acc C) hc S I2 T st2 f2 hw ht he fun D C s4 ys H3 m5 I5 hn5 fC frD qn=>⟨m5,hn5,fun h' hs'=>?_⟩
 obtain⟨f0,f1,f3,f4,f5,f6⟩:=fC
 exact⟨.ref D,_,I5.turned (it:=C) (t':=s4.toks) (fun b o hb e=>(hs'.2 b hb).trans e) f0 f1 f4 f5 f6,rfl,qn D frD⟩
theorem Zau{i:Nat}{y:Str}{elt iter:Expr}{x:Str}{px py pos spos:Pos}{scope:Scope}{ifs:List Expr}{wi:TI}{tt:TT}{te:TE}(hN:X.N.Nodup)(hi':X.N[i]? = some y)(hy:X.env.scope.names.lookup y=some .local)(hc:X.calm=true)(S:CScope3 x X.N N' X.env.scope scope)(hi:PI X (.Name x px) iter wi)
  (ht:∀C s H ex,Zk5 (Wp X N' scope x C s H ex) ifs tt) (he:∀C s H ex,PE (Wp X N' scope x C s H ex) elt te)
  (hsw:swapsWith (.ListComp elt [⟨.Name x px,iter,ifs,0⟩] scope pos) (some (.Name y py)) spos.line X.env=pure true) (hs:∀v,foldedSetIterable iter X.env v=pure v:=by intro _;rfl) :
  PS X (.Assign [.Name y py] (.ListComp elt [⟨.Name x px,iter,ifs,0⟩] scope pos) spos) (Z8i (Zlo wi tt te) (Z0t i)):=by
 intro Z6 s σ H D0 I h
 rw[exec_Assign_Name_used _ _ _ _ hsw]
 refine wpAny_bind (wpAny_standAt (wpAny_bind ?_))
 show wpAny _ X.A (do let _ ← comprehension (.ListComp elt [⟨.Name x px,iter,ifs,0⟩] scope pos) scope X.env _ (newList []) false (eval iter X.env) (some (assign (.Name y py) X.env))) _ _ s
 refine wpAny_bind (wpAny_mono (wpAny_comprehension_free (use:=some (assign (.Name y py) X.env)) (Q:=fun _ s'=>SP X Z6 D0 .next s') rfl hs (Jn (S.has I.ok)) S.kind S.names
  (W9 (hi Z6 s σ H _ I h) fun v s1 h1=>W9 h1 fun itv s2 h2=>?_)) (fun _ s' hq=>wpAny_pure (wpAny_pure hq)) fun _ _ e=>e)
 obtain⟨it,fp,tn,J,H2,e,I2,T,st2,f2,hw⟩:=h2
 subst e
 refine Z2n (RR:=fun acc C=>compPost (model X.prog X.w) X.A X.xe (some (assign (.Name y py) X.env)) (fun _ s'=>SP X Z6 D0 .next s') acc C) hc S I2 T st2 f2 hw ht he fun D C s4 ys H3 m5 I5 hn5 fC frD qn=>?_
 show wpAny _ X.A (assign (.Name y py) X.env (.ref D)) _ _ _
 obtain⟨f0,f1,f3,f4,f5,f6⟩:=fC
 refine wpAny_assign_Name (Z3u I5 hN hi' (.inl hy) (v:=.ref D) rfl (fun s' I' ⟨a,sb,ha⟩=>?_) (.inr hy))
 have hCa:C≠a:=by
  rcases ha with e | e
  ·rw[e];exact f1
  ·exact Ne.symm (f5 _ _ e)
 refine⟨m5,hn5.sameBut sb hCa,fun h' hs'=>?_⟩
 exact⟨_,_,I'.turned (it:=C) (t':=s'.toks) (fun b o hb e=>(hs'.2 b hb).trans e) f0 f1 f4 f5 f6,qn D frD⟩
abbrev Zlr(X:Cx)(scope:Scope)(x:Str)(C:Addr)(s:Shared)(H:Hp)(ex:List Addr):Cx:=Wp X X.N scope x C s H ex
structure CScope(x:Str)(N:List Str)(osc scope:Scope):Prop where
 kind:scope.kind=.function
 nd:(x::N).Nodup
 own:scope.names.lookup x=some .local
 nocell:∀y∈scope.names,y.2≠.cell
 names:∀y∈scope.names,y.2=.local->scope.names.lookup y.1=some .local
 free:∀y∈scope.names,y.2=.free->osc.names.lookup y.1=some .cell
 nol:∀y∈N,scope.names.lookup y≠some .local
theorem Z6g{α:Type}:∀(l:List α),∀p∈l.zip l,p.1=p.2
 | [],p,h=>by simp at h
 |a::l,p,h=>by
  rw[List.zip_cons_cons]at h
  rcases List.mem_cons.mp h with rfl | h
  ·rfl
  ·exact Z6g l p h
theorem CScope.to3{x:Str}{N:List Str}{osc scope:Scope}(S:CScope x N osc scope):CScope3 x N N osc scope:=⟨S.kind,S.nd,S.own,S.nocell,S.names,S.free,S.nol,rfl,fun p hp=>.inl (Z6g N p hp)⟩
theorem Vb{elt iter:Expr}{x:Str}{px pos:Pos}{scope:Scope}{ifs:List Expr}{wi:TI}{tt:TT}{te:TE}(hc:X.calm=true)(S:CScope x X.N X.env.scope scope)(hi:PI X (.Name x px) iter wi)
  (ht:∀C s H ex,Zk5 (Zlr X scope x C s H ex) ifs tt) (he:∀C s H ex,PE (Zlr X scope x C s H ex) elt te) (hs:∀v,foldedSetIterable iter X.env v=pure v:=by intro _;rfl) :
  PE X (.ListComp elt [⟨.Name x px,iter,ifs,0⟩] scope pos) (Zlo wi tt te):=Zaw hc S.to3 hi ht he hs
theorem Z6m{i:Nat}{y:Str}{elt iter:Expr}{x:Str}{px py pos spos:Pos}{scope:Scope}{ifs:List Expr}{wi:TI}{tt:TT}{te:TE}(hN:X.N.Nodup)(hi':X.N[i]? = some y)(hy:X.env.scope.names.lookup y=some .local)(hc:X.calm=true)(S:CScope x X.N X.env.scope scope)(hi:PI X (.Name x px) iter wi)
  (ht:∀C s H ex,Zk5 (Zlr X scope x C s H ex) ifs tt) (he:∀C s H ex,PE (Zlr X scope x C s H ex) elt te)
  (hsw:swapsWith (.ListComp elt [⟨.Name x px,iter,ifs,0⟩] scope pos) (some (.Name y py)) spos.line X.env=pure true) (hs:∀v,foldedSetIterable iter X.env v=pure v:=by intro _;rfl) :
  PS X (.Assign [.Name y py] (.ListComp elt [⟨.Name x px,iter,ifs,0⟩] scope pos) spos) (Z8i (Zlo wi tt te) (Z0t i)):=Zau hN hi' hy hc S.to3 hi ht he hsw hs
theorem Z1j{J:It}{n:Nat}{σ:St}{tt:TT}{te:TE}{Fin:List V->Hp->Prop}{H1:Hp}(Pv:Nat->List V->Hp->Prop)(h0:Pv 0 [] H1)(hz:n<sizeLine)(hlen:∀i ys H,Pv i ys H->ys.length<=i)
  (hgo:∀i ys H,i<n->Pv i ys H->J.go i H) (hst:∀ys H,Pv n ys H->J.stop n H)
  (hs:∀i ys H x H',i<n->Pv i ys H->J.yld i H x H'->tt (some x::σ) H' fun b H2=>if b=true then te (some x::σ) H2 fun y H3=>Pv (i+1) (ys++[y]) H3 else Pv (i+1) ys H2)
  (hd:∀ys H,Pv n ys H->Fin ys H):Zjx J σ tt te Fin H1:=by
 refine⟨fun i m ys H=>m=n-i/\i<=n/\Pv i ys H,⟨n,by simp,Nat.zero_le _,h0⟩,?_⟩
 rintro i m ys H ⟨rfl,hi,p⟩
 by_cases hlt:i<n
 ·have hl:=hlen i ys H p
  exact .inr ⟨hgo i ys H hlt p,by omega,fun ys' H'=>Pv (i+1) ys' H',fun ys' H' p'=>⟨n-(i+1),by omega,rfl,hlt,p'⟩,fun x H' y=>hs i ys H x H' hlt p y⟩
 ·have e:i=n:=by omega
  subst e
  exact .inl ⟨hst ys H p,hd ys H p⟩
theorem Zj1{K:W.Frag}{a:Addr}{xs:List V}{σ:St}{te:TE}{Fin:List V->Hp->Prop}{H1:Hp}(Pv:Nat->List V->Hp->Prop)(h0:Pv 0 [] H1)(hz:xs.length<sizeLine)(hlen:∀i ys H,Pv i ys H->ys.length<=i)
  (hl:∀i ys H,Pv i ys H->SqT K H a xs) (hs:∀i ys H x,xs[i]? = some x->Pv i ys H->te (some x::σ) H fun y H3=>Pv (i+1) (ys++[y]) H3) (hd:∀ys H,Pv xs.length ys H->Fin ys H) :
  Zjx (Zk6 K a) σ Zgn te Fin H1:=by
 refine Z1j (n:=xs.length) Pv h0 hz hlen (fun i ys H hi p=>⟨xs,xs[i],hl i ys H p,by simp[hi]⟩) (fun ys H p=>⟨xs,hl _ ys H p,Nat.le_refl _⟩) (fun i ys H x H' hi p y=>?_) hd
 obtain⟨e,y⟩:=y
 subst e
 exact hs i ys _ x (y xs (hl i ys _ p)) p
theorem Z5c{K:W.Frag}{a:Addr}{xs:List V}{σ:St}{te:TE}{Fin:List V->Hp->Prop}{H1:Hp}(Pv:Nat->List V->Hp->Prop)(h0:Pv 0 [] H1)(hz:xs.length<sizeLine)(hlen:∀i ys H,Pv i ys H->ys.length<=i)
  (hl:∀i ys H,Pv i ys H->SqL K H a xs) (hs:∀i ys H x,xs[i]? = some x->Pv i ys H->te (some x::σ) H fun y H3=>Pv (i+1) (ys++[y]) H3) (hd:∀ys H,Pv xs.length ys H->Fin ys H) :
  Zjx (Zk7 K a) σ Zgn te Fin H1:=by
 refine Z1j (n:=xs.length) Pv h0 hz hlen (fun i ys H hi p=>⟨xs,xs[i],hl i ys H p,by simp[hi]⟩) (fun ys H p=>⟨xs,hl _ ys H p,Nat.le_refl _⟩) (fun i ys H x H' hi p y=>?_) hd
 obtain⟨e,y⟩:=y
 subst e
 exact hs i ys _ x (y xs (hl i ys _ p)) p
theorem Zct{K:W.Frag}{a:Addr}{xs:List V}{σ:St}{tt:TT}{te:TE}{Fin:List V->Hp->Prop}{H1:Hp}(Pv:Nat->List V->Hp->Prop)(h0:Pv 0 [] H1)(hz:xs.length<sizeLine)(hlen:∀i ys H,Pv i ys H->ys.length<=i)
  (hl:∀i ys H,Pv i ys H->SqL K H a xs) (hs:∀i ys H x,xs[i]? = some x->Pv i ys H->tt (some x::σ) H fun b H2=>if b=true then te (some x::σ) H2 fun y H3=>Pv (i+1) (ys++[y]) H3 else Pv (i+1) ys H2) (hd:∀ys H,Pv xs.length ys H->Fin ys H) :
  Zjx (Zk7 K a) σ tt te Fin H1:=by
 refine Z1j (n:=xs.length) Pv h0 hz hlen (fun i ys H hi p=>⟨xs,xs[i],hl i ys H p,by simp[hi]⟩) (fun ys H p=>⟨xs,hl _ ys H p,Nat.le_refl _⟩) (fun i ys H x H' hi p y=>?_) hd
 obtain⟨e,y⟩:=y
 subst e
 exact hs i ys _ x (y xs (hl i ys _ p)) p
theorem Z2y{lo:Int}{n:Nat}{σ:St}{te:TE}{Fin:List V->Hp->Prop}{H1:Hp}(Pv:Nat->List V->Hp->Prop)(h0:Pv 0 [] H1)(hz:n<sizeLine)(hlen:∀i ys H,Pv i ys H->ys.length<=i)
  (hs:∀i ys H,i<n->Pv i ys H->te (some (.int (lo+i))::σ) H fun y H3=>Pv (i+1) (ys++[y]) H3) (hd:∀ys H,Pv n ys H->Fin ys H) :
  Zjx (Zjy lo n) σ Zgn te Fin H1:=by
 refine Z1j (n:=n) Pv h0 hz hlen (fun i ys H hi p=>hi) (fun ys H p=>Nat.le_refl n) (fun i ys H x H' hi p y=>?_) hd
 obtain⟨e,y⟩:=y
 subst e y
 exact hs i ys _ hi p
theorem Z4y:∀ {ns:List Int} {us:List Value},Vals (ns.map V.int) us->∃ps:List (Int×Tok),us=ps.map (fun p=>Value.int p.1 p.2)/\ps.map (·.1)=ns
 | [],us,r=>by rw[List.map_nil]at r;cases r;exact⟨[],rfl,rfl⟩
 |n::ns,us,r=>by
  rw[List.map_cons]at r
  cases r with
  |cons r1 r2 =>
   obtain⟨t,e⟩:=r1
   obtain⟨ps,e1,e2⟩:=Z4y r2
   exact⟨(n,t)::ps,by rw[e,e1];rfl,by rw[List.map_cons,e2]⟩
theorem Zd6(hc:X.calm=true):T8 X (.builtin "sum") (fun xs H Q=>∃(p:Addr) (ns:List Int),xs=[.ref p]/\SqL X.K H p (ns.map V.int)/\Q (.int ns.sum) H):=by
 intro Z6 s σ H xs us Q I r h
 obtain⟨p,ns,rfl,hq,q⟩:=h
 obtain⟨u,rfl,rx⟩:=Tj r
 cases rx
 obtain⟨its,rv,pl,hz⟩:=I.list hq
 obtain⟨ps,e1,e2⟩:=Z4y rv
 have hl:s.heap.IsList p (intItems ps.toArray):=by
  have e:intItems ps.toArray=its.toArray:=by rw[e1];simp[intItems]
  rw[e];exact pl.isList
 refine sum_intListG (I.ok.hd hc) hl fun h' tk t' hk=>⟨.int ns.sum,H,I.kept hk,⟨t',?_⟩,q⟩
 rw[preSum_eq,List.take_of_length_le (by simp),e2]
theorem Z6s(hu:X.A.units<cLine):Z3s X (compareOp .Eq) (fun x y H Q=>∃(p r:Addr) (xs:List V),x=.ref p/\y=.ref r/\SqL X.K H p xs/\SqL X.K H r []/\Q (.bl xs.isEmpty) H):=by
 intro Z6 s σ H x y v u Q I rx ry h
 obtain⟨p,r,xs,rfl,rfl,hp,hr,q⟩:=h
 cases rx
 cases ry
 obtain⟨its,rv,pl,hz⟩:=I.list hp
 obtain⟨its2,rv2,pl2,hz2⟩:=I.list hr
 cases rv2
 cases rv with
 |nil=>exact SeqAt.eq_listAt (e:=fun _=>true) pl.isList pl2.isList (by simp) hu (fun j h1 h2=>absurd h1 (by simp)) ⟨.bl true,H,I,rfl,q⟩
 |cons r1 r2=>exact SeqAt.eq_list_lengthsAt pl.isList pl2.isList (by simp) hu ⟨.bl false,H,I,rfl,q⟩
theorem Z1c{T:String}{f:V->Hp->Bool->Prop}(hf:∀x H b,f x H b->∃t,TyOf X.K H x t/\W.kitOne X.K t (.type T)=some b) :
  T8 X (.builtin "isinstance") (fun xs H Q=>∃x b,xs=[x,.ty T]/\f x H b/\Q (.bl b) H):=by
 intro Z6 s σ H xs us Q I r h
 obtain⟨x,b,rfl,hx,q⟩:=h
 obtain⟨u,w',rfl,r1,r2⟩:=Ze9 r
 cases(show w'=Value.type T from r2)
 obtain⟨t,ty,e⟩:=hf x H b hx
 exact Zba I r1 ty e fun tk=>⟨.bl b,H,I.tok _,rfl,q⟩
def Zn9(T:String):V->Hp->Bool->Prop:=fun x H b=>match x with
 |.non=>b=(T=="NoneType")
 |.bl _=>b=(T=="bool" || T=="int")
 |.int _=>b=(T=="int")
 |.str _=>b=(T=="str")
 |.ref a=>(∃xs,H a=some (.tup xs)/\b=(T=="tuple"))∨(∃xs,H a=some (.lst xs)/\b=(T=="list"))
 |_=>False
theorem Zdz{K:W.Frag}{T:String}(hT:T="bool" ∨ T="int" ∨ T="str" ∨ T="tuple" ∨ T="list"):∀x H b,Zn9 T x H b->∃t,TyOf K H x t/\W.kitOne K t (.type T)=some b:=by
 intro x H b h
 cases x with
 |non=>refine⟨_,.non,?_⟩;rcases hT with rfl | rfl | rfl | rfl | rfl <;> cases h <;> rfl
 |bl y=>refine⟨_,.bl y,?_⟩;rcases hT with rfl | rfl | rfl | rfl | rfl <;> cases h <;> rfl
 |int i=>refine⟨_,.int i,?_⟩;rcases hT with rfl | rfl | rfl | rfl | rfl <;> cases h <;> rfl
 |str z=>refine⟨_,.str z,?_⟩;rcases hT with rfl | rfl | rfl | rfl | rfl <;> cases h <;> rfl
 |ref a =>
  rcases h with⟨xs,e,h⟩ | ⟨xs,e,h⟩
  ·refine⟨_,.tup e,?_⟩;rcases hT with rfl | rfl | rfl | rfl | rfl <;> cases h <;> rfl
  ·refine⟨_,.lst e,?_⟩;rcases hT with rfl | rfl | rfl | rfl | rfl <;> cases h <;> rfl
 |_=>exact(show False from h).elim
end
end L2
namespace Seek
open PySem PySem.Spec PyProof.Rows L2
structure Own(P:Program)(w:World)(K:W.Frag)(mg:Str->Option Value)(base:Heap)(k:Nat)(x:Str)(ps:List Str)(sp:Sp):Prop where
 ex:∃f fd,FnOk P w K mg base W3 k f fd ps sp/\mg x=some (.ref f)/\W.keepIn K (.ref f)=true/\Binds K fd ps []
theorem Own.mono{P:Program}{w:World}{K:W.Frag}{mg:Str->Option Value}{base:Heap}{j k:Nat}{x:Str}{ps:List Str}{sp:Sp}(O:Own P w K mg base j x ps sp)(h:j<=k):Own P w K mg base k x ps sp:=by
 obtain⟨f,fd,F,r⟩:=O.ex
 exact⟨f,fd,F.mono h,r⟩
theorem Zj{X:Cx}{k:Nat}{x:Str}{ps:List Str}{sp:Sp}{p pos:Pos}{e:Expr}{es:List Expr}{t:TA}(O:Own X.prog X.w X.K X.mg X.base k x ps sp)(hr:Room k X.A)(hg:Gl X x)(ha:PA X (e::es) t)
  (hdb:(x==("__debug__":Str))=false:=by decide) (he:starEach (e::es) X.env=(false,eval e X.env)::starEach es X.env:=by rfl) (hpl:(backTo pos (starEach es X.env)).any (·.1)=false:=by rfl) :
  PE X (.Call (.Name x p) (e::es) [] pos) (Z1r sp [] E0 t):=by
 obtain⟨f,fd,F,hm,hk,hb⟩:=O.ex
 exact Z9f F hr hg hm hk hb .nil Z7i ha hdb he hpl
structure Blt(mg:Str->Option Value):Prop where
 b_len:mg "len" = none
 b_range:mg "range" = none
 b_sum:mg "sum" = none
 b_all:mg "all" = none
 b_ord:mg "ord" = none
 b_max:mg "max" = none
 b_min:mg "min" = none
 b_int:mg "int" = none
 b_list:mg "list" = none
 b_tuple:mg "tuple" = none
 b_str:mg "str" = none
 b_bool:mg "bool" = none
 b_isinstance:mg "isinstance" = none
structure Gro(S:List Addr)(H H':Hp):Prop where
 keep:∀b o,H b=some o->b∉S->H' b=some o
 tups:∀b xs,H b=some (.tup xs)->H' b=some (.tup xs)
theorem Gro.refl{S:List Addr}{H:Hp}:Gro S H H:=⟨fun _ _ h _=>h,fun _ _ h=>h⟩
theorem Gro.trans{S:List Addr}{H H1 H2:Hp}(a:Gro S H H1)(b:Gro S H1 H2):Gro S H H2:=⟨fun c o h hc=>b.keep c o (a.keep c o h hc) hc,fun c xs h=>b.tups c xs (a.tups c xs h)⟩
theorem Gro.mono{S S':List Addr}{H H':Hp}(a:Gro S H H')(h:∀b∈S,b∈S'):Gro S' H H':=⟨fun c o q hc=>a.keep c o q fun z=>hc (h c z),a.tups⟩
theorem Gro.new{S:List Addr}{H:Hp}{p:Addr}(h:H p=none)(o:HO):Gro S H (Zq H p o):=⟨fun b u q _=>by rw[Zi (Z7 q h)];exact q,fun b xs q=>by rw[Zi (Z7 q h)];exact q⟩
theorem Gro.set{S:List Addr}{H:Hp}{p:Addr}{xs:List V}(hp:p∈S)(h:H p=some (.lst xs))(o:HO):Gro S H (Zq H p o) :=
 ⟨fun b u q hb=>by rw[Zi (fun z=>hb (by rw[z];exact hp))];exact q,fun b ys q=>by rw[Zi (Z3e q h (by intro z;cases z))];exact q⟩
def BoxAt(H:Hp)(b:Addr):Prop:=∃ns:List Int,H b=some (.lst (ns.map V.int))/\ns.length<=63
def LetAt(H:Hp)(l:Addr):Prop:=∃x y z:Str,H l=some (.lst [.str x,.str y,.str z])/\x.length=1/\y.length=1/\z.length=1
def CntAt(H:Hp)(c:Addr):Prop:=∃n p:Int,H c=some (.lst [.int n,.int p])/\0<=n/\n<=9
theorem BoxAt.ne_let{H:Hp}{b l:Addr}(h:BoxAt H b)(h':LetAt H l):b≠l:=by
 obtain⟨ns,e,_⟩:=h
 obtain⟨x,y,z,e',_⟩:=h'
 refine Z3e e e' fun q=>?_
 have q':ns.map V.int=[.str x,.str y,.str z]:=by injection q
 cases ns with
 |nil=>cases q'
 |cons n r=>rw[List.map_cons]at q';injection q' with q1 _;cases q1
theorem CntAt.ne_let{H:Hp}{b l:Addr}(h:CntAt H b)(h':LetAt H l):b≠l:=by
 obtain⟨n,p,e,_⟩:=h
 obtain⟨x,y,z,e',_⟩:=h'
 refine Z3e e e' fun q=>?_
 injection q with q'
 injection q' with q1 _
 cases q1
theorem LetAt.gro{S:List Addr}{H H':Hp}{l:Addr}(h:LetAt H l)(g:Gro S H H')(hl:l∉S):LetAt H' l:=by
 obtain⟨x,y,z,e,r⟩:=h
 exact⟨x,y,z,g.keep _ _ e hl,r⟩
theorem BoxAt.gro{S:List Addr}{H H':Hp}{l:Addr}(h:BoxAt H l)(g:Gro S H H')(hl:l∉S):BoxAt H' l:=by
 obtain⟨x,e,r⟩:=h
 exact⟨x,g.keep _ _ e hl,r⟩
theorem LetAt.new{H:Hp}{l p:Addr}{o:HO}(h:LetAt H l)(hp:H p=none):LetAt (Zq H p o) l:=h.gro (S:=[]) (Gro.new hp o) (by simp)
theorem BoxAt.new{H:Hp}{l p:Addr}{o:HO}(h:BoxAt H l)(hp:H p=none):BoxAt (Zq H p o) l:=h.gro (S:=[]) (Gro.new hp o) (by simp)
theorem Zj0{x y z:Str}{i:Int}(h0:0<=i)(h1:i<3)(hx:x.length=1)(hy:y.length=1)(hz:z.length=1):∃s:Str,s.length=1/\Z3o [V.str x,V.str y,V.str z] i=some (.str s):=by
 have:i=0∨i=1∨i=2:=by omega
 rcases this with rfl | rfl | rfl
 ·exact⟨x,hx,rfl⟩
 ·exact⟨y,hy,rfl⟩
 ·exact⟨z,hz,rfl⟩
theorem Y5{n:Nat}(h:n<=1000):n<=sizeLine:=Nat.le_of_lt (Yj h)
inductive How where | much | little | keep
 deriving DecidableEq
def How.text:How->Str
 |.much=>"much" |.little=>"little" |.keep=>"keep"
inductive Lk where | once | ahead | notahead | behind | notbehind
 deriving DecidableEq
def Lk.text:Lk->Str
 |.once=>"once" |.ahead=>"ahead" |.notahead=>"notahead" |.behind=>"behind" |.notbehind=>"notbehind"
inductive Hd where
 |sign (s:Str) | any | inn (rs:List (Str×Str)) | out (rs:List (Str×Str)) | beg | fin | row | alt
 |times (lo:Int) (hi:Option Int) (how:How) | grp (k:Int) | again (k:Int) | hav (k:Int) | look (w:Lk)
inductive Pat where
 |node (h:Hd) (ks:List Pat)
def Hd.word:Hd->Str
 |.sign _=>"sign" |.any=>"any" |.inn _=>"in" |.out _=>"out" |.beg=>"begin" |.fin=>"end" |.row=>"row" |.alt=>"or"
 |.times _ _ _=>"times" |.grp _=>"group" |.again _=>"again" |.hav _=>"have" |.look w=>w.text
def Z5i:Option Int->V
 |some i=>.int i
 |none=>.non
def RunsAt(H:Hp)(r:Addr)(rs:List (Str×Str)):Prop:=∃vs:List V,H r=some (.tup vs)/\Paired (fun(v:V) (p:Str×Str)=>p.1.length=1/\p.2.length=1/\∃a,v=.ref a/\H a=some (.tup [.str p.1,.str p.2])) vs rs/\rs.length<=20
def Lay(H:Hp)(a:Addr):Hd->List V->Prop
 |.sign s,kv=>kv=[]/\s.length=1/\H a=some (.tup [.str "sign",.str s])
 |.any,kv=>kv=[]/\H a=some (.tup [.str "any"])
 |.inn rs,kv=>kv=[]/\∃r,H a=some (.tup [.str "in",.ref r])/\RunsAt H r rs
 |.out rs,kv=>kv=[]/\∃r,H a=some (.tup [.str "out",.ref r])/\RunsAt H r rs
 |.beg,kv=>kv=[]/\H a=some (.tup [.str "begin"])
 |.fin,kv=>kv=[]/\H a=some (.tup [.str "end"])
 |.row,kv=>kv.length<=10/\∃r,H a=some (.tup [.str "row",.ref r])/\H r=some (.tup kv)
 |.alt,kv=>1<=kv.length/\kv.length<=10/\∃r,H a=some (.tup [.str "or",.ref r])/\H r=some (.tup kv)
 |.times lo hi how,kv=>(0<=lo/\lo<=20/\∀h,hi=some h->0<=h/\h<=20)/\∃k,kv=[k]/\H a=some (.tup [.str "times",.int lo,Z5i hi,.str how.text,k])
 |.grp n,kv=>(0<=n/\n<=20)/\∃k,kv=[k]/\H a=some (.tup [.str "group",.int n,k])
 |.again n,kv=>(0<=n/\n<=20)/\kv=[]/\H a=some (.tup [.str "again",.int n])
 |.hav n,kv=>(0<=n/\n<=20)/\∃y z,kv=[y,z]/\H a=some (.tup [.str "have",.int n,y,z])
 |.look w,kv=>∃k,kv=[k]/\H a=some (.tup [.str w.text,k])
def PatAt(H:Hp):Nat->V->Pat->Prop
 |0,_,_=>False
 |d+1,v,.node h ks=>∃a kv,v=.ref a/\Lay H a h kv/\Paired (PatAt H d) kv ks
theorem RunsAt.mono{H H':Hp}(t:∀b xs,H b=some (.tup xs)->H' b=some (.tup xs)){r:Addr}{rs:List (Str×Str)}(h:RunsAt H r rs):RunsAt H' r rs:=by
 obtain⟨vs,e,p,z⟩:=h
 exact⟨vs,t _ _ e,Paired.mapP p fun v q ⟨h1,h2,a,e1,e2⟩=>⟨h1,h2,a,e1,t _ _ e2⟩,z⟩
theorem Lay.mono{H H':Hp}(t:∀b xs,H b=some (.tup xs)->H' b=some (.tup xs)){a:Addr}{kv:List V}:∀ {h:Hd},Lay H a h kv->Lay H' a h kv
 |.sign _,⟨x,y,z⟩=>⟨x,y,t _ _ z⟩
 |.any,⟨x,z⟩=>⟨x,t _ _ z⟩
 |.inn _,⟨x,r,z,q⟩=>⟨x,r,t _ _ z,q.mono t⟩
 |.out _,⟨x,r,z,q⟩=>⟨x,r,t _ _ z,q.mono t⟩
 |.beg,⟨x,z⟩=>⟨x,t _ _ z⟩
 |.fin,⟨x,z⟩=>⟨x,t _ _ z⟩
 |.row,⟨x,r,z,q⟩=>⟨x,r,t _ _ z,t _ _ q⟩
 |.alt,⟨x,y,r,z,q⟩=>⟨x,y,r,t _ _ z,t _ _ q⟩
 |.times _ _ _,⟨x,k,y,z⟩=>⟨x,k,y,t _ _ z⟩
 |.grp _,⟨x,k,y,z⟩=>⟨x,k,y,t _ _ z⟩
 |.again _,⟨x,y,z⟩=>⟨x,y,t _ _ z⟩
 |.hav _,⟨x,k,l,y,z⟩=>⟨x,k,l,y,t _ _ z⟩
 |.look _,⟨k,y,z⟩=>⟨k,y,t _ _ z⟩
theorem PatAt.mono{H H':Hp}(t:∀b xs,H b=some (.tup xs)->H' b=some (.tup xs)):∀ {d:Nat} {v:V} {p:Pat},PatAt H d v p->PatAt H' d v p
 |0,_,_,h=>h.elim
 |d+1,v,.node h ks,⟨a,kv,e,l,p⟩=>⟨a,kv,e,l.mono t,Paired.mapP p fun _ _ q=>PatAt.mono t q⟩
theorem PatAt.deep{H:Hp}:∀ {d d':Nat} {v:V} {p:Pat},PatAt H d v p->d<=d'->PatAt H d' v p
 |0,_,_,_,h,_=>h.elim
 |d+1,0,_,_,_,hd=>absurd hd (by omega)
 |d+1,d'+1,v,.node h ks,⟨a,kv,e,l,p⟩,hd=>⟨a,kv,e,l,Paired.mapP p fun _ _ q=>PatAt.deep q (by omega)⟩
theorem Lay.head{H:Hp}{a:Addr}{kv:List V}:∀ {h:Hd},Lay H a h kv->∃r,H a=some (.tup (.str h.word::r))
 |.sign _,⟨x,y,z⟩=>⟨_,z⟩
 |.any,⟨x,z⟩=>⟨_,z⟩
 |.inn _,⟨x,r,z,q⟩=>⟨_,z⟩
 |.out _,⟨x,r,z,q⟩=>⟨_,z⟩
 |.beg,⟨x,z⟩=>⟨_,z⟩
 |.fin,⟨x,z⟩=>⟨_,z⟩
 |.row,⟨x,r,z,q⟩=>⟨_,z⟩
 |.alt,⟨x,y,r,z,q⟩=>⟨_,z⟩
 |.times _ _ _,⟨x,k,y,z⟩=>⟨_,z⟩
 |.grp _,⟨x,k,y,z⟩=>⟨_,z⟩
 |.again _,⟨x,y,z⟩=>⟨_,z⟩
 |.hav _,⟨x,k,l,y,z⟩=>⟨_,z⟩
 |.look _,⟨k,y,z⟩=>⟨_,z⟩
mutual
def Pat.groups:Pat->Int
 |.node h ks=>(match h with | .grp _=>1 | _=>0)+Y3 ks
def Y3:List Pat->Int
 | []=>0
 |k::ks=>k.groups+Y3 ks
end
theorem Z2b(xs ys:List Pat):Y3 (xs++ys)=Y3 xs+Y3 ys:=by
 induction xs with
 |nil=>simp[Y3]
 |cons k ks ih=>rw[List.cons_append,Y3,Y3,ih];omega
mutual
def Pat.size:Pat->Nat
 |.node _ ks=>1+Ya ks
def Ya:List Pat->Nat
 | []=>0
 |k::ks=>k.size+Ya ks
end
theorem Xf(h:Hd)(ks:List Pat):(Pat.node h ks).size=1+Ya ks:=by rw[Pat.size]
theorem Uv(xs ys:List Pat):Ya (xs++ys)=Ya xs+Ya ys:=by
 induction xs with
 |nil=>simp[Ya]
 |cons k ks ih=>rw[List.cons_append,Ya,Ya,ih];omega
theorem Xq(p:Pat):Ya [p]=p.size:=by simp[Ya]
theorem Z6i{n:Nat}:∀ {ks:List Pat},(∀k∈ks,k.size<=n)->Ya ks<=ks.length*n
 | [],_=>by simp[Ya]
 |k::ks,h=>by
  have h1:=h k (by simp)
  have h2:=Z6i (ks:=ks) fun z hz=>h z (by simp[hz])
  rw[Ya,List.length_cons,Nat.add_mul]
  omega
theorem Jq{α β:Type}{F:α->β->Prop}:∀ {xs:List α} {ys:List β},Paired F xs ys->∀y∈ys,∃x∈xs,F x y
 |_,_,.nil,y,hy=>by simp at hy
 |_,_,.cons r t,y,hy=>by
  rcases List.mem_cons.mp hy with rfl | hy
  ·exact⟨_,by simp,r⟩
  ·obtain⟨x,hx,h⟩:=Jq t y hy
   exact⟨x,by simp[hx],h⟩
theorem Lay.few{H:Hp}{a:Addr}{kv:List V}:∀ {h:Hd},Lay H a h kv->kv.length<=10
 |.sign _,⟨x,y,z⟩=>by rw[x];decide
 |.any,⟨x,z⟩=>by rw[x];decide
 |.inn _,⟨x,r,z,q⟩=>by rw[x];decide
 |.out _,⟨x,r,z,q⟩=>by rw[x];decide
 |.beg,⟨x,z⟩=>by rw[x];decide
 |.fin,⟨x,z⟩=>by rw[x];decide
 |.row,⟨x,r,z,q⟩=>x
 |.alt,⟨x,y,r,z,q⟩=>y
 |.times _ _ _,⟨x,k,y,z⟩=>by rw[y];simp
 |.grp _,⟨x,k,y,z⟩=>by rw[y];simp
 |.again _,⟨x,y,z⟩=>by rw[y];decide
 |.hav _,⟨x,k,l,y,z⟩=>by rw[y];simp
 |.look _,⟨k,y,z⟩=>by rw[y];simp
def Zbj:Nat->Nat
 |0=>0
 |d+1=>1+10*Zbj d
theorem PatAt.size_le{H:Hp}:∀ {d:Nat} {v:V} {p:Pat},PatAt H d v p->p.size<=Zbj d
 |0,_,_,h=>h.elim
 |d+1,v,.node h ks,⟨a,kv,e,l,p⟩=>by
  have h1:=l.few
  have h2:=Paired.length p
  have h3:Ya ks<=ks.length*Zbj d:=Z6i fun k hk=>by
   obtain⟨x,_,q⟩:=Jq p k hk
   exact PatAt.size_le q
  have h4:ks.length*Zbj d<=10*Zbj d:=Nat.mul_le_mul_right _ (by omega)
  rw[Xf,Zbj]
  omega
def B(n:Nat):Nat:=3 ^ (n+1)
theorem Z1l(n:Nat):B (n+1)=3*B n:=by unfold B;rw[Nat.pow_succ];omega
theorem Zal(n:Nat):3<=B n:=by
 induction n with
 |zero=>decide
 |succ n ih=>rw[Z1l];omega
theorem Z5y{n:Nat}:∀ {m:Nat},n<=m->B n<=B m
 |0,h=>by rw[show n=0 by omega];exact Nat.le_refl _
 |m+1,h=>by
  by_cases e:n=m+1
  ·rw[e];exact Nat.le_refl _
  ·have:=Z5y (n:=n) (m:=m) (by omega)
   rw[Z1l];omega
def PatS(H:Hp)(d:Nat)(v:V)(p:Pat):Prop:=PatAt H d v p/\p.size<=B d
theorem PatS.mono{H H':Hp}(t:∀b xs,H b=some (.tup xs)->H' b=some (.tup xs)){d:Nat}{v:V}{p:Pat}(h:PatS H d v p):PatS H' d v p:=⟨h.1.mono t,h.2⟩
theorem PatS.deep{H:Hp}{d d':Nat}{v:V}{p:Pat}(h:PatS H d v p)(hd:d<=d'):PatS H d' v p:=⟨h.1.deep hd,Nat.le_trans h.2 (Z5y hd)⟩
theorem PatAt.leafS{H:Hp}{v:V}{p:Pat}(h:PatAt H 1 v p):PatS H 1 v p:=⟨h,Nat.le_trans h.size_le (by decide)⟩
theorem Z2v{h:Hd}{p:Pat}{d d':Nat}(s:p.size<=B d)(hd:d<d'):(Pat.node h [p]).size<=B d':=by
 have h1:=Z5y (show d+1<=d' from hd)
 have h2:=Zal d
 rw[Z1l]at h1
 rw[Xf,Xq]
 omega
theorem Zbu{h:Hd}{p q:Pat}{d d':Nat}(s:p.size<=B d)(s':q.size<=B d)(hd:d<d'):(Pat.node h [p,q]).size<=B d':=by
 have h1:=Z5y (show d+1<=d' from hd)
 have h2:=Zal d
 rw[Z1l]at h1
 rw[Xf,Ya,Xq]
 omega
theorem Z6z{h:Hd}{d:Nat}:(Pat.node h []).size<=B d:=by
 have h2:=Zal d
 rw[Xf,Ya]
 omega
theorem sz{n:Nat}(h:Nat.ble n 1000=true:=by rfl):n<=sizeLine:=Y5 (Nat.le_of_ble_eq_true h)
theorem Vw{x:V}{r:List V}:Z3o (x::r) 0=some x:=Ue (j:=0) rfl
theorem Zn8{x:V}{r:List V}:Zgl (x::r).length 0=some 0:=by
 unfold Zgl
 rw[if_pos (Int.le_refl 0),if_pos (by rw[List.length_cons];omega)]
 rfl
theorem Gro.fresh{S:List Addr}{H H':Hp}{a:Addr}(g:Gro S H H')(ha:H a=none)(o:HO):Gro S H (Zq H' a o) :=
 ⟨fun b u q hb=>by rw[Zi (Z7 q ha)];exact g.keep b u q hb,fun b xs q=>by rw[Zi (Z7 q ha)];exact g.tups b xs q⟩
theorem Gro.tup{S:List Addr}{H H':Hp}{p:Addr}{o:HO}(g:Gro S H H')(hp:H' p=none):Gro S H (Zq H' p o):=g.trans (Gro.new hp o)
def RunP(H:Hp)(v:V)(p:Str×Str):Prop:=p.1.length=1/\p.2.length=1/\∃a,v=.ref a/\H a=some (.tup [.str p.1,.str p.2])
theorem RunP.mono{H H':Hp}(t:∀b xs,H b=some (.tup xs)->H' b=some (.tup xs)){v:V}{p:Str×Str}(h:RunP H v p):RunP H' v p:=by
 obtain⟨h1,h2,a,e1,e2⟩:=h
 exact⟨h1,h2,a,e1,t _ _ e2⟩
theorem Tp{H H':Hp}(t:∀b xs,H b=some (.tup xs)->H' b=some (.tup xs)){vs:List V}{rs:List (Str×Str)}(h:Paired (RunP H) vs rs):Paired (RunP H') vs rs:=Paired.mapP h fun _ _ q=>q.mono t
section
variable{K:W.Frag}
theorem Zbn{H:Hp}{l:Addr}{r:Int}{Q:V->Hp->Prop}(h:LetAt H l)(h0:0<=r)(h1:r<3)(q:∀s:Str,s.length=1->Q (.str s) H):Zbl K (.ref l) (.int r) H Q:=by
 obtain⟨x,y,z,hl,hx,hy,hz⟩:=h
 obtain⟨s,hs,e⟩:=Zj0 h0 h1 hx hy hz
 exact⟨l,_,_,_,rfl,rfl,SqL.of hl,e,q s hs⟩
end
theorem Va{X:Cx}{sts:List Stmt}{t:TS}(t2:TS)(h:PSs X sts t)(imp:∀D σ H,t2 D σ H->t D σ H):PSs X sts t2:=fun Z6 s σ H D I q=>h Z6 s σ H D I (imp D σ H q)
theorem Zh2{R:Bool->Hp->Prop}{H:Hp}{c:Bool}(h1:R true H)(h2:R false H):R c H:=by
 cases c
 ·exact h2
 ·exact h1
theorem Zim{A B:TT}{σ:L2.St}{H:Hp}{Q:Bool->Hp->Prop}(hA:∀R:Bool->Hp->Prop,R true H->R false H->A σ H R)(hB:∀R:Bool->Hp->Prop,R true H->R false H->B σ H R)(hT:Q true H)(hF:Q false H):Zln A B σ H Q :=
 hA _ (by show if true=true then Q true H else B σ H Q;exact Te hT) (by show if false=true then Q true H else B σ H Q;exact Ju (hB Q hT hF))
theorem PatAt.head{H:Hp}:∀ {d:Nat} {v:V} {p:Pat},PatAt H d v p->∃a x r,v=.ref a/\H a=some (.tup (.str x::r))
 |0,_,_,h=>h.elim
 |d+1,v,.node h ks,⟨a,kv,e,l,_⟩=>by
  obtain⟨r,q⟩:=l.head
  exact⟨a,_,r,e,q⟩
theorem Vt{H H':Hp}{d:Nat}(t:∀b xs,H b=some (.tup xs)->H' b=some (.tup xs)){vs:List V}{ps:List Pat}(h:Paired (PatAt H d) vs ps):Paired (PatAt H' d) vs ps:=Paired.mapP h fun _ _ q=>q.mono t
section
variable{P:Program}{w:World}{K:W.Frag}{mg:Str->Option Value}{base:Heap}{f:Addr}{fd:FuncData}
structure Def(K:W.Frag)(mg:Str->Option Value)(x:Str)(st:Stmt)(ps:List Str):Prop where
 ex:∃f fd,Fun K x x st f fd/\mg x=some (.ref f)/\Binds K fd ps []
theorem Def.own{x:Str}{st:Stmt}{ps:List Str}{k:Nat}{sp:Sp}(D:Def K mg x st ps)(h:∀f fd,Fun K x x st f fd->FnOk P w K mg base W3 k f fd ps sp):Own P w K mg base k x ps sp:=by
 obtain⟨f,fd,F,m,b⟩:=D.ex
 exact⟨f,fd,h f fd F,m,F.kp,b⟩
theorem FnOk.never{ps:List Str}{k:Nat}{sp:Sp}(no:∀vs H Q E,¬sp vs H Q E):FnOk P w K mg base W3 k f fd ps sp :=
 ⟨fun vs H Q E h=>absurd h (no vs H Q E),fun A outer s H args us vs Q E _ _ _ _ h=>absurd h (no vs H Q E)⟩
end
theorem Gro.drop{b c:Addr}{H H2:Hp}{o:HO}(g:Gro [b,c] (Zq H c o) H2)(hc:H c=none):Gro [b] H H2 :=
 ⟨fun x u q hx=>g.keep x u (by rw[Zi (Z7 q hc)];exact q) (by
   have hxc:x≠c:=Z7 q hc
   have hxb:x≠b:=by simpa using hx
   simp[hxb,hxc]),fun x xs q=>g.tups x xs (by rw[Zi (Z7 q hc)];exact q)⟩
theorem Z15{α β:Type}{F:α->β->Prop}:∀ {xs:List α} {ys:List β} (n:Nat),Paired F xs ys->Paired F (xs.take n) (ys.take n)
 |_,_,0,_=>.nil
 |_,_,_+1,.nil=>.nil
 |_,_,n+1,.cons r t=>.cons r (Z15 n t)
theorem Ys{K:W.Frag}{σ:L2.St}{H:Hp}{Q:VK}{i:Nat}{p:Addr}{xs:List V}{j:Int}{v:V}(h:H p=some (.tup xs))(e:Z3o xs j=some v)(q:Q v H)(hs:σ[i]? = some (some (V.ref p)):=by rfl):Z3l (Uu K) (Xc i) (tC (.int j)) σ H Q:=⟨_,hs,p,xs,j,v,rfl,rfl,SqT.of h,e,q⟩
theorem Z7l{K:W.Frag}{σ:L2.St}{H:Hp}{Q:VK}{i:Nat}{p:Addr}{xs:List V}{j:Int}{v:V}(h:H p=some (.lst xs))(e:Z3o xs j=some v)(q:Q v H)(hs:σ[i]? = some (some (V.ref p)):=by rfl):Z3l (Zbl K) (Xc i) (tC (.int j)) σ H Q:=⟨_,hs,p,xs,j,v,rfl,rfl,SqL.of h,e,q⟩
theorem Z9{α:Type}{A R:α->Prop}{v:α}(e:A v)(h:R v):∃x,A x/\R x:=⟨v,e,h⟩
theorem Xy{α β:Type}{A:α->Prop}{B:β->Prop}{R:α->β->Prop}{a:α}{b:β}(e:A a)(e':B b)(h:R a b):∃x y,A x/\B y/\R x y:=⟨a,b,e,e',h⟩
theorem Zac{t:TS}{D':Ends}{σ:L2.St}{H:Hp}{Q:VK}(h:∀D:Ends,D.rt=Q->t D σ H)(e:D'.rt=Q:=by rfl):t D' σ H:=h D' e
theorem pS{X:Cx}(i:Nat){x:Str}{e:PySem.Expr}{te:TE}{pos pos':Pos}(hN:X.N.Nodup)(he:PE X e te)(hi:X.N[i]? = some x:=by rfl)(hx:Zjw X.env.scope x:=by first | exact .inl rfl | exact .inr rfl)(hs:swapsWith e (some (.Name x pos')) pos.line X.env=pure false:=by rfl)(hf:X.fn x=true∨X.env.scope.names.lookup x=some .local:=by first | exact .inl rfl | exact .inr rfl | assumption):PS X (.Assign [.Name x pos'] e pos) (Z8i te (Z0t i)):=Zig hN hi hx he hs hf
theorem pN{X:Cx}(i:Nat){x:Str}{pos:Pos}(hN:X.N.Nodup)(hi:X.N[i]? = some x:=by rfl)(hx:Zjw X.env.scope x:=by first | exact .inl rfl | exact .inr rfl)(hf:X.fn x=true∨X.env.scope.names.lookup x=some .local:=by first | exact .inl rfl | exact .inr rfl | assumption):PG X (.Name x pos) (Z0t i):=Z9d hN hi hx hf
theorem V7{N P:List Str}{sc:Scope}(a:sc.kind=.function:=by rfl)(b:sc.isCoroutine=false:=by rfl)(c:sc.isGenerator=false:=by rfl)(d:N.Nodup:=by decide +kernel)(e:N.take P.length=P:=by rfl)(f:∀x∈P,sc.names.lookup x=some .local∨sc.names.lookup x=some .cell:=by decide +kernel)(g:∀y∈sc.names,y.2≠.free:=by decide +kernel):FnScope N P sc:=⟨a,b,c,d,e,f,g⟩
theorem V6{Y:Cx}{b:List Stmt}{D:Ends}{σ:L2.St}{H:Hp}(h:let X:=Y;∃t,PSs X b t/\t D σ H):∃t,PSs Y b t/\t D σ H:=h
inductive Wd where
 |sign | any | inn | out | beg | fin | row | alt | times | grp | again | hav | once | ahead | notahead | behind | notbehind
def Wd.text:Wd->Str
 |.sign=>"sign" |.any=>"any" |.inn=>"in" |.out=>"out" |.beg=>"begin" |.fin=>"end" |.row=>"row" |.alt=>"or" |.times=>"times" |.grp=>"group" |.again=>"again" |.hav=>"have"
 |.once=>"once" |.ahead=>"ahead" |.notahead=>"notahead" |.behind=>"behind" |.notbehind=>"notbehind"
def Hd.wd:Hd->Wd
 |.sign _=>.sign | .any=>.any | .inn _=>.inn | .out _=>.out | .beg=>.beg | .fin=>.fin | .row=>.row | .alt=>.alt
 |.times _ _ _=>.times | .grp _=>.grp | .again _=>.again | .hav _=>.hav | .look .once=>.once | .look .ahead=>.ahead | .look .notahead=>.notahead | .look .behind=>.behind | .look .notbehind=>.notbehind
theorem Hd.word_wd(h:Hd):h.word=h.wd.text:=by
 cases h with
 |look lk=>cases lk <;> rfl
 |_=>rfl
def Xx(x y:Str):Bool:=decide (V.str x=V.str y)
theorem Zf{c A B:Prop}[Decidable c](h:¬c)(b:B):if c then A else B:=by rw[if_neg h];exact b
theorem Zp{c A B:Prop}[Decidable c](h:c)(a:A):if c then A else B:=by rw[if_pos h];exact a
theorem Y0{α β:Type}{F:α->β->Prop}:∀ {xs:List α} {ys:List β} {i:Nat} {x:α},Paired F xs ys->xs[i]? = some x->∃y,ys[i]? = some y/\F x y
 |_,_,_,_,.nil,e=>by simp at e
 |_,_,0,_,.cons r _,e=>by simp at e;subst e;exact⟨_,rfl,r⟩
 |_,_,i+1,x,.cons _ t,e=>by
  obtain⟨y,h1,h2⟩:=Y0 (i:=i) (x:=x) t (by simpa using e)
  exact⟨y,by simpa using h1,h2⟩
theorem Yf{α:Type}{l:List α}{i:Nat}{x:α}(h:l[i]? = some x):l.take (i+1)=l.take i++[x]:=by rw[List.take_add_one,h];rfl
def Zk2(ns:List Int):Int:=ns.getD (argBest (fun i j=>decide (ns.getD i 0>ns.getD j 0)) (ns.length-1)) 0
theorem Z6u{ps:List (Int×Tok)}{ns:List Int}(e:ps.map (·.1)=ns):numAt ps.toArray=fun i=>ns.getD i 0:=by
 funext i
 subst e
 simp[numAt,List.getD_eq_getElem?_getD,List.getElem?_map]
theorem Zg6{ps:List (Int×Tok)}{ns:List Int}(e:ps.map (·.1)=ns){k:Nat}{v:Value}(h:(intItems ps.toArray)[k]? = some v):∃t,v=.int (ns.getD k 0) t:=by
 obtain⟨t,q⟩:=intItems_at h
 rw[Z6u e]at q
 exact⟨t,q⟩
section
variable{X:Cx}
end
end Seek
namespace L2
open PySem PySem.Spec PyProof.Rows
section
variable{κ:Type}[DecidableEq κ]
def Z3p(kvs:List (κ×V))(k:κ):Option V:=(kvs.find? fun kv=>decide (kv.1=k)).map (·.2)
theorem Zbs{p:κ×V}{r:List (κ×V)}{k:κ}(e:p.1=k):Z3p (p::r) k=some p.2:=by simp[Z3p,List.find?_cons,e]
theorem Zbt{p:κ×V}{r:List (κ×V)}{k:κ}(e:¬p.1=k):Z3p (p::r) k=Z3p r k:=by simp[Z3p,List.find?_cons,e]
theorem RelO.getD{o:Option V}{u:Option Value}{d:V}{d':Value}(r:RelO o u)(rd:RelV d d'):RelV (o.getD d) (u.getD d'):=by
 cases o with
 |none=>cases u with
  |none=>exact rd
  |some _=>exact(show False from r).elim
 |some _=>cases u with
  |none=>exact(show False from r).elim
  |some _=>exact r
theorem KV.val{kvs:List (κ×V)}{vs:List (κ×Value)}(r:KV kvs vs)(k:κ):RelO (Z3p kvs k) (valueAt vs k):=by
 unfold KV at r
 induction r with
 |nil=>exact True.intro
 | @cons p q ps qs h t ih =>
  obtain⟨h1,h2⟩:=h
  by_cases e:p.1=k
  ·have e':q.1=k:=h1.symm.trans e
   have b:valueAt (q::qs) k=some q.2:=by simp[valueAt,List.find?_cons,e']
   rw[Zbs e,b];exact h2
  ·have e':¬q.1=k:=fun z=>e (h1.trans z)
   have b:valueAt (q::qs) k=valueAt qs k:=by simp[valueAt,List.find?_cons,e']
   rw[Zbt e,b];exact ih
theorem KV.length{kvs:List (κ×V)}{vs:List (κ×Value)}(r:KV kvs vs):kvs.length=vs.length:=Paired.length r
end
theorem Zku{P:Program}{w:World}{k:Ti}{u:Value}(r:RelV (kV k) u):(Vo P w).is k u=true:=by
 cases k with
 |inl i=>obtain⟨t,e⟩:=(show ∃t,u=Value.int i t from r);subst e;exact Z6c P w i t
 |inr x=>obtain⟨t,e⟩:=(show ∃t,u=Value.str x t from r);subst e;exact Z6b P w x t
section
variable{P:Program}{w:World}{H:Hp}{h:Heap}{a:Addr}{X:Cx}{Z6:List (Addr×Obj)}{σ:St}{s:Shared}{y v:V}{u r:Value}{o:Option V}{A:Around}{E:Value->Shared->Prop}{kvs:List (Ti×V)}{k:Ti}
end
def Zld(i:Expr):Prop:=∀ov iv,subscripted i false ov iv=operate [ov,iv] (getItem ov iv)
theorem Zf1{prog:Program}{w:World}{A:Around}{E:Value->Shared->Prop}{s:Shared}{env:Env}{value slice:Expr}{pos:Pos}{T id:String}{Q:Value->Shared->Prop}
  (hl:typeLookup (.type T) "__getitem__" = pure (some (.builtin id))) (hs:Zld slice)
  (h:wpAny (model prog w) A (eval value env) (fun o s₁=>wpAny (model prog w) A (eval slice env) (fun i s₂=>s₂.TypeIs o T/\wpAny (model prog w) A (getItem o i) Q E s₂) E s₁) E s) :
  wpAny (model prog w) A (eval (.Subscript value slice pos) env) Q E s:=by
 refine Subscript_ (wpAny_mono h (fun o s₁ h₁=>wpAny_mono h₁ (fun i s₂ h₂=>?_) fun _ _ x=>x) fun _ _ x=>x)
 obtain⟨hT,h₂⟩:=h₂
 unfold subscriptTail
 refine wpAny_bind ?_
 rw[getitemInPython_of_ne hT.not_modules]
 refine wpAny_bind (wpAny_specialOf hT hl ?_)
 have fin:wpAny (model prog w) A (subscripted slice false o i) (fun r s₃=>wpAny (model prog w) A (letTemporaryGo value o r >>= fun _=>pure r) Q E s₃) E s₂:=by
  rw[hs o i]
  exact wpAny_operating (wpAny_mono h₂ (fun r s₃ h₃=>wpAny_bind (wpAny_letTemporaryGo (wpAny_pure h₃))) fun _ _ x=>x)
 first
  |exact wpAny_pure (wpAny_bind fin)
  |exact wpAny_bind (wpAny_pure (wpAny_bind fin))
  |exact wpAny_bind fin
section
variable{X:Cx}{o i e value:Expr}{pos pos' tpos:Pos}{td ty tv:TE}
end
def Zet(w:World)(e:DictEntry)(kv:Ti×V):Prop:=Z3f kv.1 e.key=true/\e.hash=Zl9 w kv.1/\RelV kv.2 e.val
def Zen(K:W.Frag)(w:World)(a:Addr)(kvs:List (Ti×V)):Prop:=(a==sysModules)=false/\∃(o:Obj) (es:Array DictEntry) (ep:Nat),K.lookup a=some o/\o.ExactDict/\o.data=.dict es ep/\Paired (Zet w) es.toList kvs/\(kvs.map (·.1)).Nodup
theorem Z2m{P:Program}{w:World}:∀ {es:List DictEntry} {kvs:List (Ti×V)},Paired (Zet w) es kvs->∃vs:List (Ti×Value),KV kvs vs/\PySem.Pairs (Vo P w) es vs/\vs.map (·.1)=kvs.map (·.1)/\∀e∈es,∃k,(Vo P w).is k e.key=true/\e.hash=(Vo P w).hash k
 |_,_,.nil=>⟨[],.nil,.nil,rfl,fun e he=>by simp at he⟩
 |e::es,kv::kvs,.cons ⟨h1,h2,h3⟩ t=>by
  obtain⟨vs,r,p,m,k⟩:=Z2m (P:=P) t
  refine⟨(kv.1,e.val)::vs,.cons ⟨rfl,h3⟩ r,.cons h1 rfl p,by simp[m],fun e' he'=>?_⟩
  rcases List.mem_cons.mp he' with rfl | he'
  ·exact⟨kv.1,h1,h2⟩
  ·exact k e' he'
section
variable{X:Cx}{Z6:List (Addr×Obj)}{σ:St}{H:Hp}{s:Shared}{a:Addr}{kvs:List (Ti×V)}
theorem Inv.dcK(I:Inv X Z6 σ H s)(h:Zen X.K X.w a kvs):∃vs:List (Ti×Value),KV kvs vs/\s.heap.DictOf (Vo X.prog X.w) a vs:=by
 obtain⟨_,o,es,ep,l,x,d,p,nd⟩:=h
 obtain⟨vs,r,pr,m,k⟩:=Z2m (P:=X.prog) p
 exact⟨vs,r,o,es,ep,I.kIn a o l,x,d,fun e he=>k e (by simpa using he),pr,by rw[m];exact nd⟩
end
def Zn7(K:W.Frag)(w:World):R2:=fun x y H Q=>∃a kvs k v,x=.ref a/\Zen K w a kvs/\y=kV k/\Z3p kvs k=some v/\Q v H
def Zkf(K:W.Frag)(w:World)(td ty:TE):TE:=Z3l (Zn7 K w) td ty
section
variable{X:Cx}{o i:Expr}{pos:Pos}{td ty:TE}
theorem Z56(ho:PE X o td)(hi:PE X i ty)(hs:Zld i):PE X (.Subscript o i pos) (Zkf X.K X.w td ty):=by
 intro Z6 s σ H Q I h
 refine Zf1 PySem.F.slot_dict_getitem.lookup hs (W9 (ho Z6 s σ H _ I h) fun u s1 ⟨x,H1,I1,rx,q1⟩=>W9 (hi Z6 s1 σ H1 _ I1 q1) fun iv s2 ⟨y,H2,I2,ry,a,kvs,k,v,ex,dc,ey,hv,q2⟩=>?_)
 subst ex ey
 obtain rfl:u=Value.ref a:=rx
 obtain⟨vs,rel,dd⟩:=I2.dcK dc
 obtain⟨w',hw,rw'⟩:=RelO.some_of (v:=v) (o:=valueAt vs k) (by rw[← hv];exact rel.val k)
 exact⟨dd.typeIs,wpAny_getItem_of (Zku ry) dd.mapOf hw ⟨v,H2,I2.tok _,rw',q2⟩⟩
end
theorem Ze6{K:W.Frag}{w:World}{a:Addr}{es:Array DictEntry}{ep:Nat}{kvs:List (Ti×V)}(l:K.lookup a=some ⟨.type "dict",none,.dict es ep,#[]⟩)(hd:(a==sysModules)=false)(p:Paired (Zet w) es.toList kvs)(nd:(kvs.map (·.1)).Nodup):Zen K w a kvs :=
 ⟨hd,_,es,ep,l,⟨rfl,rfl,rfl⟩,rfl,p,nd⟩
theorem J1{w:World}{h:Int}{x y:Str}{t u:Tok}(e:h=PyData.keyHash w.params x):Zet w ⟨h,.str x t,.str y u⟩ (.inr x,.str y):=⟨Z10 x t,e,⟨u,rfl⟩⟩
section
variable{X:Cx}{Z6:List (Addr×Obj)}{σ:St}{H:Hp}{s:Shared}
end
theorem Z2c:∀ {xs:List Str} {us:List Value},Vals (xs.map V.str) us->StrsAre us xs
 | [],_,r=>by cases r;exact .nil
 |x::xs,_,r=>by
  rw[List.map_cons]at r
  cases r with
  |cons q t =>
   obtain⟨k,rfl⟩:=q
   exact .cons x k (Z2c t)
def Zkj(K:W.Frag):V->List V->Hp->VK->Prop:=fun x vs H Q=>∃(sep:Str) (l:Addr) (xs:List Str),x=.str sep/\vs=[.ref l]/\SqL K H l (xs.map V.str)/\(xs.map (·.length)).sum+xs.length*sep.length<=16777216/\Q (.str (Txt.join sep xs)) H
section
variable{X:Cx}
theorem Z5b:Zmz X "str.join" (Zkj X.K):=by
 intro Z6 s σ H x vs v us Q I rx rv h
 obtain⟨sep,l,xs,rfl,rfl,hl,hz,q⟩:=h
 obtain⟨t,rfl⟩:=rx
 obtain⟨u,rfl,ru⟩:=Vals.one rv
 obtain rfl:u=Value.ref l:=ru
 obtain⟨its,r,pl,_⟩:=I.list hl
 exact join_list pl.isList (by simpa using Z2c r) hz fun t' k=>⟨.str (Txt.join sep xs),H,I.tok _,⟨_,rfl⟩,q⟩
end
theorem X8(a b:Str):(a++b).length=a.length+b.length:=by
 show(a.cps++b.cps).size=_
 rw[Array.size_append]
 rfl
theorem Vv(a b c:Str):(a++b)++c=a++(b++c):=by
 show(⟨(a.cps++b.cps)++c.cps⟩:Str)=⟨a.cps++(b.cps++c.cps)⟩
 rw[Array.append_assoc]
open Builtin
theorem Z2a:fillsNumberSlot (.type "tuple") "mul" = pure false :=
 PySem.fillsNumberSlot_seq (id:="tuple.__mul__") (r:=some (.builtin "tuple.__rmul__")) F.slot_tuple_mul.lookup (by decide +kernel) F.slot_tuple_rmul.lookup (by decide +kernel)
theorem Zf8:seqRepeat? (.type "tuple")=pure (some (.builtin "tuple.__mul__")):=by
 unfold seqRepeat?
 rw[PySem.seqSlot_of (T:="tuple") (name:="__mul__") (id:="tuple.__mul__") F.slot_tuple_mul.lookup (by decide +kernel),PySem.seqSlot_of (T:="tuple") (name:="__rmul__") (id:="tuple.__rmul__") F.slot_tuple_rmul.lookup (by decide +kernel)]
 rfl
theorem Zc0(a:Int)(t:Tok)(l:Addr)(od:Option Addr)(items:Array Value)(n:Nat)(sl:Array (Option Value)) :
  Meets (Builtin.«int.__rmul__» ⟨[.int a t,.ref l],[]⟩) (fun _ R s=>s.heap.get? l=some ⟨.type "tuple",od,.seq items n,sl⟩/\R (.ok (.ret Value.notImplemented)) s) :=
 .of_wp fun prog w A R s h=>by obtain⟨hp,g,d,tk,os⟩:=s;obtain⟨hl,h⟩:=h;wp_walk;exact⟨_,rfl,h⟩
theorem Zcn(k:Int)(t:Tok)(l:Addr)(od:Option Addr)(items:Array Value)(n:Nat)(sl:Array (Option Value))(h1:¬(decide (k < -(2 ^ 63))||decide (k≥2 ^ 63))=true)(h2:¬(items.isEmpty||k==1)=true)(h3:(decide (k<=0)||items.isEmpty)=true) :
  Meets (Builtin.«tuple.__mul__» ⟨[.ref l,.int k t],[]⟩) (fun _ R s=>s.heap.get? l=some ⟨.type "tuple",od,.seq items n,sl⟩/\R (.ok (.ret (Value.ref s.heap.objs.size))) { s with heap:=s.heap.push { cls:=Value.type "tuple",data:=.seq #[] } }) :=
 .of_wp fun prog w A R s h=>by
  obtain⟨hp,g,d,tk,os⟩:=s;obtain⟨hl,h⟩:=h;have f1:=AutoSeq1.idx_int;wp_walk
  rw[if_neg h1]
  wp_walk
  exact⟨_,rfl,h⟩
theorem Zcm(k:Int)(t:Tok)(l:Addr)(od:Option Addr)(items:Array Value)(n:Nat)(sl:Array (Option Value))(h1:¬(decide (k < -(2 ^ 63))||decide (k≥2 ^ 63))=true)(h2:(items.isEmpty||k==1)=true) :
  Meets (Builtin.«tuple.__mul__» ⟨[.ref l,.int k t],[]⟩) (fun _ R s=>s.heap.get? l=some ⟨.type "tuple",od,.seq items n,sl⟩/\R (.ok (.ret (Value.ref l))) s) :=
 .of_wp fun prog w A R s h=>by
  obtain⟨hp,g,d,tk,os⟩:=s;obtain⟨hl,h⟩:=h;have f1:=AutoSeq1.idx_int;wp_walk
  rw[if_neg h1]
  wp_walk
  exact⟨_,rfl,h⟩
theorem Zcl(k:Int)(t:Tok)(l:Addr)(od:Option Addr)(items:Array Value)(n:Nat)(sl:Array (Option Value))(h1:¬(decide (k < -(2 ^ 63))||decide (k≥2 ^ 63))=true)(h2:¬(items.isEmpty||k==1)=true)(h3:¬(decide (k<=0)||items.isEmpty)=true)
  (h4:¬(items.size:Int)*k>(2 ^ 63-1) / 8) (h5:¬Tuple.tupleTooMany (items.size*k)=true) (h6:(List.foldl (fun x1 x2=>x1++x2) #[] (List.replicate k.toNat items)).size<=sizeLine) :
  Meets (Builtin.«tuple.__mul__» ⟨[.ref l,.int k t],[]⟩) (fun _ R s=>s.heap.get? l=some ⟨.type "tuple",od,.seq items n,sl⟩/\R (.ok (.ret (Value.ref s.heap.objs.size))) { s with heap:=s.heap.push { cls:=Value.type "tuple",data:=.seq (List.foldl (fun x1 x2=>x1++x2) #[] (List.replicate k.toNat items)) } }) :=
 .of_wp fun prog w A R s h=>by
  obtain⟨hp,g,d,tk,os⟩:=s;obtain⟨hl,h⟩:=h;have f1:=AutoSeq1.idx_int;wp_walk
  rw[if_neg h1]
  wp_walk
  rw[if_neg h4]
  wp_walk
  exact⟨_,rfl,h⟩
def Zki:R2:=fun x y H Q=>∃a k xs,x=.ref a/\y=.int k/\H a=some (.tup xs)/\0<=k/\xs.length*k.toNat<=1000/\k<=1000 /\
 (k=1->Q (.ref a) H)/\((xs=[]->k=1)->k≠1->∀p,H p=none->Q (.ref p) (Zq H p (.tup (List.replicate k.toNat xs).flatten)))/\(xs≠[])
section
variable{X:Cx}{prog:Program}{w:World}{A:Around}{R:Result->Shared->Prop}{it:Addr}{fp wr:List Addr}{m:Nat}{P:Nat->Value->Prop}{St:Nat->Heap->Prop}
theorem Zfi:Z3s X (binaryOp .Mult) Zki:=by
 intro Z6 s σ H x y v u Q I rx ry h
 obtain⟨a,k,xs,rfl,rfl,hH,h0,hz,hk,q1,q2,hne⟩:=h
 cases rx
 obtain⟨t,rfl⟩:=ry
 obtain⟨its,r,⟨o,ho,hc,n,hd⟩,_⟩:=I.tuple (SqT.of hH)
 obtain⟨oc,od,odt,osl⟩:=o
 cases hc
 cases hd
 have hl:=r.length
 have hlen:0<its.length:=by
  rw[← hl]
  exact List.length_pos_iff.mpr hne
 have hem:its.toArray.isEmpty=false:=by
  cases its with
  |nil=>simp at hlen
  |cons _ _=>rfl
 have c1:¬(decide (k < -(2 ^ 63))||decide (k≥2 ^ 63))=true:=by simp;omega
 refine wpAny_binaryOp_repeat_ref (T:="tuple") (U:="int") (by decide) ⟨_,ho,rfl⟩ (fun s'=>typeIs_int s' k t) Z2a F.fills_int_mul F.slot_int_rmul Zf8 F.slot_int_index.lookup
  (call_meets F.slot_int_rmul (typeIs_int s k t) F.entry_int_rmul (F.args_int_rmul_2 _ _) (Zc0 k t a od its.toArray n osl) ⟨ho,rfl,⟨_,ho,rfl⟩,?_⟩)
 by_cases e1:k=1
 ·exact call_meets F.slot_tuple_mul ⟨_,ho,rfl⟩ F.entry_tuple_mul (F.args_tuple_mul_2 _ _) (Zcm k t a od its.toArray n osl c1 (by simp[e1])) ⟨ho,.ref a,H,I,rfl,q1 e1⟩
 have c2:¬(its.toArray.isEmpty||k==1)=true:=by rw[hem];simpa using e1
 have q2':=q2 (fun z=>absurd z hne) e1
 by_cases e0:k=0
 ·refine call_meets F.slot_tuple_mul ⟨_,ho,rfl⟩ F.entry_tuple_mul (F.args_tuple_mul_2 _ _) (Zcn k t a od its.toArray n osl c1 c2 (by simp[e0])) ⟨ho,?_⟩
  have hn:=I.hok.fresh (Nat.le_refl s.heap.objs.size)
  have:=q2' _ hn
  rw[e0]at this
  refine⟨.ref s.heap.objs.size,_,I.laid (a:=s.heap.objs.size) (o:=.tup []) (t':=s.toks) (fun _ _ q=>Heap.get?_push_of_some _ q) (Nat.le_refl _) ⟨Nat.zero_le _,[],.nil,⟨_,Heap.get?_push_size _ rfl,rfl,0,rfl⟩⟩,rfl,?_⟩
  exact this
 ·have hrep:List.foldl (fun x1 x2=>x1++x2) #[] (List.replicate k.toNat its.toArray)=(List.replicate k.toNat its).flatten.toArray:=by
   have:=Z4c its k.toNat []
   rw[List.nil_append]at this
   exact this
  have hzi:its.length*k.toNat<=1000:=by rw[← hl];exact hz
  have hzk:(its.length:Int)*k<=1000:=by
   have:((its.length*k.toNat:Nat):Int)<=1000:=by omega
   rw[Int.natCast_mul,Int.toNat_of_nonneg h0]at this
   exact this
  have hsl:(sizeLine:Int)=16777216:=by rw[sizeLine_eq];rfl
  refine call_meets F.slot_tuple_mul ⟨_,ho,rfl⟩ F.entry_tuple_mul (F.args_tuple_mul_2 _ _) (Zcl k t a od its.toArray n osl c1 c2 (by rw[hem];simp;omega) (by rw[List.size_toArray];omega) (by rw[List.size_toArray];unfold Tuple.tupleTooMany;simp;omega) (by rw[hrep,List.size_toArray,Z9r,sizeLine_eq,Nat.mul_comm];omega)) ⟨ho,?_⟩
  have hn:=I.hok.fresh (Nat.le_refl s.heap.objs.size)
  rw[hrep]
  refine⟨.ref s.heap.objs.size,_,I.laid (a:=s.heap.objs.size) (o:=.tup (List.replicate k.toNat xs).flatten) (t':=s.toks) (fun _ _ q=>Heap.get?_push_of_some _ q) (Nat.le_refl _) ⟨by rw[Z9r,sizeLine_eq,Nat.mul_comm];omega,_,r.rep k.toNat,⟨_,Heap.get?_push_size _ rfl,rfl,0,rfl⟩⟩,rfl,q2' _ hn⟩
theorem Z47:Z3s X (compareOp .LtE) (fun x y H Q=>∃i j,x=.str i/\y=.str j/\Q (.bl (!decide (j.cps.toList<i.cps.toList))) H):=by
 intro Z6 s σ H x y v u Q I rx ry h
 obtain⟨i,j,rfl,rfl,q⟩:=h
 obtain⟨t,rfl⟩:=rx
 obtain⟨t',rfl⟩:=ry
 exact PySem.P.le_str (Yc I q rfl)
def Zm2(P:Program)(w:World)(K:W.Frag)(mg:Str->Option Value)(base:Heap)(k:Nat)(tf:TE)(t:TA):TE:=fun σ H Q=>tf σ H fun x H1=>∃f fd ps sp,x=.ref f/\FnOk P w K mg base W3 k f fd ps sp/\W.keepIn K (.ref f)=true/\Binds K fd ps []/\t σ H1 fun vs H2=>sp vs H2 Q E0
theorem Zik{k:Nat}{o i e:Expr}{es:List Expr}{p pos:Pos}{tf:TE}{t:TA}(hr:Room k X.A)(hf:PE X (.Subscript o i p) tf)(ha:PA X (e::es) t)(he:starEach (e::es) X.env=(false,eval e X.env)::starEach es X.env:=by rfl)(hpl:(backTo pos (starEach es X.env)).any (·.1)=false:=by rfl) :
  PE X (.Call (.Subscript o i p) (e::es) [] pos) (Zm2 X.prog X.w X.K X.mg X.base k tf t):=by
 intro Z6 s σ H Q I h
 show wpAny _ _ (eval (.Subscript o i p) X.env >>= fun f=>callWith pos f [] (backTo pos (starEach (e::es) X.env)) (backToKw pos (keywordEach [] X.env))) _ _ _
 refine wpAny_bind (W9 (hf Z6 s σ H _ I h) fun u s1 ⟨x,H1,I1,r1,f,fd,ps,sp,ex,F,hk,hb,q1⟩=>?_)
 subst ex
 obtain rfl:u=Value.ref f:=r1
 refine W.callWith_K (h₀:=X.base) I1.ok.mod.kin hk (W9 (ha pos Z6 s1 σ H1 _ I1 q1) fun us s2 ⟨vs,H2,I2,r2,q2⟩=>⟨I2.kIn,?_⟩) he hpl
 exact Z5q F hr hb .nil Z7i I2 r2 (by rw[List.append_nil];exact q2)
theorem Zg2{kw:List (Str×Value)}(Wk:Walks prog w A.in1 it fp wr m P St)(bt:Nat->Nat->Bool)(cmp:CmpOf prog w A.in1 .Gt P bt)(B:Addr)(nB:B∉fp) :
  ∀(k j:Nat) (z:Shared) (u:Value) (c:Nat),m-(j+1)=k->j+1<=m->St (j+1) z.heap->P (argBest bt j) u->z.heap.get? B=some ⟨.type "list",none,.seq #[u,u] c,#[]⟩ ->
  (∀v h' tk,P (argBest bt (m-1)) v->(∀b o,b∉wr->b≠B->z.heap.get? b=some o->h'.get? b=some o)->R (.ok (.ret v)) { z with heap:=h',toks:=tk }) ->
  codeAny (model prog w) A (.builtin "max.loop" ⟨[.ref it,.none,.ref B],kw⟩) R z:=by
 have nW:B∉wr:=fun h=>nB (Wk.sub _ h)
 have nm:(toString "max" ++ toString ".loop":String)="max.loop":=by decide
 intro k
 induction k with
 |zero =>
  intro j z u c ek lej sj pj gB fin
  have ej:j+1=m:=by omega
  refine codeAny_builtin PySem.F.entry_max_loop ?_
  rw[Around.under_plainId PySem.F.plain_max_loop _]
  show wpAny _ A.in1 (seqItems? (.ref B) >>= _) _ _ z
  refine wpAny_bind (wpAny_seqItems gB rfl ?_)
  show wpAny _ A.in1 (tryCatch (pyNext (.ref it)) _ >>= _) _ _ z
  refine wpAny_bind (wpAny_tryCatch (Wk.done z _ _ (ej ▸ sj) fun g tk kp=>?_))
  have gB':=kp B _ nW gB
  show wpAny _ A.in1 (updateSeq B (fun _=>#[]) >>= _) _ _ _
  refine wpAny_bind ?_
  refine wpAny_updateSeq gB' rfl (wpAny_bind (wpAny_letGo (wpAny_pure ?_)))
  exact fin u _ tk (by rw[← ej];exact pj) fun b o b1 b2 e=>(Heap.get?_update_other _ _ (Ne.symm b2)).trans (kp b o b1 e)
 |succ k ih =>
  intro j z u c ek lej sj pj gB fin
  have lt:j+1<m:=by omega
  refine codeAny_builtin PySem.F.entry_max_loop ?_
  rw[Around.under_plainId PySem.F.plain_max_loop _]
  show wpAny _ A.in1 (seqItems? (.ref B) >>= _) _ _ z
  refine wpAny_bind (wpAny_seqItems gB rfl ?_)
  show wpAny _ A.in1 (tryCatch (pyNext (.ref it)) _ >>= _) _ _ z
  refine wpAny_bind (wpAny_tryCatch (Wk.item (j+1) z _ _ lt sj fun v g tk pv sv kp=>?_))
  have gB':=kp B _ nW gB
  show wpAny _ A.in1 (tryCatch (holding [v,v] (richCompare .Gt v u >>= _)) _ >>= _) _ _ _
  refine wpAny_bind (wpAny_tryCatch (wpAny_holding (wpAny_bind (cmp (j+1) (argBest bt j) v u _ _ _ pv pj ?_))))
  refine wpAny_bind (wpAny_holding (wpAny_truthy_bool ?_))
  refine wpAny_bind (wpAny_letGo (wpAny_pure ?_))
  cases eb:bt (j+1) (argBest bt j) with
  |true =>
   simp only[if_true]
   refine wpAny_bind ?_
   refine wpAny_updateSeq gB' rfl (wpAny_bind (wpAny_letGo ?_))
   rw[nm]
   refine wpAny_pure ⟨plainId_quiet PySem.F.plain_max_loop _,ih (j+1) _ v _ (by omega) lt (Wk.frame _ _ _ sv fun b bf o e=>?_) (by simp only[argBest,eb,if_true];exact pv) (Heap.get?_update_self _ gB' rfl) fun v' g' tk' p' k'=>?_⟩
   ·exact(Heap.get?_update_other _ _ (fun q:B=b=>nB (by rw[q];exact bf))).trans e
   ·exact fin v' g' tk' p' fun b o b1 b2 e=>k' b o b1 b2 ((Heap.get?_update_other _ _ (Ne.symm b2)).trans (kp b o b1 e))
  |false =>
   simp only[Bool.false_eq_true,if_false]
   refine wpAny_bind (wpAny_letGo ?_)
   rw[nm]
   refine wpAny_pure ⟨plainId_quiet PySem.F.plain_max_loop _,ih (j+1) _ u c (by omega) lt sv (by simp only[argBest,eb,Bool.false_eq_true,if_false];exact pj) gB' fun v' g' tk' p' k'=>?_⟩
   exact fin v' g' tk' p' fun b o b1 b2 e=>k' b o b1 b2 (kp b o b1 e)
theorem Zck{kw:List (Str×Value)}{d:Value}(hkw:kw=[(("default":Str),d)])(Wk:Walks prog w A.in1 it fp wr m P St)(bt:Nat->Nat->Bool)(cmp:CmpOf prog w A.in1 .Gt P bt)(B:Addr)(nB:B∉fp){z:Shared}{c:Nat}(s0:St 0 z.heap)(gB:z.heap.get? B=some ⟨.type "list",none,.seq #[] c,#[]⟩)
  (fin:∀v h' tk,((m=0/\v=d)∨(0<m/\P (argBest bt (m-1)) v))->(∀b o,b∉wr->b≠B->z.heap.get? b=some o->h'.get? b=some o)->R (.ok (.ret v)) { z with heap:=h',toks:=tk }) :
  codeAny (model prog w) A (.builtin "max.loop" ⟨[.ref it,.none,.ref B],kw⟩) R z:=by
 subst hkw
 have nW:B∉wr:=fun h=>nB (Wk.sub _ h)
 have nm:(toString "max" ++ toString ".loop":String)="max.loop":=by decide
 refine codeAny_builtin PySem.F.entry_max_loop ?_
 rw[Around.under_plainId PySem.F.plain_max_loop _]
 show wpAny _ A.in1 (seqItems? (.ref B) >>= _) _ _ z
 refine wpAny_bind (wpAny_seqItems gB rfl ?_)
 show wpAny _ A.in1 (tryCatch (pyNext (.ref it)) _ >>= _) _ _ z
 by_cases e0:m=0
 ·refine wpAny_bind (wpAny_tryCatch (Wk.done z _ _ (e0 ▸ s0) fun g tk kp=>?_))
  show wpAny _ A.in1 (rule _ >>= _) _ _ _
  refine wpAny_bind (wpAny_rule (wpAny_pure ?_))
  exact fin d g tk (.inl ⟨e0,rfl⟩) fun b o b1 _ e=>kp b o b1 e
 ·refine wpAny_bind (wpAny_tryCatch (Wk.item 0 z _ _ (by omega) s0 fun v g tk pv sv kp=>?_))
  have gB':=kp B _ nW gB
  show wpAny _ A.in1 (updateSeq B (fun _=>#[v,v]) >>= _) _ _ _
  refine wpAny_bind ?_
  refine wpAny_updateSeq gB' rfl ?_
  rw[nm]
  refine wpAny_pure ⟨plainId_quiet PySem.F.plain_max_loop _,Zg2 Wk bt cmp B nB _ 0 _ v _ rfl (by omega) (Wk.frame _ _ _ sv fun b bf o e=>?_) pv (Heap.get?_update_self _ gB' rfl) fun v' g' tk' p' k'=>?_⟩
  ·exact(Heap.get?_update_other _ _ (fun q:B=b=>nB (by rw[q];exact bf))).trans e
  ·exact fin v' g' tk' (.inr ⟨by omega,p'⟩) fun b o b1 b2 e=>k' b o b1 b2 ((Heap.get?_update_other _ _ (Ne.symm b2)).trans (kp b o b1 e))
theorem Zgf(a d:Value):argsOk "max" ⟨[a],[(("default":Str),d)]⟩:=by unfold argsOk;kernel_rfl
theorem Z4t{E:Value->Shared->Prop}{s:Shared}{id:String}{b:Builtin}{as:List Value}{kw:List (Str×Value)}{Q:Value->Shared->Prop}(hk:builtinKind id=none)(hp:plainId id=true)(hb:entryFor table id=some b)(ha:argsOk id ⟨as,kw⟩)
  (hc:wpAny (model prog w) A.in1 (b ⟨as,kw⟩) (fun fin s'=>match fin with
   |.done f=>(match(Except.ok f:Result) with | .ok (.ret v)=>Q v s' | .ok _=>False | .error e=>E e s')
   |.again c=>c.quiet=true/\codeAny (model prog w) A c (fun r s'=>match r with | .ok (.ret v)=>Q v s' | .ok _=>False | .error e=>E e s') s') E s):wpAny (model prog w) A (call (.builtin id) as kw) Q E s:=by
 refine wpAny_call (codeAny_call_builtin hp hb ?_)
 simp only[checkBuiltinCall,hk]
 cases sg:Manifest.signature? id with
 |none=>exact wpAny_pure hc
 |some sig =>
  simp only[argsOk,sg]at ha
  have h2:Bind.checkArgs id sig ⟨as,kw⟩=pure ():=ha
  show wpAny _ A.in1 (Bind.checkArgs id sig ⟨as,kw⟩) _ _ s
  rw[h2]
  exact wpAny_pure hc
theorem Z6d{E:Value->Shared->Prop}{s:Shared}{l:Addr}{xs:Array (Int×Tok)}{d:Value}{Q:Value->Shared->Prop}(hh:A.handled=none)(hl:s.heap.IsList l (intItems xs))
  (h:∀v h' tk,((xs.size=0/\v=d)∨(0<xs.size/\(intItems xs)[argBest (fun i j=>decide (numAt xs i>numAt xs j)) (xs.size-1)]? = some v))->(∀b o,s.heap.get? b=some o->h'.get? b=some o)->Q v { s with heap:=h',toks:=tk }) :
  wpAny (model prog w) A (call (.builtin "max") [.ref l] [(("default":Str),d)]) Q E s:=by
 have nm:(toString "max" ++ toString ".loop":String)="max.loop":=by decide
 refine Z4t PySem.F.kind_max PySem.F.plain_max PySem.F.entry_max (Zgf _ _) ?_
 show wpAny _ A.in1 (Builtin.Builtins.bindParams "max" ["key","default"] 0 ⟨[],[(("default":Str),d)]⟩ >>= _) _ _ s
 refine wpAny_bind (wpAny_of_eq (show Builtin.Builtins.bindParams "max" ["key","default"] 0 ⟨[],[(("default":Str),d)]⟩=pure [none,some d] from rfl) ?_)
 refine wpAny_bind (wpAny_pure ?_)
 refine wpAny_bind (iter_intList hl fun s₂ e st hfp hlI=>?_)
 subst e
 refine wpAny_bind (wpAny_newObj_type ?_)
 rw[nm]
 have Wk:=Walks.list (prog:=prog) (w:=w) (A:=A.in1) hh _ l hlI (intItems xs)
 refine wpAny_pure ⟨plainId_quiet PySem.F.plain_max_loop _,Zck (d:=d) (kw:=[(("default":Str),d)]) rfl Wk (fun i j=>decide (numAt xs i>numAt xs j)) (CmpOf.ints_gt (numAt xs) (fun _ _=>intItems_at)) _ (fun hm=>Nat.lt_irrefl _ (hfp _ hm)) (Wk.frame _ _ _ st fun b _ o e=>Heap.get?_push_of_some _ e) (Heap.get?_push_size _ rfl) ?_⟩
 intro v h' tk hv hk
 refine h v h' tk (by simpa[intItems] using hv) fun b o e=>?_
 have lt:=Heap.lt_size e
 refine hk b o (by simpa using Nat.ne_of_lt lt) ?_ (Heap.get?_push_of_some _ (Heap.get?_push_of_some _ e))
 show b≠(s.heap.push _).objs.size
 rw[Heap.size_push]
 exact Nat.ne_of_lt (Nat.lt_succ_of_lt lt)
end
end L2
namespace Seek
open PySem PySem.Spec PyProof.Rows L2
section
variable{X:Cx}
def Zkd(K:W.Frag)(t tk:TA):TE:=fun σ H Q=>t σ H fun vs H1=>tk σ H1 fun zs H2=>∃(l:Addr) (ns:List Int) (z:V),vs=[.ref l]/\zs=[z]/\SqL K H2 l (ns.map V.int)/\Q (if ns=[] then z else .int (Zk2 ns)) H2
theorem Zfe{e d:Expr}{t tk:TA}{p pos kp:Pos}(hc:X.calm=true)(hg:Gl X "max")(hm:X.mg "max" = none)(ha:PA X [e] t)(hk:PK X [⟨some "default",d,kp⟩] tk)(he:backTo pos (starEach [e] X.env)=(false,eval e X.env)::backTo pos (starEach [] X.env):=by rfl)(hpl:(backTo pos (starEach [e] X.env)).any (·.1)=false:=by rfl) :
  PE X (.Call (.Name "max" p) [e] [⟨some "default",d,kp⟩] pos) (Zkd X.K t tk):=by
 intro Z6 s σ H Q I h
 refine wpAny_Call_Name_kw (Z00 I hg hm PyProof.Rows.Boot.«max» ?_)
 refine PyProof.Rows.callWith_kw (W9 (ha pos Z6 s σ H _ I h) fun us s1 ⟨vs,H1,I1,r,q⟩=>W9 (hk pos Z6 s1 σ H1 _ I1 q) fun ws s2 ⟨zs,H2,I2,rz,l,ns,z,ev,ez,hl,q2⟩=>?_) he hpl
 subst ev ez
 obtain⟨u,rfl,ru⟩:=Tj r
 obtain⟨y,rfl,ry⟩:=Tj rz
 obtain rfl:u=Value.ref l:=ru
 obtain⟨its,rv,pl,hz⟩:=I2.list hl
 obtain⟨ps,e1,e2⟩:=Z4y rv
 have hlist:s2.heap.IsList l (intItems ps.toArray):=by
  have e:intItems ps.toArray=its.toArray:=by rw[e1];simp[intItems]
  rw[e];exact pl.isList
 have hlen:ps.length=ns.length:=by rw[← e2,List.length_map]
 refine Z6d (d:=y) (I2.ok.hd hc) hlist fun v h' tk hv hk=>?_
 rcases hv with⟨h0,rfl⟩ | ⟨h0,hv⟩
 ·have hn:ns=[]:=List.length_eq_zero_iff.mp (by rw[← hlen];simpa using h0)
  rw[if_pos hn]at q2
  exact⟨z,H2,I2.kept hk,ry,q2⟩
 ·have hn:ns≠[]:=fun e=>by rw[e]at hlen;simp[hlen]at h0
  rw[if_neg hn]at q2
  obtain⟨t,e⟩:=Zg6 e2 hv
  rw[Z6u e2,show ps.toArray.size=ns.length by simp[hlen]]at e
  exact⟨.int (Zk2 ns),H2,I2.kept hk,⟨t,e⟩,q2⟩
end
structure MS where
 rows:V
 text:Str
 row:Int
 place:Int
 groups:V
 held:V
 choices:Addr
 made:Int
 found:Bool
 ended:Bool
def MS.fs(s:MS):List (Str×V):=[("rows",s.rows),("text",.str s.text),("row",.int s.row),("at",.int s.place),("groups",s.groups),("held",s.held),("choices",.ref s.choices),("made",.int s.made),("found",.bl s.found),("ended",.bl s.ended)]
theorem Zu{x y:Str}{v:V}{l:List (Str×V)}(h:(x==y)=false):((y,v)::l).lookup x=l.lookup x:=by rw[List.lookup_cons,h]
theorem V9{x:Str}{v:V}{l:List (Str×V)}:((x,v)::l).lookup x=some v:=by simp
theorem Zm{x y:Str}{v u:V}{l:List (Str×V)}(h:¬y=x):Yg x v ((y,u)::l)=(y,u)::Yg x v l:=by
 show(if y=x then(y,v)::l else(y,u)::Yg x v l)=_
 rw[if_neg h]
theorem Ji{x:Str}{v u:V}{l:List (Str×V)}:Yg x v ((x,u)::l)=(x,v)::l:=by
 show(if x=x then(x,v)::l else(x,u)::Yg x v l)=_
 rw[if_pos rfl]
theorem U3{x:Str}{v:V}:Yg x v []=[(x,v)]:=rfl
theorem Zga(s:MS):s.fs.lookup ("rows":Str)=some s.rows:=V9
theorem Z26(s:MS):s.fs.lookup ("text":Str)=some (.str s.text):=by unfold MS.fs;rw[Zu (by decide +kernel),V9]
theorem Z5w(s:MS):s.fs.lookup ("row":Str)=some (.int s.row):=by unfold MS.fs;rw[Zu (by decide +kernel),Zu (by decide +kernel),V9]
theorem Vd(s:MS):s.fs.lookup ("at":Str)=some (.int s.place):=by unfold MS.fs;rw[Zu (by decide +kernel),Zu (by decide +kernel),Zu (by decide +kernel),V9]
theorem Wa(s:MS):s.fs.lookup ("groups":Str)=some s.groups:=by unfold MS.fs;rw[Zu (by decide +kernel),Zu (by decide +kernel),Zu (by decide +kernel),Zu (by decide +kernel),V9]
theorem Tc(s:MS):s.fs.lookup ("held":Str)=some s.held:=by unfold MS.fs;rw[Zu (by decide +kernel),Zu (by decide +kernel),Zu (by decide +kernel),Zu (by decide +kernel),Zu (by decide +kernel),V9]
theorem X0(s:MS):s.fs.lookup ("choices":Str)=some (.ref s.choices):=by unfold MS.fs;rw[Zu (by decide +kernel),Zu (by decide +kernel),Zu (by decide +kernel),Zu (by decide +kernel),Zu (by decide +kernel),Zu (by decide +kernel),V9]
theorem Z27(s:MS):s.fs.lookup ("made":Str)=some (.int s.made):=by unfold MS.fs;rw[Zu (by decide +kernel),Zu (by decide +kernel),Zu (by decide +kernel),Zu (by decide +kernel),Zu (by decide +kernel),Zu (by decide +kernel),Zu (by decide +kernel),V9]
theorem Z74(s:MS):s.fs.lookup ("found":Str)=some (.bl s.found):=by unfold MS.fs;rw[Zu (by decide +kernel),Zu (by decide +kernel),Zu (by decide +kernel),Zu (by decide +kernel),Zu (by decide +kernel),Zu (by decide +kernel),Zu (by decide +kernel),Zu (by decide +kernel),V9]
theorem Z75(s:MS):s.fs.lookup ("ended":Str)=some (.bl s.ended):=by unfold MS.fs;rw[Zu (by decide +kernel),Zu (by decide +kernel),Zu (by decide +kernel),Zu (by decide +kernel),Zu (by decide +kernel),Zu (by decide +kernel),Zu (by decide +kernel),Zu (by decide +kernel),Zu (by decide +kernel),V9]
theorem Z1g(s:MS)(i:Int):Yg "row" (.int i) s.fs=({ s with row:=i }:MS).fs:=by unfold MS.fs;rw[Zm (by decide +kernel),Zm (by decide +kernel),Ji]
theorem Zag(s:MS)(i:Int):Yg "at" (.int i) s.fs=({ s with place:=i }:MS).fs:=by unfold MS.fs;rw[Zm (by decide +kernel),Zm (by decide +kernel),Zm (by decide +kernel),Ji]
theorem Z43(s:MS)(v:V):Yg "groups" v s.fs=({ s with groups:=v }:MS).fs:=by unfold MS.fs;rw[Zm (by decide +kernel),Zm (by decide +kernel),Zm (by decide +kernel),Zm (by decide +kernel),Ji]
theorem Z0k(s:MS)(v:V):Yg "held" v s.fs=({ s with held:=v }:MS).fs:=by unfold MS.fs;rw[Zm (by decide +kernel),Zm (by decide +kernel),Zm (by decide +kernel),Zm (by decide +kernel),Zm (by decide +kernel),Ji]
theorem Zfc(s:MS)(i:Int):Yg "made" (.int i) s.fs=({ s with made:=i }:MS).fs:=by unfold MS.fs;rw[Zm (by decide +kernel),Zm (by decide +kernel),Zm (by decide +kernel),Zm (by decide +kernel),Zm (by decide +kernel),Zm (by decide +kernel),Zm (by decide +kernel),Ji]
theorem Z6p(s:MS)(b:Bool):Yg "found" (.bl b) s.fs=({ s with found:=b }:MS).fs:=by unfold MS.fs;rw[Zm (by decide +kernel),Zm (by decide +kernel),Zm (by decide +kernel),Zm (by decide +kernel),Zm (by decide +kernel),Zm (by decide +kernel),Zm (by decide +kernel),Zm (by decide +kernel),Ji]
theorem Zc2(s:MS)(b:Bool):Yg "ended" (.bl b) s.fs=({ s with ended:=b }:MS).fs:=by unfold MS.fs;rw[Zm (by decide +kernel),Zm (by decide +kernel),Zm (by decide +kernel),Zm (by decide +kernel),Zm (by decide +kernel),Zm (by decide +kernel),Zm (by decide +kernel),Zm (by decide +kernel),Zm (by decide +kernel),Ji]
theorem X4(s:MS):s.fs.length<1000:=by show 10<1000;decide
def Zh3(m:Str):Prop:=∀s:MS,s.fs.lookup m=none
theorem Zji{m:Str}(h:(m=="rows")=false/\(m=="text")=false/\(m=="row")=false/\(m=="at")=false/\(m=="groups")=false/\(m=="held")=false/\(m=="choices")=false/\(m=="made")=false/\(m=="found")=false/\(m=="ended")=false):Zh3 m:=fun s=>by
 obtain⟨h1,h2,h3,h4,h5,h6,h7,h8,h9,h10⟩:=h
 unfold MS.fs
 rw[Zu h1,Zu h2,Zu h3,Zu h4,Zu h5,Zu h6,Zu h7,Zu h8,Zu h9,Zu h10]
 rfl
theorem Yz:Zh3 "go_back":=Zji (by decide +kernel)
theorem Tz:Zh3 "enter":=Zji (by decide +kernel)
theorem Zg1:Zh3 "move":=Zji (by decide +kernel)
theorem Ziy:Zh3 "way":=Zji (by decide +kernel)
theorem Zcj:Zh3 "moves":=Zji (by decide +kernel)
theorem Z58:Zh3 "hold":=Zji (by decide +kernel)
theorem Up:Zh3 "let_go":=Zji (by decide +kernel)
theorem Z59:Zh3 "drop_choices":=Zji (by decide +kernel)
theorem Z6y:Zh3 "entry":=Zji (by decide +kernel)
abbrev Zh4:=Int×Int×V×V
def ChAt(H:Hp)(v:V)(q:Zh4):Prop:=∃t,v=.ref t/\H t=some (.tup [.int q.1,.int q.2.1,q.2.2.1,q.2.2.2])
theorem ChAt.mono{H H':Hp}(t:∀b xs,H b=some (.tup xs)->H' b=some (.tup xs)){v:V}{q:Zh4}(h:ChAt H v q):ChAt H' v q:=by
 obtain⟨a,e,h⟩:=h
 exact⟨a,e,t _ _ h⟩
structure MM where
 s:MS
 cs:List Zh4
def MM.enter(M:MM)(q:Zh4):MM:={ M with s:={ M.s with row:=q.1,place:=q.2.1,groups:=q.2.2.1,held:=q.2.2.2 } }
def MM.back(M:MM):MM:=match M.cs.getLast? with
 |none=>{ M with s:={ M.s with ended:=true } }
 |some q=>MM.enter { M with cs:=M.cs.dropLast } q
structure MAt(C:Addr)(H:Hp)(m:Addr)(M:MM):Prop where
 ob:∃dx,H m=some (.ins C dx M.s.fs)
 ch:∃vs,H M.s.choices=some (.lst vs)/\Paired (ChAt H) vs M.cs
theorem MAt.ne{C:Addr}{H:Hp}{m:Addr}{M:MM}(h:MAt C H m M):m≠M.s.choices:=by
 obtain⟨⟨dx,e⟩,vs,e',_⟩:=h
 exact Z3e e e' (by intro z;cases z)
theorem MAt.gro{S:List Addr}{C:Addr}{H H':Hp}{m:Addr}{M:MM}(h:MAt C H m M)(g:Gro S H H')(h1:m∉S)(h2:M.s.choices∉S):MAt C H' m M:=by
 obtain⟨⟨dx,e⟩,vs,e',p⟩:=h
 exact⟨⟨dx,g.keep _ _ e h1⟩,vs,g.keep _ _ e' h2,Paired.mapP p fun _ _ q=>q.mono g.tups⟩
theorem MAt.new{C:Addr}{H:Hp}{m p:Addr}{M:MM}{o:HO}(h:MAt C H m M)(hp:H p=none):MAt C (Zq H p o) m M:=h.gro (S:=[]) (Gro.new hp o) (by simp) (by simp)
theorem Gro.ins{S:List Addr}{H:Hp}{p C dx:Addr}{fs:List (Str×V)}(hp:p∈S)(h:H p=some (.ins C dx fs))(o:HO):Gro S H (Zq H p o) :=
 ⟨fun b u q hb=>by rw[Zi (fun z=>hb (by rw[z];exact hp))];exact q,fun b ys q=>by rw[Zi (Z3e q h (by intro z;cases z))];exact q⟩
theorem MAt.put{C:Addr}{H:Hp}{m dx:Addr}{M:MM}{s':MS}(h:MAt C H m M)(hx:H m=some (.ins C dx M.s.fs))(hc:s'.choices=M.s.choices):MAt C (Zq H m (.ins C dx s'.fs)) m ⟨s',M.cs⟩:=by
 have hne:=h.ne
 obtain⟨_,vs,e',p⟩:=h
 have g:Gro [m] H (Zq H m (.ins C dx s'.fs)):=Gro.ins (by simp) hx _
 refine⟨⟨dx,Z2⟩,vs,?_,Paired.mapP p fun _ _ q=>q.mono g.tups⟩
 show(Zq H m (.ins C dx s'.fs)) s'.choices=_
 rw[hc,Zi (Ne.symm hne)]
 exact e'
structure Txt(K:W.Frag)(mg:Str->Option Value)(C:Addr):Prop where
 cl:Cls K C
 a1:NoAttr K C "rows"
 a2:NoAttr K C "text"
 a3:NoAttr K C "row"
 a4:NoAttr K C "at"
 a5:NoAttr K C "groups"
 a6:NoAttr K C "held"
 a7:NoAttr K C "choices"
 a8:NoAttr K C "made"
 a9:NoAttr K C "found"
 a10:NoAttr K C "ended"
structure OwnM(P:Program)(w:World)(K:W.Frag)(mg:Str->Option Value)(base:Heap)(k:Nat)(C:Addr)(m:Str)(ps:List Str)(sp:Sp):Prop where
 ex:∃f fd,FnOk P w K mg base W3 k f fd ps sp/\Meth K C m f/\Binds K fd ps []
theorem OwnM.mono{P:Program}{w:World}{K:W.Frag}{mg:Str->Option Value}{base:Heap}{j k:Nat}{C:Addr}{x:Str}{ps:List Str}{sp:Sp}(O:OwnM P w K mg base j C x ps sp)(h:j<=k):OwnM P w K mg base k C x ps sp:=by
 obtain⟨f,fd,F,r⟩:=O.ex
 exact⟨f,fd,F.mono h,r⟩
theorem X6{X:Cx}{k:Nat}{C:Addr}{m:Str}{ps:List Str}{sp:Sp}{o e:Expr}{es:List Expr}{ta:TE}{t:TA}{apos pos:Pos}{pl:Sem Bool}(O:OwnM X.prog X.w X.K X.mg X.base k C m ps sp)(c:Cls X.K C)(hr:Room k X.A)(he:PE X o ta)(ha:PA X (e::es) t)
  (hst:starEach (e::es) X.env=(false,eval e X.env)::starEach es X.env:=by rfl) (hpl:(backTo pos (starEach es X.env)).any (·.1)=false:=by rfl)
  (ht:eval (.Call (.Attribute o m apos) (e::es) [] pos) X.env=(do
   let ov ← eval o X.env
   standAt apos.atName
   let(f,first) ← holding [ov] (getMethod ov m pl)
   callWith pos f first (backTo pos (starEach (e::es) X.env)) (backToKw pos (keywordEach [] X.env))):=by rfl):PE X (.Call (.Attribute o m apos) (e::es) [] pos) (Zad C m sp [] E0 ta t):=by
 obtain⟨f,fd,F,hm,hb⟩:=O.ex
 exact Zfd he c hm F hr hb .nil Z7i ha hst hpl ht
theorem Yo{X:Cx}{k:Nat}{C:Addr}{m:Str}{ps:List Str}{sp:Sp}{o:Expr}{ta:TE}{apos pos:Pos}{pl:Sem Bool}(O:OwnM X.prog X.w X.K X.mg X.base k C m ps sp)(c:Cls X.K C)(hr:Room k X.A)(he:PE X o ta)
  (ht:eval (.Call (.Attribute o m apos) [] [] pos) X.env=(do
   let ov ← eval o X.env
   standAt apos.atName
   let(f,first) ← holding [ov] (getMethod ov m pl)
   callWith pos f first (backTo pos (starEach [] X.env)) (backToKw pos (keywordEach [] X.env))):=by rfl):PE X (.Call (.Attribute o m apos) [] [] pos) (Zad C m sp [] E0 ta Ub):=by
 obtain⟨f,fd,F,hm,hb⟩:=O.ex
 exact Zc3 he c hm F hr hb .nil Z7i ht
structure OwnC(P:Program)(w:World)(K:W.Frag)(mg:Str->Option Value)(base:Heap)(k:Nat)(C:Addr)(x:Str)(ps:List Str)(sp:Sp):Prop where
 ex:∃f fd,FnOk P w K mg base W3 k f fd ps sp/\Mk K C f/\mg x=some (.ref C)/\Binds K fd ps []
end Seek
namespace L2
open PySem PySem.Spec PyProof.Rows
section
variable{X:Cx}
theorem Z2u(hu:X.A.units<cLine):Z3s X (compareOp .NotEq) (fun x y H Q=>∃(p r:Addr) (xs:List V),x=.ref p/\y=.ref r/\SqL X.K H p xs/\SqL X.K H r []/\Q (.bl (!xs.isEmpty)) H):=by
 intro Z6 s σ H x y v u Q I rx ry h
 obtain⟨p,r,xs,rfl,rfl,hp,hr,q⟩:=h
 cases rx
 cases ry
 obtain⟨its,rv,pl,hz⟩:=I.list hp
 obtain⟨its2,rv2,pl2,hz2⟩:=I.list hr
 cases rv2
 cases rv with
 |nil=>exact PySem.EqBoolInt.of_rcne (SeqAt.RcNeAt.lists (e:=fun _=>true) pl.isList pl2.isList (by simp) hu (fun j h1 h2=>absurd h1 (by simp))) ⟨.bl false,H,I,rfl,q⟩
 |cons r1 r2=>exact PySem.EqBoolInt.of_rcne (SeqAt.RcNeAt.lists_lengths pl.isList pl2.isList (by simp) hu) ⟨.bl true,H,I,rfl,q⟩
end
end L2
namespace Seek
open PySem PySem.Spec PyProof.Rows L2
theorem OwnC.mono{P:Program}{w:World}{K:W.Frag}{mg:Str->Option Value}{base:Heap}{j k:Nat}{C:Addr}{x:Str}{ps:List Str}{sp:Sp}(O:OwnC P w K mg base j C x ps sp)(h:j<=k):OwnC P w K mg base k C x ps sp:=by
 obtain⟨f,fd,F,r⟩:=O.ex
 exact⟨f,fd,F.mono h,r⟩
theorem Z9e{X:Cx}{k:Nat}{C:Addr}{x:Str}{ps:List Str}{sp:Sp}{p pos:Pos}{e:Expr}{es:List Expr}{t:TA}(O:OwnC X.prog X.w X.K X.mg X.base k C x ps sp)(hr:Room (k+1) X.A)(hg:Gl X x)(ha:PA X (e::es) t)
  (hdb:(x==("__debug__":Str))=false:=by decide) (he:starEach (e::es) X.env=(false,eval e X.env)::starEach es X.env:=by rfl) (hpl:(backTo pos (starEach es X.env)).any (·.1)=false:=by rfl) :
  PE X (.Call (.Name x p) (e::es) [] pos) (Zgw C sp [] E0 t):=by
 obtain⟨f,fd,F,M,hm,hb⟩:=O.ex
 exact Zff M F hr hg hm hb .nil Z7i ha hdb he hpl
end Seek
namespace L2
open PySem PySem.Spec PyProof.Rows
def sub(x:Str)(a b:Nat):Str:=⟨((x.cps.toList.drop a).take (b-a)).toArray⟩
theorem Zl0{k:Int}{L:Nat}(h:0<=k):min k (L:Int)=min ((min k.toNat L:Nat):Int) (L:Int):=by
 obtain⟨a,rfl⟩:=Int.eq_ofNat_of_zero_le h
 rw[Int.toNat_natCast]
 by_cases e:a<=L
 ·rw[Nat.min_eq_left e]
 ·rw[Nat.min_eq_right (Nat.le_of_not_le e),Int.min_eq_right (Int.ofNat_le.mpr (Nat.le_of_not_le e)),Int.min_self]
theorem Z49{a b L:Nat}(h:¬min a L<=min b L):b<a/\b<L:=by omega
theorem Vq{x:Str}{i j:Int}(h0:0<=i)(h1:0<=j):Txt.slice x (some i) (some j)=sub x i.toNat j.toNat:=by
 have hl:x.cps.toList.length=x.length:=by simp[Str.length]
 have clip:Builtin.Str.strSliceIndices (some i) (some j) 1 x.length=Builtin.Str.strSliceIndices (some ((min i.toNat x.length:Nat):Int)) (some ((min j.toNat x.length:Nat):Int)) 1 x.length:=by
  unfold Builtin.Str.strSliceIndices
  have e1:¬i<0:=by omega
  have e2:¬j<0:=by omega
  have e3:¬((min i.toNat x.length:Nat):Int)<0:=Int.not_lt.mpr (Int.natCast_nonneg _)
  have e4:¬((min j.toNat x.length:Nat):Int)<0:=Int.not_lt.mpr (Int.natCast_nonneg _)
  simp only[e1,e2,e3,e4,if_false,show(1:Int)>0 by decide,if_true]
  congr 1 <;> rw[Zl0 (by assumption)]
 have ed:(x.cps.toList.drop (min i.toNat x.length)).take (min j.toNat x.length-min i.toNat x.length)=(x.cps.toList.drop i.toNat).take (j.toNat-i.toNat):=by
  by_cases hi:i.toNat<=x.length
  ·rw[Nat.min_eq_left hi]
   by_cases hj:j.toNat<=x.length
   ·rw[Nat.min_eq_left hj]
   ·rw[Nat.min_eq_right (by omega),List.take_of_length_le (by rw[List.length_drop];omega),List.take_of_length_le (by rw[List.length_drop];omega)]
  ·have e5:min i.toNat x.length=x.length:=by omega
   rw[e5,List.drop_of_length_le (show x.cps.toList.length<=x.length by omega),List.drop_of_length_le (show x.cps.toList.length<=i.toNat by omega)]
   simp
 by_cases hab:min i.toNat x.length<=min j.toNat x.length
 ·have e:Txt.slice x (some i) (some j)=StrLaws.sliceText x (some ((min i.toNat x.length:Nat):Int)) (some ((min j.toNat x.length:Nat):Int)):=by
   unfold Txt.slice StrLaws.sliceText
   rw[clip]
  rw[e,StrLaws.sliceText_nat x hab (Nat.min_le_right _ _),ed]
  rfl
 ·have em:Builtin.Str.strSliceIndices (some i) (some j) 1 x.length=[]:=by
   rw[clip]
   unfold Builtin.Str.strSliceIndices sliceRange
   have e3:¬((min i.toNat x.length:Nat):Int)<0:=Int.not_lt.mpr (Int.natCast_nonneg _)
   have e4:¬((min j.toNat x.length:Nat):Int)<0:=Int.not_lt.mpr (Int.natCast_nonneg _)
   simp only[e3,e4,if_false,show(1:Int)>0 by decide,if_true]
   rw[if_neg (by omega)]
   rfl
  have hlt:j.toNat-i.toNat=0:=Nat.sub_eq_zero_of_le (Nat.le_of_lt (Z49 hab).1)
  have hp:0<x.length:=Nat.lt_of_le_of_lt (Nat.zero_le _) (Z49 hab).2
  unfold Txt.slice sub
  rw[em,hlt,if_neg (by simp;omega)]
  simp
def Zm7:V->Option Int->Option Int->Hp->VK->Prop:=fun x lo hi H Q=>∃z:Str,x=.str z/\z.length<=sizeLine/\Q (.str (Txt.slice z lo hi)) H
section
variable{X:Cx}
theorem V8:Zlu X Zm7:=by
 intro Z6 s σ H x v vl vu lo hi sl Q I rx hs pl pu h
 obtain⟨z,rfl,hz,q⟩:=h
 obtain⟨t,rfl⟩:=rx
 have part:∀ {v:Value} {o:Option Int},IsPart v o->∃p:Option (Int×Tok),v=partValue p/\p.map (·.1)=o:=by
  intro v o h
  cases h with
  |none=>exact⟨none,rfl,rfl⟩
  |int i t=>exact⟨some (i,t),rfl,rfl⟩
 obtain⟨l,rfl,rfl⟩:=part pl
 obtain⟨u,rfl,rfl⟩:=part pu
 exact⟨"str",_,F.slot_str_getitem.lookup,typeIs_str _ _ _,wpAny_getItem_str_slice (l:=l) (u:=u) (st:=none) hs rfl (post_val_or_str ⟨Nat.le_trans (Txt.slice_le z _ _) hz,fun t' k=>⟨.str _,H,I.tok _,⟨_,rfl⟩,q⟩⟩)⟩
end
end L2
namespace HT
open PySem PySem.Spec PyProof.Rows
section
variable{prog:Program}{w:World}{A:Around}{E:Value->Shared->Prop}{s:Shared}
theorem cat_tup0{t b:Addr}{vs ws:List Value}{Q:Value->Shared->Prop}(ht:IsTup s.heap t vs.toArray)(hb:IsTup s.heap b ws.toArray)(hv:vs=[])(h1:Q (.ref b) s):wpAny (model prog w) A (binaryOp .Add (.ref t) (.ref b)) Q E s:=by
 obtain⟨⟨cls,dd,data,sl⟩,ho,hc,n,hd⟩:=id ht
 obtain⟨⟨cls2,dd2,data2,sl2⟩,ho2,hc2,n2,hd2⟩:=id hb
 simp only at hc hd hc2 hd2
 subst hc hd hc2 hd2
 exact concat_meets ⟨_,ho,rfl⟩ ⟨_,ho2,rfl⟩ noFill_tuple_add seq_tuple_add PySem.F.slot_tuple_add PySem.F.entry_tuple_add (PySem.F.args_tuple_add_2 _ _)
  (tuple_addW0 t b vs.toArray ws.toArray n n2 dd dd2 sl sl2 (by simp[hv])) ⟨ho,ho2,h1⟩
end
end HT
namespace L2
open PySem PySem.Spec PyProof.Rows
section
variable{X:Cx}
def Zae(K:W.Frag):R2:=fun x y H Q=>∃a b xs ys,x=.ref a/\y=.ref b/\SqT K H a xs/\SqT K H b ys/\xs.length+ys.length<=sizeLine /\
 (xs=[]->Q (.ref b) H)/\(xs≠[]->ys=[]->Q (.ref a) H)/\(xs≠[]->ys≠[]->∀p,H p=none->Q (.ref p) (Zq H p (.tup (xs++ys))))
theorem Z24:Z3s X (binaryOp .Add) (Zae X.K):=by
 intro Z6 s σ H x y v u Q I rx ry h
 obtain⟨a,b,xs,ys,e1,e2,ha,hb,hz,q0,q1,q2⟩:=h
 by_cases hx:xs=[]
 ·subst e1 e2
  cases rx
  cases ry
  obtain⟨its,r1,p1,_⟩:=I.tuple ha
  obtain⟨its2,r2,p2,_⟩:=I.tuple hb
  exact HT.cat_tup0 p1 p2 (r1.nil_iff.mpr hx) ⟨.ref b,H,I,rfl,q0 hx⟩
 ·exact Z9m Z6 s σ H x y v u Q I rx ry ⟨a,b,xs,ys,e1,e2,ha,hb,hx,hz,q1 hx,q2 hx⟩
end
end L2
namespace Seek
open PySem PySem.Spec PyProof.Rows L2
theorem Ze7{xs:List V}{k:Nat}(h:k<=xs.length):Jv xs none (some (k:Int))=xs.take k:=by
 unfold Jv
 rw[HT.sIx_none,HT.sIx_nat,List.drop_zero,Nat.min_eq_left h,Nat.sub_zero]
theorem Z78{xs:List V}{k:Nat}(h:k<=xs.length):Jv xs (some (k:Int)) none=xs.drop k:=by
 unfold Jv
 rw[HT.sIx_none,HT.sIx_nat,Nat.min_eq_left h]
 exact List.take_of_length_le (by rw[List.length_drop];exact Nat.le_refl _)
theorem Z5f(xs:List V):Jv xs none (some 1)=xs.take 1:=by
 unfold Jv
 have:HT.sIx xs.length xs.length (some 1)=min 1 xs.length:=HT.sIx_nat _ _ 1
 rw[HT.sIx_none,this,List.drop_zero,Nat.sub_zero]
 by_cases h:1<=xs.length
 ·rw[Nat.min_eq_left h]
 ·match xs,h with
  | [],_=>rfl
  |x::xs,h=>exact absurd (show 1<=xs.length+1 by omega) h
inductive Rw where
 |pat (h:Hd) | tup (xs:List V)
abbrev Cd:=Nat->List Rw
def Jt:List Cd->Cd
 | [],_=>[]
 |c::cs,b=>c b++Jt cs (b+(c b).length)
def Xl(g:List V):List Cd->Cd
 | [],_=>[]
 | [c],b=>c b
 |c::d::cs,b=>.tup [.str "try",.int ((b:Int)+(c (b+1)).length+2)]::(c (b+1)++.tup g::Xl g (d::cs) (b+(c (b+1)).length+2))
def goes:List Cd->Nat->Nat->List Nat
 | [],_,_=>[]
 | [_],_,_=>[]
 |c::d::cs,b,s=>(s+1+(c (b+1)).length)::goes (d::cs) (b+(c (b+1)).length+2) (s+(c (b+1)).length+2)
def Z1q(lo:Int)(hi:Option Int)(how:Str)(c:Cd):Cd:=fun b =>
 .tup [.str "turns"]::.tup [.str "turn",.int lo,Z5i hi,.str how,.int ((b:Int)+3+(c (b+2)).length)]::(c (b+2)++[.tup [.str "next",.int lo,.int ((b:Int)+1)]])
def Jw(lo:Int)(hi:Option Int)(how:How)(c:Cd):Cd:=match how with
 |.keep=>fun b=>.tup [.str "once"]::(Z1q lo hi "much" c (b+1)++[.tup [.str "kept"]])
 |h=>Z1q lo hi h.text c
def Zab(k:Int)(y n:Cd):Cd:=fun b =>
 .tup [.str "have",.int k,.int ((b:Int)+(y (b+1)).length+2)]::(y (b+1)++.tup [.str "go",.int ((b:Int)+(y (b+1)).length+2+(n (b+(y (b+1)).length+2)).length)]::n (b+(y (b+1)).length+2))
def Lk.last:Lk->Str
 |.once=>"kept" |.ahead=>"peeked" |.behind=>"peeked" |.notahead=>"barred" |.notbehind=>"barred"
def Lk.leans:Lk->Bool
 |.behind=>true | .notbehind=>true | _=>false
def Lk.inner(l:Lk)(c:Cd):Cd:=fun b=>match l.leans with
 |true=>.tup [.str "lean"]::(c (b+2)++[.tup [.str "here"]])
 |false=>c (b+1)
def Tn(l:Lk)(c:Cd):Cd:=fun b=>(match l.last=="barred" with
 |true=>Rw.tup [.str "bar",.int ((b:Int)+2+(l.inner c b).length)]
 |false=>.tup [.str "once"])::(l.inner c b++[.tup [.str l.last]])
def Zel(cs:List Cd):Cd:=cs.headD fun _=>[]
def Zjk(z:Int):List V:=[.str "go",.int z]
def Zjh(cs:List Cd):Cd:=fun b=>Xl (Zjk ((b:Int)+(Xl [] cs b).length)) cs b
def Hd.code(h:Hd)(cs:List Cd):Cd:=match h with
 |.row=>Jt cs
 |.alt=>Zjh cs
 |.times lo hi how=>Jw lo hi how (Zel cs)
 |.grp k=>fun b=>.tup [.str "open"]::(Zel cs (b+1)++[.tup [.str "close",.int k]])
 |.hav k=>Zab k (Zel cs) (Zel cs.tail)
 |.look l=>Tn l (Zel cs)
 |h=>fun _=>[.pat h]
mutual
def Pat.code:Pat->Cd
 |.node h ks=>h.code (Zaj ks)
def Zaj:List Pat->List Cd
 | []=>[]
 |k::ks=>k.code::Zaj ks
end
theorem Zbh(ks:List Pat):Zaj ks=ks.map Pat.code:=by
 induction ks with
 |nil=>rfl
 |cons k ks ih=>rw[Zaj,ih];rfl
theorem Z13(h:Hd)(ks:List Pat):(Pat.node h ks).code=h.code (ks.map Pat.code):=by rw[Pat.code,Zbh]
def Zer(c:Cd)(n:Nat):Prop:=∀b,(c b).length+2<=7*n
theorem Z31(g:List V):∀(cs:List Cd) (b:Nat),(Xl g cs b).length=(Xl [] cs b).length
 | [],_=>rfl
 | [_],_=>rfl
 |c::d::cs,b=>by
  have:=Z31 g (d::cs) (b+(c (b+1)).length+2)
  simp only[Xl,List.length_cons,List.length_append]at this ⊢
  omega
theorem Zfh(cs:List Cd)(b:Nat):(Zjh cs b).length=(Xl [] cs b).length:=Z31 _ cs b
theorem J2(lo:Int)(hi:Option Int)(how:Str)(c:Cd)(b:Nat):(Z1q lo hi how c b).length=(c (b+2)).length+3:=by simp[Z1q]
theorem Zcw(l:Lk)(c:Cd)(b:Nat):∃j,(l.inner c b).length<=(c j).length+2:=by
 unfold Lk.inner
 cases l.leans
 ·exact⟨_,Nat.le_add_right _ 2⟩
 ·exact⟨b+2,by simp⟩
theorem Z0w:∀ {ks:List Pat},(∀k∈ks,Zer k.code k.size)->∀b,(Jt (ks.map Pat.code) b).length<=7*Ya ks
 | [],_,b=>by simp[Jt,Ya]
 |k::ks,h,b=>by
  have h1:=h k (by simp) b
  have h2:=Z0w (ks:=ks) (fun z hz=>h z (by simp[hz])) (b+(k.code b).length)
  rw[List.map_cons,Jt,List.length_append,Ya]
  omega
theorem Z4j:∀ {ks:List Pat},(∀k∈ks,Zer k.code k.size)->∀b,(Xl [] (ks.map Pat.code) b).length<=7*Ya ks
 | [],_,b=>by simp[Xl,Ya]
 | [k],h,b=>by
  have h1:=h k (by simp) b
  simp only[List.map_cons,List.map_nil,Xl,Ya]
  omega
 |k::l::ks,h,b=>by
  have h1:=h k (by simp) (b+1)
  have h2:=Z4j (ks:=l::ks) (fun z hz=>h z (by simp at hz;simp[hz])) (b+(k.code (b+1)).length+2)
  simp only[List.map_cons,Xl,List.length_cons,List.length_append]at h2 ⊢
  rw[Ya]
  omega
theorem Z71{ks:List Pat}(h:∀k∈ks,Zer k.code k.size):∀b,(Zel (ks.map Pat.code) b).length+2<=7*Ya ks+2:=fun b=>by
 cases ks with
 |nil=>simp[Zel]
 |cons k ks =>
  have h1:=h k (by simp) b
  simp only[Zel,List.map_cons,List.headD_cons,Ya]
  omega
mutual
theorem Pat.code_fits:∀p:Pat,Zer p.code p.size
 |.node h ks=>by
  have ih:=Z2o ks
  intro b
  rw[Z13,Xf]
  have hh:=Z71 ih
  cases h with
  |row=>have:=Z0w ih b;show(Jt _ b).length+2<=_;omega
  |alt=>have:=Z4j ih b;show(Zjh _ b).length+2<=_;rw[Zfh];omega
  |times lo hi how =>
   show(Jw lo hi how (Zel (ks.map Pat.code)) b).length+2<=_
   cases how with
   |keep =>
    have:=hh (b+1+2)
    simp only[Jw,List.length_cons,List.length_append,J2,List.length_nil]
    omega
   |much=>have:=hh (b+2);simp only[Jw,J2];omega
   |little=>have:=hh (b+2);simp only[Jw,J2];omega
  |grp k =>
   have:=hh (b+1)
   simp only[Hd.code,List.length_cons,List.length_append,List.length_nil]
   omega
  |hav k =>
   show(Zab k _ _ b).length+2<=_
   cases ks with
   |nil=>simp[Zab,Zel,Ya]
   |cons y r =>
    have h1:=ih y (by simp) (b+1)
    have h2:=Z71 (ks:=r) (fun z hz=>ih z (by simp[hz]))
    have h3:=h2 (b+(y.code (b+1)).length+2)
    simp only[Zab,List.map_cons,List.length_cons,List.length_append,Ya,List.tail_cons,Zel,List.headD_cons]at h3 ⊢
    omega
  |look l =>
   show(Tn l _ b).length+2<=_
   obtain⟨j,hj⟩:=Zcw l (Zel (ks.map Pat.code)) b
   have:=hh j
   simp only[Tn,List.length_cons,List.length_append,List.length_nil]
   omega
  |_=>simp[Hd.code];omega
theorem Z2o:∀(ks:List Pat),∀k∈ks,Zer k.code k.size
 | [],k,hk=>by simp at hk
 |k::ks,z,hz=>by
  rcases List.mem_cons.mp hz with e | hz
  ·rw[e];exact Pat.code_fits k
  ·exact Z2o ks z hz
end
def Tg(G:Rw)(ps:List Nat)(l:List Rw):List Rw:=ps.foldl (fun l p=>l.set p G) l
theorem Zf4(a b:List Rw)(x G:Rw)(p:Nat)(h:p=a.length):(a++x::b).set p G=a++G::b:=by
 subst h
 simp
theorem Z14(g G:List V):∀(cs:List Cd) (b:Nat) (pre:List Rw),Tg (.tup G) (goes cs b pre.length) (pre++Xl g cs b)=pre++Xl G cs b
 | [],b,pre=>rfl
 | [c],b,pre=>rfl
 |c::d::cs,b,pre=>by
  have ih:=Z14 g G (d::cs) (b+(c (b+1)).length+2) (pre++.tup [.str "try",.int ((b:Int)+(c (b+1)).length+2)]::(c (b+1)++[.tup G]))
  have e:(pre++Rw.tup [.str "try",.int ((b:Int)+(c (b+1)).length+2)]   :: (c (b+1)++[Rw.tup G])).length=pre.length+(c (b+1)).length+2:=by simp;omega
  rw[e]at ih
  simp only[goes,Xl]
  show Tg (.tup G) (goes (d::cs) _ _) ((pre++_::(c (b+1)++.tup g::Xl g (d::cs) _)).set _ _)=_
  rw[show pre++Rw.tup [.str "try",.int ((b:Int)+(c (b+1)).length+2)]::(c (b+1)++.tup g::Xl g (d::cs) (b+(c (b+1)).length+2))=(pre++.tup [.str "try",.int ((b:Int)+(c (b+1)).length+2)]::c (b+1))++.tup g::Xl g (d::cs) (b+(c (b+1)).length+2) by simp]
  rw[Zf4 _ _ _ _ _ (by simp;omega)]
  simpa using ih
theorem Z9z:∀(cs:List Cd) (b s:Nat),∀p∈goes cs b s,s<=p/\p<s+(Xl [] cs b).length
 | [],_,_,p,h=>by simp[goes]at h
 | [_],_,_,p,h=>by simp[goes]at h
 |c::d::cs,b,s,p,h=>by
  simp only[goes]at h
  simp only[Xl,List.length_cons,List.length_append]
  rcases List.mem_cons.mp h with e | h
  ·omega
  ·have:=Z9z (d::cs) _ _ p h
   omega
theorem Z2g(G:Rw):∀(ps:List Nat) (l:List Rw),(Tg G ps l).length=l.length
 | [],_=>rfl
 |p::ps,l=>by
  show(Tg G ps (l.set p G)).length=_
  rw[Z2g,List.length_set]
def RowAt(H:Hp)(v:V):Rw->Prop
 |.pat h=>PatAt H 1 v (.node h [])
 |.tup xs=>∃a,v=.ref a/\H a=some (.tup xs)
theorem RowAt.mono{H H':Hp}(t:∀b xs,H b=some (.tup xs)->H' b=some (.tup xs)){v:V}:∀ {r:Rw},RowAt H v r->RowAt H' v r
 |.pat _,h=>PatAt.mono t h
 |.tup _,⟨a,e,q⟩=>⟨a,e,t _ _ q⟩
theorem Y7{H H':Hp}(t:∀b xs,H b=some (.tup xs)->H' b=some (.tup xs)){vs:List V}{rs:List Rw}(h:Paired (RowAt H) vs rs):Paired (RowAt H') vs rs:=Paired.mapP h fun _ _ q=>q.mono t
theorem Z2h{α β:Type}{F:α->β->Prop}{x:α}{y:β}(q:F x y):∀ {xs:List α} {ys:List β} (i:Nat),Paired F xs ys->Paired F (xs.set i x) (ys.set i y)
 |_,_,_,.nil=>.nil
 |_,_,0,.cons _ t=>.cons q t
 |_,_,i+1,.cons r t=>.cons r (Z2h q i t)
theorem Zw{α β:Type}{F:α->β->Prop}:∀ {xs xs':List α} {ys ys':List β},Paired F xs ys->Paired F xs' ys'->Paired F (xs++xs') (ys++ys')
 |_,_,_,_,.nil,s=>s
 |_,_,_,_,.cons r t,s=>.cons r (Zw t s)
def Vg(g:List V):List Cd->Cd
 | [],_=>[]
 |c::cs,b=>.tup [.str "try",.int ((b:Int)+(c (b+1)).length+2)]::(c (b+1)++.tup g::Vg g cs (b+(c (b+1)).length+2))
def Z0s:List Cd->Nat->Nat->List Nat
 | [],_,_=>[]
 |c::cs,b,s=>(s+1+(c (b+1)).length)::Z0s cs (b+(c (b+1)).length+2) (s+(c (b+1)).length+2)
theorem Z4i(g:List V):∀(cs:List Cd) (d:Cd) (b:Nat),Xl g (cs++[d]) b=Vg g cs b++d (b+(Vg g cs b).length)
 | [],d,b=>rfl
 | [c],d,b=>by
  simp only[List.cons_append,List.nil_append,Xl,Vg,List.append_assoc,List.length_cons,List.length_append,List.length_nil]
  rw[show b+(c (b+1)).length+2=b+((c (b+1)).length+(0+1)+1) by omega]
 |c::e::cs,d,b=>by
  have ih:=Z4i g (e::cs) d (b+(c (b+1)).length+2)
  rw[List.cons_append]at ih
  have e1:Vg g (c::e::cs) b=.tup [.str "try",.int ((b:Int)+(c (b+1)).length+2)]::(c (b+1)++.tup g::Vg g (e::cs) (b+(c (b+1)).length+2)):=rfl
  rw[List.cons_append,List.cons_append,Xl,ih,e1]
  generalize Vg g (e::cs) (b+(c (b+1)).length+2)=Z
  simp only[List.cons_append,List.append_assoc,List.length_cons,List.length_append]
  rw[show b+(c (b+1)).length+2+Z.length=b+((c (b+1)).length+(Z.length+1)+1) by omega]
theorem Z4b:∀(cs:List Cd) (d:Cd) (b s:Nat),goes (cs++[d]) b s=Z0s cs b s
 | [],d,b,s=>rfl
 | [c],d,b,s=>rfl
 |c::e::cs,d,b,s=>by
  have ih:=Z4b (e::cs) d (b+(c (b+1)).length+2) (s+(c (b+1)).length+2)
  rw[List.cons_append]at ih
  rw[List.cons_append,List.cons_append,goes,ih]
  rfl
theorem Z41(g:List V):∀(cs:List Cd) (c:Cd) (b m:Nat),m=b+(Vg g cs b).length->Vg g (cs++[c]) b=Vg g cs b++(.tup [.str "try",.int ((m:Int)+(c (m+1)).length+2)]::(c (m+1)++[.tup g]))
 | [],c,b,m,h=>by rw[show m=b from h];rfl
 |d::cs,c,b,m,h=>by
  have ih:=Z41 g cs c (b+(d (b+1)).length+2) m (by rw[h];simp only[Vg,List.length_cons,List.length_append];omega)
  rw[List.cons_append,Vg,ih,Vg]
  simp
theorem Z40:∀(cs:List Cd) (c:Cd) (b s m:Nat),m=b+(Vg [] cs b).length->Z0s (cs++[c]) b s=Z0s cs b s++[s+(Vg [] cs b).length+1+(c (m+1)).length]
 | [],c,b,s,m,h=>by rw[show m=b from h];simp[Z0s,Vg]
 |d::cs,c,b,s,m,h=>by
  have ih:=Z40 cs c (b+(d (b+1)).length+2) (s+(d (b+1)).length+2) m (by rw[h];simp only[Vg,List.length_cons,List.length_append];omega)
  rw[List.cons_append,Z0s,ih,Z0s]
  simp only[List.cons_append,Vg,List.length_cons,List.length_append]
  rw[show s+(d (b+1)).length+2+(Vg [] cs (b+(d (b+1)).length+2)).length+1+(c (m+1)).length=s+((d (b+1)).length+((Vg [] cs (b+(d (b+1)).length+2)).length+1)+1)+1+(c (m+1)).length by omega]
theorem Z0x:∀(ks:List Pat) (b:Nat),(Vg [] (ks.map Pat.code) b).length<=7*Ya ks
 | [],b=>by simp[Vg,Ya]
 |k::ks,b=>by
  have h1:=Pat.code_fits k (b+1)
  have h2:=Z0x ks (b+(k.code (b+1)).length+2)
  simp only[List.map_cons,Vg,List.length_cons,List.length_append]at h2 ⊢
  rw[Ya]
  omega
theorem Zcz(cs:List Cd)(b:Nat):∀p∈goes cs b 0,p<(Xl [] cs b).length:=fun p h=>by have:=Z9z cs b 0 p h;omega
abbrev Z01:List V:=[.str "sign",.str "any",.str "in",.str "out",.str "begin",.str "end",.str "again"]
abbrev Vp:List V:=[.str "behind",.str "notbehind"]
abbrev Vz:List (Ti×V):=[(.inr "once",.str "kept"),(.inr "ahead",.str "peeked"),(.inr "behind",.str "peeked"),(.inr "notahead",.str "barred"),(.inr "notbehind",.str "barred")]
def Wd.leaf:Wd->Bool
 |.sign=>true | .any=>true | .inn=>true | .out=>true | .beg=>true | .fin=>true | .again=>true | _=>false
theorem Zbr(h:Hd):Zgm (.str h.word) Z01=h.wd.leaf:=by rw[h.word_wd];cases h.wd <;> decide +kernel
theorem Z9s(l:Lk):Zgm (.str l.text) Vp=l.leans:=by cases l <;> decide +kernel
theorem Z9t(l:Lk):Z3p Vz (Sum.inr l.text)=some (.str l.last):=by cases l <;> decide +kernel
theorem Zb8{h:Hd}(e:h.wd.leaf=true)(cs:List Cd)(b:Nat):h.code cs b=[.pat h]:=by
 cases h with
 |look l=>cases l <;> exact absurd e (by decide)
 |row=>exact absurd e (by decide)
 |alt=>exact absurd e (by decide)
 |times _ _ _=>exact absurd e (by simp[Hd.wd,Wd.leaf])
 |grp _=>exact absurd e (by simp[Hd.wd,Wd.leaf])
 |hav _=>exact absurd e (by simp[Hd.wd,Wd.leaf])
 |_=>rfl
theorem PatAt.leafy{H:Hp}{n:Nat}{v:V}{h:Hd}{ks:List Pat}(p:PatAt H (n+1) v (.node h ks))(e:h.wd.leaf=true):PatAt H 1 v (.node h []):=by
 obtain⟨a,kv,rfl,l,k⟩:=p
 have z:kv=[]:=by
  cases h with
  |look lk=>cases lk <;> exact absurd e (by decide)
  |row=>exact absurd e (by decide)
  |alt=>exact absurd e (by decide)
  |times _ _ _=>exact absurd e (by simp[Hd.wd,Wd.leaf])
  |grp _=>exact absurd e (by simp[Hd.wd,Wd.leaf])
  |hav _=>exact absurd e (by simp[Hd.wd,Wd.leaf])
  |again n=>exact l.2.1
  |_=>exact l.1
 subst z
 exact⟨a,[],rfl,l,.nil⟩
theorem Z5z{n:Nat}(h:n<=1000000):n<sizeLine:=Nat.lt_of_le_of_lt h (by rw[sizeLine_eq];decide)
theorem Tb{n j:Nat}(h:j<n):Zgl n (j:Int)=some j:=by
 unfold Zgl
 rw[if_pos (by omega),if_pos (by omega)]
 simp
theorem W6{H:Hp}{r t:Addr}{xs:List V}{o:HO}(hr:H r=some (.lst xs))(ht:H t=none):(Zq H t o) r=some (.lst xs):=by rw[Zi (Z7 hr ht)];exact hr
theorem Vf{H:Hp}{r t:Addr}{xs zs:List V}{o:HO}(hr:H r=some (.lst xs))(ht:H t=none):Gro [r] H (Zq (Zq H t o) r (.lst zs)):=(Gro.new ht _).trans (Gro.set (by simp) (W6 hr ht) _)
theorem Ve{H:Hp}{r t:Addr}{xs ys zs:List V}(hr:H r=some (.lst xs))(ht:H t=none):(Zq (Zq H t (.tup ys)) r (.lst zs)) t=some (.tup ys):=by rw[Zi (Ne.symm (Z7 hr ht))];exact Z2
theorem Z35{a b:List V}{x y:V}{p:Nat}(h:p=a.length):(a++x::b).set p y=a++y::b:=by subst h;simp
theorem Zd2{kv:List V}(h:1<=kv.length):Jv kv none (some (-1))=kv.take (kv.length-1)/\¬(HT.sIx kv.length 0 none=0/\HT.sIx kv.length kv.length (some (-1))=kv.length):=by
 have e0:HT.sIx kv.length 0 none=0:=rfl
 have e1:HT.sIx kv.length kv.length (some (-1))=kv.length-1:=by
  unfold HT.sIx
  simp
  omega
 refine⟨?_,fun z=>?_⟩
 ·unfold Jv
  rw[e0,e1]
  simp
 ·rw[e1]at z
  omega
theorem Zge{kv:List V}{d:V}(h:kv.getLast? = some d):Z3o kv (-1)=some d:=by
 have hl:kv≠[]:=fun z=>by rw[z]at h;simp at h
 have hp:=List.length_pos_iff.mpr hl
 unfold Z3o Zgl
 rw[if_neg (by decide),if_pos (by omega)]
 rw[List.getLast?_eq_getElem?]at h
 show kv[((-1:Int)+kv.length).toNat]? = some d
 rw[show((-1:Int)+kv.length).toNat=kv.length-1 by omega]
 exact h
def Z4w(t:Str)(i:Nat):Str:=⟨#[t.cps.toList.getD i 0]⟩
def Yq(rs:List (Str×Str))(c:Str):Bool:=rs.any fun r=>!decide (c.cps.toList<r.1.cps.toList) && !decide (r.2.cps.toList<c.cps.toList)
def Hd.one:Hd->Bool
 |.sign _=>true | .any=>true | .inn _=>true | .out _=>true | _=>false
def Hd.eats(h:Hd)(c:Str):Bool:=match h with
 |.sign s=>decide (V.str s=V.str c) | .any=>true | .inn rs=>Yq rs c | .out rs=>!Yq rs c | _=>false
def W7(h:Hd)(t:Str)(i:Int):Bool:=if i<t.length then h.eats (Z4w t i.toNat) else false
theorem Z5x{t:Str}{i:Int}(h0:0<=i)(h1:i<t.length):Z3o t.cps.toList i=some (t.cps.toList.getD i.toNat 0):=by
 have hl:i.toNat<t.cps.toList.length:=by
  have:t.cps.toList.length=t.length:=by simp[Str.length]
  omega
 have:=Ue (xs:=t.cps.toList) (j:=i.toNat) (v:=t.cps.toList.getD i.toNat 0) (by rw[List.getD_eq_getElem?_getD,List.getElem?_eq_getElem hl];rfl)
 rw[Int.toNat_of_nonneg h0]at this
 exact this
abbrev En:=Option (Nat×Nat)
abbrev Gs:=List En
abbrev Hl:=List (Nat×Nat)
abbrev Ch:=Nat×Nat×Gs×Hl
abbrev Yd:=Nat×Gs
inductive Op where
 |pat (h:Hd) | try_ (z:Nat) | go (z:Nat) | have_ (k:Int) (z:Nat) | turns | open_ | close (k:Int) | turn (lo:Int) (hi:Option Int) (how:How) (z:Nat) | next (lo:Int) (z:Nat)
 |once | kept | peeked | bar (z:Nat) | barred | lean | here | found
def Op.rw:Op->Rw
 |.pat h=>.pat h
 |.try_ z=>.tup [.str "try",.int z]
 |.go z=>.tup [.str "go",.int z]
 |.have_ k z=>.tup [.str "have",.int k,.int z]
 |.turns=>.tup [.str "turns"]
 |.open_=>.tup [.str "open"]
 |.close k=>.tup [.str "close",.int k]
 |.turn lo hi how z=>.tup [.str "turn",.int lo,Z5i hi,.str how.text,.int z]
 |.next lo z=>.tup [.str "next",.int lo,.int z]
 |.once=>.tup [.str "once"]
 |.kept=>.tup [.str "kept"]
 |.peeked=>.tup [.str "peeked"]
 |.bar z=>.tup [.str "bar",.int z]
 |.barred=>.tup [.str "barred"]
 |.lean=>.tup [.str "lean"]
 |.here=>.tup [.str "here"]
 |.found=>.tup [.str "found"]
structure Cg where
 r:Nat
 i:Nat
 g:Gs
 h:Hl
 cs:List Ch
inductive Cf where
 |run (c:Cg) | ended
def bk(cs:List Ch):Cf:=match cs.getLast? with
 |none=>.ended
 |some q=>.run ⟨q.1,q.2.1,q.2.2.1,q.2.2.2,cs.dropLast⟩
theorem Td(cs:List Ch)(q:Ch):bk (cs++[q])=.run ⟨q.1,q.2.1,q.2.2.1,q.2.2.2,cs⟩:=by
 unfold bk
 rw[List.getLast?_append,List.dropLast_concat]
 rfl
def ent(g:Gs)(k:Int):En:=(g.getD (k-1).toNat none)
def put(g:Gs)(k:Int)(a b:Nat):Gs:=g.take (k-1).toNat++[some (a,b)]++g.drop k.toNat
def Ua(hi:Option Int)(n:Nat):Bool:=match hi with
 |none=>true
 |some h=>decide ((n:Int)<h)
def Op.act(t:Str):Op->Cg->Cf
 |.pat .beg,c=>if c.i=0 then .run c else bk c.cs
 |.pat .fin,c=>if c.i=t.length then .run c else bk c.cs
 |.pat (.again k),c=>match ent c.g k with
  |none=>bk c.cs
  |some p=>if sub t c.i (c.i+(p.2-p.1))=sub t p.1 p.2 then .run { c with i:=c.i+(p.2-p.1) } else bk c.cs
 |.pat h,c=>if W7 h t c.i=true then .run { c with i:=c.i+1 } else bk c.cs
 |.try_ z,c=>.run { c with cs:=c.cs++[(z,c.i,c.g,c.h)] }
 |.go z,c=>.run { c with r:=z }
 |.have_ k z,c=>match ent c.g k with
  |none=>.run { c with r:=z }
  |some _=>.run c
 |.turns,c=>.run { c with h:=(0,c.i)::c.h }
 |.open_,c=>.run { c with h:=(0,c.i)::c.h }
 |.close k,c=>match c.h with
  | []=>.ended
  |p::h=>.run { c with h:=h,g:=put c.g k p.2 c.i }
 |.turn lo hi how z,c=>match c.h with
  | []=>.ended
  |p::h=>if Ua hi p.1=true then
    (if lo<=p.1 then(match how with
     |.little=>.run ⟨z,c.i,c.g,h,c.cs++[(c.r,c.i,c.g,(p.1,c.i)::h)]⟩
     |_=>.run ⟨c.r,c.i,c.g,(p.1,c.i)::h,c.cs++[(z,c.i,c.g,h)]⟩)
    else .run ⟨c.r,c.i,c.g,(p.1,c.i)::h,c.cs⟩)
   else if lo<=p.1 then .run ⟨z,c.i,c.g,h,c.cs⟩ else bk c.cs
 |.next lo z,c=>match c.h with
  | []=>.ended
  |p::h=>if lo<=p.1/\c.i=p.2 then bk c.cs else .run ⟨z,c.i,c.g,(p.1+1,p.2)::h,c.cs⟩
 |.once,c=>.run { c with h:=(c.cs.length,c.i)::c.h }
 |.kept,c=>match c.h with
  | []=>.ended
  |p::h=>.run { c with h:=h,cs:=c.cs.take p.1 }
 |.peeked,c=>match c.h with
  | []=>.ended
  |p::h=>.run { c with i:=p.2,h:=h,cs:=c.cs.take p.1 }
 |.bar z,c=>.run { c with h:=(c.cs.length,c.i)::c.h,cs:=c.cs++[(z,c.i,c.g,c.h)] }
 |.barred,c=>match c.h with
  | []=>.ended
  |p::_=>bk (c.cs.take p.1)
 |.lean,c=>if 0<c.i then .run { c with cs:=c.cs++[(c.r-1,c.i-1,c.g,c.h)] } else .run c
 |.here,c=>match c.h with
  | []=>.ended
  |p::_=>if c.i=p.2 then .run c else bk c.cs
 |.found,c=>.run c
def Op.need(n:Nat)(c:Cg):Op->Prop
 |.close k=>(1<=k/\k<=n)/\c.h≠[]
 |.turn _ _ _ _=>c.h≠[]
 |.next _ _=>c.h≠[]
 |.kept=>c.h≠[]
 |.peeked=>c.h≠[]
 |.barred=>c.h≠[]
 |.here=>c.h≠[]
 |.pat (.again k)=>1<=k/\k<=n
 |.have_ k _=>1<=k/\k<=n
 |.found=>False
 |_=>True
structure GOk(t:Str)(n:Nat)(g:Gs):Prop where
 len:g.length=n
 ok:∀x y,some (x,y)∈g->x<=y/\y<=t.length
structure Lv(es:List Op)(t:Str)(n:Nat)(c:Cg):Prop where
 r:c.r<es.length
 i:c.i<=t.length
 g:GOk t n c.g
 op:(es.getD c.r .found).need n c
def step(es:List Op)(t:Str):Cf->Cf
 |.ended=>.ended
 |.run c=>(es.getD c.r .found).act t { c with r:=c.r+1 }
def run(es:List Op)(t:Str):Nat->Cf->Cf
 |0,M=>M
 |k+1,M=>step es t (run es t k M)
theorem Z0j(es:List Op)(t:Str)(a:Nat):∀(b:Nat) (M:Cf),run es t (a+b) M=run es t b (run es t a M)
 |0,M=>rfl
 |b+1,M=>by
  show step es t (run es t (a+b) M)=step es t (run es t b (run es t a M))
  rw[Z0j es t a b M]
structure Rc(es:List Op)(t:Str)(n:Nat)(M:Cf)(k:Nat)(M':Cf):Prop where
 live:∀j,j<k->∃c,run es t j M=.run c/\Lv es t n c
 eq:run es t k M=M'
section
variable{es:List Op}{t:Str}{n:Nat}
theorem Rc.refl{M:Cf}:Rc es t n M 0 M:=⟨fun j h=>absurd h (by omega),rfl⟩
theorem Rc.trans{M M1 M2:Cf}{a b:Nat}(h1:Rc es t n M a M1)(h2:Rc es t n M1 b M2):Rc es t n M (a+b) M2:=by
 refine⟨fun j hj=>?_,by rw[Z0j,h1.eq,h2.eq]⟩
 by_cases h:j<a
 ·exact h1.live j h
 ·have:=h2.live (j-a) (by omega)
  rw[← h1.eq,← Z0j,show a+(j-a)=j by omega]at this
  exact this
theorem Rc.one{c:Cg}{M:Cf}{o:Op}(ho:es[c.r]? = some o)(hi:c.i<=t.length)(hg:GOk t n c.g)(hn:o.need n c)(e:o.act t { c with r:=c.r+1 }=M):Rc es t n (.run c) 1 M:=by
 have hd:es.getD c.r .found=o:=by rw[List.getD_eq_getElem?_getD,ho];rfl
 refine⟨fun j hj=>?_,?_⟩
 ·rw[show j=0 by omega]
  exact⟨c,rfl,(List.getElem?_eq_some_iff.mp ho).1,hi,hg,by rw[hd];exact hn⟩
 ·show(es.getD c.r .found).act t _=M
  rw[hd]
  exact e
inductive Yl(es:List Op)(t:Str)(n:Nat)(e:Nat)(h:Hl)(cs:List Ch):Cf->List Yd->Nat->Prop where
 |nil {M:Cf} {j k:Nat} (r:Rc es t n M j (bk cs)) (hk:j<=k):Yl es t n e h cs M [] k
 |cons {M:Cf} {j k k':Nat} {w:Yd} {ws:List Yd} {xs:List Ch} (r:Rc es t n M j (.run ⟨e,w.1,w.2,h,cs++xs⟩)) (y:Yl es t n e h cs (bk (cs++xs)) ws k') (hk:j+k'<=k):Yl es t n e h cs M (w::ws) k
variable{e:Nat}{h:Hl}{cs:List Ch}
theorem Yl.mono{M:Cf}{ws:List Yd}{k k':Nat}(y:Yl es t n e h cs M ws k)(hk:k<=k'):Yl es t n e h cs M ws k':=by
 cases y with
 |nil r h1=>exact .nil r (by omega)
 |cons r y h1=>exact .cons r y (by omega)
theorem Yl.pre{M M':Cf}{ws:List Yd}{j k:Nat}(r:Rc es t n M j M')(y:Yl es t n e h cs M' ws k):Yl es t n e h cs M ws (j+k):=by
 cases y with
 |nil r' h1=>exact .nil (r.trans r') (by omega)
 |cons r' y h1=>exact .cons (r.trans r') y (by omega)
theorem Yl.one{w:Yd}{xs:List Ch}(hx:xs=[]):Yl es t n e h cs (.run ⟨e,w.1,w.2,h,cs++xs⟩) [w] 0:=by
 subst hx
 refine .cons (xs:=[]) (j:=0) (k':=0) Rc.refl (.nil (j:=0) ?_ (Nat.le_refl _)) (Nat.le_refl _)
 rw[List.append_nil]
 exact Rc.refl
theorem Yl.app{M:Cf}{xs:List Ch}{ws1 ws2:List Yd}{k1 k2:Nat}(y1:Yl es t n e h (cs++xs) M ws1 k1)(y2:Yl es t n e h cs (bk (cs++xs)) ws2 k2):Yl es t n e h cs M (ws1++ws2) (k1+k2):=by
 induction y1 with
 |nil r hk=>exact(y2.pre r).mono (by omega)
 |cons r y hk ih =>
  rename_i M j k k' w ws xs'
  rw[List.append_assoc]at r ih
  have r':Rc es t n M j (.run ⟨e,w.1,w.2,h,cs++(xs++xs')⟩):=r
  have ih':Yl es t n e h cs (bk (cs++(xs++xs'))) (ws++ws2) (k'+k2):=ih
  exact .cons r' ih' (by omega)
theorem Yl.map1{M:Cf}{ws:List Yd}{k e2:Nat}{h2:Hl}{f:Yd->Yd}(y:Yl es t n e h cs M ws k)(hf:∀w∈ws,∀xs,Rc es t n (.run ⟨e,w.1,w.2,h,cs++xs⟩) 1 (.run ⟨e2,(f w).1,(f w).2,h2,cs++xs⟩)) :
  Yl es t n e2 h2 cs M (ws.map f) (k+ws.length):=by
 induction y with
 |nil r hk=>exact .nil r (by simp;omega)
 |cons r y hk ih =>
  rename_i M j k k' w ws xs
  rw[List.map_cons,List.length_cons]
  have ih':=ih fun v hv=>hf v (by simp[hv])
  exact .cons (r.trans (hf w (by simp) xs)) ih' (by omega)
end
def Hd.nm(n:Int):Hd->Prop
 |.grp k=>1<=k/\k<=n | .again k=>1<=k/\k<=n | .hav k=>1<=k/\k<=n | _=>True
mutual
def Pat.nm(n:Int):Pat->Prop
 |.node h ks=>h.nm n/\Zjj n ks
def Zjj(n:Int):List Pat->Prop
 | []=>True
 |k::ks=>k.nm n/\Zjj n ks
end
theorem Z9q{n:Int}:∀ {ks:List Pat},Zjj n ks↔∀k∈ks,k.nm n
 | []=>by simp[Zjj]
 |k::ks=>by rw[Zjj,Z9q (ks:=ks)];simp
theorem nm_node{n:Int}{h:Hd}{ks:List Pat}:(Pat.node h ks).nm n↔h.nm n/\∀k∈ks,k.nm n:=by rw[Pat.nm,Z9q]
abbrev Co:=Nat->List Op
def Z39:List Co->Co
 | [],_=>[]
 |c::cs,b=>c b++Z39 cs (b+(c b).length)
def Tf(e:Nat):List Co->Co
 | [],_=>[]
 | [c],b=>c b
 |c::d::cs,b=>.try_ (b+(c (b+1)).length+2)::(c (b+1)++.go e::Tf e (d::cs) (b+(c (b+1)).length+2))
def U9(lo:Int)(hi:Option Int)(how:How)(c:Co):Co:=fun b=>.turns::.turn lo hi how (b+3+(c (b+2)).length)::(c (b+2)++[.next lo (b+1)])
def Zh8(lo:Int)(hi:Option Int)(how:How)(c:Co):Co:=match how with
 |.keep=>fun b=>.once::(U9 lo hi .much c (b+1)++[.kept])
 |h=>U9 lo hi h c
def Z5j(k:Int)(y n:Co):Co:=fun b=>.have_ k (b+(y (b+1)).length+2)::(y (b+1)++.go (b+(y (b+1)).length+2+(n (b+(y (b+1)).length+2)).length)::n (b+(y (b+1)).length+2))
def Z8j(l:Lk)(c:Co):Co:=fun b=>match l.leans with
 |true=>.lean::(c (b+2)++[.here])
 |false=>c (b+1)
def Lk.lastO:Lk->Op
 |.once=>.kept | .ahead=>.peeked | .behind=>.peeked | .notahead=>.barred | .notbehind=>.barred
def Lk.bars:Lk->Bool
 |.notahead=>true | .notbehind=>true | _=>false
def Ui(l:Lk)(c:Co):Co:=fun b=>(if l.bars=true then .bar (b+2+(Z8j l c b).length) else .once)::(Z8j l c b++[l.lastO])
def Z91(cs:List Co):Co:=cs.headD fun _=>[]
def Zmu(cs:List Co):Co:=fun b=>Tf (b+(Tf 0 cs b).length) cs b
def Hd.ops(h:Hd)(cs:List Co):Co:=match h with
 |.row=>Z39 cs
 |.alt=>Zmu cs
 |.times lo hi how=>Zh8 lo hi how (Z91 cs)
 |.grp k=>fun b=>.open_::(Z91 cs (b+1)++[.close k])
 |.hav k=>Z5j k (Z91 cs) (Z91 cs.tail)
 |.look l=>Ui l (Z91 cs)
 |h=>fun _=>[.pat h]
mutual
def Pat.ops:Pat->Co
 |.node h ks=>h.ops (Zgr ks)
def Zgr:List Pat->List Co
 | []=>[]
 |k::ks=>k.ops::Zgr ks
end
theorem Zc7(ks:List Pat):Zgr ks=ks.map Pat.ops:=by
 induction ks with
 |nil=>rfl
 |cons k ks ih=>rw[Zgr,ih];rfl
theorem Ty(h:Hd)(ks:List Pat):(Pat.node h ks).ops=h.ops (ks.map Pat.ops):=by rw[Pat.ops,Zc7]
def Same2(c:Co)(c':Cd):Prop:=∀b,(c b).map Op.rw=c' b
theorem Same2.len{c:Co}{c':Cd}(h:Same2 c c')(b:Nat):(c' b).length=(c b).length:=by rw[← h b,List.length_map]
theorem Z7d(e e':Nat):∀(cs:List Co) (b:Nat),(Tf e cs b).length=(Tf e' cs b).length
 | [],_=>rfl
 | [_],_=>rfl
 |c::d::cs,b=>by
  have:=Z7d e e' (d::cs) (b+(c (b+1)).length+2)
  simp only[Tf,List.length_cons,List.length_append]at this ⊢
  omega
section
variable{ks:List Pat}(ih:∀k∈ks,Same2 k.ops k.code)
include ih
theorem Zby:Same2 (Z39 (ks.map Pat.ops)) (Jt (ks.map Pat.code)):=by
 induction ks with
 |nil=>intro b;rfl
 |cons k ks hk =>
  intro b
  have h1:=ih k (by simp)
  have h2:=hk (fun x hx=>ih x (by simp[hx])) (b+(k.ops b).length)
  simp only[List.map_cons,Z39,Jt,List.map_append]
  rw[h1.len b,h2,h1 b]
theorem Z6j(e:Nat):∀b,(Tf e (ks.map Pat.ops) b).map Op.rw=Xl (Zjk (e:Int)) (ks.map Pat.code) b:=by
 induction ks with
 |nil=>intro b;rfl
 |cons k ks hk =>
  intro b
  have h1:=ih k (by simp)
  cases ks with
  |nil=>exact h1 b
  |cons l ks =>
   have h2:=hk (fun x hx=>ih x (by simp at hx;simp[hx])) (b+(k.ops (b+1)).length+2)
   simp only[List.map_cons]at h2
   simp only[List.map_cons,Tf,Xl,List.map_append]
   rw[h1.len (b+1),h2,h1 (b+1)]
   simp only[Op.rw,Zjk]
   congr 1
theorem Zf6:Same2 (Zmu (ks.map Pat.ops)) (Zjh (ks.map Pat.code)):=by
 intro b
 have hl:(Xl [] (ks.map Pat.code) b).length=(Tf 0 (ks.map Pat.ops) b).length:=by
  have:=congrArg List.length (Z6j ih 0 b)
  rw[List.length_map,Z31]at this
  exact this.symm
 unfold Zmu Zjh
 rw[Z6j ih,hl]
 congr 2
theorem Z98:Same2 (Z91 (ks.map Pat.ops)) (Zel (ks.map Pat.code)):=by
 cases ks with
 |nil=>intro b;rfl
 |cons k ks=>exact ih k (by simp)
end
theorem Z0v{lo:Int}{hi:Option Int}{how:How}{c:Co}{c':Cd}(h:Same2 c c'):Same2 (U9 lo hi how c) (Z1q lo hi how.text c'):=by
 intro b
 simp only[U9,Z1q,List.map_cons,List.map_append,List.map_nil,Op.rw]
 rw[h.len (b+2),h (b+2)]
 congr 2
theorem Zas{l:Lk}{c:Co}{c':Cd}(h:Same2 c c'):Same2 (Ui l c) (Tn l c'):=by
 intro b
 have hin:(Z8j l c b).map Op.rw=l.inner c' b:=by
  unfold Z8j Lk.inner
  cases l.leans
  ·exact h _
  ·simp only[List.map_cons,List.map_append,List.map_nil,Op.rw];rw[h]
 have hil:(l.inner c' b).length=(Z8j l c b).length:=by rw[← hin,List.length_map]
 unfold Ui Tn
 rw[List.map_cons,List.map_append,hin,hil]
 cases l <;> simp[Lk.bars,Lk.last,Lk.lastO,Op.rw] <;> first | rfl | omega | skip
mutual
theorem Pat.ops_rw:∀p:Pat,Same2 p.ops p.code
 |.node h ks=>by
  have ih:=Z9j ks
  rw[Ty,Z13]
  have hh:=Z98 ih
  cases h with
  |row=>exact Zby ih
  |alt=>exact Zf6 ih
  |times lo hi how =>
   cases how with
   |keep =>
    intro b
    have:=Z0v (lo:=lo) (hi:=hi) (how:=.much) hh (b+1)
    show(Op.once::(U9 lo hi .much _ (b+1)++[.kept])).map Op.rw=_
    rw[List.map_cons,List.map_append,this]
    rfl
   |much=>exact Z0v hh
   |little=>exact Z0v hh
  |grp k =>
   intro b
   show(Op.open_::(Z91 _ (b+1)++[.close k])).map Op.rw=_
   rw[List.map_cons,List.map_append,hh (b+1)]
   rfl
  |hav k =>
   intro b
   have ht:Same2 (Z91 (ks.map Pat.ops).tail) (Zel (ks.map Pat.code).tail):=by
    cases ks with
    |nil=>intro b;rfl
    |cons y r=>exact Z98 fun z hz=>ih z (by simp[hz])
   show(Z5j k _ _ b).map Op.rw=Zab k _ _ b
   simp only[Z5j,Zab,List.map_cons,List.map_append,Op.rw]
   rw[hh.len (b+1),ht.len,hh (b+1),ht]
   congr 1
  |look l=>exact Zas hh
  |_=>intro b;rfl
theorem Z9j:∀ks:List Pat,∀k∈ks,Same2 k.ops k.code
 | [],_,hk=>by simp at hk
 |k::ks,x,hx=>by
  rcases List.mem_cons.mp hx with h | h
  ·rw[h]
   exact Pat.ops_rw k
  ·exact Z9j ks x h
end
def Sits(es:List Op)(b:Nat)(l:List Op):Prop:=∃r,es.drop b=l++r
theorem Sits.cons{es:List Op}{b:Nat}{x:Op}{l:List Op}(h:Sits es b (x::l)):es[b]? = some x/\Sits es (b+1) l:=by
 obtain⟨r,e⟩:=h
 refine⟨?_,r,?_⟩
 ·have:(es.drop b)[0]? = some x:=by rw[e];rfl
  rw[List.getElem?_drop]at this
  exact this
 ·rw[← List.drop_drop,e]
  rfl
theorem Sits.app{es:List Op}{b:Nat}{l l':List Op}(h:Sits es b (l++l')):Sits es b l/\Sits es (b+l.length) l':=by
 obtain⟨r,e⟩:=h
 refine⟨⟨l'++r,by rw[e,List.append_assoc]⟩,r,?_⟩
 rw[← List.drop_drop,e,List.append_assoc,List.drop_left']
 rfl
abbrev Wk:=Pat->Nat->Gs->List Yd->Nat->Prop
inductive Ew(W:Wk)(p:Pat):List Yd->List Yd->Nat->Prop where
 |nil:Ew W p [] [] 0
 |cons {w:Yd} {vs us ws:List Yd} {N N':Nat} (h:W p w.1 w.2 ws N) (r:Ew W p vs us N'):Ew W p (w::vs) (ws++us) (N+N')
inductive Rx(W:Wk):List Pat->List Yd->List Yd->Nat->Prop where
 |nil {ws:List Yd}:Rx W [] ws ws 0
 |cons {p:Pat} {ks:List Pat} {ws vs us:List Yd} {N N':Nat} (h:Ew W p ws vs N) (r:Rx W ks vs us N'):Rx W (p::ks) ws us (N+N')
inductive Ax(W:Wk)(i:Nat)(g:Gs):List Pat->List Yd->Nat->Prop where
 |nil:Ax W i g [] [] 0
 |cons {p:Pat} {ks:List Pat} {ws us:List Yd} {N N':Nat} (h:W p i g ws N) (r:Ax W i g ks us N'):Ax W i g (p::ks) (ws++us) (N+N')
inductive Lx(T:Nat->Nat->Gs->List Yd->Nat->Prop)(lo:Int)(m i:Nat):List Yd->List Yd->Nat->Prop where
 |nil:Lx T lo m i [] [] 0
 |go {w:Yd} {vs us ws:List Yd} {N N':Nat} (c:(m:Int)<lo∨i<w.1) (h:T (m+1) w.1 w.2 ws N) (r:Lx T lo m i vs us N'):Lx T lo m i (w::vs) (ws++us) (N+N')
 |skip {w:Yd} {vs us:List Yd} {N:Nat} (c:¬((m:Int)<lo∨i<w.1)) (r:Lx T lo m i vs us N):Lx T lo m i (w::vs) us N
def Tx(W:Wk)(lo:Int)(hi:Option Int)(how:How)(p:Pat):Nat->Nat->Nat->Gs->List Yd->Nat->Prop
 |0=>fun _ _ _ _ _=>False
 |e+1=>fun m i g ws N=>∃on N1,((Ua hi m=true/\∃vs Na Nb,W p i g vs Na/\Lx (Tx W lo hi how p e) lo m i vs on Nb/\N1=Na+Nb)∨(Ua hi m=false/\on=[]/\N1=0))/\N=N1+1 /\
  ws=if(m:Int)<lo then on else if how=.little then(i,g)::on else on++[(i,g)]
inductive Bx(W:Wk)(p:Pat)(i:Nat)(g:Gs):Nat->List Yd->Nat->Prop where
 |here {k:Nat} {vs:List Yd} {N:Nat} (h:W p k g vs N) (c:vs.filter (fun w=>w.1==i)≠[]):Bx W p i g k (vs.filter fun w=>w.1==i) N
 |down {k:Nat} {vs ws:List Yd} {N N':Nat} (h:W p (k+1) g vs N) (c:vs.filter (fun w=>w.1==i)=[]) (r:Bx W p i g k ws N'):Bx W p i g (k+1) ws (N+N')
 |last {vs:List Yd} {N:Nat} (h:W p 0 g vs N) (c:vs.filter (fun w=>w.1==i)=[]):Bx W p i g 0 [] N
def Zk3(t:Str)(i:Nat)(g:Gs)(k:Int):List Yd:=match ent g k with
 |none=>[]
 |some p=>if sub t i (i+(p.2-p.1))=sub t p.1 p.2 then[(i+(p.2-p.1),g)] else[]
def Z7k(l:Lk)(i:Nat)(g:Gs)(us:List Yd):List Yd:=match l with
 |.once=>us.take 1
 |.ahead=>(us.take 1).map fun w=>(i,w.2)
 |.behind=>(us.take 1).map fun w=>(i,w.2)
 |_=>if us.isEmpty=true then[(i,g)] else[]
def Wy(t:Str):Nat->Wk
 |0=>fun _ _ _ _ _=>False
 |d+1=>fun p i g ws N=>match p with
  |.node .beg _=>ws=(if i=0 then[(i,g)] else[])/\N=1
  |.node .fin _=>ws=(if i=t.length then[(i,g)] else[])/\N=1
  |.node (.again k) _=>ws=Zk3 t i g k/\N=1
  |.node .row ks=>∃N',Rx (Wy t d) ks [(i,g)] ws N'/\N=N'+1
  |.node .alt ks=>ks≠[]/\∃N',Ax (Wy t d) i g ks ws N'/\N=N'+1
  |.node (.times lo hi how) ks=>∃p e us N',ks=[p]/\Tx (Wy t d) lo hi how p e 0 i g us N'/\N=N'+1/\ws=if how=.keep then us.take 1 else us
  |.node (.grp k) ks=>∃p us N',ks=[p]/\Wy t d p i g us N'/\N=N'+1/\ws=us.map fun w=>(w.1,put w.2 k i w.1)
  |.node (.hav k) ks=>∃p q N',ks=[p,q]/\Wy t d (if(ent g k).isSome=true then p else q) i g ws N'/\N=N'+1
  |.node (.look l) ks=>∃p us N',ks=[p]/\(if l.leans=true then Bx (Wy t d) p i g i us N' else Wy t d p i g us N')/\N=N'+1/\ws=Z7k l i g us
  |.node h _=>ws=(if W7 h t i=true then[(i+1,g)] else[])/\N=1
structure Gd(t:Str)(n i:Nat)(w:Yd):Prop where
 lo:i<=w.1
 hi:w.1<=t.length
 g:GOk t n w.2
structure Gw(t:Str)(n i:Nat)(ws:List Yd)(N:Nat):Prop where
 all:∀w∈ws,Gd t n i w
 len:ws.length<=N
 pos:1<=N
def GW(t:Str)(n:Nat)(W:Wk):Prop:=∀p i g ws N,p.nm n->i<=t.length->GOk t n g->W p i g ws N->Gw t n i ws N
theorem Gd.trans{t:Str}{n i j:Nat}{w:Yd}(h:Gd t n j w)(hi:i<=j):Gd t n i w:=⟨Nat.le_trans hi h.lo,h.hi,h.g⟩
theorem Zdj{t:Str}{n a b:Nat}{g:Gs}{k:Int}(h:GOk t n g)(h1:1<=k)(h2:k<=n)(ab:a<=b)(hb:b<=t.length):GOk t n (put g k a b):=by
 have hl:=h.len
 refine⟨?_,fun x y hm=>?_⟩
 ·unfold put
  simp only[List.length_append,List.length_take,List.length_drop,List.length_singleton]
  omega
 ·unfold put at hm
  rcases List.mem_append.mp hm with hm | hm
  ·rcases List.mem_append.mp hm with hm | hm
   ·exact h.ok x y (List.mem_of_mem_take hm)
   ·have:=List.mem_singleton.mp hm
    injection this with this
    injection this with e1 e2
    subst e1 e2
    exact⟨ab,hb⟩
  ·exact h.ok x y (List.mem_of_mem_drop hm)
theorem Z8y{t:Str}{n:Nat}{g:Gs}{k:Int}{p:Nat×Nat}(h:GOk t n g)(e:ent g k=some p):p.1<=p.2/\p.2<=t.length:=by
 unfold ent at e
 rw[List.getD_eq_getElem?_getD]at e
 cases hh:g[(k-1).toNat]? with
 |none=>rw[hh]at e;cases e
 |some x =>
  rw[hh]at e
  have:x=some p:=e
  subst this
  exact h.ok p.1 p.2 (List.mem_of_getElem? hh)
section
variable{t:Str}{n:Nat}{W:Wk}(gw:GW t n W)
include gw
theorem Ew.good{p:Pat}{i:Nat}{vs ws:List Yd}{N:Nat}(hp:p.nm n)(h:Ew W p vs ws N)(hv:∀w∈vs,Gd t n i w):(∀w∈ws,Gd t n i w)/\ws.length<=N/\vs.length<=N:=by
 induction h with
 |nil=>exact⟨fun w hw=>by simp at hw,by simp,by simp⟩
 |cons h r ih =>
  rename_i w vs us ws N N'
  have a:=hv w (by simp)
  have b:=gw p w.1 w.2 ws N hp a.hi a.g h
  obtain⟨c1,c2,c3⟩:=ih fun x hx=>hv x (by simp[hx])
  refine⟨fun x hx=>?_,by rw[List.length_append];have:=b.len;omega,by rw[List.length_cons];have:=b.pos;omega⟩
  rcases List.mem_append.mp hx with hx | hx
  ·exact(b.all x hx).trans a.lo
  ·exact c1 x hx
theorem Rx.good{i:Nat}{ks:List Pat}{vs ws:List Yd}{N:Nat}(h:Rx W ks vs ws N)(hk:∀k∈ks,k.nm n)(hv:∀w∈vs,Gd t n i w):(∀w∈ws,Gd t n i w)/\ws.length<=max vs.length N:=by
 induction h with
 |nil=>exact⟨hv,by omega⟩
 |cons h r ih =>
  obtain⟨a1,a2,a3⟩:=h.good gw (hk _ (by simp)) hv
  obtain⟨b1,b2⟩:=ih (fun k hk'=>hk k (by simp[hk'])) a1
  exact⟨b1,by omega⟩
theorem Ax.good{i:Nat}{g:Gs}{ks:List Pat}{ws:List Yd}{N:Nat}(h:Ax W i g ks ws N)(hk:∀k∈ks,k.nm n)(hi:i<=t.length)(hg:GOk t n g):(∀w∈ws,Gd t n i w)/\ws.length<=N/\ks.length<=N:=by
 induction h with
 |nil=>exact⟨fun w hw=>by simp at hw,by simp,by simp⟩
 |cons h r ih =>
  have a:=gw _ i g _ _ (hk _ (by simp)) hi hg h
  obtain⟨b1,b2,b3⟩:=ih fun k hk'=>hk k (by simp[hk'])
  refine⟨fun x hx=>?_,by rw[List.length_append];have:=a.len;omega,by rw[List.length_cons];have:=a.pos;omega⟩
  rcases List.mem_append.mp hx with hx | hx
  ·exact a.all x hx
  ·exact b1 x hx
omit gw in
theorem Lx.good{T:Nat->Nat->Gs->List Yd->Nat->Prop}{lo:Int}{m i:Nat}{vs ws:List Yd}{N:Nat}(gt:∀m i g ws N,i<=t.length->GOk t n g->T m i g ws N->Gw t n i ws N)(h:Lx T lo m i vs ws N)(hv:∀w∈vs,Gd t n i w):(∀w∈ws,Gd t n i w)/\ws.length<=N:=by
 induction h with
 |nil=>exact⟨fun w hw=>by simp at hw,by simp⟩
 |go c h r ih =>
  rename_i w vs us ws N N'
  have a:=hv w (by simp)
  have b:=gt _ _ _ _ _ a.hi a.g h
  obtain⟨c1,c2⟩:=ih fun x hx=>hv x (by simp[hx])
  refine⟨fun x hx=>?_,by rw[List.length_append];have:=b.len;omega⟩
  rcases List.mem_append.mp hx with hx | hx
  ·exact(b.all x hx).trans a.lo
  ·exact c1 x hx
 |skip c r ih=>exact ih fun x hx=>hv x (by simp[hx])
theorem Tx.good{lo:Int}{hi:Option Int}{how:How}{p:Pat}(hp:p.nm n):∀(e:Nat) (m i:Nat) (g:Gs) (ws:List Yd) (N:Nat),i<=t.length->GOk t n g->Tx W lo hi how p e m i g ws N->Gw t n i ws N
 |0,_,_,_,_,_,_,_,h=>h.elim
 |e+1,m,i,g,ws,N,hi',hg,h=>by
  obtain⟨on,N1,hon,rfl,rfl⟩:=h
  have o:(∀w∈on,Gd t n i w)/\on.length<=N1:=by
   rcases hon with⟨_,vs,Na,Nb,h1,h2,rfl⟩ | ⟨_,rfl,rfl⟩
   ·have a:=gw p i g vs Na hp hi' hg h1
    obtain⟨b1,b2⟩:=Lx.good (fun m i g ws N=>Tx.good hp e m i g ws N) h2 a.all
    exact⟨b1,by omega⟩
   ·exact⟨fun w hw=>by simp at hw,by simp⟩
  have me:Gd t n i (i,g):=⟨Nat.le_refl _,hi',hg⟩
  split
  ·exact⟨o.1,by omega,by omega⟩
  ·split
   ·refine⟨fun w hw=>?_,by rw[List.length_cons];omega,by omega⟩
    rcases List.mem_cons.mp hw with rfl | hw
    ·exact me
    ·exact o.1 w hw
   ·refine⟨fun w hw=>?_,by rw[List.length_append,List.length_singleton];omega,by omega⟩
    rcases List.mem_append.mp hw with hw | hw
    ·exact o.1 w hw
    ·rw[List.mem_singleton.mp hw];exact me
theorem Bx.good{p:Pat}{i k:Nat}{g:Gs}{ws:List Yd}{N:Nat}(hp:p.nm n)(hg:GOk t n g)(h:Bx W p i g k ws N)(hk:k<=t.length):(∀w∈ws,w.1=i/\w.1<=t.length/\GOk t n w.2)/\ws.length<=N/\1<=N:=by
 induction h with
 |here h c =>
  have a:=gw p _ g _ _ hp hk hg h
  refine⟨fun w hw=>?_,Nat.le_trans (List.length_filter_le _ _) a.len,a.pos⟩
  obtain⟨h1,h2⟩:=List.mem_filter.mp hw
  have b:=a.all w h1
  exact⟨by simpa using h2,b.hi,b.g⟩
 |down h c r ih =>
  obtain⟨b1,b2,b3⟩:=ih (by omega)
  exact⟨b1,by omega,by omega⟩
 |last h c =>
  have a:=gw p _ g _ _ hp hk hg h
  exact⟨fun w hw=>by simp at hw,by simp,a.pos⟩
end
theorem Zbw{h:Hd}{t:Str}{i:Nat}(e:W7 h t i=true):i<t.length:=by
 unfold W7 at e
 split at e
 ·omega
 ·cases e
theorem Wy.good{t:Str}{n:Nat}:∀d,GW t n (Wy t d)
 |0=>fun _ _ _ _ _ _ _ _ h=>h.elim
 |d+1=>by
  intro p i g ws N hp hi hg h
  have ih:=Wy.good (t:=t) (n:=n) d
  obtain⟨hd,ks⟩:=p
  have hp':=nm_node.mp hp
  have one:∀c:Prop,[Decidable c]->∀w:Yd,(c->Gd t n i w)->Gw t n i (if c then[w] else[]) 1:=fun c _ w hw=>by
   split
   ·rename_i hc
    exact⟨fun x hx=>by rw[List.mem_singleton.mp hx];exact hw hc,by simp,by omega⟩
   ·exact⟨fun x hx=>by simp at hx,by simp,by omega⟩
  have me:Gd t n i (i,g):=⟨Nat.le_refl _,hi,hg⟩
  have sg:∀h:Hd,ws=(if W7 h t i=true then[(i+1,g)] else[])->N=1->Gw t n i ws N:=fun h e1 e2=>by
   rw[e1,e2]
   exact one _ (i+1,g) fun e=>⟨by show i<=i+1;omega,by have:=Zbw e;show i+1<=_;omega,hg⟩
  cases hd with
  |beg=>obtain⟨rfl,rfl⟩:=h;exact one _ _ fun _=>me
  |fin=>obtain⟨rfl,rfl⟩:=h;exact one _ _ fun _=>me
  |sign s=>exact sg _ h.1 h.2
  |any=>exact sg _ h.1 h.2
  |inn s=>exact sg _ h.1 h.2
  |out s=>exact sg _ h.1 h.2
  |again k =>
   obtain⟨rfl,rfl⟩:=h
   unfold Zk3
   cases he:ent g k with
   |none=>exact⟨fun x hx=>by simp at hx,by simp,by omega⟩
   |some q =>
    obtain⟨q1,q2⟩:=Z8y hg he
    refine one _ _ fun e=>⟨by show i<=i+_;omega,?_,hg⟩
    have h1:(sub t q.1 q.2).length=q.2-q.1:=by
     show((t.cps.toList.drop q.1).take (q.2-q.1)).toArray.size=_
     have:t.cps.toList.length=t.length:=by simp[Str.length]
     rw[List.size_toArray,List.length_take,List.length_drop]
     omega
    have h2:(sub t i (i+(q.2-q.1))).length<=t.length-i:=by
     show((t.cps.toList.drop i).take _).toArray.size<=_
     have:t.cps.toList.length=t.length:=by simp[Str.length]
     rw[List.size_toArray,List.length_take,List.length_drop]
     omega
    rw[e,h1]at h2
    show i+(q.2-q.1)<=t.length
    omega
  |row =>
   obtain⟨N',h,rfl⟩:=h
   obtain⟨a,b⟩:=h.good ih hp'.2 (i:=i) fun w hw=>by rw[List.mem_singleton.mp hw];exact me
   exact⟨a,by simp at b;omega,by omega⟩
  |alt =>
   obtain⟨_,N',h,rfl⟩:=h
   obtain⟨a,b,_⟩:=h.good ih hp'.2 hi hg
   exact⟨a,by omega,by omega⟩
  |times lo hi' how =>
   obtain⟨q,e,us,N',rfl,h,rfl,rfl⟩:=h
   have a:=Tx.good ih (hp'.2 q (by simp)) e 0 i g us N' hi hg h
   split
   ·exact⟨fun w hw=>a.all w (List.mem_of_mem_take hw),by rw[List.length_take];have:=a.len;omega,by omega⟩
   ·exact⟨a.all,by have:=a.len;omega,by omega⟩
  |grp k =>
   obtain⟨q,us,N',rfl,h,rfl,rfl⟩:=h
   have a:=ih q i g us N' (hp'.2 q (by simp)) hi hg h
   refine⟨fun w hw=>?_,by rw[List.length_map];have:=a.len;omega,by omega⟩
   obtain⟨v,hv,rfl⟩:=List.mem_map.mp hw
   have b:=a.all v hv
   exact⟨b.lo,b.hi,Zdj b.g hp'.1.1 hp'.1.2 b.lo b.hi⟩
  |hav k =>
   obtain⟨q,q',N',rfl,h,rfl⟩:=h
   have hq:(if(ent g k).isSome=true then q else q').nm n:=by
    split
    ·exact hp'.2 q (by simp)
    ·exact hp'.2 q' (by simp)
   have a:=ih _ i g ws N' hq hi hg h
   exact⟨a.all,by have:=a.len;omega,by omega⟩
  |look l =>
   obtain⟨q,us,N',rfl,h,rfl,rfl⟩:=h
   have hq:=hp'.2 q (by simp)
   have a:(∀w∈us,w.1<=t.length/\GOk t n w.2/\i<=w.1)/\us.length<=N':=by
    split at h
    ·obtain⟨b1,b2,_⟩:=Bx.good ih hq hg h hi
     exact⟨fun w hw=>⟨(b1 w hw).2.1,(b1 w hw).2.2,by have:=(b1 w hw).1;omega⟩,b2⟩
    ·have b:=ih q i g us N' hq hi hg h
     exact⟨fun w hw=>⟨(b.all w hw).hi,(b.all w hw).g,(b.all w hw).lo⟩,b.len⟩
   have tk:∀f:Yd->Yd,(∀w∈us,Gd t n i (f w))->Gw t n i ((us.take 1).map f) (N'+1):=fun f hf=>⟨fun w hw=>by
    obtain⟨v,hv,rfl⟩:=List.mem_map.mp hw
    exact hf v (List.mem_of_mem_take hv),by rw[List.length_map,List.length_take];omega,by omega⟩
   have pk:Gw t n i ((us.take 1).map fun w=>(i,w.2)) (N'+1):=tk _ fun w hw=>⟨Nat.le_refl _,hi,(a.1 w hw).2.1⟩
   have br:Gw t n i (if us.isEmpty=true then[(i,g)] else[]) (N'+1):=by
    have:=one (us.isEmpty=true) (i,g) fun _=>me
    exact⟨this.all,by have:=this.len;omega,by omega⟩
   cases l with
   |once =>
    have:=tk id fun w hw=>⟨(a.1 w hw).2.2,(a.1 w hw).1,(a.1 w hw).2.1⟩
    rw[List.map_id]at this
    exact this
   |ahead=>exact pk
   |behind=>exact pk
   |notahead=>exact br
   |notbehind=>exact br
section
variable{es:List Op}{t:Str}{n:Nat}
theorem Yl.to{e e':Nat}{h:Hl}{cs:List Ch}{M:Cf}{ws:List Yd}{k:Nat}(y:Yl es t n e h cs M ws k)(he:e=e'):Yl es t n e' h cs M ws k:=by
 subst he
 exact y
theorem Yl.cut{e e2:Nat}{h h2:Hl}{cs:List Ch}{M:Cf}{ws:List Yd}{k:Nat}{f:Yd->Yd}(y:Yl es t n e h cs M ws k)(hf:∀w∈ws,∀xs,Rc es t n (.run ⟨e,w.1,w.2,h,cs++xs⟩) 1 (.run ⟨e2,(f w).1,(f w).2,h2,cs⟩)) :
  Yl es t n e2 h2 cs M ((ws.take 1).map f) (k+1):=by
 cases y with
 |nil r hk=>exact .nil r (by omega)
 |cons r y hk =>
  rename_i j k' w ws xs
  have y1:Yl es t n e2 h2 cs (.run ⟨e2,(f w).1,(f w).2,h2,cs⟩) [f w] 0:=by
   have:=Yl.one (es:=es) (t:=t) (n:=n) (e:=e2) (h:=h2) (cs:=cs) (w:=f w) (xs:=[]) rfl
   rw[List.append_nil]at this
   exact this
  exact(y1.pre (r.trans (hf w (by simp) xs))).mono (by omega)
theorem Yl.barred{e e2:Nat}{h h2:Hl}{cs:List Ch}{M:Cf}{ws:List Yd}{k:Nat}{w0:Yd}(y:Yl es t n e h (cs++[(e2,w0.1,w0.2,h2)]) M ws k)(hf:∀w∈ws,∀xs,Rc es t n (.run ⟨e,w.1,w.2,h,(cs++[(e2,w0.1,w0.2,h2)])++xs⟩) 1 (bk cs)) :
  Yl es t n e2 h2 cs M (if ws.isEmpty=true then[w0] else[]) (k+1):=by
 cases y with
 |nil r hk =>
  rw[Td]at r
  have y1:=Yl.one (es:=es) (t:=t) (n:=n) (e:=e2) (h:=h2) (cs:=cs) (w:=w0) (xs:=[]) rfl
  rw[List.append_nil]at y1
  exact(y1.pre r).mono (by omega)
 |cons r y hk =>
  rename_i j k' w ws xs
  exact .nil (r.trans (hf w (by simp) xs)) (by omega)
def YW(es:List Op)(t:Str)(n:Nat)(W:Wk)(A:Nat):Prop:=∀p i g ws N,p.nm n->i<=t.length->GOk t n g->W p i g ws N->∀b h cs,Sits es b (p.ops b)->Yl es t n (b+(p.ops b).length) h cs (.run ⟨b,i,g,h,cs⟩) ws (A*N)
section
variable{W:Wk}{A:Nat}(yw:YW es t n W A)(gw:GW t n W)
include yw gw
theorem Ew.yl{p:Pat}{b k:Nat}{h:Hl}{cs:List Ch}{M:Cf}{vs:List Yd}(hp:p.nm n)(hs:Sits es b (p.ops b))(y:Yl es t n b h cs M vs k)(hv:∀w∈vs,Gd t n 0 w):∀ {ws:List Yd} {N:Nat},Ew W p vs ws N->Yl es t n (b+(p.ops b).length) h cs M ws (k+A*N):=by
 induction y with
 |nil r hk =>
  intro ws N ew
  cases ew
  exact .nil r (by omega)
 |cons r y hk ih =>
  rename_i M j k k' w vs xs
  intro ws N ew
  cases ew with
  |cons hw ew' =>
   rename_i us ws N N'
   have a:=hv w (by simp)
   have y1:=yw p w.1 w.2 ws N hp a.hi a.g hw b h (cs++xs) hs
   have y2:=ih (fun v hv'=>hv v (by simp[hv'])) ew'
   refine((Yl.app y1 y2).pre r).mono ?_
   rw[Nat.mul_add]
   omega
theorem Rx.yl{h:Hl}{cs:List Ch}{M:Cf}{ks:List Pat}{vs ws:List Yd}{N:Nat}(rx:Rx W ks vs ws N):∀ {b k:Nat},(∀x∈ks,x.nm n)->Sits es b (Z39 (ks.map Pat.ops) b)->Yl es t n b h cs M vs k->(∀w∈vs,Gd t n 0 w)->Yl es t n (b+(Z39 (ks.map Pat.ops) b).length) h cs M ws (k+A*N):=by
 induction rx with
 |nil =>
  intro b k _ _ y _
  exact y.mono (by omega)
 |cons ew rx ih =>
  rename_i p ks ws vs us N N'
  intro b k hk hs y hv
  have hp:=hk p (by simp)
  rw[List.map_cons,Z39]at hs ⊢
  obtain⟨s1,s2⟩:=hs.app
  have y1:=ew.yl yw gw hp s1 y hv
  have g1:=(ew.good gw hp hv).1
  have y2:=ih (fun x hx=>hk x (by simp[hx])) s2 y1 g1
  refine(y2.to (by rw[List.length_append];omega)).mono ?_
  rw[Nat.mul_add]
  omega
theorem Ax.yl{h:Hl}{i e:Nat}{g:Gs}{ks:List Pat}{ws:List Yd}{N:Nat}(ax:Ax W i g ks ws N)(hi:i<=t.length)(hg:GOk t n g):∀ {b:Nat} {cs:List Ch},ks≠[]->(∀x∈ks,x.nm n)->Sits es b (Tf e (ks.map Pat.ops) b)->e=b+(Tf e (ks.map Pat.ops) b).length->Yl es t n e h cs (.run ⟨b,i,g,h,cs⟩) ws ((A+2)*N):=by
 induction ax with
 |nil=>intro b cs h0;exact absurd rfl h0
 |cons hw ax ih =>
  rename_i p ks ws us N N'
  intro b cs _ hk hs he
  have hp:=hk p (by simp)
  have gd:=gw p i g ws N hp hi hg hw
  cases ks with
  |nil =>
   cases ax
   have hs':Sits es b (p.ops b):=hs
   have y:=yw p i g ws N hp hi hg hw b h cs hs'
   rw[List.append_nil]
   refine(y.to he.symm).mono ?_
   exact Nat.mul_le_mul (by omega) (by omega)
  |cons l ks =>
   simp only[List.map_cons,Tf]at hs he
   obtain⟨c0,s1⟩:=hs.cons
   obtain⟨s2,s3⟩:=s1.app
   obtain⟨c1,s4⟩:=s3.cons
   have r0:Rc es t n (.run ⟨b,i,g,h,cs⟩) 1 (.run ⟨b+1,i,g,h,cs++[(b+(p.ops (b+1)).length+2,i,g,h)]⟩):=Rc.one c0 hi hg trivial rfl
   have y1:=yw p i g ws N hp hi hg hw (b+1) h (cs++[(b+(p.ops (b+1)).length+2,i,g,h)]) s2
   have y2:=y1.map1 (e2:=e) (h2:=h) (f:=id) fun w hw' xs=>Rc.one c1 (gd.all w hw').hi (gd.all w hw').g trivial rfl
   rw[List.map_id]at y2
   have y3:=ih (b:=b+(p.ops (b+1)).length+2) (cs:=cs) (by simp) (fun x hx=>hk x (by simp at hx;simp[hx])) (by rw[show b+(p.ops (b+1)).length+2=b+1+(p.ops (b+1)).length+1 by omega]at s4 ⊢;exact s4) (by rw[List.length_cons,List.length_append,List.length_cons]at he;simp only[List.map_cons]at he ⊢;omega)
   have y3':Yl es t n e h cs (bk (cs++[(b+(p.ops (b+1)).length+2,i,g,h)])) us ((A+2)*N'):=by
    rw[Td]
    exact y3
   refine((Yl.app y2 y3').pre r0).mono ?_
   have:=gd.len
   have:=gd.pos
   have m1:=Nat.add_mul A 2 N
   have m2:=Nat.mul_add (A+2) N N'
   omega
omit yw gw in
theorem Lx.yl{T:Nat->Nat->Gs->List Yd->Nat->Prop}{lo:Int}{m i b e1 z k B:Nat}{h:Hl}{cs:List Ch}{M:Cf}{vs:List Yd}(c1:es[e1]? = some (.next lo b))(hv:∀w∈vs,Gd t n i w)
  (ty:∀i' g ws N,i'<=t.length->GOk t n g->T (m+1) i' g ws N->∀cs,Yl es t n z h cs (.run ⟨b,i',g,(m+1,i)::h,cs⟩) ws (B*N)) (y:Yl es t n e1 ((m,i)::h) cs M vs k):∀ {ws:List Yd} {N:Nat},Lx T lo m i vs ws N->Yl es t n z h cs M ws (k+vs.length+B*N):=by
 induction y with
 |nil r hk =>
  intro ws N lx
  cases lx
  exact .nil r (by omega)
 |cons r y hk ih =>
  rename_i M j k k' w vs xs
  intro ws N lx
  have a:=hv w (by simp)
  have nd:(Op.next lo b).need n ⟨e1,w.1,w.2,(m,i)::h,cs++xs⟩:=by intro z;cases z
  cases lx with
  |go c hw lx' =>
   rename_i us ws N N'
   have r1:Rc es t n (.run ⟨e1,w.1,w.2,(m,i)::h,cs++xs⟩) 1 (.run ⟨b,w.1,w.2,(m+1,i)::h,cs++xs⟩):=Rc.one c1 a.hi a.g nd (by
    show(if lo<=(m:Int)/\w.1=i then _ else _)=_
    rw[if_neg (by omega)])
   have y1:=(ty w.1 w.2 ws N a.hi a.g hw (cs++xs)).pre r1
   have y2:=ih (fun v hv'=>hv v (by simp[hv'])) lx'
   refine((Yl.app y1 y2).pre r).mono ?_
   rw[Nat.mul_add,List.length_cons]
   omega
  |skip c lx' =>
   have r1:Rc es t n (.run ⟨e1,w.1,w.2,(m,i)::h,cs++xs⟩) 1 (bk (cs++xs)):=Rc.one c1 a.hi a.g nd (by
    show(if lo<=(m:Int)/\w.1=i then _ else _)=_
    have:=a.lo
    rw[if_pos (by omega)])
   have y2:=ih (fun v hv'=>hv v (by simp[hv'])) lx'
   refine((y2.pre r1).pre r).mono ?_
   rw[List.length_cons]
   omega
theorem Tx.yl{lo:Int}{hi:Option Int}{how how':How}{p:Pat}{b z:Nat}{h:Hl}(hw:how'=.little↔how=.little)(hp:p.nm n)(c0:es[b]? = some (.turn lo hi how' z))(hs:Sits es (b+1) (p.ops (b+1)))(c1:es[b+1+(p.ops (b+1)).length]? = some (.next lo b))(hz:z=b+1+(p.ops (b+1)).length+1) :
  ∀(e m i:Nat) (g:Gs) (ws:List Yd) (N:Nat),i<=t.length->GOk t n g->Tx W lo hi how p e m i g ws N->∀(a:Nat) (cs:List Ch),Yl es t n z h cs (.run ⟨b,i,g,(m,a)::h,cs⟩) ws ((A+2)*N)
 |0,_,_,_,_,_,_,_,h=>h.elim
 |e+1,m,i,g,ws,N,hi',hg,tx=>by
  intro a cs
  obtain⟨on,N1,hon,rfl,rfl⟩:=tx
  have nd:(Op.turn lo hi how' z).need n ⟨b,i,g,(m,a)::h,cs⟩:=by intro z;cases z
  have one:∀cs,Yl es t n z h cs (.run ⟨z,i,g,h,cs⟩) [(i,g)] 0:=fun cs=>by
   have:=Yl.one (es:=es) (t:=t) (n:=n) (e:=z) (h:=h) (cs:=cs) (w:=(i,g)) (xs:=[]) rfl
   rw[List.append_nil]at this
   exact this
  rcases hon with⟨hgo,vs,Na,Nb,h1,h2,rfl⟩ | ⟨hgo,rfl,rfl⟩
  ·have gd:=gw p i g vs Na hp hi' hg h1
   have inner:∀cs,Yl es t n z h cs (.run ⟨b+1,i,g,(m,i)::h,cs⟩) on (A*Na+vs.length+(A+2)*Nb):=fun cs =>
    Lx.yl (T:=Tx W lo hi how p e) (b:=b) c1 gd.all (fun i' g' ws' N' x1 x2 x3 cs'=>Tx.yl hw hp c0 hs c1 hz e (m+1) i' g' ws' N' x1 x2 x3 i cs') (yw p i g vs Na hp hi' hg h1 (b+1) ((m,i)::h) cs hs) h2
   have Z1m:1+(A*Na+vs.length+(A+2)*Nb)+0<=(A+2)*(Na+Nb+1):=by
    have:=gd.len
    have m1:=Nat.add_mul A 2 Na
    have m2:=Nat.mul_add (A+2) (Na+Nb) 1
    have m3:=Nat.mul_add (A+2) Na Nb
    omega
   by_cases hlo:(m:Int)<lo
   ·rw[if_pos hlo]
    have r0:Rc es t n (.run ⟨b,i,g,(m,a)::h,cs⟩) 1 (.run ⟨b+1,i,g,(m,i)::h,cs⟩):=Rc.one c0 hi' hg nd (by
     show(if Ua hi m=true then(if lo<=(m:Int) then _ else _) else _)=_
     rw[if_pos hgo,if_neg (by omega)])
    exact((inner cs).pre r0).mono (by omega)
   ·rw[if_neg hlo]
    by_cases hl:how=.little
    ·rw[if_pos hl]
     have r0:Rc es t n (.run ⟨b,i,g,(m,a)::h,cs⟩) 1 (.run ⟨z,i,g,h,cs++[(b+1,i,g,(m,i)::h)]⟩):=Rc.one c0 hi' hg nd (by
      show(if Ua hi m=true then(if lo<=(m:Int) then(match how' with | .little=>_ | _=>_) else _) else _)=_
      rw[if_pos hgo,if_pos (by omega),hw.mpr hl])
     have y2:Yl es t n z h cs (bk (cs++[(b+1,i,g,(m,i)::h)])) on (A*Na+vs.length+(A+2)*Nb):=by
      rw[Td]
      exact inner cs
     exact((Yl.app (one _) y2).pre r0).mono (by omega)
    ·rw[if_neg hl]
     have hl':how'≠.little:=fun z=>hl (hw.mp z)
     have r0:Rc es t n (.run ⟨b,i,g,(m,a)::h,cs⟩) 1 (.run ⟨b+1,i,g,(m,i)::h,cs++[(z,i,g,h)]⟩):=Rc.one c0 hi' hg nd (by
      show(if Ua hi m=true then(if lo<=(m:Int) then(match how' with | .little=>_ | _=>_) else _) else _)=_
      rw[if_pos hgo,if_pos (by omega)]
      cases how' with
      |little=>exact absurd rfl hl'
      |much=>rfl
      |keep=>rfl)
     have y2:Yl es t n z h cs (bk (cs++[(z,i,g,h)])) [(i,g)] 0:=by
      rw[Td]
      exact one cs
     exact((Yl.app (inner _) y2).pre r0).mono (by omega)
  ·have hgo':¬Ua hi m=true:=by rw[hgo];decide
   by_cases hlo:(m:Int)<lo
   ·rw[if_pos hlo]
    refine .nil (j:=1) (Rc.one c0 hi' hg nd (by
     show(if Ua hi m=true then _ else(if lo<=(m:Int) then _ else _))=_
     rw[if_neg hgo',if_neg (by omega)])) ?_
    rw[Nat.zero_add,Nat.mul_one]
    omega
   ·rw[if_neg hlo]
    have r0:Rc es t n (.run ⟨b,i,g,(m,a)::h,cs⟩) 1 (.run ⟨z,i,g,h,cs⟩):=Rc.one c0 hi' hg nd (by
     show(if Ua hi m=true then _ else(if lo<=(m:Int) then _ else _))=_
     rw[if_neg hgo',if_pos (by omega)])
    have y:=((one cs).pre r0).mono (k':=(A+2)*(0+1)) (by rw[Nat.zero_add,Nat.mul_one];omega)
    split
    ·exact y
    ·exact y
end
end
section
variable{es:List Op}{t:Str}{n:Nat}
theorem Yl.filt{e1 i q k:Nat}{h:Hl}{cs:List Ch}{M:Cf}{vs:List Yd}(c1:es[e1]? = some .here)(y:Yl es t n e1 ((q,i)::h) cs M vs k):(∀w∈vs,w.1<=t.length/\GOk t n w.2) ->
  (∃w us xs j,vs.filter (fun w=>w.1==i)=w::us/\Rc es t n M j (.run ⟨e1+1,w.1,w.2,(q,i)::h,cs++xs⟩)/\j<=k+vs.length)∨(vs.filter (fun w=>w.1==i)=[]/\∃j,Rc es t n M j (bk cs)/\j<=k+vs.length):=by
 induction y with
 |nil r hk=>exact fun _=>.inr ⟨rfl,_,r,by omega⟩
 |cons r y hk ih =>
  rename_i M j k k' w vs xs
  intro hv
  have a:=hv w (by simp)
  have nd:Op.here.need n ⟨e1,w.1,w.2,(q,i)::h,cs++xs⟩:=by intro z;cases z
  by_cases e:w.1=i
  ·have r1:Rc es t n (.run ⟨e1,w.1,w.2,(q,i)::h,cs++xs⟩) 1 (.run ⟨e1+1,w.1,w.2,(q,i)::h,cs++xs⟩):=Rc.one c1 a.1 a.2 nd (by
    show(if w.1=i then _ else _)=_
    rw[if_pos e])
   exact .inl ⟨w,vs.filter (fun w=>w.1==i),xs,j+1,by rw[List.filter_cons_of_pos (by simpa using e)],r.trans r1,by rw[List.length_cons];omega⟩
  ·have r1:Rc es t n (.run ⟨e1,w.1,w.2,(q,i)::h,cs++xs⟩) 1 (bk (cs++xs)):=Rc.one c1 a.1 a.2 nd (by
    show(if w.1=i then _ else _)=_
    rw[if_neg e])
   rw[List.filter_cons_of_neg (by simpa using e),List.length_cons]
   rcases ih fun v hv'=>hv v (by simp[hv']) with⟨w',us,xs',j',h1,h2,h3⟩ | ⟨h1,j',h2,h3⟩
   ·exact .inl ⟨w',us,xs',_,h1,(r.trans r1).trans h2,by omega⟩
   ·exact .inr ⟨h1,_,(r.trans r1).trans h2,by omega⟩
theorem Bx.run{W:Wk}{A:Nat}(yw:YW es t n W A)(gw:GW t n W){p:Pat}{i k q b:Nat}{g:Gs}{us:List Yd}{N:Nat}{h:Hl}{cs:List Ch}(hp:p.nm n)(hg:GOk t n g)(c0:es[b]? = some .lean)(hs:Sits es (b+1) (p.ops (b+1)))(c1:es[b+1+(p.ops (b+1)).length]? = some .here)
  (bx:Bx W p i g k us N):k<=t.length->(∃w us' xs j,us=w::us'/\Rc es t n (.run ⟨b,k,g,(q,i)::h,cs⟩) j (.run ⟨b+1+(p.ops (b+1)).length+1,w.1,w.2,(q,i)::h,cs++xs⟩)/\j<=(A+2)*N) ∨
   (us=[]/\∃j,Rc es t n (.run ⟨b,k,g,(q,i)::h,cs⟩) j (bk cs)/\j<=(A+2)*N):=by
 have lean0:Rc es t n (.run ⟨b,0,g,(q,i)::h,cs⟩) 1 (.run ⟨b+1,0,g,(q,i)::h,cs⟩):=Rc.one c0 (Nat.zero_le _) hg trivial rfl
 have leanS:∀k,k+1<=t.length->Rc es t n (.run ⟨b,k+1,g,(q,i)::h,cs⟩) 1 (.run ⟨b+1,k+1,g,(q,i)::h,cs++[(b,k,g,(q,i)::h)]⟩):=fun k hk=>Rc.one c0 hk hg trivial rfl
 have Z1m:∀(vs:List Yd) (N:Nat),vs.length<=N->1<=N->1+(A*N+vs.length)<=(A+2)*N:=fun vs N h1 h2=>by
  have:=Nat.add_mul A 2 N
  omega
 have ways:∀(k:Nat) (vs:List Yd) (N:Nat),k<=t.length->W p k g vs N->∃ys:List Ch,(∀k',k=k'+1->ys=[(b,k',g,(q,i)::h)])/\(k=0->ys=[]) /\
   ((∃w us' xs j,vs.filter (fun w=>w.1==i)=w::us'/\Rc es t n (.run ⟨b,k,g,(q,i)::h,cs⟩) j (.run ⟨b+1+(p.ops (b+1)).length+1,w.1,w.2,(q,i)::h,cs++(ys++xs)⟩)/\j<=(A+2)*N) ∨
    (vs.filter (fun w=>w.1==i)=[]/\∃j,Rc es t n (.run ⟨b,k,g,(q,i)::h,cs⟩) j (bk (cs++ys))/\j<=(A+2)*N)):=by
  intro k vs N hk hw
  have gd:=gw p k g vs N hp hk hg hw
  have hv:∀w∈vs,w.1<=t.length/\GOk t n w.2:=fun w hw'=>⟨(gd.all w hw').hi,(gd.all w hw').g⟩
  have c:=Z1m vs N gd.len gd.pos
  cases k with
  |zero =>
   refine⟨[],(fun k' e=>by cases e),(fun _=>rfl),?_⟩
   rcases Yl.filt c1 (yw p 0 g vs N hp hk hg hw (b+1) ((q,i)::h) cs hs) hv with⟨w,us',xs,j,h1,h2,h3⟩ | ⟨h1,j,h2,h3⟩
   ·exact .inl ⟨w,us',xs,_,h1,lean0.trans h2,by omega⟩
   ·refine .inr ⟨h1,_,lean0.trans ?_,(show 1+j<=_ by omega)⟩
    rw[List.append_nil]
    exact h2
  |succ k =>
   refine⟨[(b,k,g,(q,i)::h)],(fun k' e=>by cases e;rfl),(fun e=>by cases e),?_⟩
   rcases Yl.filt c1 (yw p (k+1) g vs N hp hk hg hw (b+1) ((q,i)::h) (cs++[(b,k,g,(q,i)::h)]) hs) hv with⟨w,us',xs,j,h1,h2,h3⟩ | ⟨h1,j,h2,h3⟩
   ·rw[List.append_assoc]at h2
    exact .inl ⟨w,us',xs,_,h1,(leanS k hk).trans h2,by omega⟩
   ·exact .inr ⟨h1,_,(leanS k hk).trans h2,by omega⟩
 induction bx with
 |here hw c =>
  intro hk
  obtain⟨ys,_,_,h1 | h1⟩:=ways _ _ _ hk hw
  ·obtain⟨w,us',xs,j,h1,h2,h3⟩:=h1
   exact .inl ⟨w,us',ys++xs,j,h1,h2,h3⟩
  ·exact absurd h1.1 c
 |down hw c r ih =>
  rename_i k vs ws N N'
  intro hk
  obtain⟨ys,hy,_,h1 | h1⟩:=ways _ _ _ hk hw
  ·obtain⟨w,us',xs,j,h1,h2,h3⟩:=h1
   rw[c]at h1
   cases h1
  ·obtain⟨_,j,h2,h3⟩:=h1
   rw[hy k rfl,Td]at h2
   have m2:=Nat.mul_add (A+2) N N'
   rcases ih (by omega) with⟨w,us',xs,j',e,h4,h5⟩ | ⟨e,j',h4,h5⟩
   ·exact .inl ⟨w,us',xs,_,e,h2.trans h4,by omega⟩
   ·exact .inr ⟨e,_,h2.trans h4,by omega⟩
 |last hw c =>
  intro hk
  obtain⟨ys,_,hy,h1 | h1⟩:=ways _ _ _ hk hw
  ·obtain⟨w,us',xs,j,h1,h2,h3⟩:=h1
   rw[c]at h1
   cases h1
  ·obtain⟨_,j,h2,h3⟩:=h1
   rw[hy rfl,List.append_nil]at h2
   exact .inr ⟨rfl,j,h2,h3⟩
theorem Zjz{i:Nat}{g:Gs}{b:Nat}{h:Hl}{cs:List Ch}{o:Op}{c:Prop}[Decidable c]{w:Yd}{k:Nat}(c0:es[b]? = some o)(hi:i<=t.length)(hg:GOk t n g)(nd:o.need n ⟨b,i,g,h,cs⟩)(ha:o.act t ⟨b+1,i,g,h,cs⟩=if c then .run ⟨b+1,w.1,w.2,h,cs⟩ else bk cs)(hk:1<=k) :
  Yl es t n (b+1) h cs (.run ⟨b,i,g,h,cs⟩) (if c then[w] else[]) k:=by
 by_cases hc:c
 ·rw[if_pos hc]at ha ⊢
  have y1:=Yl.one (es:=es) (t:=t) (n:=n) (e:=b+1) (h:=h) (cs:=cs) (w:=w) (xs:=[]) rfl
  rw[List.append_nil]at y1
  exact(y1.pre (Rc.one c0 hi hg nd ha)).mono (by omega)
 ·rw[if_neg hc]at ha ⊢
  exact .nil (Rc.one c0 hi hg nd ha) hk
theorem Wy.yl:∀d,YW es t n (Wy t d) (3*d)
 |0=>fun _ _ _ _ _ _ _ _ h=>h.elim
 |d+1=>by
  intro p i g ws N hp hi hg hw b h cs hs
  have yw:YW es t n (Wy t d) (3*d):=Wy.yl d
  have gw:=Wy.good (t:=t) (n:=n) d
  obtain⟨hd,ks⟩:=p
  have hp':=nm_node.mp hp
  rw[Ty]at hs ⊢
  have A0:∀N',(3*(d+1))*(N'+1)=3*d*N'+3*N'+3*d+3:=fun N'=>by
   rw[show 3*(d+1)=3*d+3 by omega,Nat.mul_add,Nat.add_mul,Nat.mul_one]
   omega
  have hhd:∀q r,Z91 ((q::r).map Pat.ops)=q.ops:=fun q r=>rfl
  cases hd with
  |beg =>
   obtain⟨rfl,rfl⟩:=hw
   exact Zjz hs.cons.1 hi hg trivial rfl (by omega)
  |fin =>
   obtain⟨rfl,rfl⟩:=hw
   exact Zjz hs.cons.1 hi hg trivial rfl (by omega)
  |sign s =>
   obtain⟨rfl,rfl⟩:=hw
   exact Zjz (w:=(i+1,g)) hs.cons.1 hi hg trivial rfl (by omega)
  |any =>
   obtain⟨rfl,rfl⟩:=hw
   exact Zjz (w:=(i+1,g)) hs.cons.1 hi hg trivial rfl (by omega)
  |inn s =>
   obtain⟨rfl,rfl⟩:=hw
   exact Zjz (w:=(i+1,g)) hs.cons.1 hi hg trivial rfl (by omega)
  |out s =>
   obtain⟨rfl,rfl⟩:=hw
   exact Zjz (w:=(i+1,g)) hs.cons.1 hi hg trivial rfl (by omega)
  |again k =>
   obtain⟨rfl,rfl⟩:=hw
   have c0:es[b]? = some (.pat (.again k)):=hs.cons.1
   have nd:(Op.pat (.again k)).need n ⟨b,i,g,h,cs⟩:=hp'.1
   unfold Zk3
   cases he:ent g k with
   |none =>
    refine .nil (j:=1) (Rc.one c0 hi hg nd ?_) (by omega)
    show(match ent g k with | none=>bk cs | some p=>_)=_
    rw[he]
   |some q =>
    refine Zjz (w:=(i+(q.2-q.1),g)) c0 hi hg nd ?_ (by omega)
    show(match ent g k with | none=>bk cs | some p=>_)=_
    rw[he]
  |row =>
   obtain⟨N',rx,rfl⟩:=hw
   have y0:=Yl.one (es:=es) (t:=t) (n:=n) (e:=b) (h:=h) (cs:=cs) (w:=(i,g)) (xs:=[]) rfl
   rw[List.append_nil]at y0
   have me:∀w∈[((i,g):Yd)],Gd t n 0 w:=fun w hw=>by rw[List.mem_singleton.mp hw];exact⟨Nat.zero_le _,hi,hg⟩
   refine(rx.yl yw gw hp'.2 hs y0 me).mono ?_
   have:=A0 N'
   omega
  |alt =>
   obtain⟨hne,N',ax,rfl⟩:=hw
   have hl:b+(Tf 0 (ks.map Pat.ops) b).length=b+(Tf (b+(Tf 0 (ks.map Pat.ops) b).length) (ks.map Pat.ops) b).length:=congrArg (b + ·) (Z7d 0 _ (ks.map Pat.ops) b)
   have y:=ax.yl yw gw (h:=h) (e:=b+(Tf 0 (ks.map Pat.ops) b).length) hi hg (b:=b) (cs:=cs) hne hp'.2 hs hl
   refine(y.to hl).mono ?_
   have:=A0 N'
   have:=Nat.add_mul (3*d) 2 N'
   omega
  |times lo hi' how =>
   obtain⟨q,e,us,N',rfl,tx,rfl,rfl⟩:=hw
   have hq:=hp'.2 q (by simp)
   have gd:=Tx.good gw hq e 0 i g us N' hi hg tx
   have m0:=A0 N'
   have m1:=Nat.add_mul (3*d) 2 N'
   have turns:∀(b0:Nat) (how':How) (h:Hl) (cs:List Ch),(how'=.little↔how=.little)->Sits es b0 (U9 lo hi' how' q.ops b0)->Yl es t n (b0+(U9 lo hi' how' q.ops b0).length) h cs (.run ⟨b0,i,g,h,cs⟩) us (1+(3*d+2)*N'):=by
    intro b0 how' h cs hw hs
    obtain⟨c0,s1⟩:=hs.cons
    obtain⟨c1,s2⟩:=s1.cons
    obtain⟨s3,s4⟩:=s2.app
    have c2:=s4.cons.1
    have r0:Rc es t n (.run ⟨b0,i,g,h,cs⟩) 1 (.run ⟨b0+1,i,g,(0,i)::h,cs⟩):=Rc.one c0 hi hg trivial rfl
    have y:=Tx.yl yw gw (how:=how) (b:=b0+1) (h:=h) hw hq c1 s3 c2 (by show b0+3+(q.ops (b0+2)).length=b0+1+1+(q.ops (b0+2)).length+1;omega) e 0 i g us N' hi hg tx i cs
    refine(y.pre r0).to ?_
    show _=b0+(Op.turns::Op.turn lo hi' how' _::(q.ops (b0+2)++[Op.next lo (b0+1)])).length
    simp only[List.length_cons,List.length_append,List.length_nil]
    omega
   cases how with
   |keep =>
    rw[if_pos rfl]
    have hs':Sits es b (.once::(U9 lo hi' .much q.ops (b+1)++[.kept])):=hs
    obtain⟨c0,s1⟩:=hs'.cons
    obtain⟨s2,s3⟩:=s1.app
    have c1:=s3.cons.1
    have r0:Rc es t n (.run ⟨b,i,g,h,cs⟩) 1 (.run ⟨b+1,i,g,(cs.length,i)::h,cs⟩):=Rc.one c0 hi hg trivial rfl
    have y:=(turns (b+1) .much ((cs.length,i)::h) cs (by simp) s2).cut (e2:=b+1+(U9 lo hi' .much q.ops (b+1)).length+1) (h2:=h) (f:=id) fun w hw xs=>Rc.one c1 (gd.all w hw).hi (gd.all w hw).g (by intro z;cases z) (by
     show Cf.run _=Cf.run _
     congr 1
     congr 1
     exact List.take_left)
    rw[List.map_id]at y
    refine((y.pre r0).to ?_).mono (by omega)
    show _=b+(Op.once::(U9 lo hi' .much q.ops (b+1)++[Op.kept])).length
    simp only[List.length_cons,List.length_append,List.length_nil]
    omega
   |much =>
    rw[if_neg (by decide)]
    exact(turns b .much h cs Iff.rfl hs).mono (by omega)
   |little =>
    rw[if_neg (by decide)]
    exact(turns b .little h cs Iff.rfl hs).mono (by omega)
  |grp k =>
   obtain⟨q,us,N',rfl,hq',rfl,rfl⟩:=hw
   have hq:=hp'.2 q (by simp)
   have gd:=gw q i g us N' hq hi hg hq'
   have hs':Sits es b (.open_::(q.ops (b+1)++[.close k])):=hs
   obtain⟨c0,s1⟩:=hs'.cons
   obtain⟨s2,s3⟩:=s1.app
   have c1:=s3.cons.1
   have r0:Rc es t n (.run ⟨b,i,g,h,cs⟩) 1 (.run ⟨b+1,i,g,(0,i)::h,cs⟩):=Rc.one c0 hi hg trivial rfl
   have y:=(yw q i g us N' hq hi hg hq' (b+1) ((0,i)::h) cs s2).map1 (e2:=b+1+(q.ops (b+1)).length+1) (h2:=h) (f:=fun w=>(w.1,put w.2 k i w.1)) fun w hw xs=>Rc.one c1 (gd.all w hw).hi (gd.all w hw).g ⟨hp'.1,by intro z;cases z⟩ rfl
   refine((y.pre r0).to ?_).mono ?_
   ·show _=b+(Op.open_::(q.ops (b+1)++[Op.close k])).length
    simp only[List.length_cons,List.length_append,List.length_nil]
    omega
   ·have:=A0 N'
    have:=gd.len
    omega
  |hav k =>
   obtain⟨q,q',N',rfl,hq',rfl⟩:=hw
   have hs':Sits es b (Z5j k q.ops q'.ops b):=hs
   obtain⟨c0,s1⟩:=hs'.cons
   obtain⟨s2,s3⟩:=s1.app
   obtain⟨c1,s4⟩:=s3.cons
   have he:b+(Z5j k q.ops q'.ops b).length=b+(q.ops (b+1)).length+2+(q'.ops (b+(q.ops (b+1)).length+2)).length:=by
    simp only[Z5j,List.length_cons,List.length_append]
    omega
   have nd:(Op.have_ k (b+(q.ops (b+1)).length+2)).need n ⟨b,i,g,h,cs⟩:=hp'.1
   have m0:=A0 N'
   cases hent:ent g k with
   |none =>
    rw[hent]at hq'
    have r0:Rc es t n (.run ⟨b,i,g,h,cs⟩) 1 (.run ⟨b+(q.ops (b+1)).length+2,i,g,h,cs⟩):=Rc.one c0 hi hg nd (by
     show(match ent g k with | none=>Cf.run _ | some _=>_)=_
     rw[hent])
    have s4':Sits es (b+(q.ops (b+1)).length+2) (q'.ops (b+(q.ops (b+1)).length+2)):=by
     rw[show b+(q.ops (b+1)).length+2=b+1+(q.ops (b+1)).length+1 by omega]at s4 ⊢
     exact s4
    have y:=yw q' i g ws N' (hp'.2 q' (by simp)) hi hg hq' _ h cs s4'
    exact((y.pre r0).to he.symm).mono (by omega)
   |some x =>
    rw[hent]at hq'
    have gd:=gw q i g ws N' (hp'.2 q (by simp)) hi hg hq'
    have r0:Rc es t n (.run ⟨b,i,g,h,cs⟩) 1 (.run ⟨b+1,i,g,h,cs⟩):=Rc.one c0 hi hg nd (by
     show(match ent g k with | none=>Cf.run _ | some _=>_)=_
     rw[hent])
    have y:=(yw q i g ws N' (hp'.2 q (by simp)) hi hg hq' (b+1) h cs s2).map1 (e2:=b+(q.ops (b+1)).length+2+(q'.ops (b+(q.ops (b+1)).length+2)).length) (h2:=h) (f:=id) fun w hw xs=>Rc.one c1 (gd.all w hw).hi (gd.all w hw).g trivial rfl
    rw[List.map_id]at y
    have:=gd.len
    exact((y.pre r0).to he.symm).mono (by omega)
  |look l =>
   obtain⟨q,us,N',rfl,hq',rfl,rfl⟩:=hw
   have hq:=hp'.2 q (by simp)
   have hs':Sits es b (Ui l q.ops b):=hs
   have m0:=A0 N'
   have m1:=Nat.add_mul (3*d) 2 N'
   have one:∀(e:Nat) (w:Yd),Yl es t n e h cs (.run ⟨e,w.1,w.2,h,cs⟩) [w] 0:=fun e w=>by
    have:=Yl.one (es:=es) (t:=t) (n:=n) (e:=e) (h:=h) (cs:=cs) (w:=w) (xs:=[]) rfl
    rw[List.append_nil]at this
    exact this
   have nd1:∀ {e:Nat} {w:Yd} {xs:List Ch},(⟨e,w.1,w.2,(cs.length,i)::h,xs⟩:Cg).h≠[]:=fun{e w xs} z=>by cases z
   have tk:∀xs:List Ch,(cs++xs).take cs.length=cs:=fun xs=>List.take_left
   cases l with
   |once =>
    have hq2:Wy t d q i g us N':=by rw[if_neg (by decide)]at hq';exact hq'
    have gd:=gw q i g us N' hq hi hg hq2
    have hs2:Sits es b (.once::(q.ops (b+1)++[.kept])):=hs'
    obtain⟨c0,s1⟩:=hs2.cons
    obtain⟨s2,s3⟩:=s1.app
    have c1:=s3.cons.1
    have r0:Rc es t n (.run ⟨b,i,g,h,cs⟩) 1 (.run ⟨b+1,i,g,(cs.length,i)::h,cs⟩):=Rc.one c0 hi hg trivial rfl
    have y:=(yw q i g us N' hq hi hg hq2 (b+1) ((cs.length,i)::h) cs s2).cut (e2:=b+1+(q.ops (b+1)).length+1) (h2:=h) (f:=id) fun w hw xs=>Rc.one c1 (gd.all w hw).hi (gd.all w hw).g nd1 (by
     show Cf.run ⟨_,_,_,_,(cs++xs).take cs.length⟩=_
     rw[tk]
     rfl)
    rw[List.map_id]at y
    refine((y.pre r0).to ?_).mono (by omega)
    show _=b+(Op.once::(q.ops (b+1)++[Op.kept])).length
    simp only[List.length_cons,List.length_append,List.length_nil]
    omega
   |ahead =>
    have hq2:Wy t d q i g us N':=by rw[if_neg (by decide)]at hq';exact hq'
    have gd:=gw q i g us N' hq hi hg hq2
    have hs2:Sits es b (.once::(q.ops (b+1)++[.peeked])):=hs'
    obtain⟨c0,s1⟩:=hs2.cons
    obtain⟨s2,s3⟩:=s1.app
    have c1:=s3.cons.1
    have r0:Rc es t n (.run ⟨b,i,g,h,cs⟩) 1 (.run ⟨b+1,i,g,(cs.length,i)::h,cs⟩):=Rc.one c0 hi hg trivial rfl
    have y:=(yw q i g us N' hq hi hg hq2 (b+1) ((cs.length,i)::h) cs s2).cut (e2:=b+1+(q.ops (b+1)).length+1) (h2:=h) (f:=fun w=>(i,w.2)) fun w hw xs=>Rc.one c1 (gd.all w hw).hi (gd.all w hw).g nd1 (by
     show Cf.run ⟨_,_,_,_,(cs++xs).take cs.length⟩=_
     rw[tk])
    refine((y.pre r0).to ?_).mono (by omega)
    show _=b+(Op.once::(q.ops (b+1)++[Op.peeked])).length
    simp only[List.length_cons,List.length_append,List.length_nil]
    omega
   |notahead =>
    have hq2:Wy t d q i g us N':=by rw[if_neg (by decide)]at hq';exact hq'
    have gd:=gw q i g us N' hq hi hg hq2
    have hs2:Sits es b (.bar (b+2+(q.ops (b+1)).length)::(q.ops (b+1)++[.barred])):=hs'
    obtain⟨c0,s1⟩:=hs2.cons
    obtain⟨s2,s3⟩:=s1.app
    have c1:=s3.cons.1
    have r0:Rc es t n (.run ⟨b,i,g,h,cs⟩) 1 (.run ⟨b+1,i,g,(cs.length,i)::h,cs++[(b+2+(q.ops (b+1)).length,i,g,h)]⟩):=Rc.one c0 hi hg trivial rfl
    have y:=(yw q i g us N' hq hi hg hq2 (b+1) ((cs.length,i)::h) (cs++[(b+2+(q.ops (b+1)).length,i,g,h)]) s2).barred (w0:=(i,g)) fun w hw xs=>Rc.one c1 (gd.all w hw).hi (gd.all w hw).g nd1 (by
     show bk (((cs++_)++xs).take cs.length)=_
     rw[List.append_assoc,tk])
    refine((y.pre r0).to ?_).mono (by omega)
    show _=b+(Op.bar _::(q.ops (b+1)++[Op.barred])).length
    simp only[List.length_cons,List.length_append,List.length_nil]
    omega
   |behind =>
    have hq2:Bx (Wy t d) q i g i us N':=by rw[if_pos (by decide)]at hq';exact hq'
    obtain⟨gd,_,_⟩:=Bx.good gw hq hg hq2 hi
    have hs2:Sits es b (.once::((.lean::(q.ops (b+2)++[.here]))++[.peeked])):=hs'
    obtain⟨c0,s1⟩:=hs2.cons
    obtain⟨s2,s3⟩:=s1.app
    have c3:=s3.cons.1
    obtain⟨c1,s4⟩:=s2.cons
    obtain⟨s5,s6⟩:=s4.app
    have c2:=s6.cons.1
    have r0:Rc es t n (.run ⟨b,i,g,h,cs⟩) 1 (.run ⟨b+1,i,g,(cs.length,i)::h,cs⟩):=Rc.one c0 hi hg trivial rfl
    have he:b+1+(Op.lean::(q.ops (b+2)++[Op.here])).length=b+1+1+(q.ops (b+2)).length+1:=by
     simp only[List.length_cons,List.length_append,List.length_nil]
     omega
    rw[he]at c3
    have hend:b+1+1+(q.ops (b+2)).length+1+1=b+(Ui .behind q.ops b).length:=by
     show _=b+(Op.once::((Op.lean::(q.ops (b+2)++[Op.here]))++[Op.peeked])).length
     simp only[List.length_cons,List.length_append,List.length_nil]
     omega
    rcases Bx.run yw gw (q:=cs.length) (h:=h) (cs:=cs) hq hg c1 s5 c2 hq2 hi with⟨w,us',xs,j,rfl,r1,hj⟩ | ⟨rfl,j,r1,hj⟩
    ·have a:=gd w (by simp)
     have r2:Rc es t n (.run ⟨b+1+1+(q.ops (b+2)).length+1,w.1,w.2,(cs.length,i)::h,cs++xs⟩) 1 (.run ⟨b+1+1+(q.ops (b+2)).length+1+1,i,w.2,h,cs⟩):=Rc.one c3 a.2.1 a.2.2 nd1 (by
      show Cf.run ⟨_,_,_,_,(cs++xs).take cs.length⟩=_
      rw[tk])
     exact(((one _ (i,w.2)).pre ((r0.trans r1).trans r2)).to hend).mono (by omega)
    ·exact .nil (r0.trans r1) (by omega)
   |notbehind =>
    have hq2:Bx (Wy t d) q i g i us N':=by rw[if_pos (by decide)]at hq';exact hq'
    obtain⟨gd,_,_⟩:=Bx.good gw hq hg hq2 hi
    have hz:b+2+(Op.lean::(q.ops (b+2)++[Op.here])).length=b+(Ui .notbehind q.ops b).length:=by
     show _=b+(Op.bar _::((Op.lean::(q.ops (b+2)++[Op.here]))++[Op.barred])).length
     simp only[List.length_cons,List.length_append,List.length_nil]
     omega
    have hs2:Sits es b (.bar (b+2+(Op.lean::(q.ops (b+2)++[Op.here])).length)::((.lean::(q.ops (b+2)++[.here]))++[.barred])):=hs'
    rw[hz]at hs2
    obtain⟨c0,s1⟩:=hs2.cons
    obtain⟨s2,s3⟩:=s1.app
    have c3:=s3.cons.1
    obtain⟨c1,s4⟩:=s2.cons
    obtain⟨s5,s6⟩:=s4.app
    have c2:=s6.cons.1
    have r0:Rc es t n (.run ⟨b,i,g,h,cs⟩) 1 (.run ⟨b+1,i,g,(cs.length,i)::h,cs++[(b+(Ui .notbehind q.ops b).length,i,g,h)]⟩):=Rc.one c0 hi hg trivial rfl
    have he:b+1+(Op.lean::(q.ops (b+2)++[Op.here])).length=b+1+1+(q.ops (b+2)).length+1:=by
     simp only[List.length_cons,List.length_append,List.length_nil]
     omega
    rw[he]at c3
    show Yl es t n (b+(Ui .notbehind q.ops b).length) h cs _ _ _
    rcases Bx.run yw gw (q:=cs.length) (h:=h) (cs:=cs++[(b+(Ui .notbehind q.ops b).length,i,g,h)]) hq hg c1 s5 c2 hq2 hi with⟨w,us',xs,j,rfl,r1,hj⟩ | ⟨rfl,j,r1,hj⟩
    ·have a:=gd w (by simp)
     have r2:Rc es t n (.run ⟨b+1+1+(q.ops (b+2)).length+1,w.1,w.2,(cs.length,i)::h,(cs++[(b+(Ui .notbehind q.ops b).length,i,g,h)])++xs⟩) 1 (bk cs):=Rc.one c3 a.2.1 a.2.2 nd1 (by
      show bk (((cs++_)++xs).take cs.length)=_
      rw[List.append_assoc,tk])
     exact .nil ((r0.trans r1).trans r2) (by omega)
    ·rw[Td]at r1
     exact((one _ (i,g)).pre (r0.trans r1)).mono (by omega)
end
abbrev Tm(H H':Hp):Prop:=∀b xs,H b=some (.tup xs)->H' b=some (.tup xs)
def EnA(H:Hp)(e:V):En->Prop
 |none=>e=.non
 |some p=>∃a,e=.ref a/\H a=some (.tup [.int p.1,.int p.2])
def GsAt(H:Hp)(v:V)(g:Gs):Prop:=∃(a:Addr) (es:List V),v=.ref a/\H a=some (.tup es)/\Paired (EnA H) es g
def HlAt(H:Hp):V->Hl->Prop
 |v,[]=>v=.non
 |v,p::h=>∃(a:Addr) (v':V),v=.ref a/\H a=some (.tup [.int p.1,.int p.2,v'])/\HlAt H v' h
def ChA(H:Hp)(q:Zh4)(c:Ch):Prop:=q.1=c.1/\q.2.1=c.2.1/\GsAt H q.2.2.1 c.2.2.1/\HlAt H q.2.2.2 c.2.2.2
theorem EnA.mono{H H':Hp}(t:Tm H H'){e:V}:∀ {x:En},EnA H e x->EnA H' e x
 |none,h=>h
 |some p,⟨a,e1,e2⟩=>⟨a,e1,t _ _ e2⟩
theorem GsAt.mono{H H':Hp}(t:Tm H H'){v:V}{g:Gs}(h:GsAt H v g):GsAt H' v g:=by
 obtain⟨a,es,e1,e2,e3⟩:=h
 exact⟨a,es,e1,t _ _ e2,Paired.mapP e3 fun _ _ q=>q.mono t⟩
theorem HlAt.mono{H H':Hp}(t:Tm H H'):∀ {h:Hl} {v:V},HlAt H v h->HlAt H' v h
 | [],_,e=>e
 |p::h,_,⟨a,v',e1,e2,e3⟩=>⟨a,v',e1,t _ _ e2,HlAt.mono t e3⟩
theorem ChA.mono{H H':Hp}(t:Tm H H'){q:Zh4}{c:Ch}(h:ChA H q c):ChA H' q c:=⟨h.1,h.2.1,h.2.2.1.mono t,h.2.2.2.mono t⟩
structure Ab(H:Hp)(ra:Addr)(t:Str)(ch:Addr)(M:MM)(c:Cg):Prop where
 rows:M.s.rows=.ref ra
 text:M.s.text=t
 chs:M.s.choices=ch
 en:M.s.ended=false
 row:M.s.row=c.r
 pl:M.s.place=c.i
 gs:GsAt H M.s.groups c.g
 hl:HlAt H M.s.held c.h
 cs:Paired (ChA H) M.cs c.cs
structure AbE(ra:Addr)(t:Str)(ch:Addr)(M:MM):Prop where
 rows:M.s.rows=.ref ra
 text:M.s.text=t
 chs:M.s.choices=ch
 en:M.s.ended=true
 cs:M.cs=[]
def AbF(H:Hp)(ra:Addr)(t:Str)(ch:Addr)(M:MM):Cf->Prop
 |.run c=>Ab H ra t ch M c
 |.ended=>AbE ra t ch M
theorem Ab.mono{H H':Hp}(tm:Tm H H'){ra:Addr}{t:Str}{ch:Addr}{M:MM}{c:Cg}(h:Ab H ra t ch M c):Ab H' ra t ch M c :=
 ⟨h.rows,h.text,h.chs,h.en,h.row,h.pl,h.gs.mono tm,h.hl.mono tm,Paired.mapP h.cs fun _ _ q=>q.mono tm⟩
theorem AbF.mono{H H':Hp}(tm:Tm H H'){ra:Addr}{t:Str}{ch:Addr}{M:MM}:∀ {c:Cf},AbF H ra t ch M c->AbF H' ra t ch M c
 |.run _,h=>Ab.mono tm h
 |.ended,h=>h
theorem Z03{α β:Type}{F:α->β->Prop}:∀ {xs:List α} {ys:List β} {y:β},Paired F xs (ys++[y])->∃xs' x,xs=xs'++[x]/\Paired F xs' ys/\F x y
 |_,[],y,.cons h .nil=>⟨[],_,rfl,.nil,h⟩
 |_,z::ys,y,.cons h t=>by
  obtain⟨xs',x,e,p,q⟩:=Z03 t
  exact⟨_::xs',x,by rw[e];rfl,.cons h p,q⟩
theorem Ab.back{H:Hp}{ra:Addr}{t:Str}{ch:Addr}{M:MM}{c:Cg}(h:Ab H ra t ch M c):AbF H ra t ch M.back (bk c.cs):=by
 rcases List.eq_nil_or_concat c.cs with e | ⟨xs,q,e⟩
 ·have hc:=h.cs
  rw[e]at hc ⊢
  have:M.cs=[]:=by cases hm:M.cs with
   |nil=>rfl
   |cons a b=>rw[hm]at hc;cases hc
  unfold MM.back
  rw[this]
  exact⟨h.rows,h.text,h.chs,rfl,rfl⟩
 ·rw[List.concat_eq_append]at e
  have hc:=h.cs
  rw[e]at hc ⊢
  obtain⟨xs',x,e',p,hx⟩:=Z03 hc
  unfold MM.back
  rw[e',List.getLast?_append,Td]
  obtain⟨q1,q2,q3,q4⟩:=hx
  refine⟨h.rows,h.text,h.chs,h.en,q1,q2,q3,q4,?_⟩
  show Paired (ChA H) (xs'++[x]).dropLast xs
  rw[List.dropLast_concat]
  exact p
def Op.fd:Op->Bool->Bool
 |.found,_=>true
 |_,b=>b
def Op.word:Op->Str
 |.pat h=>h.word | .try_ _=>"try" |.go _=>"go" |.have_ _ _=>"have" |.turns=>"turns" |.open_=>"open" |.close _=>"close" |.turn _ _ _ _=>"turn" |.next _ _=>"next" |.once=>"once" |.kept=>"kept" |.peeked=>"peeked"
 |.bar _=>"bar" |.barred=>"barred" |.lean=>"lean" |.here=>"here" |.found=>"found"
def Hd.act:Hd->Bool
 |.sign _=>true | .any=>true | .inn _=>true | .out _=>true | .beg=>true | .fin=>true | .again _=>true | _=>false
def Op.ok:Op->Prop
 |.pat h=>h.act=true
 |_=>True
inductive spDoI(C:Addr)(o:Op)(vs:List V)(H:Hp)(Q:VK):Prop
 |mk (m a ra ch:Addr) (t:Str) (n:Nat) (M:MM) (c:Cg) (_:vs=[.ref m,.ref a]) (_:MAt C H m M) (_:Ab H ra t ch M c) (_:RowAt H (.ref a) o.rw) (_:t.length<=1000) (_:c.i<=t.length) (_:GOk t n c.g) (_:n<=900) (_:(o.need n c∨o=.found)) (_:(c.cs.length<=1000000/\1<=c.r)) (_:∀(H':Hp) (M':MM),MAt C H' m M'->AbF H' ra t ch M' (o.act t c)->M'.s.made=M.s.made->M'.s.found=o.fd M.s.found->Gro [m,ch] H H'->Q .non H')
def Jm(C:Addr)(o:Op):Sp:=fun vs H Q _=>spDoI C o vs H Q
theorem X1(M:MM):M.back.s.made=M.s.made/\M.back.s.found=M.s.found:=by
 unfold MM.back
 split <;> exact⟨rfl,rfl⟩
theorem Xb{α β:Type}{F:α->β->Prop}:∀ {xs:List α} {ys:List β} (k:Nat),Paired F xs ys->Paired F (xs.take k) (ys.take k)
 |_,_,0,_=>by simp;exact .nil
 |_,_,_+1,.nil=>by simp;exact .nil
 |_,_,k+1,.cons h t=>by simp only[List.take_succ_cons];exact .cons h (Xb k t)
theorem Z1a{α β:Type}{F:α->β->Prop}:∀ {xs:List α} {ys:List β} (k:Nat),Paired F xs ys->Paired F (xs.drop k) (ys.drop k)
 |_,_,0,h=>h
 |_,_,_+1,.nil=>by simp;exact .nil
 |_,_,k+1,.cons h t=>by simp only[List.drop_succ_cons];exact Z1a k t
theorem GsAt.len{H:Hp}{v:V}{g:Gs}(h:GsAt H v g):∃(a:Addr) (es:List V),v=.ref a/\H a=some (.tup es)/\es.length=g.length/\Paired (EnA H) es g:=by
 obtain⟨a,es,e1,e2,e3⟩:=h
 exact⟨a,es,e1,e2,Paired.length e3,e3⟩
theorem GsAt.ent{H:Hp}{v:V}{g:Gs}{k:Int}(h:GsAt H v g)(h1:1<=k)(h2:k<=g.length):∃(a:Addr) (es:List V) (e:V),v=.ref a/\H a=some (.tup es)/\es.length=g.length/\Z3o es (k-1)=some e/\EnA H e (ent g k):=by
 obtain⟨a,es,e1,e2,e3,e4⟩:=h.len
 have hl:(k-1).toNat<es.length:=by omega
 have ha:=Ue (List.getElem?_eq_getElem hl)
 rw[show(((k-1).toNat:Nat):Int)=k-1 by omega]at ha
 obtain⟨y,hy,hE⟩:=Y0 e4 (List.getElem?_eq_getElem hl)
 refine⟨a,es,_,e1,e2,e3,ha,?_⟩
 unfold Seek.ent
 rw[List.getD_eq_getElem?_getD,hy]
 exact hE
theorem GsAt.put{H:Hp}{es:List V}{g:Gs}{k:Int}{a b:Nat}{p r:Addr}(h:Paired (EnA H) es g)(hp:H p=some (.tup [.int a,.int b]))(hr:H r=some (.tup (es.take (k-1).toNat++[.ref p]++es.drop k.toNat))):GsAt H (.ref r) (put g k a b) :=
 ⟨r,_,rfl,hr,Zw (Zw (Xb _ h) (.cons ⟨p,rfl,hp⟩ .nil)) (Z1a _ h)⟩
theorem Z29{K:W.Frag}{a b:Addr}{xs ys:List V}{H:Hp}{Q:VK}(ha:H a=some (.tup xs))(hb:H b=some (.tup ys))(hz:xs.length+ys.length<=1000)(h:∀(r:Addr) (H':Hp),H' r=some (.tup (xs++ys))->Gro [] H H'->Q (.ref r) H'):Zae K (.ref a) (.ref b) H Q :=
 ⟨a,b,xs,ys,rfl,rfl,SqT.of ha,SqT.of hb,Y5 hz,fun e=>h b H (by rw[e];exact hb) Gro.refl,fun _ e=>h a H (by rw[e,List.append_nil];exact ha) Gro.refl,fun _ _ p hp=>h p _ Z2 (Gro.new hp _)⟩
mutual
def Pat.has(k:Int):Pat->Prop
 |.node h ks=>h=.grp k∨Zep k ks
def Zep(k:Int):List Pat->Prop
 | []=>False
 |p::ps=>p.has k∨Zep k ps
end
theorem Z73{k:Int}:∀ {ks:List Pat},Zep k ks↔∃p∈ks,p.has k
 | []=>by simp[Zep]
 |p::ps=>by rw[Zep,Z73 (ks:=ps)];simp
theorem has_node{k:Int}{h:Hd}{ks:List Pat}:(Pat.node h ks).has k↔h=.grp k∨∃p∈ks,p.has k:=by rw[Pat.has,Z73]
theorem Z9a{Pr:Op->Prop}:∀ {cs:List Co},(∀c∈cs,∀b,∀o∈c b,Pr o)->∀b,∀o∈Z39 cs b,Pr o
 | [],_,b,o,ho=>by simp[Z39]at ho
 |c::cs,h,b,o,ho=>by
  rw[Z39]at ho
  rcases List.mem_append.mp ho with ho | ho
  ·exact h c (by simp) b o ho
  ·exact Z9a (fun d hd=>h d (by simp[hd])) _ o ho
theorem Za7{Pr:Op->Prop}(h1:∀z,Pr (.try_ z))(h2:∀z,Pr (.go z)){e:Nat}:∀ {cs:List Co},(∀c∈cs,∀b,∀o∈c b,Pr o)->∀b,∀o∈Tf e cs b,Pr o
 | [],_,b,o,ho=>by simp[Tf]at ho
 | [c],h,b,o,ho=>h c (by simp) b o ho
 |c::d::cs,h,b,o,ho=>by
  rw[Tf]at ho
  rcases List.mem_cons.mp ho with rfl | ho
  ·exact h1 _
  ·rcases List.mem_append.mp ho with ho | ho
   ·exact h c (by simp) _ o ho
   ·rcases List.mem_cons.mp ho with rfl | ho
    ·exact h2 _
    ·exact Za7 h1 h2 (fun x hx=>h x (by simp at hx;simp[hx])) _ o ho
theorem Ze1{Pr:Op->Prop}{cs:List Co}(h:∀c∈cs,∀b,∀o∈c b,Pr o)(b:Nat):∀o∈Z91 cs b,Pr o:=by
 cases cs with
 |nil=>intro o ho;simp[Z91]at ho
 |cons c cs=>exact h c (by simp) b
structure Free(Pr:Op->Prop):Prop where
 f1:∀z,Pr (.try_ z)
 f2:∀z,Pr (.go z)
 f3:∀k z,Pr (.have_ k z)
 f4:Pr .turns
 f5:Pr .open_
 f6:∀lo hi how z,Pr (.turn lo hi how z)
 f7:∀lo z,Pr (.next lo z)
 f8:Pr .once
 f9:Pr .kept
 f10:Pr .peeked
 f11:∀z,Pr (.bar z)
 f12:Pr .barred
 f13:Pr .lean
 f14:Pr .here
theorem Z2q{Pr:Op->Prop}(F:Free Pr){lo:Int}{hi:Option Int}{how:How}{c:Co}(h:∀b,∀o∈c b,Pr o)(b:Nat):∀o∈U9 lo hi how c b,Pr o:=by
 intro o ho
 unfold U9 at ho
 rcases List.mem_cons.mp ho with rfl | ho
 ·exact F.f4
 ·rcases List.mem_cons.mp ho with rfl | ho
  ·exact F.f6 _ _ _ _
  ·rcases List.mem_append.mp ho with ho | ho
   ·exact h _ o ho
   ·rw[List.mem_singleton.mp ho];exact F.f7 _ _
theorem Z6w{Pr:Op->Prop}(F:Free Pr){h:Hd}{cs:List Co}(hl:h.act=true->Pr (.pat h))(hc:∀k,h=.grp k->Pr (.close k))(ih:∀c∈cs,∀b,∀o∈c b,Pr o)(b:Nat):∀o∈h.ops cs b,Pr o:=by
 intro o ho
 have hh:=Ze1 ih
 cases h with
 |row=>exact Z9a ih b o ho
 |alt=>exact Za7 F.f1 F.f2 ih b o ho
 |times lo hi how =>
  cases how with
  |keep =>
   have ho':o∈Op.once::(U9 lo hi .much (Z91 cs) (b+1)++[.kept]):=ho
   rcases List.mem_cons.mp ho' with rfl | ho
   ·exact F.f8
   ·rcases List.mem_append.mp ho with ho | ho
    ·exact Z2q F hh _ o ho
    ·rw[List.mem_singleton.mp ho];exact F.f9
  |much=>exact Z2q F hh b o ho
  |little=>exact Z2q F hh b o ho
 |grp k =>
  have ho':o∈Op.open_::(Z91 cs (b+1)++[.close k]):=ho
  rcases List.mem_cons.mp ho' with rfl | ho
  ·exact F.f5
  ·rcases List.mem_append.mp ho with ho | ho
   ·exact hh _ o ho
   ·rw[List.mem_singleton.mp ho];exact hc k rfl
 |hav k =>
  have ht:∀b,∀o∈Z91 cs.tail b,Pr o:=fun b=>Ze1 (fun c hc'=>ih c (List.mem_of_mem_tail hc')) b
  have ho':o∈Z5j k (Z91 cs) (Z91 cs.tail) b:=ho
  unfold Z5j at ho'
  rcases List.mem_cons.mp ho' with rfl | ho
  ·exact F.f3 _ _
  ·rcases List.mem_append.mp ho with ho | ho
   ·exact hh _ o ho
   ·rcases List.mem_cons.mp ho with rfl | ho
    ·exact F.f2 _
    ·exact ht _ o ho
 |look l =>
  have hin:∀o∈Z8j l (Z91 cs) b,Pr o:=by
   intro o ho
   unfold Z8j at ho
   split at ho
   ·rcases List.mem_cons.mp ho with rfl | ho
    ·exact F.f13
    ·rcases List.mem_append.mp ho with ho | ho
     ·exact hh _ o ho
     ·rw[List.mem_singleton.mp ho];exact F.f14
   ·exact hh _ o ho
  have ho':o∈Ui l (Z91 cs) b:=ho
  unfold Ui at ho'
  rcases List.mem_cons.mp ho' with e | ho
  ·rw[e]
   split
   ·exact F.f11 _
   ·exact F.f8
  ·rcases List.mem_append.mp ho with ho | ho
   ·exact hin o ho
   ·rw[List.mem_singleton.mp ho]
    cases l with
    |once=>exact F.f9
    |ahead=>exact F.f10
    |behind=>exact F.f10
    |notahead=>exact F.f12
    |notbehind=>exact F.f12
 |_ =>
  rw[List.mem_singleton.mp ho]
  exact hl rfl
mutual
theorem Zdp:∀(p:Pat) (b:Nat),∀o∈p.ops b,o.ok
 |.node h ks,b=>by
  rw[Ty]
  refine Z6w ⟨fun _=>trivial,fun _=>trivial,fun _ _=>trivial,trivial,trivial,fun _ _ _ _=>trivial,fun _ _=>trivial,trivial,trivial,trivial,fun _=>trivial,trivial,trivial,trivial⟩ (fun e=>e) (fun _ _=>trivial) (fun c hc=>?_) b
  obtain⟨p,hp,rfl⟩:=List.mem_map.mp hc
  exact Z9k ks p hp
theorem Z9k:∀(ks:List Pat),∀p∈ks,∀b,∀o∈p.ops b,o.ok
 | [],_,hp=>by simp at hp
 |k::ks,p,hp=>by
  rcases List.mem_cons.mp hp with h | h
  ·rw[h]
   exact Zdp k
  ·exact Z9k ks p h
end
mutual
theorem Z46:∀(p:Pat) (b:Nat),∀o∈p.ops b,∀k,o=.close k->p.has k
 |.node h ks,b=>by
  rw[Ty]
  refine Z6w (Pr:=fun o=>∀k,o=.close k->(Pat.node h ks).has k) ⟨fun _ k e=>(by cases e),fun _ k e=>(by cases e),fun _ _ k e=>(by cases e),fun k e=>(by cases e),fun k e=>(by cases e),fun _ _ _ _ k e=>(by cases e),fun _ _ k e=>(by cases e),fun k e=>(by cases e),fun k e=>(by cases e),fun k e=>(by cases e),fun _ k e=>(by cases e),fun k e=>(by cases e),fun k e=>(by cases e),fun k e=>(by cases e)⟩ (fun _ k e=>(by cases e)) (fun k e k' e'=>by cases e';exact has_node.mpr (.inl e)) (fun c hc=>?_) b
  obtain⟨p,hp,rfl⟩:=List.mem_map.mp hc
  exact fun b o ho k e=>has_node.mpr (.inr ⟨p,hp,Z2i ks p hp b o ho k e⟩)
theorem Z2i:∀(ks:List Pat),∀p∈ks,∀b,∀o∈p.ops b,∀k,o=.close k->p.has k
 | [],_,hp=>by simp at hp
 |k::ks,p,hp=>by
  rcases List.mem_cons.mp hp with h | h
  ·rw[h]
   exact Z46 k
  ·exact Z2i ks p h
end
theorem Z99{c:Co}{o:Op}(hm:∀b,o∈c b):∀ {cs:List Co},c∈cs->∀b,o∈Z39 cs b
 | [],h,_=>by simp at h
 |d::cs,h,b=>by
  rw[Z39]
  rcases List.mem_cons.mp h with rfl | h
  ·exact List.mem_append.mpr (.inl (hm b))
  ·exact List.mem_append.mpr (.inr (Z99 hm h _))
theorem Za6{c:Co}{o:Op}{e:Nat}(hm:∀b,o∈c b):∀ {cs:List Co},c∈cs->∀b,o∈Tf e cs b
 | [],h,_=>by simp at h
 | [d],h,b=>by rw[List.mem_singleton.mp h]at hm;exact hm b
 |d::d'::cs,h,b=>by
  rw[Tf]
  refine List.mem_cons_of_mem _ ?_
  rcases List.mem_cons.mp h with rfl | h
  ·exact List.mem_append.mpr (.inl (hm _))
  ·exact List.mem_append.mpr (.inr (List.mem_cons_of_mem _ (Za6 hm h _)))
theorem Z2p{lo:Int}{hi:Option Int}{how:How}{c:Co}{o:Op}(hm:∀b,o∈c b)(b:Nat):o∈U9 lo hi how c b:=by
 unfold U9
 exact List.mem_cons_of_mem _ (List.mem_cons_of_mem _ (List.mem_append.mpr (.inl (hm _))))
def Hd.fits:Hd->List Pat->Prop
 |.times _ _ _,ks=>ks.length=1
 |.grp _,ks=>ks.length=1
 |.hav _,ks=>ks.length=2
 |.look _,ks=>ks.length=1
 |.row,_=>True
 |.alt,_=>True
 |_,ks=>ks=[]
mutual
def Pat.wf:Pat->Prop
 |.node h ks=>h.fits ks/\Zlg ks
def Zlg:List Pat->Prop
 | []=>True
 |k::ks=>k.wf/\Zlg ks
end
theorem Z92:∀ {ks:List Pat},Zlg ks↔∀k∈ks,k.wf
 | []=>by simp[Zlg]
 |k::ks=>by rw[Zlg,Z92 (ks:=ks)];simp
theorem wf_node{h:Hd}{ks:List Pat}:(Pat.node h ks).wf↔h.fits ks/\∀k∈ks,k.wf:=by rw[Pat.wf,Z92]
theorem PatAt.wf{H:Hp}:∀ {d:Nat} {v:V} {p:Pat},PatAt H d v p->p.wf
 |0,_,_,h=>h.elim
 |d+1,v,.node h ks,⟨a,kv,e,l,p⟩=>by
  refine wf_node.mpr ⟨?_,fun k hk=>?_⟩
  ·have hl:=Paired.length p
   cases h with
   |times lo hi how=>obtain⟨_,k,rfl,_⟩:=l;exact hl.symm
   |grp n=>obtain⟨_,k,rfl,_⟩:=l;exact hl.symm
   |hav n=>obtain⟨_,y,z,rfl,_⟩:=l;exact hl.symm
   |look lk=>obtain⟨k,rfl,_⟩:=l;exact hl.symm
   |row=>trivial
   |alt=>trivial
   |again n=>obtain⟨_,rfl,_⟩:=l;exact List.length_eq_zero_iff.mp hl.symm
   |sign s=>obtain⟨rfl,_⟩:=l;exact List.length_eq_zero_iff.mp hl.symm
   |any=>obtain⟨rfl,_⟩:=l;exact List.length_eq_zero_iff.mp hl.symm
   |inn s=>obtain⟨rfl,_⟩:=l;exact List.length_eq_zero_iff.mp hl.symm
   |out s=>obtain⟨rfl,_⟩:=l;exact List.length_eq_zero_iff.mp hl.symm
   |beg=>obtain⟨rfl,_⟩:=l;exact List.length_eq_zero_iff.mp hl.symm
   |fin=>obtain⟨rfl,_⟩:=l;exact List.length_eq_zero_iff.mp hl.symm
  ·obtain⟨x,_,hx⟩:=Jq p k hk
   exact PatAt.wf hx
theorem Z8x{ks:List Pat}{p:Pat}{o:Op}(h1:ks.length=1)(hp:p∈ks)(hm:∀b,o∈p.ops b)(b:Nat):o∈Z91 (ks.map Pat.ops) b:=by
 match ks,h1 with
 | [q],_ =>
  rw[List.mem_singleton.mp hp]at hm
  exact hm b
mutual
theorem Z5e{k:Int}:∀(p:Pat),p.wf->p.has k->∀b,Op.close k∈p.ops b
 |.node h ks,hw,hh,b=>by
  have hw':=wf_node.mp hw
  rw[Ty]
  rcases has_node.mp hh with rfl | ⟨p,hp,hk⟩
  ·exact List.mem_cons_of_mem _ (List.mem_append.mpr (.inr (by simp)))
  ·have hm:=Z72 ks p hp (hw'.2 p hp) hk
   have hc:p.ops∈ks.map Pat.ops:=List.mem_map.mpr ⟨p,hp,rfl⟩
   cases h with
   |row=>exact Z99 hm hc b
   |alt=>exact Za6 hm hc b
   |times lo hi how =>
    have h1:=Z8x hw'.1 hp hm
    cases how with
    |keep=>exact List.mem_cons_of_mem _ (List.mem_append.mpr (.inl (Z2p h1 _)))
    |much=>exact Z2p h1 b
    |little=>exact Z2p h1 b
   |grp n=>exact List.mem_cons_of_mem _ (List.mem_append.mpr (.inl (Z8x hw'.1 hp hm _)))
   |hav n =>
    match ks,hw'.1,hp with
    | [q,q'],_,hp =>
     show Op.close k∈Z5j n q.ops q'.ops b
     unfold Z5j
     refine List.mem_cons_of_mem _ ?_
     rcases List.mem_cons.mp hp with e | hp
     ·rw[e]at hm
      exact List.mem_append.mpr (.inl (hm _))
     ·rw[List.mem_singleton.mp hp]at hm
      exact List.mem_append.mpr (.inr (List.mem_cons_of_mem _ (hm _)))
   |look l =>
    have h1:=Z8x hw'.1 hp hm
    show Op.close k∈Ui l (Z91 (ks.map Pat.ops)) b
    unfold Ui
    refine List.mem_cons_of_mem _ (List.mem_append.mpr (.inl ?_))
    unfold Z8j
    split
    ·exact List.mem_cons_of_mem _ (List.mem_append.mpr (.inl (h1 _)))
    ·exact h1 _
   |_ =>
    have:ks=[]:=hw'.1
    rw[this]at hp
    simp at hp
theorem Z72{k:Int}:∀(ks:List Pat),∀p∈ks,p.wf->p.has k->∀b,Op.close k∈p.ops b
 | [],_,hp=>by simp at hp
 |q::ks,p,hp=>by
  rcases List.mem_cons.mp hp with h | h
  ·rw[h]
   exact Z5e q
  ·exact Z72 ks p h
end
mutual
theorem Ze2{n k:Int}:∀(p:Pat),p.nm n->p.has k->1<=k/\k<=n
 |.node h ks,hn,hh=>by
  have hn':=nm_node.mp hn
  rcases has_node.mp hh with rfl | ⟨p,hp,hk⟩
  ·exact hn'.1
  ·exact Z9x ks p hp (hn'.2 p hp) hk
theorem Z9x{n k:Int}:∀(ks:List Pat),∀p∈ks,p.nm n->p.has k->1<=k/\k<=n
 | [],_,hp=>by simp at hp
 |q::ks,p,hp=>by
  rcases List.mem_cons.mp hp with h | h
  ·rw[h]
   exact Ze2 q
  ·exact Z9x ks p h
end
end Seek
namespace L2
open PySem PySem.Spec PyProof.Rows
section
variable{X:Cx}{Z6:List (Addr×Obj)}{σ:List (Option V)}{H H':Hp}{s:Shared}{h':Heap}
theorem Inv.turnedL{t':Nat}{fp:List Addr}(I:Inv X Z6 σ H s)(k:∀b o,b∉fp->s.heap.get? b=some o->h'.get? b=some o)(hf:∀b∈fp,Z1u X Z6 H b):Inv X Z6 σ H { s with heap:=h',toks:=t' }:=by
 have nit:∀b u,H b=some u->b∉fp:=fun b u e z=>by rw[(hf b z).1]at e;cases e
 refine I.step (g':=s.gens) (d':=s.drawn) (ch:=fp) (fun b hb=>?_) (fun b o _ _ hc e _=>k b o hc e) (fun b o _ _ hc e _=>⟨o.slots,k b o hc e⟩) (fun _ _ _ _ n=>n)
  (fun b o hc e=>⟨o,k b o hc e⟩) (fun _ _ e=>e) (fun _ _ _ e=>e) (fun b ps e=>⟨#[],by rw[e];simp⟩) (fun m hm=>?_) (fun b u e=>?_) I.bare
 ·obtain⟨_,f1,_,f3,f4,f5⟩:=hf b hb
  exact⟨f3,f1,f4,f5⟩
 ·obtain⟨o,es,ep,ho,r⟩:=hm
  exact⟨o,es,ep,k _ o (fun z=>(hf _ z).2.1 rfl) ho,r⟩
 ·refine(I.hok b u e).stay (fun c v hc q=>k c v ?_ q) (fun _ q=>q) fun _ _ q=>q
  rcases hc with z | z
  ·rw[z];exact nit b u e
  ·exact nit c _ z
end
def Zlk (K : PySem.W.Frag) (l1 l2 : Addr) : It :=
  ⟨fun i H => ∃ xs ys x y, SqL K H l1 xs ∧ SqL K H l2 ys ∧ xs[i]? = some x ∧ ys[i]? = some y,
   fun i H v H' => ∃ p, v = .ref p ∧ H p = none ∧ ∀ xs ys x y, SqL K H l1 xs → SqL K H l2 ys → xs[i]? = some x → ys[i]? = some y → H' = Zq H p (.tup [x, y]),
   fun i H => ∃ xs ys, SqL K H l1 xs ∧ SqL K H l2 ys ∧ (xs.length ≤ i ∨ ys.length ≤ i)⟩
structure ZipSt(z TI TO i1 i2 l1 l2:Addr)(i:Nat)(h:Heap):Prop where
 zp:IsZip h z TI TO .none
 ti:IsPair h TI (.ref i1) (.ref i2)
 to:∃a b,IsPair h TO a b
 s1:h.IsListIter i1 l1 i
 s2:h.IsListIter i2 l2 i
theorem Zbv{P:Program}{w:World}{K:W.Frag}{elts:List Expr}{x1:Nat}{tp:Pos}{z TI TO i1 i2 l1 l2:Addr}(ap:ZipApart z TI TO i1 i2 l1 l2):Turn P w K (.Tuple elts x1 tp) (Zlk K l1 l2) [z,TI,TO,i1,i2] z (ZipSt z TI TO i1 i2 l1 l2) where
 mem:=by simp
 obj:=fun i h st b hb=>by
  simp at hb
  rcases hb with rfl | rfl | rfl | rfl | rfl
  ·exact⟨_,st.zp,fun v q=>by cases q⟩
  ·exact⟨_,st.ti,fun v q=>by cases q⟩
  ·obtain⟨a,b,e⟩:=st.to
   exact⟨_,e,fun v q=>by cases q⟩
  ·obtain⟨o,e,c,d⟩:=st.s1
   exact⟨o,e,fun v q=>by rw[d]at q;cases q⟩
  ·obtain⟨o,e,c,d⟩:=st.s2
   exact⟨o,e,fun v q=>by rw[d]at q;cases q⟩
 keep:=fun i h h' st k=>by
  obtain⟨a,b,e⟩:=st.to
  exact⟨k z (by simp) _ st.zp,k TI (by simp) _ st.ti,⟨a,b,k TO (by simp) _ e⟩,st.s1.at fun o e=>k i1 (by simp) o e,st.s2.at fun o e=>k i2 (by simp) o e⟩
 item:=by
  intro X hP hw hK hc i Z6 s σ H E I hf st hg
  subst hP hw hK
  obtain⟨xs,ys,x,y,hq1,hq2,hx,hy⟩:=hg
  obtain⟨its1,rv1,p1,hz1⟩:=I.list hq1
  obtain⟨its2,rv2,p2,hz2⟩:=I.list hq2
  obtain⟨u,hu,ru⟩:=rv1.get hx
  obtain⟨v,hv,rv⟩:=rv2.get hy
  obtain⟨a,b,hto⟩:=st.to
  have hlt:∀c∈[z,TI,TO,i1,i2],c<s.heap.objs.size:=fun c hc=>by
   simp at hc
   rcases hc with rfl | rfl | rfl | rfl | rfl
   ·exact Heap.lt_size st.zp
   ·exact Heap.lt_size st.ti
   ·exact Heap.lt_size hto
   ·obtain⟨o,e,_⟩:=st.s1
    exact Heap.lt_size e
   ·obtain⟨o,e,_⟩:=st.s2
    exact Heap.lt_size e
  have hn:=I.hok.fresh (Nat.le_refl s.heap.objs.size)
  refine wpAny_pyNext_zip_item ap st.zp st.ti hto st.s1 st.s2 p1.isList p2.isList (x:=u) (y:=v) (by simpa using hu) (by simpa using hv) fun h' z' to' i1' i2' pr sz kp=>⟨_,rfl,?_⟩
  refine wpAny_letOwnedTupleGo_zip (s:={ s with heap:=h' }) z' fun h2 z2 sb=>?_
  have zl:=hlt z (by simp)
  have I1:Inv X Z6 σ (Zq H s.heap.objs.size (.tup [x,y])) { s with heap:=s.heap.push { cls:=.type "tuple",data:=.seq #[u,v] } } :=
   I.laid (t':=s.toks) (fun _ _ q=>Heap.get?_push_of_some _ q) (Nat.le_refl _) ⟨by rw[sizeLine_eq];show 2<=_;decide,[u,v],.cons ru (.cons rv .nil),⟨_,Heap.get?_push_size _ rfl,rfl,0,rfl⟩⟩
  have fresh:∀c∈[z,TI,TO,i1,i2],Zq H s.heap.objs.size (.tup [x,y]) c=none:=fun c hc=>by rw[Zi (Nat.ne_of_lt (hlt c hc))];exact(hf c hc).1
  have I2:Inv X Z6 σ (Zq H s.heap.objs.size (.tup [x,y])) { s with heap:=h2 }:=by
   refine Inv.turnedL (s:={ s with heap:=s.heap.push { cls:=.type "tuple",data:=.seq #[u,v] } }) (fp:=[z,TI,TO,i1,i2]) (t':=s.toks) I1 (fun c o hc e=>?_) (fun c hc=>⟨fresh c hc,(hf c hc).2⟩)
   simp at hc
   rw[sb.2 c hc.1]
   by_cases hcs:c=s.heap.objs.size
   ·subst hcs
    have e2:(s.heap.push { cls:=.type "tuple",data:=.seq #[u,v] }).get? s.heap.objs.size=some o:=e
    rw[Heap.get?_push_size _ rfl]at e2
    cases e2
    exact pr
   ·have e':s.heap.get? c=some o:=by
     have hlt':c<(s.heap.push { cls:=.type "tuple",data:=.seq #[u,v] }).objs.size:=Heap.lt_size e
     have:c<s.heap.objs.size:=by
      have h9:c<s.heap.objs.size+1:=by simpa[Heap.push] using hlt'
      exact Nat.lt_of_le_of_ne (Nat.le_of_lt_succ h9) hcs
     simpa[Heap.get?,Heap.push,Array.getElem?_push,Nat.ne_of_lt this] using e
    exact kp c o hc.1 hc.2.2.1 hc.2.2.2.1 hc.2.2.2.2 e'
  refine⟨.ref s.heap.objs.size,_,I2,rfl,⟨_,rfl,hn,fun xs' ys' x' y' h1 h2 h3 h4=>?_⟩,⟨z2,?_,⟨u,v,?_⟩,?_,?_⟩,fresh⟩
  ·rw[I.list_inj h1 hq1,hx]at h3
   rw[I.list_inj h2 hq2,hy]at h4
   cases h3
   cases h4
   rfl
  ·show h2.get? TI=_
   rw[sb.2 TI ap.TIz]
   exact kp _ _ ap.TIz ap.TITO ap.TIi1 ap.TIi2 st.ti
  ·show h2.get? TO=_
   rw[sb.2 TO ap.TOz]
   exact to'
  ·exact i1'.at fun o e=>by rw[sb.2 i1 ap.i1z];exact e
  ·exact i2'.at fun o e=>by rw[sb.2 i2 ap.i2z];exact e
 done:=by
  intro X hP hw hK hc i Z6 s σ H E I hf st hg
  subst hP hw hK
  obtain⟨xs,ys,hq1,hq2,hx⟩:=hg
  obtain⟨its1,rv1,p1,hz1⟩:=I.list hq1
  obtain⟨its2,rv2,p2,hz2⟩:=I.list hq2
  obtain⟨a,b,hto⟩:=st.to
  have hl1:=rv1.length
  have hl2:=rv2.length
  refine wpAny_pyNext_zip_end (I.ok.hd hc) ap st.zp st.ti hto st.s1 st.s2 p1.isList p2.isList ?_ fun h' kp=>⟨rfl,I.turnedL (fp:=[z,TI,TO,i1,i2]) (t':=s.toks) (fun c o hc e=>?_) hf⟩
  ·rcases hx with hx | hx
   ·exact .inl (by simp;omega)
   ·exact .inr (by simp;omega)
  ·simp at hc
   exact kp c o hc.1 hc.2.2.1 hc.2.2.2.1 hc.2.2.2.2 e
 self:=fun _ _ _ _ _ st h=>wpAny_pyIter_zip st.zp h
section
variable{X:Cx}
def Zmd(K:W.Frag)(ta:TA):TI:=fun σ H R=>ta σ H fun vs H1=>∃a b,vs=[.ref a,.ref b]/\(∃xs,SqL K H1 a xs)/\(∃ys,SqL K H1 b ys)/\R (Zlk K a b) H1
theorem Zii{elts:List Expr}{x1:Nat}{tp:Pos}{a b:Expr}{ta:TA}{p pos:Pos}(hg:Gl X "zip")(hm:X.mg "zip" = none)(ha:PA X [a,b] ta)(hs:starEach [a,b] X.env=[(false,eval a X.env),(false,eval b X.env)]:=by rfl)(hs2:starEach [b] X.env=[(false,eval b X.env)]:=by rfl) :
  PI X (.Tuple elts x1 tp) (.Call (.Name "zip" p) [a,b] [] pos) (Zmd X.K ta):=by
 intro Z6 s σ H R I h
 refine Call_ (Z00 I hg hm boot_zip (PyProof.Rows.callWith_type1 (W9 (ha pos Z6 s σ H _ I h) fun us s1 ⟨vs,H1,I1,r1,q1⟩=>?_) (by rw[hs,hs2]) (by rw[hs2];rfl)))
 obtain⟨a,b,e,⟨xs,hx⟩,⟨ys,hy⟩,q⟩:=q1
 subst e
 obtain⟨u,w',rfl,ru,rw'⟩:=Ze9 r1
 obtain rfl:u=Value.ref a:=ru
 obtain rfl:w'=Value.ref b:=rw'
 obtain⟨its1,rv1,p1,hz1⟩:=I1.list hx
 obtain⟨its2,rv2,p2,hz2⟩:=I1.list hy
 refine call_zip_2 p1.isList p2.isList fun h' z ti to s1' s2' sz kp=>?_
 refine wpAny_pyIter_zip z ?_
 have I2:Inv X Z6 σ H1 { s1 with heap:=h' }:=I1.kept (t':=s1.toks) kp
 have la:a<s1.heap.objs.size:=by obtain⟨o,n,e,_⟩:=p1;exact Heap.lt_size e
 have lb:b<s1.heap.objs.size:=by obtain⟨o,n,e,_⟩:=p2;exact Heap.lt_size e
 refine⟨_,[s1.heap.objs.size+4,s1.heap.objs.size+2,s1.heap.objs.size+3,s1.heap.objs.size,s1.heap.objs.size+1],_,_,H1,rfl,I2,Zbv (zipApart_new la lb),⟨z,ti,⟨_,_,to⟩,s1',s2'⟩,fun c hc=>?_,q⟩
 have hc':s1.heap.objs.size<=c:=by
  simp at hc
  rcases hc with rfl | rfl | rfl | rfl | rfl <;> omega
 exact I1.fpOk hc' (I1.hok.fresh hc')
theorem Zgb{K:W.Frag}{a b:Addr}{xs ys:List V}{g:TG}{tb:TS}{D:Ends}{σ:St}{H:Hp}(Pv:Nat->St->Hp->Prop)(h0:Pv 0 σ H)(hl:∀i σ H,i<=xs.length->Pv i σ H->SqL K H a xs/\SqL K H b ys)(hxy:ys.length=xs.length)
  (hs:∀i x y σ H p,xs[i]? = some x->ys[i]? = some y->Pv i σ H->H p=none->g (.ref p) σ (Zq H p (.tup [x,y])) fun σ2 H2=>tb { D with nx:=Pv (i+1),ct:=Pv (i+1),bk:=D.nx } σ2 H2) (hd:∀σ H,Pv xs.length σ H->D.nx σ H) :
  ∃W:Nat->Nat->St->Hp->Prop,(∃m,W 0 m σ H)/\∀i m σ H,W i m σ H ->
   ((Zlk K a b).stop i H/\D.nx σ H)∨((Zlk K a b).go i H/\∃N:St->Hp->Prop,(∀σ' H',N σ' H'->∃m',m'<m/\W (i+1) m' σ' H')/\∀x H',(Zlk K a b).yld i H x H'->g x σ H' fun σ2 H2=>tb { D with nx:=N,ct:=N,bk:=D.nx } σ2 H2):=by
 refine⟨fun i m σ H=>m=xs.length-i/\i<=xs.length/\Pv i σ H,⟨xs.length,by simp,Nat.zero_le _,h0⟩,?_⟩
 rintro i m σ H ⟨rfl,hi,p⟩
 obtain⟨ha,hb⟩:=hl i σ H hi p
 by_cases hlt:i<xs.length
 ·have hx:xs[i]? = some xs[i]:=List.getElem?_eq_getElem hlt
  have hy:ys[i]? = some (ys[i]'(by omega)):=List.getElem?_eq_getElem (by omega)
  refine .inr ⟨⟨xs,ys,_,_,ha,hb,hx,hy⟩,Pv (i+1),fun σ' H' p'=>⟨xs.length-(i+1),by omega,rfl,hlt,p'⟩,fun v H' yv=>?_⟩
  obtain⟨q,e,hn,hH⟩:=yv
  subst e
  rw[hH xs ys _ _ ha hb hx hy]
  exact hs i _ _ σ H q hx hy p hn
 ·have e:i=xs.length:=by omega
  subst e
  exact .inl ⟨⟨xs,ys,ha,hb,.inl (Nat.le_refl _)⟩,hd σ H p⟩
theorem Uw:T8 X (.type "int") (fun xs H Q=>∃(x:Str) (n:Int),xs=[.str x]/\PySem.intText? x=some n/\x.length<=640/\Q (.int n) H):=by
 intro Z6 s σ H xs us Q I r h
 obtain⟨x,n,rfl,hi,hz,q⟩:=h
 obtain⟨u,rfl,t,rfl⟩:=Tj r
 exact W.KIN.call_text hi hz ⟨.int n,H,I.tok _,⟨_,rfl⟩,q⟩
end
end L2
namespace Seek
open PySem PySem.Spec PyProof.Rows L2
theorem Z0n(a:Str):a++("":Str)=a:=by
 show(⟨a.cps ++ #[]⟩:Str)=a
 rw[Array.append_empty]
theorem Z5a(a:Str):("":Str)++a=a:=by
 show(⟨#[]++a.cps⟩:Str)=a
 rw[Array.empty_append]
theorem Je(xs:List Str)(y:Str):Txt.join "" (xs++[y])=Txt.join "" xs++y:=by
 cases xs with
 |nil=>exact(Z5a y).symm
 |cons x xs =>
  show(⟨(xs++[y]).foldl (fun a p=>a++("":Str).cps++p.cps) x.cps⟩:Str)=⟨xs.foldl (fun a p=>a++("":Str).cps++p.cps) x.cps++y.cps⟩
  rw[List.foldl_append]
  show(⟨(xs.foldl (fun a p=>a++("":Str).cps++p.cps) x.cps ++ #[])++y.cps⟩:Str)=_
  rw[Array.append_empty]
inductive Pc where
 |tx (s:Str) | nm (k:Nat)
def Zk1:Pc->V
 |.tx s=>.str s
 |.nm k=>.int k
def Zem(s:Str):Option Nat:=match s.cps.toList with
 | [c]=>if 48<=c/\c<=57 then some (c-48) else none
 |_=>none
inductive Fkd where
 |sign | dollar | num (k:Nat) | bad
def Z3a(f:Str)(p:Nat):Str:=sub f (p+1) (p+2)
def kd(f:Str)(n p:Nat):Fkd:=if Z4w f p="$" then(if Z3a f p="$" then .dollar else match Zem (Z3a f p) with
 |some k=>if k<=n then .num k else .bad
 |none=>.bad) else .sign
def pz(f:Str)(n p:Nat):Option (List Pc) :=
 if p<f.length then(match kd f n p with
  |.sign=>(pz f n (p+1)).map (Pc.tx (Z4w f p) :: ·)
  |.dollar=>(pz f n (p+2)).map (Pc.tx "$" :: ·)
  |.num k=>(pz f n (p+2)).map (Pc.nm k :: ·)
  |.bad=>none)
 else some []
termination_by f.length-p
theorem Z5t{f:Str}{n p:Nat}(h:¬p<f.length):pz f n p=some []:=by rw[pz,if_neg h]
theorem Z22{f:Str}{n p:Nat}(h:p<f.length)(k:kd f n p=.sign):pz f n p=(pz f n (p+1)).map (Pc.tx (Z4w f p) :: ·):=by rw[pz,if_pos h,k]
theorem Jc{f:Str}{n p:Nat}(h:p<f.length)(k:kd f n p=.dollar):pz f n p=(pz f n (p+2)).map (Pc.tx "$" :: ·):=by rw[pz,if_pos h,k]
theorem Z5r{f:Str}{n p k:Nat}(h:p<f.length)(e:kd f n p=.num k):pz f n p=(pz f n (p+2)).map (Pc.nm k :: ·):=by rw[pz,if_pos h,e]
theorem Z5u{f:Str}{n p:Nat}(h:p<f.length)(k:kd f n p=.bad):pz f n p=none:=by rw[pz,if_pos h,k]
theorem Zdw{f:Str}{n p:Nat}(h:¬Z4w f p="$"):kd f n p=.sign:=by unfold kd;rw[if_neg h]
theorem Zdx{f:Str}{n p:Nat}(h:Z4w f p="$")(h':Z3a f p="$"):kd f n p=.dollar:=by unfold kd;rw[if_pos h,if_pos h']
theorem Zdv{f:Str}{n p k:Nat}(h:Z4w f p="$")(h':¬Z3a f p="$")(e:Zem (Z3a f p)=some k)(hk:k<=n):kd f n p=.num k:=by unfold kd;rw[if_pos h,if_neg h',e];show(if k<=n then Fkd.num k else .bad)=_;rw[if_pos hk]
theorem Z9u{f:Str}{n p k:Nat}(h:Z4w f p="$")(h':¬Z3a f p="$")(e:Zem (Z3a f p)=some k)(hk:¬k<=n):kd f n p=.bad:=by unfold kd;rw[if_pos h,if_neg h',e];show(if k<=n then Fkd.num k else .bad)=_;rw[if_neg hk]
theorem Z5d{f:Str}{n p:Nat}(h:Z4w f p="$")(h':¬Z3a f p="$")(e:Zem (Z3a f p)=none):kd f n p=.bad:=by unfold kd;rw[if_pos h,if_neg h',e]
abbrev digS:Str:="0123456789"
theorem Zio{s:Str}(h:s.length=1):∃c,s=⟨#[c]⟩:=by
 have hl:s.cps.toList.length=s.length:=by simp[Str.length]
 rw[h]at hl
 match hc:s.cps.toList,hl with
 | [c],_ =>
  refine⟨c,?_⟩
  obtain⟨⟨x⟩⟩:=s
  have:x=[c]:=hc
  rw[this]
theorem Ze4{s:Str}(h:s.length=1):(!(Builtin.Str.occurrences digS s 0 digS.length 1).isEmpty)=(Zem s).isSome:=by
 obtain⟨c,rfl⟩:=Zio h
 rw[PySem.StrLaws.found_one]
 have e:digS.cps.toList=[48,49,50,51,52,53,54,55,56,57]:=by decide +kernel
 rw[e]
 show _=(if 48<=c/\c<=57 then some (c-48) else none).isSome
 by_cases hc:48<=c/\c<=57
 ·rw[if_pos hc]
  refine decide_eq_true ?_
  simp
  omega
 ·rw[if_neg hc]
  refine decide_eq_false ?_
  simp
  omega
theorem Za1{s:Str}{k:Nat}(h:Zem s=some k):PySem.intText? s=some (k:Int)/\s.length=1/\k<=9:=by
 unfold Zem at h
 split at h
 ·rename_i c hc
  split at h
  ·rename_i hr
   cases h
   have hs:s=⟨#[c]⟩:=by
    obtain⟨⟨x⟩⟩:=s
    have:x=[c]:=hc
    rw[this]
   have:c=48∨c=49∨c=50∨c=51∨c=52∨c=53∨c=54∨c=55∨c=56∨c=57:=by omega
   rcases this with rfl | rfl | rfl | rfl | rfl | rfl | rfl | rfl | rfl | rfl <;> (rw[hs];exact⟨by decide +kernel,rfl,by decide⟩)
  ·cases h
 ·cases h
theorem Z94(f:Str)(p:Nat):(Z3a f p).length<=1:=by
 show((f.cps.toList.drop (p+1)).take (p+2-(p+1))).toArray.size<=1
 rw[List.size_toArray,List.length_take]
 omega
theorem Zjp{s:Str}(h:s.length=0):s="":=by
 obtain⟨⟨x⟩⟩:=s
 have:x=[]:=List.eq_nil_of_length_eq_zero h
 rw[this]
 rfl
def Zlq(t:Str):En->Str
 |none=>""
 |some q=>Txt.slice t (some (q.1:Int)) (some (q.2:Int))
def Zgt(t:Str)(x:Nat×Yd):Pc->Str
 |.tx s=>s
 |.nm 0=>Txt.slice t (some (x.1:Int)) (some (x.2.1:Int))
 |.nm (k+1)=>Zlq t (x.2.2.getD k none)
def Z3n(t:Str)(x:Nat×Yd)(ps:List Pc):Str:=Txt.join "" (ps.map (Zgt t x))
end Seek
namespace L2
open PySem PySem.Spec PyProof.Rows
structure Kp(fs xs:List Addr)(h h':Heap):Prop where
 keep:∀b o,h.get? b=some o->b∉fs->b∉xs->h'.get? b=some o
 slot:∀b o,h.get? b=some o->b∈fs->b∉xs->∃sl,h'.get? b=some { o with slots:=sl }
 there:∀b o,h.get? b=some o->∃o',h'.get? b=some o'
theorem Kp.trans{fs xs ys zs:List Addr}{h h1 h2:Heap}(a:Kp fs xs h h1)(b:Kp fs ys h1 h2)(hx:∀c∈xs,c∈zs)(hy:∀c∈ys,c∈zs∨h.get? c=none):Kp fs zs h h2:=by
 have ny:∀c o,h.get? c=some o->c∉zs->c∉ys:=fun c o e n z=>by
  rcases hy c z with y | y
  ·exact n y
  ·rw[e]at y;cases y
 refine⟨fun c o e f n=>b.keep c o (a.keep c o e f fun z=>n (hx c z)) f (ny c o e n),fun c o e f n=>?_,fun c o e=>?_⟩
 ·obtain⟨sl,e1⟩:=a.slot c o e f fun z=>n (hx c z)
  obtain⟨sl2,e2⟩:=b.slot c _ e1 f (ny c o e n)
  exact⟨sl2,e2⟩
 ·obtain⟨o1,e1⟩:=a.there c o e
  exact b.there c o1 e1
theorem Kp.weak{fs fs' xs:List Addr}{h h':Heap}(a:Kp fs xs h h')(hf:∀b∈fs,b∈fs'):Kp fs' xs h h':=by
 refine⟨fun c o e f n=>a.keep c o e (fun z=>f (hf c z)) n,fun c o e f n=>?_,a.there⟩
 by_cases z:c∈fs
 ·exact a.slot c o e z n
 ·exact⟨o.slots,a.keep c o e z n⟩
def Tr(h:Heap)(x:Addr)(vs:Array Value)(fl:Value):Option Addr->Prop
 |none=>vs[1]? = some .none
 |some T=>vs[1]? = some (.ref T)/\T≠x/\∃oT ts,h.get? T=some oT/\oT.data=.fields ts/\ts[3]? = some fl
structure Xa(h:Heap)(x:Addr)(cls fl:Value)(To:Option Addr):Prop where
 ex:∃oe vs,h.get? x=some oe/\(oe.cls=cls/\oe.dict=none/\oe.slots = #[])/\oe.data=.fields vs/\1<vs.size/\Tr h x vs fl To
theorem Z48(o:Obj)(f:Array Value->Array Value):(o.mapFields f).dict=o.dict/\(o.mapFields f).slots=o.slots:=by
 obtain⟨c,d,dt,sl⟩:=o
 cases dt <;> exact⟨rfl,rfl⟩
section
variable{M:Model}{A:Around}{E:Value->Shared->Prop}{s:Shared}{base:Heap}{env:Env}{outer:List Env}{L x:Addr}{cls:Value}{To:Option Addr}{Q:Unit->Shared->Prop}
theorem Zbe{h:Heap}{l:List Env}{b:Addr}{o:Obj}{vs:Array Value}(hl:h.FunFrames base l)(e:h.get? b=some o)(d:o.data=.fields vs):b∉Z3m l:=fun hm=>by
 obtain⟨_,o',e',n⟩:=hl.mem hm
 rw[e]at e'
 cases e'
 exact n vs d
theorem Z76{oe:Obj}{vs:Array Value}{head:Value}{hn:Bool}(hfr:A.frames=some (env::outer))(hl:s.heap.FunFrames base (env::outer))(hf:env.frame=some L)(he:s.heap.get? x=some oe)(hds:oe.dict=none/\oe.slots = #[])(hd:oe.data=.fields vs)(hsz:1<vs.size)
  (h:∀h',Kp (Z3m (env::outer)) [x] s.heap h'->Xa h' x oe.cls (rawInt L) (some s.heap.objs.size)->Q () { s with heap:=h' }) :
  wpAny M A (do let a ← frameOf env;let pl ← entryPlaceOf L hn;let b ← EntryCells.newEntry head a .none (rawInt L) .none pl;setField (.ref x) 1 b) Q E s:=by
 have hxf:=Zbe hl he hd
 refine wpAny_bind (wpAny_frameOf_fun hfr hl hf fun h1 hs=>?_)
 refine wpAny_bind (wpAny_entryPlaceOf fun pl hpl=>?_)
 unfold EntryCells.newEntry newFields
 refine wpAny_bind (wpAny_newObj_type ?_ (hpl.sizeOk5 _ _ _ _ _))
 have e1:h1.get? x=some oe:=(hs.2.1 x hxf).trans he
 have e2:=fun o:Obj=>Heap.get?_push_of_some (h:=h1) o e1
 refine wpAny_setField (e2 _) hd hsz (h _ ?_ ?_)
 ·refine⟨fun b o e f n=>?_,fun b o e f n=>?_,fun b o e=>?_⟩
  ·rw[Heap.get?_update_other _ _ fun z=>n (by simp[z])]
   exact Heap.get?_push_of_some _ ((hs.2.1 b f).trans e)
  ·obtain⟨sl,q⟩:=hs.2.2 b o e
   refine⟨sl,?_⟩
   rw[Heap.get?_update_other _ _ fun z=>n (by simp[z])]
   exact Heap.get?_push_of_some _ q
  ·by_cases z:x=b
   ·subst z
    exact⟨_,Heap.get?_update_self _ (e2 _) (Obj.isFreed_of_fields (Obj.data_mapFields hd _))⟩
   ·obtain⟨sl,q⟩:=hs.2.2 b o e
    exact⟨_,by rw[Heap.get?_update_other _ _ z];exact Heap.get?_push_of_some _ q⟩
 ·have hne:h1.objs.size≠x:=Nat.ne_of_gt (Heap.lt_size e1)
  have hd3:=Obj.data_mapFields hd (·.setIfInBounds 1 (Value.ref h1.objs.size))
  refine⟨_,_,Heap.get?_update_self _ (e2 _) (Obj.isFreed_of_fields hd3),⟨Obj.cls_mapFields _ _,(Z48 _ _).1.trans hds.1,(Z48 _ _).2.trans hds.2⟩,hd3,by rw[Array.size_setIfInBounds];exact hsz,?_⟩
  rw[← hs.1]
  have eN:=fun o:Obj=>fun(z:o.isFreed=false)=>(Heap.get?_update_other (h1.push o) (Obj.mapFields (·.setIfInBounds 1 (Value.ref h1.objs.size))) (Ne.symm hne)).trans (Heap.get?_push_size _ z)
  refine⟨by simp[hsz],hne,_,_,eN _ rfl,rfl,?_⟩
  ·first | (simp;done) | (rcases hpl with rfl | ⟨_,_,_,_,_,_,_,rfl⟩ <;> simp)
theorem Z9p(hfr:A.frames=some (env::outer))(hl:s.heap.FunFrames base (env::outer))(hf:env.frame=some L)(hx:Xa s.heap x cls .none To)
  (h:∀h',Kp (Z3m (env::outer)) (x::To.toList) s.heap h'->Xa h' x cls (rawInt L) (some s.heap.objs.size)->Q () { s with heap:=h' }):wpAny M A (noteFrame (.ref x) env) Q E s:=by
 obtain⟨oe,vs,he,⟨rfl,hds⟩,hd,hsz,tr⟩:=hx.ex
 unfold noteFrame
 simp only[hf]
 cases To with
 |none =>
  have h1:vs[1]? = some Value.none:=tr
  refine wpAny_bind (wpAny_field he hd h1 ?_)
  rw[if_neg (by decide)]
  exact Z76 hfr hl hf he hds hd hsz fun h' k xa=>h h' k xa
 |some T =>
  obtain⟨h1,hne,oT,ts,eT,dT,h3⟩:=tr
  refine wpAny_bind (wpAny_field he hd h1 ?_)
  rw[if_pos (show(Value.ref T != Value.none)=true from by simp)]
  refine wpAny_bind (wpAny_field eT dT h3 ?_)
  rw[if_neg (show ¬((Value.none==rawInt L)=true) from by simp[rawInt])]
  refine wpAny_bind (wpAny_setField eT dT (Array.getElem?_eq_some_iff.mp h3).1 ?_)
  have other:∀b,b≠T->(s.heap.update T (Obj.mapFields (·.setIfInBounds 3 Value.none))).get? b=s.heap.get? b:=fun b hb=>Heap.get?_update_other _ _ (Ne.symm hb)
  have eT2:=Heap.get?_update_self (Obj.mapFields (·.setIfInBounds 3 Value.none)) eT (Obj.isFreed_of_fields (Obj.data_mapFields dT _))
  have k0:Kp (Z3m (env::outer)) [T] s.heap (s.heap.update T (Obj.mapFields (·.setIfInBounds 3 Value.none))):=by
   refine⟨fun b o e f n=>(other b (by simpa using n)).trans e,fun b o e f n=>⟨o.slots,(other b (by simpa using n)).trans e⟩,fun b o e=>?_⟩
   by_cases z:b=T
   ·subst z;exact⟨_,eT2⟩
   ·exact⟨o,(other b z).trans e⟩
  have hl2:(s.heap.update T (Obj.mapFields (·.setIfInBounds 3 Value.none))).FunFrames base (env::outer):=hl.of_keeps fun b o e n=>⟨o,(other b fun z=>by subst z;rw[eT]at e;cases e;exact n ts dT).trans e,rfl⟩
  refine Z76 (s:={ s with heap:=s.heap.update T (Obj.mapFields (·.setIfInBounds 3 Value.none)) }) hfr hl2 hf ((other x (Ne.symm hne)).trans he) hds hd hsz fun h' k xa=>h h' (k0.trans k (by simp) (by simp)) ?_
  have es:(s.heap.update T (Obj.mapFields (·.setIfInBounds 3 Value.none))).objs.size=s.heap.objs.size:=Heap.size_after_update ..
  rw[es]at xa
  exact xa
theorem Z11{T:Addr}{fl:Value}(hx:Xa s.heap x cls fl (some T))(h:∀h',Kp [] [T] s.heap h'->Xa h' x cls .none (some T)->Q () { s with heap:=h' }):wpAny M A (setFlight (.ref x) none) Q E s:=by
 obtain⟨oe,vs,he,⟨rfl,hds⟩,hd,hsz,h1,hne,oT,ts,eT,dT,h3⟩:=hx.ex
 have h3s:=(Array.getElem?_eq_some_iff.mp h3).1
 unfold setFlight
 refine wpAny_bind (wpAny_field he hd h1 ?_)
 rw[if_pos (show(Value.ref T != Value.none)=true from by simp)]
 refine wpAny_setField eT dT h3s (h _ ?_ ?_)
 ·refine⟨fun b o e f n=>?_,fun b o e f n=>absurd f (by simp),fun b o e=>?_⟩
  ·rw[Heap.get?_update_other _ _ fun z=>n (by simp[z])];exact e
  ·by_cases z:T=b
   ·subst z
    exact⟨_,Heap.get?_update_self _ eT (Obj.isFreed_of_fields (Obj.data_mapFields dT _))⟩
   ·exact⟨o,by rw[Heap.get?_update_other _ _ z];exact e⟩
 ·refine⟨oe,vs,?_,⟨rfl,hds⟩,hd,hsz,h1,hne,_,_,Heap.get?_update_self _ eT (Obj.isFreed_of_fields (Obj.data_mapFields dT _)),Obj.data_mapFields dT _,?_⟩
  ·rw[Heap.get?_update_other _ _ hne];exact he
  ·simp[h3s]
theorem Zcs(hfr:A.frames=some (env::outer))(hl:s.heap.FunFrames base (env::outer))(hf:env.frame=some L)(hx:Xa s.heap x cls .none To)
  (h:∀h' T,s.heap.get? T=none->Kp (Z3m (env::outer)) (x::To.toList) s.heap h'->Xa h' x cls .none (some T)->Q () { s with heap:=h' }):wpAny M A (leaving env (.ref x)) Q E s:=by
 unfold leaving
 have hT:s.heap.get? s.heap.objs.size=none:=Heap.get?_none_of_le (Nat.le_refl _)
 refine wpAny_bind (Z9p hfr hl hf hx fun h1 k1 x1=>?_)
 exact Z11 (s:={ s with heap:=h1 }) x1 fun h2 k2 x2=>h h2 _ hT (k1.trans (k2.weak (by simp)) (fun c hc=>hc) fun c hc=>.inr (by rw[List.mem_singleton.mp hc];exact hT)) x2
end
theorem Zko{P:Program}{w:World}{H:Hp}{h:Heap}{a:Addr}{o:HO}(x:ObjOk P w H h a o):∃u,h.get? a=some u:=by
 cases o with
 |lst xs=>obtain⟨_,_,_,_,e⟩:=x;exact⟨_,e⟩
 |tup xs=>obtain⟨_,_,_,_,e,_⟩:=x;exact⟨_,e⟩
 |dK kvs=>obtain⟨_,_,_,_,o,_,_,e,_⟩:=x;exact⟨_,e⟩
 |dT kvs=>obtain⟨_,_,_,_,o,_,_,e,_⟩:=x;exact⟨_,e⟩
 |set S n=>obtain⟨o,_,_,_,e,_⟩:=x;exact⟨_,e⟩
 |ins C dx fs=>obtain⟨_,_,_,e,_⟩:=x;exact⟨_,e⟩
 |own y=>exact x
 |xd fs=>obtain⟨_,⟨_,_,_,e,_⟩,_⟩:=x;exact⟨_,e⟩
 |rng lo hi=>obtain⟨_,_,_,e⟩:=x;exact⟨_,e⟩
 |frz ob u=>obtain⟨e,_⟩:=x;exact⟨_,e⟩
 |tbl ps=>exact⟨_,(show h.get? a=some _ from x)⟩
 |met f y=>exact⟨_,(show h.get? a=some _ from x)⟩
 |ext φ=>obtain⟨_,e,_⟩:=x;exact e
theorem HOk.none_of{P:Program}{w:World}{H:Hp}{h:Heap}{a:Addr}(x:HOk P w H h)(e:h.get? a=none):H a=none:=by
 cases q:H a with
 |none=>rfl
 |some u =>
  obtain⟨o,z⟩:=Zko (x a u q)
  rw[e]at z
  cases z
theorem Z9w{P:Program}{w:World}{H:Hp}{h h':Heap}{fs xs:List Addr}(ok:HOk P w H h)(k:Kp fs xs h h')(hf:∀b∈fs,H b=none)(hx:∀c∈xs,H c=none):HOk P w H h':=fun a o e=>by
 refine(ok a o e).stay (fun b u c q=>?_) (fun _ q=>q) fun _ _ q=>q
 have t:∃o',H b=some o':=by
  rcases c with rfl | c
  ·exact⟨o,e⟩
  ·exact⟨_,c⟩
 obtain⟨o',t⟩:=t
 refine k.keep b u q (fun z=>?_) fun z=>?_
 ·rw[hf b z]at t;cases t
 ·rw[hx b z]at t;cases t
theorem Zd8{fs fs' xs:List Addr}{H H':Hp}{h h1 h2:Heap}{L:Addr}(u:Un fs [] H H' h h1)(k:Kp fs' xs h1 h2)(hL:h.get? L=none)(hf:∀b∈fs',b=L∨b∈fs)(hx:∀c∈xs,h.get? c=none):Un fs [] H H' h h2:=by
 have nx:∀b o,h.get? b=some o->b∉xs:=fun b o e z=>by rw[hx b z]at e;cases e
 have nf:∀b o,h.get? b=some o->b∈fs'->b∈fs:=fun b o e z=>by
  rcases hf b z with rfl | z
  ·rw[hL]at e;cases e
  ·exact z
 refine⟨fun b o e n f x=>k.keep b o (u.keep b o e n f x) (fun z=>f (nf b o e z)) (nx b o e),fun b o e n f x=>?_,u.free,fun b o e x=>?_,u.tups,u.frzs,u.tbls⟩
 ·obtain⟨sl,e1⟩:=u.slot b o e n f x
  by_cases z:b∈fs'
  ·obtain⟨sl2,e2⟩:=k.slot b _ e1 z (nx b o e)
   exact⟨sl2,e2⟩
  ·exact⟨sl,k.keep b _ e1 z (nx b o e)⟩
 ·obtain⟨o1,e1⟩:=u.there b o e x
  exact k.there b o1 e1
def Zeo(P:Program)(w:World):Zd7:=fun outer H s E e s'=>∃(x T:Addr) (cls:Value) (H':Hp),e=.ref x/\s'.os=s.os/\AllBare s'.gens/\Un (Z3m outer) [] H H' s.heap s'.heap/\HOk P w H' s'.heap/\Xa s'.heap x cls .none (some T) /\
 s.heap.get? x=none/\s.heap.get? T=none/\H' x=none/\H' T=none/\E cls none H'
structure LeaveX(X:Cx)(E:XK):Prop where
 xe:X.xe=fun e s'=>wpAny (model X.prog X.w) X.A (leaving X.env e) (fun _ s''=>Zeo X.prog X.w X.outer X.H₀ X.s₀ E e s'') (fun e' s''=>Zeo X.prog X.w X.outer X.H₀ X.s₀ E e' s'') s'
 stk:X.stack=X.env::X.outer
 fr:X.env.frame=some X.env.locals
 ex:X.ex=[]
section
variable{X:Cx}{E:XK}
theorem LeaveX.go{Z6:List (Addr×Obj)}{σ:St}{H:Hp}{s:Shared}{x:Addr}{To:Option Addr}{cls:Value}(L:LeaveX X E)(I:Inv X Z6 σ H s)(hx:Xa s.heap x cls .none To)(h0:X.s₀.heap.get? x=none)(hT:∀T,To=some T->X.s₀.heap.get? T=none/\H T=none)(hn:H x=none)(hE:E cls none H):X.xe (.ref x) s:=by
 rw[L.xe]
 have hfr:=I.ok.frames
 have hl:=I.stack
 have hsf:=I.stkFree
 rw[L.stk]at hfr hl hsf
 refine Zcs hfr hl L.fr hx fun h' T' nT k xa=>?_
 have hxs:∀c∈x::To.toList,X.s₀.heap.get? c=none/\H c=none:=fun c hc=>by
  rcases List.mem_cons.mp hc with rfl | hc
  ·exact⟨h0,hn⟩
  ·cases To with
   |none=>simp at hc
   |some T=>rw[show c=T by simpa using hc];exact hT T rfl
 have hu:Un (Z3m X.outer) [] X.H₀ H X.s₀.heap s.heap:=by
  have:=I.base
  rw[L.ex]at this
  exact this
 refine⟨x,T',cls,H,rfl,I.os,I.bare,Zd8 hu k (L:=X.env.locals) (Heap.get?_none_of_le I.ok.above) (fun b hb=>?_) (fun c hc=>(hxs c hc).1),Z9w I.hok k hsf fun c hc=>(hxs c hc).2,xa,h0,?_,hn,I.hok.none_of nT,hE⟩
 ·have:Z3m (X.env::X.outer)=X.env.locals::Z3m X.outer:=by
   unfold Z3m
   rw[List.filterMap_cons,L.fr]
  rw[this]at hb
  exact List.mem_cons.mp hb
 ·cases q:X.s₀.heap.get? T' with
  |none=>rfl
  |some o =>
   obtain⟨o',z⟩:=hu.there T' o q (by simp)
   rw[nT]at z
   cases z
theorem LeaveX.pass(L:LeaveX X E):U4 (Zeo X.prog X.w) X E:=by
 rintro Z6 σ H s e s' I ⟨x,T,cls,H',rfl,ho,hb,un,ok,xa,nx,nT,hx,hT,hE⟩
 have I1:Inv X Z6 σ H' s':=I.call' ho un ok hb (ch:=[]) (fun b z=>absurd z (by simp))
 have back:∀b,s.heap.get? b=none->X.s₀.heap.get? b=none:=fun b e=>by
  cases q:X.s₀.heap.get? b with
  |none=>rfl
  |some o =>
   obtain⟨o',z⟩:=I.base.there b o q (by rw[L.ex];simp)
   rw[e]at z
   cases z
 exact L.go I1 xa (back x nx) (fun T' e=>by cases e;exact⟨back T nT,hT⟩) hx hE
end
theorem Fun.okX{P:Program}{w:World}{K:W.Frag}{mg:Str->Option Value}{base:Heap}{x qual:Str}{st:Stmt}{f:Addr}{fd:FuncData}{N ps:List Str}{k:Nat}{sp:Sp}(F:Fun K x qual st f fd)(S:FnScope N ps (Za st))(len:∀vs H Q E,sp vs H Q E->vs.length=ps.length)
  (hbody:∀(cdv:Value) (A:Around) (outer:List Env) (s:Shared) (H:Hp) (vs:List V) (Q:VK) (E:XK),Room k (A.deeper (envOfC qual (Za st) s.heap.objs.size f cdv))->sp vs H Q E ->
   LeaveX (Z3r (Zeo P w) P w K mg base N qual (Za st) f cdv A outer s H E) E->∃t,PSs (Z3r (Zeo P w) P w K mg base N qual (Za st) f cdv A outer s H E) (Xj st) t/\t { nx:=fun _ H'=>Q .non H',rt:=Q } (start N vs) H):FnOk P w K mg base (Zeo P w) (k+1) f fd ps sp:=by
 obtain⟨oc,od,kV,doc,pm,an,cdv,ct,osl,rfl,lk,hcd⟩:=F.ex
 exact Zh1 lk hcd S len fun A outer s H vs Q E hr hsp=>hbody cdv A outer s H vs Q E hr hsp ⟨rfl,rfl,rfl,rfl⟩
theorem LeaveX.own{CX:Zd7}{P:Program}{w:World}{K:W.Frag}{mg:Str->Option Value}{base:Heap}{N:List Str}{qual:Str}{scope:Scope}{f:Addr}{cd:Value}{A:Around}{outer:List Env}{s:Shared}{H:Hp}{E:XK}:PassesOwn (model P w) (Z3r CX P w K mg base N qual scope f cd A outer s H E).A (Z3r CX P w K mg base N qual scope f cd A outer s H E).env (Z3r CX P w K mg base N qual scope f cd A outer s H E).xe:=PassesOwn.leaving
def Zlj:List Value:=[.type "ValueError",.type "Exception",.type "BaseException",.type "object"]
structure XC(K:W.Frag)(mg:Str->Option Value)(x:Str)(C C':Addr):Prop where
 mgx:mg x=some (.ref C)
 ob:∃nm q N bs hdct sn sub ab col dd k0 k1 k2 k3 k5 es,K.lookup C=some (excClassObj nm q C N bs (.ref C'::Zlj) hdct sn sub ab col dd k0 k1 k2 k3 k5 "ValueError.__new__")/\(∀h,K.In h->h.Ns N (nsFind es))/\nsFind es "__init__" = none/\∀h,K.In h->OwnTail h Zlj (.ref C'::Zlj)
def Zh9(C:Addr)(E:XK)(t:TA):TS:=fun D σ H=>t σ H fun vs H1=>vs.length<=sizeLine/\E (.ref C) none H1
theorem Z6n{X:Cx}{E:XK}{x:Str}{C C':Addr}{e:Expr}{t:TA}{np cpos pos:Pos}(L:LeaveX X E)(hc:X.calm=true)(xc:XC X.K X.mg x C C')(hg:Gl X x)(ha:PA X [e] t)
  (he:starEach [e] X.env=(false,eval e X.env)::starEach [] X.env:=by rfl) (hdb:(x==("__debug__":Str))=false:=by decide):PS X (.Raise (some (.Call (.Name x np) [e] [] cpos)) none pos) (Zh9 C E t):=by
 intro Z6 s σ H D I h
 obtain⟨nm,q,N,bs,hdct,sn,sub,ab,col,dd,k0,k1,k2,k3,k5,es,hC,hN,hi,hT⟩:=xc.ob
 refine wpAny_Raise_call_subT (C:=C) (nm:=nm) (q:=q) (N:=N) (bs:=bs) (bm:=.ref C'::Zlj) (hdct:=hdct) (sn:=sn) (sub:=sub) (ab:=ab) (col:=col) (dd:=dd) (k0:=k0) (k1:=k1) (k2:=k2) (k3:=k3) (k5:=k5) PySem.F.excBase_ValueError (mN:=nsFind es) ((hT _ I.kIn).hasType PySem.F.excBase_ValueError.hasBase) (I.ok.hd hc) (by rw[he];rfl) hi (Z0l I hg xc.mgx ⟨rfl,?_⟩ hdb)
 have h1:=ha cpos Z6 s σ H _ I h
 rw[he]at h1 ⊢
 refine Calls.evalArgs_plain (wpAny_mono h1 (fun us s2 h2=>?_) fun _ _ y=>y)
 obtain⟨vs,H1,I1,r,hz,hE⟩:=h2
 refine⟨rfl,?_,I1.kIn _ _ hC,hN _ I1.kIn,hT _ I1.kIn,fun h' x' hm=>?_⟩
 ·show us.length<=_
  rw[← r.length]
  exact hz
 ·obtain⟨t',e',nt,_⟩:=hm.there
  have I2:Inv X Z6 σ H1 { s2 with heap:=h' }:=I1.kept (t':=s2.toks) hm.keeps
  have nx:=hm.new
  refine L.go (To:=none) I2 ⟨_,_,e',⟨rfl,rfl,rfl⟩,rfl,by simp,rfl⟩ ?_ (fun T z=>by cases z) (I1.hok.none_of nx) hE
  cases z:X.s₀.heap.get? x' with
  |none=>rfl
  |some o =>
   obtain⟨o',z'⟩:=I1.base.there x' o z (by rw[L.ex];simp)
   rw[nx]at z'
   cases z'
end L2
namespace Seek
open PySem PySem.Spec PyProof.Rows L2
structure OwnX(P:Program)(w:World)(K:W.Frag)(mg:Str->Option Value)(base:Heap)(k:Nat)(x:Str)(ps:List Str)(sp:Sp):Prop where
 ex:∃f fd,FnOk P w K mg base (Zeo P w) k f fd ps sp/\mg x=some (.ref f)/\W.keepIn K (.ref f)=true/\Binds K fd ps []
theorem OwnX.mono{P:Program}{w:World}{K:W.Frag}{mg:Str->Option Value}{base:Heap}{j k:Nat}{x:Str}{ps:List Str}{sp:Sp}(O:OwnX P w K mg base j x ps sp)(h:j<=k):OwnX P w K mg base k x ps sp:=by
 obtain⟨f,fd,F,r⟩:=O.ex
 exact⟨f,fd,F.mono h,r⟩
theorem Z23{X:Cx}{E:XK}{k:Nat}{x:Str}{ps:List Str}{sp:Sp}{p pos:Pos}{e:Expr}{es:List Expr}{t:TA}(hx:U4 (Zeo X.prog X.w) X E)(O:OwnX X.prog X.w X.K X.mg X.base k x ps sp)(hr:Room k X.A)(hg:Gl X x)(ha:PA X (e::es) t)
  (hdb:(x==("__debug__":Str))=false:=by decide) (he:starEach (e::es) X.env=(false,eval e X.env)::starEach es X.env:=by rfl) (hpl:(backTo pos (starEach es X.env)).any (·.1)=false:=by rfl) :
  PE X (.Call (.Name x p) (e::es) [] pos) (Z1r sp [] E t):=by
 obtain⟨f,fd,F,hm,hk,hb⟩:=O.ex
 exact Z9f F hr hg hm hk hb .nil hx ha hdb he hpl
end Seek
namespace L2
open PySem PySem.Spec PyProof.Rows
theorem Zil{X:Cx}{P:Program}{w:World}:U4 (Zeo P w) X E0:=by
 rintro Z6 σ H s e s' I ⟨x,T,cls,H',_,_,_,_,_,_,_,_,_,_,h⟩
 exact h.elim
abbrev Cx.sub(X:Cx)(x:Addr):Cx:={ X with A:=X.A.mark (some (.ref x)),calm:=false,xe:=fun _ _=>False }
theorem Cx.Ok.sub{X:Cx}(ok:X.Ok)(x:Addr):(X.sub x).Ok :=
 ⟨ok.mod,ok.kind,ok.glob,ok.blt,ok.above,ok.inj,ok.has,ok.cab,fun z=>(by cases z),ok.frames,ok.stk,ok.exf,ok.bs,ok.bsz,ok.noex,ok.exfs,ok.funs,ok.frf⟩
section
variable{X:Cx}{Z6:List (Addr×Obj)}{σ:St}{H:Hp}{s:Shared}
theorem Inv.sub(I:Inv X Z6 σ H s)(x:Addr):Inv (X.sub x) Z6 σ H s:=⟨I.ok.sub x,I.os,I.bare,I.base,I.loc,I.cell,I.free,I.freeC,I.pin,I.hok,I.len⟩
theorem Inv.unsub{x:Addr}(ok:X.Ok)(I:Inv (X.sub x) Z6 σ H s):Inv X Z6 σ H s:=⟨ok,I.os,I.bare,I.base,I.loc,I.cell,I.free,I.freeC,I.pin,I.hok,I.len⟩
theorem SP.unsub{x:Addr}{D:Ends}{f:Flow}{s':Shared}(ok:X.Ok)(h:SP (X.sub x) Z6 D f s'):SP X Z6 D f s':=by
 cases f with
 |next=>obtain⟨σ',H',I,q⟩:=h;exact⟨σ',H',I.unsub ok,q⟩
 |brk=>obtain⟨σ',H',I,q⟩:=h;exact⟨σ',H',I.unsub ok,q⟩
 |cont=>obtain⟨σ',H',I,q⟩:=h;exact⟨σ',H',I.unsub ok,q⟩
 |ret u=>obtain⟨v,σ',H',I,r,q⟩:=h;exact⟨v,σ',H',I.unsub ok,r,q⟩
abbrev Cx.bod(X:Cx)(pn:List (Addr×Obj))(xe:Value->Shared->Prop):Cx:={ X with pn:=pn,xe:=xe }
theorem Cx.Ok.bod{X:Cx}(ok:X.Ok){pn:List (Addr×Obj)}{xe:Value->Shared->Prop}:(X.bod pn xe).Ok :=
 ⟨ok.mod,ok.kind,ok.glob,ok.blt,ok.above,ok.inj,ok.has,ok.cab,ok.hd,ok.frames,ok.stk,ok.exf,ok.bs,ok.bsz,ok.noex,ok.exfs,ok.funs,ok.frf⟩
theorem Cx.Ok.unbod{X:Cx}{pn:List (Addr×Obj)}{xe:Value->Shared->Prop}(ok:(X.bod pn xe).Ok):X.Ok :=
 ⟨ok.mod,ok.kind,ok.glob,ok.blt,ok.above,ok.inj,ok.has,ok.cab,ok.hd,ok.frames,ok.stk,ok.exf,ok.bs,ok.bsz,ok.noex,ok.exfs,ok.funs,ok.frf⟩
theorem Inv.bod(I:Inv X Z6 σ H s){xe:Value->Shared->Prop}:Inv (X.bod (X.pn++Z6) xe) [] σ H s:=⟨I.ok.bod,I.os,I.bare,I.base,I.loc,I.cell,I.free,I.freeC,fun p hp=>I.pin p (by simpa using hp),I.hok,I.len⟩
theorem Inv.unbod{xe:Value->Shared->Prop}{pl:List (Addr×Obj)}(I:Inv (X.bod (X.pn++Z6) xe) pl σ H s):Inv X Z6 σ H s:=⟨I.ok.unbod,I.os,I.bare,I.base,I.loc,I.cell,I.free,I.freeC,fun p hp=>I.pin p (List.mem_append.mpr (.inl hp)),I.hok,I.len⟩
theorem SP.unbod{xe:Value->Shared->Prop}{D:Ends}{f:Flow}{s':Shared}{pl:List (Addr×Obj)}(h:SP (X.bod (X.pn++Z6) xe) pl D f s'):SP X Z6 D f s':=by
 cases f with
 |next=>obtain⟨σ',H',I,q⟩:=h;exact⟨σ',H',I.unbod,q⟩
 |brk=>obtain⟨σ',H',I,q⟩:=h;exact⟨σ',H',I.unbod,q⟩
 |cont=>obtain⟨σ',H',I,q⟩:=h;exact⟨σ',H',I.unbod,q⟩
 |ret u=>obtain⟨v,σ',H',I,r,q⟩:=h;exact⟨v,σ',H',I.unbod,r,q⟩
end
def Zmx(K:W.Frag)(C:Addr)(bm:List Value):Prop:=∃nm q N bs hdct sn sub ab col dd k0 k1 k2 k3 k5 newId,K.lookup C=some (excClassObj nm q C N bs bm hdct sn sub ab col dd k0 k1 k2 k3 k5 newId)
theorem XC.co{K:W.Frag}{mg:Str->Option Value}{x:Str}{C C':Addr}(h:XC K mg x C C'):Zmx K C (.ref C'::Zlj):=by
 obtain⟨nm,q,N,bs,hdct,sn,sub,ab,col,dd,k0,k1,k2,k3,k5,es,hC,_⟩:=h.ob
 exact⟨nm,q,N,bs,hdct,sn,sub,ab,col,dd,k0,k1,k2,k3,k5,_,hC⟩
def Zak(K:W.Frag)(C Cs:Addr):Prop:=∃bm bs,Zmx K C bm/\Zmx K Cs bs/\bs.contains (.type "BaseException")=true/\(C=Cs∨bm.contains (.ref Cs)=true)
theorem XC.catch1{K:W.Frag}{mg:Str->Option Value}{x:Str}{C C':Addr}(h:XC K mg x C C'):Zak K C C:=⟨_,_,h.co,h.co,rfl,.inl rfl⟩
theorem Zgc{M:Model}{A:Around}{E:Value->Shared->Prop}{K:W.Frag}{s:Shared}{e C Cs:Addr}{oe:Obj}{Q:Bool->Shared->Prop}(X:K.In s.heap)(ca:Zak K C Cs)(he:s.heap.get? e=some oe)(hcls:oe.cls=.ref C)(hq:Q true s):wpAny M A (excMatches (.ref e) (.ref Cs)) Q E s:=by
 obtain⟨bm,bs,⟨nm,q,N,bs1,hdct,sn,sub,ab,col,dd,k0,k1,k2,k3,k5,newId,lC⟩,⟨nm',q',N',bs',hdct',sn',sub',ab',col',dd',k0',k1',k2',k3',k5',newId',lS⟩,hb,hc⟩:=ca
 have hC:=X _ _ lC
 have hS:=X _ _ lS
 obtain⟨h,g,d,t,os⟩:=s
 by_cases z:C=Cs
 ·subst z
  exact wpAny_excMatches_sub_self hS he hcls hb hq
 ·have hc2:bm.contains (.ref Cs)=true:=by
   rcases hc with y | y
   ·exact absurd y z
   ·exact y
  have hcB:(Value.ref Cs::bs).contains (.type "BaseException")=true:=by rw[List.contains_cons,hb,Bool.or_true]
  have hcC:(Value.ref C::bm).contains (.ref Cs)=true:=by rw[List.contains_cons,hc2,Bool.or_true]
  have f:=tc_notTuple
  unfold excMatches
  repeat (first | (with_reducible refine wpAny_loadPart_at he ?_;rw[hcls]) | with_reducible refine wpAny_loadPart_at hS ?_ | (with_reducible refine wpAny_isSubtype_exc hS ?_;rw[hcB]) | (with_reducible refine wpAny_isSubtype_exc hC ?_;rw[hcC]) | wp_step)
  exact hq
def Zm0(K:W.Frag)(Cs:Addr)(n:Nat)(tb:XK->TS)(th:TS):TS:=fun D σ H=>tb (fun cls _ H'=>(∃C,cls=.ref C/\Zak K C Cs)/\th D (List.replicate n none) H') D σ H
theorem Zif{X:Cx}{c:Str}{Cs:Addr}{body:List Stmt}{b0:Stmt}{suite:List Stmt}{tb:XK->TS}{th:TS}{np hpos pos:Pos}(hstk:X.stack=X.env::X.outer)(hfrm:X.env.frame=some X.env.locals)(hg:Gl X c)(hm:X.mg c=some (.ref Cs))
  (hb:∀(pn:List (Addr×Obj)) (xe:Value->Shared->Prop) (Eb:XK),U4 (Zeo X.prog X.w) (X.bod pn xe) Eb->PSs (X.bod pn xe) body (tb Eb)) (hs:∀x,PSs (X.sub x) (b0::suite) th) (hdb:(c==("__debug__":Str))=false:=by decide) :
  PS X (.Try body [.ExceptHandler (some (.Name c np)) none (b0::suite) hpos] [] [] pos) (Zm0 X.K Cs X.N.length tb th):=by
 intro Z6 s σ H D I h
 refine wpAny_Try_except ?_
 refine wpAny_mono (hb (X.pn++Z6) (fun e s1=>wpAny (model X.prog X.w) X.A (noteFrame e X.env) (fun _ s2=>wpAny (model X.prog X.w) X.A (setFlight e none) (fun _ s3=>wpAny (model X.prog X.w) X.A (handleBy e X.env [.ExceptHandler (some (.Name c np)) none (b0::suite) hpos]) (SP X Z6 D) X.xe s3) X.xe s2) X.xe s1) (fun cls _ H'=>(∃C,cls=.ref C/\Zak X.K C Cs)/\th D (List.replicate X.N.length none) H') ?_ [] s σ H D I.bod h) (fun f s1 h1=>?_) fun e s1 h1=>h1
 ·rintro pl σ1 H1 s1 e s2 I1 ⟨x,T,cls,H',rfl,ho,hbr,un,ok,xa,nx,nT,hx,hT,⟨C,rfl,hca⟩,hth⟩
  have I2:Inv (X.bod (X.pn++Z6) _) pl σ1 H' s2:=I1.call' ho un ok hbr (ch:=[]) (fun b z=>absurd z (by simp))
  have hfr:X.A.frames=some (X.env::X.outer):=by rw[← hstk];exact I2.ok.frames
  have hl:s2.heap.FunFrames X.base (X.env::X.outer):=by have z:s2.heap.FunFrames X.base X.stack:=I2.stack;rw[hstk]at z;exact z
  have hsf:∀b∈Z3m (X.env::X.outer),H' b=none:=by have z:∀b∈Z3m X.stack,H' b=none:=I2.stkFree;rw[hstk]at z;exact z
  have hLn:s1.heap.get? s1.heap.objs.size=none:=Heap.get?_none_of_le (Nat.le_refl _)
  have back:∀b,s2.heap.get? b=none->s1.heap.get? b=none:=fun b e=>by
   cases q:s1.heap.get? b with
   |none=>rfl
   |some o =>
    obtain⟨o',z⟩:=un.there b o q (by simp)
    rw[e]at z
    cases z
  refine Z9p hfr hl hfrm xa fun h3 k3 xa3=>?_
  have nT3:s2.heap.get? s2.heap.objs.size=none:=Heap.get?_none_of_le (Nat.le_refl _)
  refine Z11 (s:={ s2 with heap:=h3 }) xa3 fun h4 k4 xa4=>?_
  have k24:Kp (Z3m (X.env::X.outer)) [x,T] s2.heap h4:=k3.trans (k4.weak (by simp)) (fun c hc=>hc) fun c hc=>.inr (by rw[List.mem_singleton.mp hc];exact nT3)
  have at_:∀(h':Heap) (tk:Nat),Kp (Z3m (X.env::X.outer)) [x,T] s2.heap h'->Inv X Z6 (List.replicate X.N.length none) H' { s2 with heap:=h',toks:=tk }:=fun h' tk k=>by
   have un':Un (Z3m X.stack) [] H1 H' s1.heap h':=Zd8 un k (L:=s1.heap.objs.size) hLn (fun b hb=>.inr (by show b∈Z3m X.stack;rw[hstk];exact hb)) fun c hc=>by
    rcases List.mem_cons.mp hc with rfl | hc
    ·exact nx
    ·rw[List.mem_singleton.mp hc];exact nT
   have ok':HOk X.prog X.w H' h':=Z9w ok k hsf fun c hc=>by
    rcases List.mem_cons.mp hc with rfl | hc
    ·exact hx
    ·rw[List.mem_singleton.mp hc];exact hT
   have I3:Inv (X.bod (X.pn++Z6) _) pl σ1 H' { s2 with heap:=h',toks:=tk }:=I1.call' (s':={ s2 with heap:=h',toks:=tk }) ho un' ok' hbr (ch:=[]) (fun b z=>absurd z (by simp))
   refine I3.unbod.weak (by rw[List.length_replicate];exact I3.len.symm) fun i v e=>?_
   rw[List.getElem?_replicate]at e
   split at e <;> cases e
  have I4:=at_ h4 s2.toks k24
  refine wpAny_handleBy_cons (codeAny_handlers_test (Z0l (X:=X.sub x) (I4.sub x) hg hm ?_ hdb)) (by intro q;cases q)
  obtain⟨oe,vs,he,⟨hcl,_⟩,_⟩:=xa4.ex
  refine Zgc I4.kIn hca he hcl ?_
  refine codeAny_handlers_suite ?_
  refine Z11 (s:={ s2 with heap:=h4 }) xa4 fun h5 k5 xa5=>?_
  have k25:Kp (Z3m (X.env::X.outer)) [x,T] s2.heap h5:=k24.trans (k5.weak (by simp)) (fun c hc=>hc) fun c hc=>.inr (by rw[List.mem_singleton.mp hc];exact nT3)
  have I5:=at_ h5 s2.toks k25
  exact wpAny_mono (hs x Z6 _ _ H' D (I5.sub x) hth) (fun f s6 h6=>h6.unsub I5.ok) fun _ _ z=>False.elim z
 ·cases f with
  |next=>exact wpAny_execs_nil (SP.unbod (f:=.next) h1)
  |brk=>exact SP.unbod (f:=.brk) h1
  |cont=>exact SP.unbod (f:=.cont) h1
  |ret u=>exact SP.unbod (f:=.ret u) h1
end L2
namespace Seek
open PySem PySem.Spec PyProof.Rows L2
theorem Zho(h:let E:=D;let A1:=a2;let A2:=a4;let A3:=a5;let A4:=Z8 (Zo c3 A2 Zh) A3;let A5:=a6;let A6:=a7;let A7:=Z8 (Zo c5 A5 Zh) A6;let A8:=a9;let A9:=a10;let A10:=Z8 (Wi i1 g1 A8) A9;let A11:=Z8 a8 A10;let A12:=a12;let A13:=a13;let A14:=Z8 (Wi i2 g2 A12) A13;let A15:=Z8 a11 A14;let A16:=a15;let A17:=a16;let A18:=Z8 (Zo c9 A16 Zh) A17;let A19:=Z8 a14 A18;let A20:=a18;let A21:=Z8 a17 A20;let A22:=a19;let A23:=Z8 (Zo c10 A21 Zh) A22;let A24:=Z8 (Zo c8 A19 Zh) A23;let A25:=Z8 (Zo c7 A15 Zh) A24;let A26:=Z8 (Zo c6 A11 Zh) A25;let A27:=Z8 (Zo c4 A7 Zh) A26;let A28:=Z8 (Zo c2 A4 Zh) A27;let A29:=Z8 a3 A28;let A30:=Z8 (Zo c1 A1 Zh) A29;(Z8 a1 A30) E σ H):(Z8 a1 (Z8 (Zo c1 a2 Zh) (Z8 a3 (Z8 (Zo c2 (Z8 (Zo c3 a4 Zh) a5) Zh) (Z8 (Zo c4 (Z8 (Zo c5 a6 Zh) a7) Zh) (Z8 (Zo c6 (Z8 a8 (Z8 (Wi i1 g1 a9) a10)) Zh) (Z8 (Zo c7 (Z8 a11 (Z8 (Wi i2 g2 a12) a13)) Zh) (Z8 (Zo c8 (Z8 a14 (Z8 (Zo c9 a15 Zh) a16)) Zh) (Z8 (Zo c10 (Z8 a17 a18) Zh) a19))))))))) D σ H:=h
theorem Zi7(h:let E:=D;let A1:=a6;let A2:=a11;let A3:=Z8 a10 A2;let A4:=a13;let A5:=a15;let A6:=Z8 a14 A5;let A7:=Z8 (Zo c2 A4 Zh) A6;let A8:=Z8 a12 A7;let A9:=Z8 (Wi i1 g1 A3) A8;let A10:=Z8 a9 A9;let A11:=Z8 a8 A10;let A12:=Z8 a7 A11;let A13:=Z8 (Zo c1 A1 Zh) A12;let A14:=Z8 a5 A13;let A15:=Z8 a4 A14;let A16:=Z8 a3 A15;let A17:=Z8 a2 A16;(Z8 a1 A17) E σ H):(Z8 a1 (Z8 a2 (Z8 a3 (Z8 a4 (Z8 a5 (Z8 (Zo c1 a6 Zh) (Z8 a7 (Z8 a8 (Z8 a9 (Z8 (Wi i1 g1 (Z8 a10 a11)) (Z8 a12 (Z8 (Zo c2 a13 Zh) (Z8 a14 a15))))))))))))) D σ H:=h
theorem Z1e(h:let E:=D;let A1:=a2;(Z8 a1 A1) E σ H):(Z8 a1 a2) D σ H:=h
theorem Zic(h:let E:=D;let A1:=a2;let A2:=Wi i1 g1 A1;(Z8 a1 A2) E σ H):(Z8 a1 (Wi i1 g1 a2)) D σ H:=h
theorem Zhw(h:let E:=D;let A1:=a5;let A2:=Z8 a4 A1;let A3:=Z8 a3 A2;let A4:=Z8 a2 A3;let A5:=a6;let A6:=Z8 (Wi i1 g1 A4) A5;(Z8 a1 A6) E σ H):(Z8 a1 (Z8 (Wi i1 g1 (Z8 a2 (Z8 a3 (Z8 a4 a5)))) a6)) D σ H:=h
theorem Zhe(h:let E:=D;let A1:=a2;let A2:=a3;let A3:=Wi i1 g1 A2;let A4:=a4;let A5:=a5;let A6:=a8;let A7:=Z8 a7 A6;let A8:=Z8 a6 A7;let A9:=a9;let A10:=a10;let A11:=Zo c6 A9 A10;let A12:=Zo c5 A8 A11;let A13:=Zo c4 A5 A12;let A14:=Zo c3 A4 A13;let A15:=Zo c2 A3 A14;let A16:=Zo c1 A1 A15;(Z8 a1 A16) E σ H):(Z8 a1 (Zo c1 a2 (Zo c2 (Wi i1 g1 a3) (Zo c3 a4 (Zo c4 a5 (Zo c5 (Z8 a6 (Z8 a7 a8)) (Zo c6 a9 a10))))))) D σ H:=h
theorem Z8u(h:let E:=D;let A1:=a4;let A2:=Z8 a3 A1;let A3:=Z8 a2 A2;(Z8 a1 A3) E σ H):(Z8 a1 (Z8 a2 (Z8 a3 a4))) D σ H:=h
theorem Zhd(h:let E:=D;let A1:=a4;let A2:=Z8 a3 A1;let A3:=Z8 a2 A2;let A4:=Z8 a1 A3;let A5:=a9;let A6:=Z8 a8 A5;let A7:=Z8 a7 A6;let A8:=Z8 a6 A7;let A9:=Z8 a5 A8;(Z8 (Zo c1 A4 Zh) A9) E σ H):(Z8 (Zo c1 (Z8 a1 (Z8 a2 (Z8 a3 a4))) Zh) (Z8 a5 (Z8 a6 (Z8 a7 (Z8 a8 a9))))) D σ H:=h
theorem Zhg(h:let E:=D;let A1:=a6;let A2:=Z8 a5 A1;let A3:=Z8 a4 A2;let A4:=Z8 a3 A3;let A5:=Z8 a2 A4;(Z8 a1 A5) E σ H):(Z8 a1 (Z8 a2 (Z8 a3 (Z8 a4 (Z8 a5 a6))))) D σ H:=h
theorem Zde(h:let E:=D;let A1:=a2;let A2:=a3;let A3:=Z8 (Zo c1 A1 Zh) A2;(Z8 a1 A3) E σ H):(Z8 a1 (Z8 (Zo c1 a2 Zh) a3)) D σ H:=h
theorem Z36(h:let E:=D;let A1:=a3;let A2:=Z8 a2 A1;(Z8 a1 A2) E σ H):(Z8 a1 (Z8 a2 a3)) D σ H:=h
theorem Zi5(h:let E:=D;let A1:=a1;(Wm c1 A1) E σ H):(Wm c1 a1) D σ H:=h
theorem Zhq(h:let E:=D;let A1:=a3;let A2:=Z8 a2 A1;let A3:=a5;let A4:=a6;let A5:=Zo c2 A3 A4;let A6:=Z8 a4 A5;let A7:=Z8 (Zo c1 A2 Zh) A6;(Z8 a1 A7) E σ H):(Z8 a1 (Z8 (Zo c1 (Z8 a2 a3) Zh) (Z8 a4 (Zo c2 a5 a6)))) D σ H:=h
theorem Z37(h:let E:=D;let A1:=a1;(Zo c1 A1 Zh) E σ H):(Zo c1 a1 Zh) D σ H:=h
theorem Zhr(h:let E:=D;let A1:=a2;let A2:=a4;let A3:=Z8 a3 A2;let A4:=Zo c1 A1 A3;(Z8 a1 A4) E σ H):(Z8 a1 (Zo c1 a2 (Z8 a3 a4))) D σ H:=h
theorem Zi4(h:let E:=D;let A1:=a9;let A2:=Z8 a8 A1;let A3:=Z8 a7 A2;let A4:=a10;let A5:=a11;let A6:=a12;let A7:=Zo c3 A5 A6;let A8:=Zo c2 A4 A7;let A9:=Zo c1 A3 A8;let A10:=Z8 a6 A9;let A11:=Z8 a5 A10;let A12:=Z8 a4 A11;let A13:=Z8 a3 A12;let A14:=Z8 a2 A13;(Z8 a1 A14) E σ H):(Z8 a1 (Z8 a2 (Z8 a3 (Z8 a4 (Z8 a5 (Z8 a6 (Zo c1 (Z8 a7 (Z8 a8 a9)) (Zo c2 a10 (Zo c3 a11 a12))))))))) D σ H:=h
theorem Zdf(h:let E:=D;let A1:=a2;let A2:=Zo c1 A1 Zh;let A3:=Z8 a1 A2;let A4:=a3;(Z8 (Wi i1 g1 A3) A4) E σ H):(Z8 (Wi i1 g1 (Z8 a1 (Zo c1 a2 Zh))) a3) D σ H:=h
theorem Zhi(h:let E:=D;let A1:=a4;let A2:=a6;let A3:=Z8 a5 A2;let A4:=Z8 (Zo c2 A1 Zh) A3;let A5:=Z8 a3 A4;let A6:=a7;let A7:=Z8 (Wm c1 A5) A6;let A8:=Z8 a2 A7;(Z8 a1 A8) E σ H):(Z8 a1 (Z8 a2 (Z8 (Wm c1 (Z8 a3 (Z8 (Zo c2 a4 Zh) (Z8 a5 a6)))) a7))) D σ H:=h
theorem Zib(h:let E:=D;let A1:=a1;let A2:=a2;let A3:=a4;let A4:=a5;let A5:=Z8 (Zo c3 A3 Zh) A4;let A6:=Z8 a3 A5;let A7:=Z8 (Zo c2 A2 Zh) A6;(Z8 (Zo c1 A1 Zh) A7) E σ H):(Z8 (Zo c1 a1 Zh) (Z8 (Zo c2 a2 Zh) (Z8 a3 (Z8 (Zo c3 a4 Zh) a5)))) D σ H:=h
theorem Zia(h:let E:=D;let A1:=a4;let A2:=Z8 a3 A1;let A3:=a6;let A4:=Z8 a5 A3;let A5:=Zo c2 A2 A4;let A6:=a7;let A7:=Z8 (Wm c1 A5) A6;let A8:=Z8 a2 A7;(Z8 a1 A8) E σ H):(Z8 a1 (Z8 a2 (Z8 (Wm c1 (Zo c2 (Z8 a3 a4) (Z8 a5 a6))) a7))) D σ H:=h
theorem Zdh(h:let E:=D;let A1:=a1;let A2:=a3;let A3:=Z8 a2 A2;(Z8 (Zo c1 A1 Zh) A3) E σ H):(Z8 (Zo c1 a1 Zh) (Z8 a2 a3)) D σ H:=h
theorem Zi6(h:let E:=D;let A1:=a6;let A2:=Z8 a5 A1;let A3:=a7;let A4:=Z8 (Wi i1 g1 A2) A3;let A5:=Z8 a4 A4;let A6:=Z8 a3 A5;let A7:=Z8 a2 A6;(Z8 a1 A7) E σ H):(Z8 a1 (Z8 a2 (Z8 a3 (Z8 a4 (Z8 (Wi i1 g1 (Z8 a5 a6)) a7))))) D σ H:=h
theorem Zhs(h:let E:=D;let A1:=a1;let A2:=a4;let A3:=a5;let A4:=Z8 (Zo c2 A2 Zh) A3;let A5:=Z8 a3 A4;let A6:=Z8 a2 A5;(Z8 (Zo c1 A1 Zh) A6) E σ H):(Z8 (Zo c1 a1 Zh) (Z8 a2 (Z8 a3 (Z8 (Zo c2 a4 Zh) a5)))) D σ H:=h
theorem Zhy(h:let E:=D;let A1:=a4;let A2:=a5;let A3:=Zo c1 A1 A2;let A4:=Z8 a3 A3;let A5:=Z8 a2 A4;let A6:=a6;let A7:=Z8 (Wi i1 g1 A5) A6;(Z8 a1 A7) E σ H):(Z8 a1 (Z8 (Wi i1 g1 (Z8 a2 (Z8 a3 (Zo c1 a4 a5)))) a6)) D σ H:=h
theorem Zhp(h:let E:=D;let A1:=a2;let A2:=a3;let A3:=a4;let A4:=a5;let A5:=a6;let A6:=Z8 (Zo c4 A4 Zh) A5;let A7:=Z8 (Zo c3 A3 Zh) A6;let A8:=Z8 (Zo c2 A2 Zh) A7;let A9:=Z8 (Zo c1 A1 Zh) A8;(Z8 a1 A9) E σ H):(Z8 a1 (Z8 (Zo c1 a2 Zh) (Z8 (Zo c2 a3 Zh) (Z8 (Zo c3 a4 Zh) (Z8 (Zo c4 a5 Zh) a6))))) D σ H:=h
theorem Zi2(h:let E:=D;let A1:=a3;let A2:=a4;let A3:=Z8 (Zo c1 A1 Zh) A2;let A4:=Z8 a2 A3;let A5:=a5;let A6:=Z8 (Wi i1 g1 A4) A5;(Z8 a1 A6) E σ H):(Z8 a1 (Z8 (Wi i1 g1 (Z8 a2 (Z8 (Zo c1 a3 Zh) a4))) a5)) D σ H:=h
theorem Zi1(h:let E:=D;let A1:=a4;let A2:=a5;let A3:=Z8 (Zo c1 A1 Zh) A2;let A4:=Z8 a3 A3;let A5:=Z8 a2 A4;(Z8 a1 A5) E σ H):(Z8 a1 (Z8 a2 (Z8 a3 (Z8 (Zo c1 a4 Zh) a5)))) D σ H:=h
theorem Zhf(h:let E:=D;let A1:=a1;let A2:=a2;let A3:=a3;let A4:=a6;let A5:=Z8 a5 A4;let A6:=Z8 a4 A5;let A7:=Z8 (Zo c4 A3 Zh) A6;let A8:=a9;let A9:=Z8 a8 A8;let A10:=Z8 a7 A9;let A11:=a11;let A12:=Z8 a10 A11;let A13:=Z8 (Zo c5 A10 Zh) A12;let A14:=Z8 (Zo c3 A7 Zh) A13;let A15:=Z8 (Zo c2 A2 Zh) A14;(Z8 (Zo c1 A1 Zh) A15) E σ H):(Z8 (Zo c1 a1 Zh) (Z8 (Zo c2 a2 Zh) (Z8 (Zo c3 (Z8 (Zo c4 a3 Zh) (Z8 a4 (Z8 a5 a6))) Zh) (Z8 (Zo c5 (Z8 a7 (Z8 a8 a9)) Zh) (Z8 a10 a11))))) D σ H:=h
theorem Zi8(h:let E:=D;let A1:=a2;let A2:=a3;let A3:=a4;let A4:=Z8 (Zo c2 A2 Zh) A3;let A5:=Z8 (Zo c1 A1 Zh) A4;(Z8 a1 A5) E σ H):(Z8 a1 (Z8 (Zo c1 a2 Zh) (Z8 (Zo c2 a3 Zh) a4))) D σ H:=h
theorem Zhn(h:let E:=D;let A1:=a6;let A2:=Z8 a5 A1;let A3:=Z8 a4 A2;let A4:=Z8 a3 A3;let A5:=a7;let A6:=Z8 (Zo c1 A4 Zh) A5;let A7:=Z8 a2 A6;(Z8 a1 A7) E σ H):(Z8 a1 (Z8 a2 (Z8 (Zo c1 (Z8 a3 (Z8 a4 (Z8 a5 a6))) Zh) a7))) D σ H:=h
theorem Zhk(h:let E:=D;let A1:=a6;let A2:=Z8 a5 A1;let A3:=a7;let A4:=a9;let A5:=Zo c5 A4 Zh;let A6:=Z8 a8 A5;let A7:=a10;let A8:=Zo c4 A6 A7;let A9:=Zo c3 A3 A8;let A10:=a11;let A11:=Z8 (Zo c2 A2 A9) A10;let A12:=Z8 a4 A11;let A13:=a12;let A14:=Z8 (Wm c1 A12) A13;let A15:=Z8 a3 A14;let A16:=Z8 a2 A15;(Z8 a1 A16) E σ H):(Z8 a1 (Z8 a2 (Z8 a3 (Z8 (Wm c1 (Z8 a4 (Z8 (Zo c2 (Z8 a5 a6) (Zo c3 a7 (Zo c4 (Z8 a8 (Zo c5 a9 Zh)) a10))) a11))) a12)))) D σ H:=h
theorem Zi0(h:let E:=D;let A1:=a3;let A2:=a4;let A3:=a5;let A4:=a6;let A5:=a7;let A6:=Zo c5 A5 Zh;let A7:=Z8 (Zo c4 A4 Zh) A6;let A8:=Z8 (Zo c3 A3 Zh) A7;let A9:=Z8 (Zo c2 A2 Zh) A8;let A10:=Z8 (Zo c1 A1 Zh) A9;let A11:=Z8 a2 A10;let A12:=a8;let A13:=Z8 (Wi i1 g1 A11) A12;(Z8 a1 A13) E σ H):(Z8 a1 (Z8 (Wi i1 g1 (Z8 a2 (Z8 (Zo c1 a3 Zh) (Z8 (Zo c2 a4 Zh) (Z8 (Zo c3 a5 Zh) (Z8 (Zo c4 a6 Zh) (Zo c5 a7 Zh))))))) a8)) D σ H:=h
theorem Zdg(h:let E:=D;let A1:=a1;let A2:=a2;(Zo c1 A1 A2) E σ H):(Zo c1 a1 a2) D σ H:=h
theorem Zhl(h:let E:=D;let A1:=a1;let A2:=Zo c1 A1 Zh;let A3:=a2;(Z8 (Wi i1 g1 A2) A3) E σ H):(Z8 (Wi i1 g1 (Zo c1 a1 Zh)) a2) D σ H:=h
theorem Zhm(h:let E:=D;let A1:=a1;let A2:=a3;let A3:=a4;let A4:=a5;let A5:=Z8 (Zo c3 A3 Zh) A4;let A6:=Z8 (Zo c2 A2 Zh) A5;let A7:=Z8 a2 A6;(Z8 (Zo c1 A1 Zh) A7) E σ H):(Z8 (Zo c1 a1 Zh) (Z8 a2 (Z8 (Zo c2 a3 Zh) (Z8 (Zo c3 a4 Zh) a5)))) D σ H:=h
theorem Zhz(h:let E:=D;let A1:=a3;let A2:=Zo c2 A1 Zh;let A3:=Z8 a2 A2;let A4:=a4;let A5:=Z8 (Wm c1 A3) A4;(Z8 a1 A5) E σ H):(Z8 a1 (Z8 (Wm c1 (Z8 a2 (Zo c2 a3 Zh))) a4)) D σ H:=h
theorem Zhc(h:let E:=D;let A1:=a2;let A2:=Z8 a1 A1;let A3:=a3;(Z8 (Zo c1 A2 Zh) A3) E σ H):(Z8 (Zo c1 (Z8 a1 a2) Zh) a3) D σ H:=h
theorem Zi3(h:let E:=D;let A1:=a10;let A2:=Z8 a9 A1;let A3:=Z8 a8 A2;let A4:=Z8 a7 A3;let A5:=Z8 a6 A4;let A6:=Z8 a5 A5;let A7:=Z8 a4 A6;let A8:=Z8 a3 A7;let A9:=Z8 a2 A8;(Z8 a1 A9) E σ H):(Z8 a1 (Z8 a2 (Z8 a3 (Z8 a4 (Z8 a5 (Z8 a6 (Z8 a7 (Z8 a8 (Z8 a9 a10))))))))) D σ H:=h
theorem Zid(h:let E:=D;let A1:=a2;let A2:=a3;let A3:=a4;let A4:=a5;let A5:=Z8 (Zo c3 A3 Zh) A4;let A6:=Z8 (Zo c2 A2 Zh) A5;let A7:=Z8 (Zo c1 A1 Zh) A6;(Z8 a1 A7) E σ H):(Z8 a1 (Z8 (Zo c1 a2 Zh) (Z8 (Zo c2 a3 Zh) (Z8 (Zo c3 a4 Zh) a5)))) D σ H:=h
theorem Zht(h:let E:=D;let A1:=a1;let A2:=a5;let A3:=a6;let A4:=Z8 (Zo c2 A2 Zh) A3;let A5:=Z8 a4 A4;let A6:=Z8 a3 A5;let A7:=Z8 a2 A6;(Z8 (Zo c1 A1 Zh) A7) E σ H):(Z8 (Zo c1 a1 Zh) (Z8 a2 (Z8 a3 (Z8 a4 (Z8 (Zo c2 a5 Zh) a6))))) D σ H:=h
theorem Zhh(h:let E:=D;let A1:=a6;let A2:=Z8 a5 A1;let A3:=Z8 a4 A2;let A4:=a7;let A5:=Z8 (Wm c1 A3) A4;let A6:=Z8 a3 A5;let A7:=Z8 a2 A6;(Z8 a1 A7) E σ H):(Z8 a1 (Z8 a2 (Z8 a3 (Z8 (Wm c1 (Z8 a4 (Z8 a5 a6))) a7)))) D σ H:=h
theorem Zhx(h:let E:=D;let A1:=a4;let A2:=Z8 a3 A1;let A3:=a6;let A4:=Z8 a5 A3;let A5:=Z8 (Wi i1 g1 A2) A4;let A6:=Z8 a2 A5;(Z8 a1 A6) E σ H):(Z8 a1 (Z8 a2 (Z8 (Wi i1 g1 (Z8 a3 a4)) (Z8 a5 a6)))) D σ H:=h
theorem Zhj(h:let E:=D;let A1:=a2;let A2:=a3;let A3:=Z8 (Wi i1 g1 A1) A2;(Z8 a1 A3) E σ H):(Z8 a1 (Z8 (Wi i1 g1 a2) a3)) D σ H:=h
theorem Zhv(h:let E:=D;let A1:=a2;let A2:=Zo c1 A1 Zh;let A3:=a3;let A4:=Z8 (Wi i1 g1 A2) A3;(Z8 a1 A4) E σ H):(Z8 a1 (Z8 (Wi i1 g1 (Zo c1 a2 Zh)) a3)) D σ H:=h
theorem Zdi(h:let E:=D;let A1:=a1;let A2:=a2;let A3:=a3;let A4:=Z8 (Zo c2 A2 Zh) A3;(Z8 (Zo c1 A1 Zh) A4) E σ H):(Z8 (Zo c1 a1 Zh) (Z8 (Zo c2 a2 Zh) a3)) D σ H:=h
theorem Zhu(h:let E:=D;let A1:=a2;let A2:=a4;let A3:=Zo c3 A2 Zh;let A4:=Wi i1 g1 A3;let A5:=a5;let A6:=Z8 (Zo c2 A4 Zh) A5;let A7:=Z8 a3 A6;let A8:=Z8 (Zo c1 A1 Zh) A7;(Z8 a1 A8) E σ H):(Z8 a1 (Z8 (Zo c1 a2 Zh) (Z8 a3 (Z8 (Zo c2 (Wi i1 g1 (Zo c3 a4 Zh)) Zh) a5)))) D σ H:=h
theorem Zi9(h:let E:=D;let A1:=a3;let A2:=a5;let A3:=a6;let A4:=Z8 (Zo c3 A2 Zh) A3;let A5:=Z8 a4 A4;let A6:=Z8 (Zo c2 A1 Zh) A5;let A7:=Z8 a2 A6;let A8:=a7;let A9:=a8;let A10:=a9;let A11:=a10;let A12:=a11;let A13:=Z8 (Zo c6 A10 A11) A12;let A14:=Z8 (Zo c5 A9 Zh) A13;let A15:=Z8 (Zo c4 A8 Zh) A14;let A16:=Z8 (Zo c1 A7 Zh) A15;(Z8 a1 A16) E σ H):(Z8 a1 (Z8 (Zo c1 (Z8 a2 (Z8 (Zo c2 a3 Zh) (Z8 a4 (Z8 (Zo c3 a5 Zh) a6)))) Zh) (Z8 (Zo c4 a7 Zh) (Z8 (Zo c5 a8 Zh) (Z8 (Zo c6 a9 a10) a11))))) D σ H:=h
def top(i:Nat):Stmt:=PySem.Challenge.pw_seek_k24_whole_replaced.main.body.getD i (.Pass ⟨0,0,0,0⟩)
section
variable{P:Program}{w:World}{K:W.Frag}{mg:Str->Option Value}{base:Heap}{f:Addr}{fd:FuncData}{C:Addr}
inductive spTakeI(vs:List V)(H:Hp)(Q:VK):Prop
 |mk (b:Addr) (m:Int) (_:vs=[.ref b,.int m]) (_:BoxAt H b) (_:0<m) (_:m<1073741824) (_:∀(r:Int) (H':Hp),0<=r->r<m->BoxAt H' b->Gro [b] H H'->Q (.int r) H')
def W4:Sp:=fun vs H Q _=>spTakeI vs H Q
abbrev Z05:Stmt:=top 55
theorem sc_l_take:FnScope ["_law_box","_law_many","_law_number"] ["_law_box","_law_many"] (Za Z05):=V7
theorem Zfm(F:Fun K "_law_take" "_law_take" Z05 f fd):FnOk P w K mg base W3 1 f fd ["_law_box","_law_many"] W4:=by
 refine F.ok sc_l_take (fun vs H Q E h=>?_) (fun cdv A outer s H vs Q E hr h=>?_)
 ·obtain⟨b,m,rfl,_⟩:=h
  rfl
 obtain⟨b,m,rfl,⟨ns,hb,hl⟩,h0,h1,q⟩:=h
 refine V6 ?_
 intro Xz
 refine⟨_,(Z1 (Zs (Zb (Z6s hr.units0) (pv 0) (Y4 Z3) (Ze _)) (Z5 (Zl Z4)) Zk)
  (Z1 (pS 2 sc_l_take.nd (Zd Y1 (pv 0) Z4 (fun _ _=>rfl)))
  (Z1 (U1 (Zx Z9l (pv 2) (pv 1)) (U2 (pv 0) Z4 Xp))
  (Z1 (Zs (PW.pt (T7 (Zb Zv (Zd Y1 (pv 0) Z4 (fun _ _=>rfl)) Z4 (Ze _)) (Vi (Zb Zv (Zd Y1 (pv 0) Z4 (fun _ _=>rfl)) (Zah Z5k Z4) (Ze _))))) (Z5 (Zn (Yw PySem.F.plainAttrs_list PySem.F.slot_list_pop PySem.F.type_list_pop Zco (pv 0) (Z0 Z4 Z3)))) Zk)
  (Z5 (Zl (Zx Zdq (pv 2) (pv 1)))))))),?_⟩
 refine Zhs ?_
 intro Ez Az1 Az2 Az3 Az4 Az5 Az6
 refine(Z9 rfl ⟨sz,fun p hp=>?_⟩)
 have np:b≠p:=Z7 hb hp
 have g1:Gro [b] H (Zq H p (.lst [])):=Gro.new hp _
 have hb1:(Zq H p (.lst [])) b=some (.lst (ns.map V.int)):=by rw[Zi np];exact hb
 refine⟨b,p,ns.map V.int,rfl,rfl,SqL.of hb1,SqL.of Z2,Z9 rfl (?_)⟩
 cases ns with
 |nil=>exact Te (q 0 _ (Int.le_refl 0) h0 ⟨[],hb1,hl⟩ g1)
 |cons n r =>
  refine Ju ?_
  refine(Z7l hb1 Vw (?_))
  refine(Z9 rfl (Z9 rfl (Xy rfl rfl ⟨⟨h0,h1⟩,?_⟩)))
  refine(Z9 rfl ⟨b,_,_,0,rfl,rfl,hb1,Zn8,?_⟩)
  have hm0:0<=n % m:=Int.emod_nonneg _ (by omega)
  have hm1:n % m<m:=Int.emod_lt_of_pos _ h0
  generalize hH2:Zq (Zq H p (.lst [])) b (.lst ((List.map V.int (n::r)).set 0 (V.int (n / m))))=H2
  have hb2:H2 b=some (.lst (V.int (n / m)::r.map V.int)):=by rw[← hH2,Z2];rfl
  have g2:Gro [b] H H2:=g1.trans (by rw[← hH2];exact Gro.set (by simp) hb1 _)
  have box2:BoxAt H2 b:=⟨n / m::r,hb2,by simpa using hl⟩
  have hpop:∀Q':V->Hp->Prop,Q' (.int (n / m)) (Zq H2 b (.lst (r.map V.int)))->Zdd (.ref b) [.int 0] H2 Q':=fun Q' hq =>
   ⟨b,_,0,0,Z9 rfl ⟨rfl,hb2,by decide,by decide,seqIndex_of (by omega) (by rw[List.length_cons];omega),rfl,hq⟩⟩
  have box3:BoxAt (Zq H2 b (.lst (r.map V.int))) b:=⟨r,Z2,by simp at hl;omega⟩
  have g3:Gro [b] H (Zq H2 b (.lst (r.map V.int))):=g2.trans (Gro.set (by simp) hb2 _)
  have ty2:Zll K "list" (.ref b) H2:=.inl ⟨rfl,_,SqL.of hb2⟩
  refine(Z7l hb2 Vw ⟨rfl,_,rfl,?_⟩)
  refine Ym (fun c=>?_) (fun c=>?_)
  ·refine Te (Z9 rfl ⟨ty2,?_⟩)
   refine hpop _ ?_
   refine(Z9 rfl (Z9 rfl (Xy rfl rfl ⟨h0,?_⟩)))
   exact q _ _ hm0 hm1 box3 g3
  ·refine(Z7l hb2 Vw ⟨_,rfl,rfl,_,rfl,?_⟩)
   refine Ym (fun c=>?_) (fun c=>?_)
   ·refine(Z9 rfl ⟨ty2,?_⟩)
    refine hpop _ ?_
    refine(Z9 rfl (Z9 rfl (Xy rfl rfl ⟨h0,?_⟩)))
    exact q _ _ hm0 hm1 box3 g3
   ·refine(Z9 rfl (Z9 rfl (Xy rfl rfl ⟨h0,?_⟩)))
    exact q _ _ hm0 hm1 box2 g2
inductive spSignI(vs:List V)(H:Hp)(Q:VK):Prop
 |mk (c:Int) (_:vs=[.int c]) (_:∀s:Str,s.length=1->Q (.str s) H)
def Z32:Sp:=fun vs H Q _=>spSignI vs H Q
abbrev Z06:Stmt:=top 56
theorem sc_l_sign:FnScope ["_law_cell","_law_some"] ["_law_cell"] (Za Z06):=V7
theorem Z9n(F:Fun K "_law_sign" "_law_sign" Z06 f fd):FnOk P w K mg base W3 1 f fd ["_law_cell"] Z32:=by
 refine F.ok sc_l_sign (fun vs H Q E h=>?_) (fun cdv A outer s H vs Q E hr h=>?_)
 ·obtain⟨c,rfl,_⟩:=h
  rfl
 obtain⟨c,rfl,q⟩:=h
 refine V6 ?_
 intro Xz
 refine⟨_,(Z1 (pS 1 sc_l_sign.nd Zg)
  (Z1 (pS 1 sc_l_sign.nd (Zx Yi (pv 1) Zg))
  (Z5 (Zl (Zd Jj (pv 1) (Zx Zdq (pv 0) Z4) (fun _ _=>rfl)))))),?_⟩
 refine Z36 ?_
 intro Ez Az1 Az2
 refine(Z9 rfl (Xy rfl rfl ⟨sz,?_⟩))
 refine(Z9 rfl (Z9 rfl (Xy rfl rfl ⟨(by decide:(0:Int)<94),?_⟩)))
 generalize hz:(Str.ofString _++Str.ofString _:Str)=z
 have hlen:z.cps.toList.length=94:=by rw[← hz];decide +kernel
 have h0:0<=c % 94:=Int.emod_nonneg _ (by omega)
 have h1:c % 94<94:=Int.emod_lt_of_pos _ (by omega)
 have hlt:(c % 94).toNat<z.cps.toList.length:=by omega
 have e:Z3o z.cps.toList (c % 94)=some (z.cps.toList[(c % 94).toNat]):=by
  have:=Ue (xs:=z.cps.toList) (j:=(c % 94).toNat) (List.getElem?_eq_getElem hlt)
  rw[Int.toNat_of_nonneg h0]at this
  exact this
 refine⟨z,_,_,rfl,rfl,?_,e,q _ rfl⟩
 have:z.length=94:=by rw[← hlen];simp[Str.length]
 rw[this];exact sz
inductive spLettersI(vs:List V)(H:Hp)(Q:VK):Prop
 |mk (b:Addr) (_:vs=[.ref b]) (_:BoxAt H b) (_:∀(l:Addr) (H':Hp),BoxAt H' b->LetAt H' l->Gro [b] H H'->Q (.ref l) H')
def J3:Sp:=fun vs H Q _=>spLettersI vs H Q
abbrev V4:Stmt:=top 57
theorem Z4m:FnScope ["_law_box"] ["_law_box"] (Za V4):=V7
theorem Z80(T:Blt mg)(O_l_take:Own P w K mg base 1 "_law_take" ["_law_box","_law_many"] W4)(O_l_sign:Own P w K mg base 1 "_law_sign" ["_law_cell"] Z32)(F:Fun K "_law_letters" "_law_letters" V4 f fd) :
  FnOk P w K mg base W3 2 f fd ["_law_box"] J3:=by
 refine F.ok Z4m (fun vs H Q E h=>?_) (fun cdv A outer s H vs Q E hr h=>?_)
 ·obtain⟨b,rfl,_⟩:=h
  rfl
 obtain⟨b,rfl,hb,q⟩:=h
 refine V6 ?_
 intro Xz
 refine⟨_,(Z5 (Zl (Vb rfl (show CScope _ ["_law_box"] (Za V4) _ from⟨rfl,by decide +kernel,rfl,by decide +kernel,by decide +kernel,by decide +kernel,by decide +kernel⟩) (Wu rfl T.b_range (Z0 Z4 Z3)) (fun _ _ _ _=>Ta) (fun _ _ _ _=>(Zj (O_l_sign.mono (by omega)) hr rfl (Z0 (Zj (O_l_take.mono (by omega)) hr rfl (Z0 (pv 1) (Z0 Z4 Z3))) Z3)))))),?_⟩
 refine⟨3,rfl,by decide,by decide,?_⟩
 refine Z2y (n:=3) (fun i ys H'=>(∃xs:List Str,ys=xs.map V.str/\xs.length=i/\∀x∈xs,x.length=1)/\BoxAt H' b/\Gro [b] H H') ⟨⟨[],rfl,rfl,by simp⟩,hb,Gro.refl⟩ (Yj (by decide)) (fun i ys H' ⟨⟨xs,e1,e2,_⟩,_⟩=>by rw[e1,List.length_map,e2];exact Nat.le_refl _) ?_ ?_
 ·rintro i ys H1 hi ⟨⟨xs,rfl,e2,e3⟩,hb1,g1⟩
  refine(Z9 rfl ⟨b,94,rfl,hb1,by decide,by decide,fun r H2 h0 h1 hb2 g2=>?_⟩)
  refine⟨r,rfl,fun s hs=>⟨⟨xs++[s],by simp,by simp[e2],fun x hx=>?_⟩,hb2,g1.trans g2⟩⟩
  rcases List.mem_append.mp hx with z | z
  ·exact e3 x z
  ·rw[List.mem_singleton.mp z];exact hs
 ·rintro ys H1 ⟨⟨xs,rfl,e2,e3⟩,hb1,g1⟩ l hl
  match xs,e2,e3 with
  | [x,y,z],_,e3 =>
   exact q l _ (hb1.new hl) ⟨x,y,z,Z2,e3 x (by simp),e3 y (by simp),e3 z (by simp)⟩ (g1.trans (Gro.new hl _))
def Zju(C:Addr)(Q:VK)(H:Hp)(m c:Addr)(M:MM):Prop:=∀H':Hp,MAt C H' m M->Gro [m,c] H H'->Q .non H'
inductive spEnterI(C:Addr)(vs:List V)(H:Hp)(Q:VK):Prop
 |mk (m t:Addr) (M:MM) (q:Zh4) (_:vs=[.ref m,.ref t]) (_:MAt C H m M) (_:H t=some (.tup [.int q.1,.int q.2.1,q.2.2.1,q.2.2.2])) (_:Zju C Q H m M.s.choices (M.enter q))
def Uc(C:Addr):Sp:=fun vs H Q _=>spEnterI C vs H Q
abbrev W2:Stmt:=Xv (top 39) 4
theorem Z0r:FnScope ["self","state"] ["self","state"] (Za W2):=V7
theorem Z2w(MT:Txt K mg C)(F:Fun K "enter" "Machine.enter" W2 f fd):FnOk P w K mg base W3 1 f fd ["self","state"] (Uc C):=by
 refine F.ok Z0r (fun vs H Q E h=>?_) (fun cdv A outer s H vs Q E hr h=>?_)
 ·obtain⟨m,t,M,q,rfl,_⟩:=h
  rfl
 obtain⟨m,t,M,⟨r,a,g,hd⟩,rfl,hM,ht,q⟩:=h
 refine V6 ?_
 intro Xz
 refine⟨_,(Z1 (Yk (pv 0) (Zd Zc (pv 1) Z4 (fun _ _=>rfl)) rfl)
  (Z1 (Yk (pv 0) (Zd Zc (pv 1) Z4 (fun _ _=>rfl)) rfl)
  (Z1 (Yk (pv 0) (Zd Zc (pv 1) Z4 (fun _ _=>rfl)) rfl)
  (Z5 (Yk (pv 0) (Zd Zc (pv 1) Z4 (fun _ _=>rfl)) rfl))))),?_⟩
 refine Z8u ?_
 intro Ez Az1 Az2 Az3
 obtain⟨⟨dx,h1⟩,_⟩:=id hM
 refine(Ys ht Vw ⟨_,rfl,m,C,dx,_,rfl,h1,MT.cl,MT.a3,X4 _,?_⟩)
 rw[Z1g]
 have M1:MAt C _ m ⟨{ M.s with row:=r },M.cs⟩:=hM.put (s':={ M.s with row:=r }) h1 rfl
 have g1:Gro [m] H (Zq H m (.ins C dx ({ M.s with row:=r }:MS).fs)):=Gro.ins (by simp) h1 _
 have e1:(Zq H m (.ins C dx ({ M.s with row:=r }:MS).fs)) m=some (.ins C dx ({ M.s with row:=r }:MS).fs):=Z2
 generalize Zq H m (.ins C dx ({ M.s with row:=r }:MS).fs)=H1 at *
 refine(Ys (g1.tups _ _ ht) rfl ⟨_,rfl,m,C,dx,_,rfl,e1,MT.cl,MT.a4,X4 _,?_⟩)
 rw[Zag]
 have M2:MAt C _ m ⟨{ M.s with row:=r,place:=a },M.cs⟩:=M1.put (s':={ M.s with row:=r,place:=a }) e1 rfl
 have g2:Gro [m] H1 (Zq H1 m (.ins C dx ({ M.s with row:=r,place:=a }:MS).fs)):=Gro.ins (by simp) e1 _
 have e2:(Zq H1 m (.ins C dx ({ M.s with row:=r,place:=a }:MS).fs)) m=some (.ins C dx ({ M.s with row:=r,place:=a }:MS).fs):=Z2
 generalize Zq H1 m (.ins C dx ({ M.s with row:=r,place:=a }:MS).fs)=H2 at *
 have g12:=g1.trans g2
 refine(Ys (g12.tups _ _ ht) rfl ⟨_,rfl,m,C,dx,_,rfl,e2,MT.cl,MT.a5,X4 _,?_⟩)
 rw[Z43]
 have M3:MAt C _ m ⟨{ M.s with row:=r,place:=a,groups:=g },M.cs⟩:=M2.put (s':={ M.s with row:=r,place:=a,groups:=g }) e2 rfl
 have g3:Gro [m] H2 (Zq H2 m (.ins C dx ({ M.s with row:=r,place:=a,groups:=g }:MS).fs)):=Gro.ins (by simp) e2 _
 have e3:(Zq H2 m (.ins C dx ({ M.s with row:=r,place:=a,groups:=g }:MS).fs)) m=some (.ins C dx ({ M.s with row:=r,place:=a,groups:=g }:MS).fs):=Z2
 generalize Zq H2 m (.ins C dx ({ M.s with row:=r,place:=a,groups:=g }:MS).fs)=H3 at *
 have g13:=g12.trans g3
 refine(Ys (g13.tups _ _ ht) rfl ⟨_,rfl,m,C,dx,_,rfl,e3,MT.cl,MT.a6,X4 _,?_⟩)
 rw[Z0k]
 have M4:MAt C _ m ⟨{ M.s with row:=r,place:=a,groups:=g,held:=hd },M.cs⟩:=M3.put (s':={ M.s with row:=r,place:=a,groups:=g,held:=hd }) e3 rfl
 have g4:Gro [m] H3 (Zq H3 m (.ins C dx ({ M.s with row:=r,place:=a,groups:=g,held:=hd }:MS).fs)):=Gro.ins (by simp) e3 _
 exact q _ M4 ((g13.trans g4).mono (by simp))
inductive spBackI(C:Addr)(vs:List V)(H:Hp)(Q:VK):Prop
 |mk (m:Addr) (M:MM) (_:vs=[.ref m]) (_:MAt C H m M) (_:M.cs.length<=1000000) (_:Zju C Q H m M.s.choices M.back)
def Wn(C:Addr):Sp:=fun vs H Q _=>spBackI C vs H Q
theorem Z63{α β:Type}{F:α->β->Prop}{xs:List α}{ys:List β}(h:Paired F xs ys){y:β}(e:ys.getLast? = some y):∃x,xs[xs.length-1]? = some x/\F x y:=by
 have hl:=Paired.length h
 have hne:ys≠[]:=fun z=>by rw[z]at e;simp at e
 have hp:=List.length_pos_iff.mpr hne
 obtain⟨x,hx⟩:∃x,xs[xs.length-1]? = some x:=⟨xs[xs.length-1]'(by omega),List.getElem?_eq_getElem (by omega)⟩
 obtain⟨y',hy',q⟩:=Y0 h hx
 rw[List.getLast?_eq_getElem?]at e
 rw[hl,e]at hy'
 cases hy'
 exact⟨x,hx,q⟩
theorem Z16{α β:Type}{F:α->β->Prop}{xs:List α}{ys:List β}(h:Paired F xs ys):Paired F xs.dropLast ys.dropLast:=by
 rw[List.dropLast_eq_take,List.dropLast_eq_take,Paired.length h]
 exact Z15 _ h
abbrev Xh:Stmt:=Xv (top 39) 5
theorem Jp:FnScope ["self"] ["self"] (Za Xh):=V7
theorem Jr(T:Blt mg)(MT:Txt K mg C)(O_Machine_enter:OwnM P w K mg base 1 C "enter" ["self","state"] (Uc C))(F:Fun K "go_back" "Machine.go_back" Xh f fd):FnOk P w K mg base W3 2 f fd ["self"] (Wn C):=by
 refine F.ok Jp (fun vs H Q E h=>?_) (fun cdv A outer s H vs Q E hr h=>?_)
 ·obtain⟨m,M,rfl,_⟩:=h
  rfl
 obtain⟨m,M,rfl,hM,hz,q⟩:=h
 refine V6 ?_
 intro Xz
 refine⟨_,(Z5 (Zs (Zb Zv (Zy Y8 rfl T.b_len PyProof.Rows.Boot.«len» (Z0 (Zt (pv 0) rfl) Z3)) Z4 (Ze _)) (Z5 (Yk (pv 0) Tk rfl)) (Z5 (Zn (X6 (O_Machine_enter.mono (by omega)) MT.cl hr (pv 0) (Z0 (Zdn PySem.F.plainAttrs_list PySem.F.slot_list_pop PySem.F.type_list_pop Zdt (Zt (pv 0) rfl)) Z3)))))),?_⟩
 refine Zdg ?_
 intro Ez Az1 Az2
 have hne:=hM.ne
 obtain⟨⟨dx,h1⟩,vs,hv,hp⟩:=id hM
 have hl:=Paired.length hp
 refine(Z9 rfl ⟨m,C,dx,_,_,rfl,h1,MT.cl,MT.a7,X0 _,M.s.choices,vs,rfl,.inl (SqL.of hv),rfl,Z9 rfl (Ym (fun z=>?_) (fun z=>?_))⟩)
 ·have h0:M.cs=[]:=by
   have:V.int ((vs.length:Nat):Int)=V.int 0:=of_decide_eq_true z
   injection this with this
   exact List.length_eq_zero_iff.mp (by omega)
  refine(Z9 rfl ⟨m,C,dx,Z9 rfl ⟨h1,MT.cl,MT.a10,X4 _,?_⟩⟩)
  rw[Zc2]
  have hb:M.back=⟨{ M.s with ended:=true },M.cs⟩:=by unfold MM.back;rw[h0];rfl
  refine q _ ?_ (Gro.ins (by simp) h1 _)
  rw[hb]
  exact hM.put (s':={ M.s with ended:=true }) h1 rfl
 ·have h0:M.cs≠[]:=fun e=>z (by
   rw[e]at hl
   rw[hl]
   exact decide_eq_true rfl)
  obtain⟨y,hy⟩:∃y,M.cs.getLast? = some y:=⟨M.cs.getLast h0,List.getLast?_eq_some_getLast h0⟩
  obtain⟨x,hx,t,rfl,ht⟩:=Z63 hp hy
  have hb:M.back=MM.enter ⟨M.s,M.cs.dropLast⟩ y:=by unfold MM.back;rw[hy]
  refine(Z9 rfl ⟨m,dx,Z9 rfl ⟨h1,Tz _,Z9 rfl ⟨m,C,dx,_,_,rfl,h1,MT.cl,MT.a7,X0 _,.inl ⟨rfl,_,SqL.of hv⟩,M.s.choices,vs,Z9 rfl ⟨rfl,hv,hx,?_⟩⟩⟩⟩)
  have g1:Gro [M.s.choices] H (Zq H M.s.choices (.lst vs.dropLast)):=Gro.set (by simp) hv _
  have M1:MAt C (Zq H M.s.choices (.lst vs.dropLast)) m ⟨M.s,M.cs.dropLast⟩:=⟨⟨dx,by rw[Zi hne];exact h1⟩,vs.dropLast,Z2,Paired.mapP (Z16 hp) fun _ _ q=>q.mono g1.tups⟩
  refine⟨m,t,_,y,rfl,M1,g1.tups _ _ ht,fun H2 M2 g2=>q H2 (by rw[hb];exact M2) ((g1.mono (by simp)).trans g2)⟩
inductive spLiesI(vs:List V)(H:Hp)(Q:VK):Prop
 |mk (r:Addr) (rs:List (Str×Str)) (c:Str) (_:vs=[.ref r,.str c]) (_:RunsAt H r rs) (_:Q (.bl (Yq rs c)) H)
def Z8o:Sp:=fun vs H Q _=>spLiesI vs H Q
abbrev Wt:Stmt:=top 12
theorem sc_lies_in:FnScope ["runs","sign","low","high"] ["runs","sign"] (Za Wt):=V7
theorem Z7z(F:Fun K "lies_in" "lies_in" Wt f fd):FnOk P w K mg base W3 1 f fd ["runs","sign"] Z8o:=by
 refine F.ok sc_lies_in (fun vs H Q E h=>?_) (fun cdv A outer s H vs Q E hr h=>?_)
 ·obtain⟨r,rs,c,rfl,_⟩:=h
  rfl
 obtain⟨r,rs,c,rfl,⟨vs,hv,hp,hz⟩,q⟩:=h
 refine V6 ?_
 intro Xz
 refine⟨_,(Z1 (Xr PassesOwn.never rfl (Jh (pv 0)) (Zdl rfl (Z0e (pN 2 sc_lies_in.nd) (Z0e (pN 3 sc_lies_in.nd) Z9c))) (Z5 (Zs (PW.pt (Vj (Zb Z47 (pv 2) (pv 1) (Ze _)) (Wl (Zb Z47 (pv 1) (pv 3) (Ze _))))) (Z5 (Zl Tk)) Zk)))
  (Z5 (Zl Tk))),?_⟩
 refine Zhl ?_
 intro Ez Az1 Az2 Az3
 have hl:=Paired.length hp
 refine(Z9 rfl ⟨r,rfl,⟨vs,SqT.of hv⟩,?_⟩)
 refine Z0m (xs:=vs) (fun i σ H'=>∃lo hi:Option V,σ=[some (.ref r),some (.str c),lo,hi]/\H'=H/\(rs.take i).any (fun r=>!decide (c.cps.toList<r.1.cps.toList) && !decide (r.2.cps.toList<c.cps.toList))=false) ⟨none,none,rfl,rfl,rfl⟩ (fun i σ H' _ ⟨_,_,_,e,_⟩=>by rw[e];exact SqT.of hv) ?_ ?_
 ·rintro i x σ H1 hx ⟨lo,hi,rfl,rfl,hno⟩
  obtain⟨p,hpi,_,_,a,rfl,ha⟩:=Y0 hp hx
  refine⟨a,_,rfl,SqT.of ha,rfl,_,_,rfl,_,_,rfl,rfl,?_⟩
  have yes:(!decide (c.cps.toList<p.1.cps.toList) && !decide (p.2.cps.toList<c.cps.toList))=true->Yq rs c=true:=fun h=>by
   unfold Yq
   rw[List.any_eq_true]
   exact⟨p,List.mem_of_getElem? hpi,h⟩
  have no:(!decide (c.cps.toList<p.1.cps.toList) && !decide (p.2.cps.toList<c.cps.toList))=false->(rs.take (i+1)).any (fun r=>!decide (c.cps.toList<r.1.cps.toList) && !decide (r.2.cps.toList<c.cps.toList))=false:=fun h=>by
   rw[Yf hpi,List.any_append,hno]
   simpa using h
  refine(Z9 rfl (Z9 rfl (Xy rfl rfl (Z9 rfl (Ym (fun z1=>?_) (fun z1=>?_))))))
  ·refine(Z9 rfl (Z9 rfl (Xy rfl rfl (Z9 rfl (Ym (fun z2=>?_) (fun z2=>?_))))))
   ·rw[yes (by rw[z1,z2];rfl)]at q
    exact q
   ·exact⟨_,_,rfl,rfl,no (by rw[z1,Bool.eq_false_iff.mpr z2];rfl)⟩
  ·exact Ju ⟨_,_,rfl,rfl,no (by rw[Bool.eq_false_iff.mpr z1];rfl)⟩
 ·rintro σ H1 ⟨lo,hi,rfl,rfl,hno⟩
  rw[hl,List.take_length]at hno
  rw[show Yq rs c=false from hno]at q
  exact q
inductive spTakesI(vs:List V)(H:Hp)(Q:VK):Prop
 |mk (a:Addr) (h:Hd) (t:Str) (i:Int) (_:vs=[.ref a,.str t,.int i]) (_:PatAt H 1 (.ref a) (.node h [])) (_:h.one=true) (_:0<=i) (_:t.length<=1000) (_:Q (.bl (W7 h t i)) H)
def Z50:Sp:=fun vs H Q _=>spTakesI vs H Q
abbrev Xe:Stmt:=top 11
theorem sc_takes_sign:FnScope ["row","text","at","kind"] ["row","text","at"] (Za Xe):=V7
theorem Z3j(T:Blt mg)(O_lies_in:Own P w K mg base 1 "lies_in" ["runs","sign"] Z8o)(F:Fun K "takes_sign" "takes_sign" Xe f fd):FnOk P w K mg base W3 2 f fd ["row","text","at"] Z50:=by
 refine F.ok sc_takes_sign (fun vs H Q E h=>?_) (fun cdv A outer s H vs Q E hr h=>?_)
 ·obtain⟨a,h,t,i,rfl,_⟩:=h
  rfl
 obtain⟨a,h,t,i,rfl,hp,h1,h0,ht,q⟩:=h
 refine V6 ?_
 intro Xz
 refine⟨_,(Z1 (Zs (Zb Zei (pv 2) (Zy Yh rfl T.b_len PyProof.Rows.Boot.«len» (Z0 (pv 1) Z3)) (Ze _)) (Z5 (Zl Tk)) Zk)
  (Z1 (pS 3 sc_takes_sign.nd (Zd Zc (pv 0) Z4 (fun _ _=>rfl)))
  (Z1 (Zs (Zb Zv (pv 3) Zg (Ze _)) (Z5 (Zl (X7 Zv (Zd Zc (pv 0) Z4 (fun _ _=>rfl)) (Zd Jj (pv 1) (pv 2) (fun _ _=>rfl)) (Ze _)))) Zk)
  (Z1 (Zs (Zb Zv (pv 3) Zg (Ze _)) (Z5 (Zl Tk)) Zk)
  (Z5 (Zl (X7 Zv (Zj (O_lies_in.mono (by omega)) hr rfl (Z0 (Zd Zc (pv 0) Z4 (fun _ _=>rfl)) (Z0 (Zd Jj (pv 1) (pv 2) (fun _ _=>rfl)) Z3))) (X7 Zv (pv 3) Zg (Ze _)) (Ze _)))))))),?_⟩
 refine Zhm ?_
 intro Ez Az1 Az2 Az3 Az4 Az5 Az6 Az7
 obtain⟨a',kv,e,lay,hk⟩:=hp
 cases e
 cases hk
 obtain⟨r0,ea⟩:=lay.head
 unfold W7 at q
 refine(Z9 rfl (Z9 rfl ⟨t,rfl,Y5 ht,Xy rfl rfl (Z9 rfl (Ym (fun z=>?_) (fun z=>?_)))⟩))
 ·have:¬i<t.length:=by
   have:=of_decide_eq_true z
   omega
  rw[if_neg this]at q
  exact q
 have hlt:i<t.length:=by
  have:¬((t.length:Nat):Int)<=i:=fun e=>z (decide_eq_true e)
  omega
 rw[if_pos hlt]at q
 have hc:=Z5x h0 hlt
 refine(Ys ea Vw (?_))
 cases h with
 |sign x =>
  refine(Z9 rfl ⟨rfl,Z9 rfl (Zp (show Xx "sign" "sign" = true by decide +kernel) ?_)⟩)
  exact(Ys lay.2.2 rfl ⟨_,rfl,_,rfl,t,i,_,rfl,rfl,Y5 ht,hc,rfl,q⟩)
 |any =>
  refine(Z9 rfl ⟨rfl,Z9 rfl (Zf (show ¬Xx "any" "sign" = true by decide +kernel) ?_)⟩)
  exact(Z9 rfl ⟨rfl,Z9 rfl (Zp (show Xx "any" "any" = true by decide +kernel) q)⟩)
 |inn rs =>
  obtain⟨_,r,e,hr'⟩:=lay
  refine(Z9 rfl ⟨rfl,Z9 rfl (Zf (show ¬Xx "in" "sign" = true by decide +kernel) ?_)⟩)
  refine(Z9 rfl ⟨rfl,Z9 rfl (Zf (show ¬Xx "in" "any" = true by decide +kernel) ?_)⟩)
  refine(Ys e rfl ⟨_,rfl,_,rfl,t,i,_,rfl,rfl,Y5 ht,hc,r,rs,_,rfl,hr',_,rfl,rfl,rfl,?_⟩)
  have e2:decide (V.str (Hd.inn rs).word=V.str "in")=true:=by show decide (V.str "in" = V.str "in")=true;decide +kernel
  rw[e2]
  have q':Q (.bl (Yq rs (Z4w t i.toNat))) H:=q
  show Q (.bl (decide (V.bl (Yq rs (Z4w t i.toNat))=V.bl true))) H
  cases hb:Yq rs (Z4w t i.toNat) <;> rw[hb]at q' <;> exact q'
 |out rs =>
  obtain⟨_,r,e,hr'⟩:=lay
  refine(Z9 rfl ⟨rfl,Z9 rfl (Zf (show ¬Xx "out" "sign" = true by decide +kernel) ?_)⟩)
  refine(Z9 rfl ⟨rfl,Z9 rfl (Zf (show ¬Xx "out" "any" = true by decide +kernel) ?_)⟩)
  refine(Ys e rfl ⟨_,rfl,_,rfl,t,i,_,rfl,rfl,Y5 ht,hc,r,rs,_,rfl,hr',_,rfl,rfl,rfl,?_⟩)
  have e2:decide (V.str (Hd.out rs).word=V.str "in")=false:=by show decide (V.str "out" = V.str "in")=false;decide +kernel
  rw[e2]
  have q':Q (.bl (!Yq rs (Z4w t i.toNat))) H:=q
  show Q (.bl (decide (V.bl (Yq rs (Z4w t i.toNat))=V.bl false))) H
  cases hb:Yq rs (Z4w t i.toNat) <;> rw[hb]at q' <;> exact q'
 |_=>exact absurd h1 (by simp[Hd.one])
end
def MM.doSign(h:Hd)(M:MM):MM:=if W7 h M.s.text M.s.place=true then⟨{ M.s with place:=M.s.place+1 },M.cs⟩ else M.back
def MM.doBegin(M:MM):MM:=if M.s.place=0 then M else M.back
def MM.doEnd(M:MM):MM:=if M.s.place=M.s.text.length then M else M.back
def MM.doFound(M:MM):MM:=⟨{ M.s with found:=true },M.cs⟩
section
variable{P:Program}{w:World}{K:W.Frag}{mg:Str->Option Value}{base:Heap}{f C:Addr}{fd:FuncData}
inductive spRowI(C:Addr)(pre:MM->Prop)(row:Hp->Addr->Prop)(go:MM->MM)(vs:List V)(H:Hp)(Q:VK):Prop
 |mk (m a:Addr) (M:MM) (_:vs=[.ref m,.ref a]) (_:MAt C H m M) (_:M.cs.length<=1000000) (_:pre M) (_:row H a) (_:Zju C Q H m M.s.choices (go M))
def Z3b(C:Addr)(pre:MM->Prop)(row:Hp->Addr->Prop)(go:MM->MM):Sp:=fun vs H Q _=>spRowI C pre row go vs H Q
abbrev Zbm:MM->Prop:=fun M=>0<=M.s.place/\M.s.text.length<=1000
def Zjo(h:Hd):Hp->Addr->Prop:=fun H a=>PatAt H 1 (.ref a) (.node h [])
abbrev X5:Stmt:=top 19
theorem Z7o:FnScope ["machine","row"] ["machine","row"] (Za X5):=V7
theorem Z82{h:Hd}(h1:h.one=true)(MT:Txt K mg C)(O_takes_sign:Own P w K mg base 2 "takes_sign" ["row","text","at"] Z50)(O_Machine_go_back:OwnM P w K mg base 2 C "go_back" ["self"] (Wn C))(F:Fun K "do_sign" "do_sign" X5 f fd) :
  FnOk P w K mg base W3 3 f fd ["machine","row"] (Z3b C Zbm (Zjo h) (MM.doSign h)):=by
 refine F.ok Z7o (fun vs H Q E h=>?_) (fun cdv A outer s H vs Q E hr h=>?_)
 ·obtain⟨m,a,M,rfl,_⟩:=h
  rfl
 obtain⟨m,a,M,rfl,hM,hz,⟨p0,p1⟩,hrow,q⟩:=h
 refine V6 ?_
 intro Xz
 refine⟨_,(Z5 (Zs (Wo (Zj (O_takes_sign.mono (by omega)) hr rfl (Z0 (pv 1) (Z0 (Zt (pv 0) rfl) (Z0 (Zt (pv 0) rfl) Z3))))) (Z5 (Jd (pv 0) Z4 Z8w)) (Z5 (Zn (Yo (O_Machine_go_back.mono (by omega)) MT.cl hr (pv 0)))))),?_⟩
 refine Zdg ?_
 intro Ez Az1 Az2
 obtain⟨⟨dx,e1⟩,_⟩:=id hM
 refine(Z9 rfl (Z9 rfl ⟨m,C,dx,_,_,rfl,e1,MT.cl,MT.a2,Z26 _,Z9 rfl ⟨m,C,dx,_,_,rfl,e1,MT.cl,MT.a4,Vd _,a,_,M.s.text,M.s.place,rfl,hrow,h1,p0,p1,Z9 rfl (?_)⟩⟩))
 unfold MM.doSign at q
 refine Ym (fun z=>?_) (fun z=>?_)
 ·rw[if_pos z]at q
  refine(Z9 rfl ⟨m,C,dx,_,_,rfl,e1,MT.cl,MT.a4,Vd _,Xy rfl rfl ⟨dx,_,e1,X4 _,?_⟩⟩)
  rw[Zag]
  exact q _ (hM.put (s':={ M.s with place:=M.s.place+1 }) e1 rfl) (Gro.ins (by simp) e1 _)
 ·rw[if_neg z]at q
  exact(Z9 rfl ⟨m,dx,Z9 rfl ⟨e1,Yz _,m,M,rfl,hM,hz,q⟩⟩)
abbrev T2:Stmt:=top 20
theorem Z62:FnScope ["machine","row"] ["machine","row"] (Za T2):=V7
theorem Z69(MT:Txt K mg C)(O_Machine_go_back:OwnM P w K mg base 2 C "go_back" ["self"] (Wn C))(F:Fun K "do_begin" "do_begin" T2 f fd):FnOk P w K mg base W3 3 f fd ["machine","row"] (Z3b C Zbm (Zjo .beg) MM.doBegin):=by
 refine F.ok Z62 (fun vs H Q E h=>?_) (fun cdv A outer s H vs Q E hr h=>?_)
 ·obtain⟨m,a,M,rfl,_⟩:=h
  rfl
 obtain⟨m,a,M,rfl,hM,hz,_,_,q⟩:=h
 refine V6 ?_
 intro Xz
 refine⟨_,(Z5 (Zs (Zb Z7j (Zt (pv 0) rfl) Z4 (Ze _)) (Z5 (Zn (Yo (O_Machine_go_back.mono (by omega)) MT.cl hr (pv 0)))) Zk)),?_⟩
 refine Z37 ?_
 intro Ez Az1
 obtain⟨⟨dx,e1⟩,_⟩:=id hM
 unfold MM.doBegin at q
 refine(Z9 rfl ⟨m,C,dx,_,_,rfl,e1,MT.cl,MT.a4,Vd _,rfl,Z9 rfl (Ym (fun z=>?_) (fun z=>?_))⟩)
 ·have:¬M.s.place=0:=fun e=>by rw[e]at z;exact absurd z (by decide)
  rw[if_neg this]at q
  exact(Z9 rfl ⟨m,dx,Z9 rfl ⟨e1,Yz _,m,M,rfl,hM,hz,q⟩⟩)
 ·have:M.s.place=0:=by
   have:(!decide (V.int M.s.place=V.int 0))=false:=Bool.eq_false_iff.mpr z
   simpa using this
  rw[if_pos this]at q
  exact q H hM Gro.refl
abbrev Z0c:Stmt:=top 21
theorem Zar:FnScope ["machine","row"] ["machine","row"] (Za Z0c):=V7
theorem Zb3(T:Blt mg)(MT:Txt K mg C)(O_Machine_go_back:OwnM P w K mg base 2 C "go_back" ["self"] (Wn C))(F:Fun K "do_end" "do_end" Z0c f fd):FnOk P w K mg base W3 3 f fd ["machine","row"] (Z3b C Zbm (Zjo .fin) MM.doEnd):=by
 refine F.ok Zar (fun vs H Q E h=>?_) (fun cdv A outer s H vs Q E hr h=>?_)
 ·obtain⟨m,a,M,rfl,_⟩:=h
  rfl
 obtain⟨m,a,M,rfl,hM,hz,⟨p0,p1⟩,_,q⟩:=h
 refine V6 ?_
 intro Xz
 refine⟨_,(Z5 (Zs (Zb Z7j (Zt (pv 0) rfl) (Zy Yh rfl T.b_len PyProof.Rows.Boot.«len» (Z0 (Zt (pv 0) rfl) Z3)) (Ze _)) (Z5 (Zn (Yo (O_Machine_go_back.mono (by omega)) MT.cl hr (pv 0)))) Zk)),?_⟩
 refine Z37 ?_
 intro Ez Az1
 obtain⟨⟨dx,e1⟩,_⟩:=id hM
 unfold MM.doEnd at q
 refine(Z9 rfl ⟨m,C,dx,_,_,rfl,e1,MT.cl,MT.a4,Vd _,Z9 rfl ⟨m,C,dx,_,_,rfl,e1,MT.cl,MT.a2,Z26 _,M.s.text,rfl,Y5 p1,rfl,Z9 rfl (Ym (fun z=>?_) (fun z=>?_))⟩⟩)
 ·have:¬M.s.place=M.s.text.length:=fun e=>by rw[e]at z;simp at z
  rw[if_neg this]at q
  exact(Z9 rfl ⟨m,dx,Z9 rfl ⟨e1,Yz _,m,M,rfl,hM,hz,q⟩⟩)
 ·have:M.s.place=M.s.text.length:=by
   have:(!decide (V.int M.s.place=V.int ((M.s.text.length:Nat):Int)))=false:=Bool.eq_false_iff.mpr z
   simpa using this
  rw[if_pos this]at q
  exact q H hM Gro.refl
def Zm5:Hp->Addr->Prop:=fun H a=>H a=some (.tup [.str "found"])
abbrev T0:Stmt:=top 37
theorem Z61:FnScope ["machine","row"] ["machine","row"] (Za T0):=V7
theorem Z67(MT:Txt K mg C)(F:Fun K "do_found" "do_found" T0 f fd):FnOk P w K mg base W3 1 f fd ["machine","row"] (Z3b C (fun _=>True) Zm5 MM.doFound):=by
 refine F.ok Z61 (fun vs H Q E h=>?_) (fun cdv A outer s H vs Q E hr h=>?_)
 ·obtain⟨m,a,M,rfl,_⟩:=h
  rfl
 obtain⟨m,a,M,rfl,hM,hz,_,_,q⟩:=h
 refine V6 ?_
 intro Xz
 refine⟨_,(Z5 (Yk (pv 0) Tk rfl)),?_⟩
 obtain⟨⟨dx,e1⟩,_⟩:=id hM
 refine(Z9 rfl ⟨m,C,dx,Z9 rfl ⟨e1,MT.cl,MT.a9,X4 _,?_⟩⟩)
 rw[Z6p]
 exact q _ (hM.put (s':={ M.s with found:=true }) e1 rfl) (Gro.ins (by simp) e1 _)
inductive spMovesI(C:Addr)(vs:List V)(H:Hp)(Q:VK):Prop
 |mk (m:Addr) (M:MM) (_:vs=[.ref m]) (_:MAt C H m M) (_:Q (.int M.s.made) H)
def Z1w(C:Addr):Sp:=fun vs H Q _=>spMovesI C vs H Q
abbrev W0:Stmt:=Xv (top 39) 2
theorem Z0p:FnScope ["self"] ["self"] (Za W0):=V7
theorem Zcc(MT:Txt K mg C)(F:Fun K "moves" "Machine.moves" W0 f fd):FnOk P w K mg base W3 1 f fd ["self"] (Z1w C):=by
 refine F.ok Z0p (fun vs H Q E h=>?_) (fun cdv A outer s H vs Q E hr h=>?_)
 ·obtain⟨m,M,rfl,_⟩:=h
  rfl
 obtain⟨m,M,rfl,hM,q⟩:=h
 refine V6 ?_
 intro Xz
 refine⟨_,(Z5 (Zl (Zt (pv 0) rfl))),?_⟩
 obtain⟨⟨dx,e1⟩,_⟩:=id hM
 exact(Z9 rfl ⟨m,C,dx,_,_,rfl,e1,MT.cl,MT.a8,Z27 _,q⟩)
structure Tells(P:Program)(w:World)(K:W.Frag)(mg:Str->Option Value)(base:Heap)(k:Nat)(ds:List (Ti×V))(wd:Str)(sp:Sp):Prop where
 ex:∃f fd ps,Z3p ds (Sum.inr wd)=some (.ref f)/\FnOk P w K mg base W3 k f fd ps sp/\W.keepIn K (.ref f)=true/\Binds K fd ps []
def MM.next(M:MM):MM:=⟨{ M.s with row:=M.s.row+1,made:=M.s.made+1 },M.cs⟩
inductive spMoveI(P:Program)(w:World)(K:W.Frag)(mg:Str->Option Value)(base:Heap)(k:Nat)(ds:List (Ti×V))(C:Addr)(vs:List V)(H:Hp)(Q:VK):Prop
 |mk (m ra a:Addr) (ys:List V) (wd:Str) (r:List V) (M:MM) (sp:Sp) (_:vs=[.ref m]) (_:MAt C H m M) (_:M.s.rows=.ref ra) (_:H ra=some (.tup ys)) (_:Z3o ys M.s.row=some (.ref a)) (_:H a=some (.tup (.str wd::r))) (_:Tells P w K mg base k ds wd sp) (_:∀H1:Hp,MAt C H1 m M.next->Gro [m] H H1->sp [.ref m,.ref a] H1 (fun _ H2=>Q .non H2) E0)
def Jx(P:Program)(w:World)(K:W.Frag)(mg:Str->Option Value)(base:Heap)(k:Nat)(ds:List (Ti×V))(C:Addr):Sp:=fun vs H Q _=>spMoveI P w K mg base k ds C vs H Q
abbrev We:Stmt:=Xv (top 39) 3
theorem sc_Machine_move:FnScope ["self","row"] ["self"] (Za We):=V7
theorem Z9o{k:Nat}{dn:Addr}{ds:List (Ti×V)}(MT:Txt K mg C)(Wj:mg "DOINGS" = some (.ref dn))(hDN:Zen K w dn ds)(F:Fun K "move" "Machine.move" We f fd):FnOk P w K mg base W3 (k+1) f fd ["self"] (Jx P w K mg base k ds C):=by
 refine F.ok sc_Machine_move (fun vs H Q E h=>?_) (fun cdv A outer s H vs Q E hr h=>?_)
 ·obtain⟨m,ra,a,ys,wd,r,M,sp,rfl,_⟩:=h
  rfl
 obtain⟨m,ra,a,ys,wd,r,M,sp,rfl,hM,hrows,hra,hat,ha,⟨g,gd,ps,hv,G,kp,hb⟩,q⟩:=h
 refine V6 ?_
 intro Xz
 refine⟨_,(Z1 (pS 1 sc_Machine_move.nd (Zd Zc (Zt (pv 0) rfl) (Zt (pv 0) rfl) (fun _ _=>rfl)))
  (Z1 (Jd (pv 0) Z4 Z8w)
  (Z1 (Jd (pv 0) Z4 Z8w)
  (Z5 (Zn (Zik hr (Z56 (Ud (v:=.ref _) rfl Wj rfl) (Zd Zc (pv 1) Z4 (fun _ _=>rfl)) (fun _ _=>rfl)) (Z0 (pv 0) (Z0 (pv 1) Z3)))))))),?_⟩
 refine Z8u ?_
 intro Ez Az1 Az2 Az3
 obtain⟨⟨dx,e1⟩,_⟩:=id hM
 have hrr:M.s.fs.lookup ("rows":Str)=some (.ref ra):=by rw[Zga,hrows]
 refine⟨_,rfl,m,C,dx,_,_,rfl,e1,MT.cl,MT.a1,hrr,_,rfl,m,C,dx,_,_,rfl,e1,MT.cl,MT.a3,Z5w _,ra,ys,_,_,rfl,rfl,SqT.of hra,hat,?_⟩
 refine(Z9 rfl ⟨m,C,dx,_,_,rfl,e1,MT.cl,MT.a3,Z5w _,Xy rfl rfl ⟨dx,_,e1,X4 _,?_⟩⟩)
 rw[Z1g]
 have M1:=hM.put (s':={ M.s with row:=M.s.row+1 }) e1 rfl
 have g1:Gro [m] H (Zq H m (.ins C dx ({ M.s with row:=M.s.row+1 }:MS).fs)):=Gro.ins (by simp) e1 _
 have e2:(Zq H m (.ins C dx ({ M.s with row:=M.s.row+1 }:MS).fs)) m=some (.ins C dx ({ M.s with row:=M.s.row+1 }:MS).fs):=Z2
 generalize Zq H m (.ins C dx ({ M.s with row:=M.s.row+1 }:MS).fs)=H1 at *
 refine(Z9 rfl ⟨m,C,dx,_,_,rfl,e2,MT.cl,MT.a8,Z27 _,Xy rfl rfl ⟨dx,_,e2,X4 _,?_⟩⟩)
 rw[Zfc]
 have M2:MAt C _ m M.next:=M1.put (s':={ M.s with row:=M.s.row+1,made:=M.s.made+1 }) e2 rfl
 have g2:Gro [m] H1 (Zq H1 m (.ins C dx ({ M.s with row:=M.s.row+1,made:=M.s.made+1 }:MS).fs)):=Gro.ins (by simp) e2 _
 have q2:=q _ M2 (g1.trans g2)
 refine(Ys (g2.tups _ _ (g1.tups _ _ ha)) Vw ⟨dn,ds,Sum.inr wd,_,rfl,hDN,rfl,hv,g,gd,ps,sp,rfl,G,kp,hb,?_⟩)
 exact(Z9 rfl (Z9 rfl q2))
end
def MM.fresh(M:MM):MM:=if M.s.found=true then MM.back ⟨{ M.s with found:=false },M.cs⟩ else M
section
variable{P:Program}{w:World}{K:W.Frag}{mg:Str->Option Value}{base:Heap}{f C:Addr}{fd:FuncData}
structure Runs(P:Program)(w:World)(K:W.Frag)(mg:Str->Option Value)(base:Heap)(kk:Nat)(ds:List (Ti×V))(C m:Addr)(M:MM)(H:Hp)(most:Int)(Q:VK)(J:Nat->MM->Hp->Prop):Prop where
 start:∀H',MAt C H' m M.fresh->Gro [m,M.s.choices] H H'->J 0 M.fresh H'
 at_:∀k M' H',J k M' H'->MAt C H' m M'/\M'.s.made=M.s.made+k/\M'.s.found=false/\(k:Int)<=most
 none_:∀k M' H',J k M' H'->M'.s.ended=true->∀t,H' t=none->Q (.ref t) (Zq H' t (.tup [.str "none"]))
 over:∀k M' H',J k M' H'->M'.s.ended=false->(k:Int)=most->∀t,H' t=none->Q (.ref t) (Zq H' t (.tup [.str "over"]))
 turn:∀k M' H',J k M' H'->M'.s.ended=false->(k:Int)<most->∀Q':VK,(∀(v:V) (H2:Hp) (M2:MM),MAt C H2 m M2->((M2.s.found=true/\∀t,H2 t=none->Q (.ref t) (Zq H2 t (.tup [.str "way",.int M2.s.place,M2.s.groups])))∨(M2.s.found=false/\J (k+1) M2 H2))->Q' v H2)->Jx P w K mg base kk ds C [.ref m] H' Q' E0
inductive spWayI(P:Program)(w:World)(K:W.Frag)(mg:Str->Option Value)(base:Heap)(kk:Nat)(ds:List (Ti×V))(C:Addr)(vs:List V)(H:Hp)(Q:VK):Prop
 |mk (m:Addr) (most:Int) (M:MM) (J:Nat->MM->Hp->Prop) (_:vs=[.ref m,.int most]) (_:MAt C H m M) (_:1<=most) (_:M.cs.length<=1000000) (_:Runs P w K mg base kk ds C m M H most Q J)
def Zeb(P:Program)(w:World)(K:W.Frag)(mg:Str->Option Value)(base:Heap)(kk:Nat)(ds:List (Ti×V))(C:Addr):Sp:=fun vs H Q _=>spWayI P w K mg base kk ds C vs H Q
def Zmi(m:Addr)(most:Int)(M:MM)(J:Nat->MM->Hp->Prop):TS:=fun D σ H1=>σ=[some (.ref m),some (.int most),none]/\J 0 M.fresh H1
abbrev Wz:Stmt:=Xv (top 39) 1
theorem sc_Machine_way:FnScope ["self","most","last"] ["self","most"] (Za Wz):=V7
theorem Zdr{kk:Nat}{ds:List (Ti×V)}(MT:Txt K mg C)(O_Machine_move:OwnM P w K mg base (kk+1) C "move" ["self"] (Jx P w K mg base kk ds C))(O_Machine_go_back:OwnM P w K mg base 2 C "go_back" ["self"] (Wn C))(F:Fun K "way" "Machine.way" Wz f fd) :
  FnOk P w K mg base W3 (kk+3) f fd ["self","most"] (Zeb P w K mg base kk ds C):=by
 refine F.ok sc_Machine_way (fun vs H Q E h=>?_) (fun cdv A outer s H vs Q E hr h=>?_)
 ·obtain⟨m,most,M,J,rfl,_⟩:=h
  rfl
 obtain⟨m,most,M,J,rfl,hM,h1,hz,R⟩:=h
 refine V6 ?_
 intro Xz
 refine⟨_,(Z1 (Zs (Wo (Zt (pv 0) rfl)) (Z1 (Yk (pv 0) Tk rfl)
  (Z5 (Zn (Yo (O_Machine_go_back.mono (by omega)) MT.cl hr (pv 0))))) Zk)
  (Va (fun D σ H1=>Zmi m most M J D σ H1/\D.rt=Q) (Z1 (pS 2 sc_Machine_way.nd (Zx Yn (Zt (pv 0) rfl) (pv 1)))
  (Z1 (Ur PassesOwn.never (PW.pt (Vj (Zie (Wo (Zt (pv 0) rfl))) (Wl (Zb Vc (Zt (pv 0) rfl) (pv 2) (Ze _))))) (Z1 (Zn (Yo (O_Machine_move.mono (by omega)) MT.cl hr (pv 0)))
  (Z5 (Zs (Wo (Zt (pv 0) rfl)) (Z5 (Zl (Zr (Z0 Zg (Z0 (Zt (pv 0) rfl) (Z0 (Zt (pv 0) rfl) Z3)))))) Zk))))
  (Z5 (Zl (W5 (Wo (Zt (pv 0) rfl)) (Zr (Z0 Zg Z3)) (Zr (Z0 Zg Z3))))))) (fun D1 σ1 H1 hcut=>?cut1))),?_⟩
 case cut1 =>
  refine Zhz ?_
  intro Ez Az1 Az2 Az3 Az4 Az5
  obtain⟨⟨rfl,hJ⟩,hD⟩:=hcut
  obtain⟨M0,hm0,_,_⟩:=R.at_ _ _ _ hJ
  obtain⟨⟨dx,e1⟩,_⟩:=id M0
  refine(Z9 rfl ⟨m,C,dx,_,_,rfl,e1,MT.cl,MT.a8,Z27 _,Z9 rfl (Xy rfl rfl (?_))⟩)
  have hlast:M.fresh.s.made=M.s.made:=by rw[hm0];simp
  refine⟨fun n σ H'=>∃(k:Nat) (M':MM),(n:Int)=most-k/\σ=[some (.ref m),some (.int most),some (.int (M.fresh.s.made+most))]/\J k M' H',⟨most.toNat,0,_,by omega,rfl,hJ⟩,?_⟩
  rintro n σ H2 ⟨k,M',hn,rfl,hJ2⟩
  obtain⟨M2,hm2,hf2,hk2⟩:=R.at_ _ _ _ hJ2
  obtain⟨⟨dx2,e2⟩,_⟩:=id M2
  have rest:(M'.s.ended=false->¬(k:Int)<most)->(Z3q (Zn0 (tB (Zl4 K (Xc 0) "ended")) (Za9 (Yy (tC (.str "none")) Ub)) (Za9 (Yy (tC (.str "over")) Ub)))) D1 [some (.ref m),some (.int most),some (.int (M.fresh.s.made+most))] H2:=by
   intro hk
   refine(Z9 rfl ⟨m,C,dx2,_,_,rfl,e2,MT.cl,MT.a10,Z75 _,Z9 rfl (Ym (fun z=>?_) (fun z=>?_))⟩)
   ·refine⟨sz,fun t ht=>?_⟩
    rw[hD]
    exact R.none_ _ _ _ hJ2 z t ht
   ·refine⟨sz,fun t ht=>?_⟩
    rw[hD]
    have z':M'.s.ended=false:=Bool.eq_false_iff.mpr z
    exact R.over _ _ _ hJ2 z' (by have:=hk z';omega) t ht
  refine(Z9 rfl ⟨m,C,dx2,_,_,rfl,e2,MT.cl,MT.a10,Z75 _,Z9 rfl (?_)⟩)
  cases he:M'.s.ended with
  |true=>exact Ju (Ju (rest (fun z=>absurd (he.symm.trans z) (by decide))))
  |false =>
   refine Te ?_
   refine(Z9 rfl ⟨m,C,dx2,_,_,rfl,e2,MT.cl,MT.a8,Z27 _,Z9 rfl (Xy rfl rfl (Z9 rfl (?_)))⟩)
   by_cases hlt:(k:Int)<most
   ·have hd:decide (M'.s.made<M.fresh.s.made+most)=true:=decide_eq_true (by omega)
    rw[hd]
    refine Te ⟨fun σ' H'=>∃M3,σ'=[some (.ref m),some (.int most),some (.int (M.fresh.s.made+most))]/\J (k+1) M3 H',fun σ' H' ⟨M3,e3,j3⟩=>⟨n-1,by omega,k+1,M3,by omega,e3,j3⟩,?_⟩
    refine(Z9 rfl ⟨m,dx2,Z9 rfl ⟨e2,Zg1 _,?_⟩⟩)
    unfold Ub
    refine R.turn _ _ _ hJ2 he hlt _ fun v H3 M3 hM3 h3=>?_
    obtain⟨⟨dx3,e3⟩,_⟩:=id hM3
    refine(Z9 rfl ⟨m,C,dx3,_,_,rfl,e3,MT.cl,MT.a9,Z74 _,Z9 rfl (?_)⟩)
    rcases h3 with⟨hf,hq⟩ | ⟨hf,hj⟩
    ·rw[hf]
     refine Te (Z9 rfl ⟨m,C,dx3,_,_,rfl,e3,MT.cl,MT.a4,Vd _,Z9 rfl ⟨m,C,dx3,_,_,rfl,e3,MT.cl,MT.a5,Wa _,sz,fun t ht=>?_⟩⟩)
     show D1.rt _ _
     rw[hD]
     exact hq t ht
    ·rw[hf]
     exact Ju ⟨M3,rfl,hj⟩
   ·have hd:decide (M'.s.made<M.fresh.s.made+most)=false:=decide_eq_false (by omega)
    rw[hd]
    exact Ju (rest (fun _=>hlt))
 refine Zhc ?_
 intro Ez Az1 Az2 Az3
 obtain⟨⟨dx,e1⟩,_⟩:=id hM
 have fr:∀H',MAt C H' m M.fresh->Gro [m,M.s.choices] H H'->J 0 M.fresh H':=R.start
 unfold MM.fresh at fr
 refine(Z9 rfl ⟨m,C,dx,_,_,rfl,e1,MT.cl,MT.a9,Z74 _,Z9 rfl (Ym (fun z=>?_) (fun z=>?_))⟩)
 ·rw[if_pos z]at fr
  refine(Z9 rfl ⟨m,C,dx,Z9 rfl ⟨e1,MT.cl,MT.a9,X4 _,?_⟩⟩)
  rw[Z6p]
  have M1:=hM.put (s':={ M.s with found:=false }) e1 rfl
  have g1:Gro [m] H (Zq H m (.ins C dx ({ M.s with found:=false }:MS).fs)):=Gro.ins (by simp) e1 _
  refine(Z9 rfl ⟨m,dx,Z9 rfl ⟨Z2,Yz _,m,_,rfl,M1,hz,fun H2 M2 g2=>⟨⟨rfl,?_⟩,rfl⟩⟩⟩)
  have:=fr H2 M2 ((g1.mono (by simp)).trans g2)
  unfold MM.fresh
  rw[if_pos z]
  exact this
 ·rw[if_neg z]at fr
  refine⟨⟨rfl,?_⟩,rfl⟩
  unfold MM.fresh
  rw[if_neg z]
  exact fr H hM Gro.refl
end
def Rw.close:Rw->Option Int
 |.tup [.str x,.int k]=>if x="close" then some k else none
 |_=>none
def Xk(rs:List Rw):List Int:=rs.filterMap Rw.close
def Z1n(rs:List Rw):Int:=if Xk rs=[] then 0 else Zk2 (Xk rs)
def Rw.tame:Rw->Prop
 |.pat _=>True
 |.tup xs=>∃(x:Str) (r:List V),xs=.str x::r/\(x="close"->∃k,r=[.int k])
theorem Zax(h:Hd):decide (V.str h.word=V.str "close")=false:=by
 rw[h.word_wd]
 cases h.wd <;> decide +kernel
def Zlp(ra:Addr)(t:Str)(i:Int)(g:V)(c:Addr):MM:=⟨{ rows:=.ref ra,text:=t,row:=0,place:=i,groups:=g,held:=.non,choices:=c,made:=0,found:=false,ended:=false },[]⟩
section
variable{P:Program}{w:World}{K:W.Frag}{mg:Str->Option Value}{base:Heap}{f C:Addr}{fd:FuncData}
inductive spInitI(C:Addr)(vs:List V)(H:Hp)(Q:VK):Prop
 |mk (m dx ra:Addr) (t:Str) (i:Int) (ys:List V) (rs:List Rw) (_:vs=[.ref m,.ref ra,.str t,.int i]) (_:H m=some (.ins C dx [])) (_:H ra=some (.tup ys)) (_:Paired (RowAt H) ys rs) (_:ys.length<=1000000) (_:(∀r∈rs,r.tame)) (_:0<=Z1n rs) (_:Z1n rs<=1000) (_:∀(c g:Addr) (H':Hp),H c=none->MAt C H' m (Zlp ra t i (.ref g) c)->H' g=some (.tup (List.replicate (Z1n rs).toNat .non))->Gro [m] H H'->Q .non H')
def Z5o(C:Addr):Sp:=fun vs H Q _=>spInitI C vs H Q
theorem Z7v{H:Hp}{v:V}{r:Rw}(h:RowAt H v r)(ht:r.tame):∃(a:Addr) (x:Str) (xs:List V),v=.ref a/\H a=some (.tup (.str x::xs))/\((decide (V.str x=V.str "close")=false/\r.close=none)∨(decide (V.str x=V.str "close")=true/\∃k,xs=[.int k]/\r.close=some k)):=by
 cases r with
 |pat hd =>
  obtain⟨a,kv,rfl,l,_⟩:=h
  obtain⟨xs,e⟩:=l.head
  exact⟨a,_,xs,rfl,e,.inl ⟨Zax hd,rfl⟩⟩
 |tup ys =>
  obtain⟨a,rfl,e⟩:=h
  obtain⟨x,xs,rfl,hc⟩:=ht
  refine⟨a,x,xs,rfl,e,?_⟩
  by_cases hx:x="close"
  ·obtain⟨k,rfl⟩:=hc hx
   exact .inr ⟨decide_eq_true (by rw[hx]),k,rfl,by show(if x="close" then some k else none)=some k;rw[if_pos hx]⟩
  ·refine .inl ⟨decide_eq_false (fun z=>hx (by injection z)),?_⟩
   unfold Rw.close
   split
   ·rename_i heq
    injection heq with heq
    injection heq with h1 h2
    injection h1 with h1
    subst h1
    rw[if_neg hx]
   ·rfl
theorem Gro.obj{H:Hp}{m C dx:Addr}{fs fs':List (Str×V)}(h:H m=some (.ins C dx fs)):Gro [m] H (Zq H m (.ins C dx fs')):=Gro.ins (by simp) h _
abbrev Yt:Stmt:=Xv (top 39) 0
theorem Jg:FnScope ["self","rows","text","at"] ["self","rows","text","at"] (Za Yt):=V7
theorem Zfr(T:Blt mg)(MT:Txt K mg C)(F:Fun K "__init__" "Machine.__init__" Yt f fd):FnOk P w K mg base W3 1 f fd ["self","rows","text","at"] (Z5o C):=by
 refine F.ok Jg (fun vs H Q E h=>?_) (fun cdv A outer s H vs Q E hr h=>?_)
 ·obtain⟨m,dx,ra,t,i,ys,rs,rfl,_⟩:=h
  rfl
 obtain⟨m,dx,ra,t,i,ys,rs,rfl,h0,hra,hp,hz,htm,hc0,hc1,q⟩:=h
 refine V6 ?_
 intro Xz
 refine⟨_,(Z1 (Yk (pv 0) (pv 1) rfl)
  (Z1 (Yk (pv 0) (pv 2) rfl)
  (Z1 (Yk (pv 0) Z4 rfl)
  (Z1 (Yk (pv 0) (pv 3) rfl)
  (Z1 (Yk (pv 0) (Zx Zfi (Zr (Z0 Uh Z3)) (Zfe rfl rfl T.b_max (Z0 (Vb rfl (show CScope _ ["self","rows","text","at"] (Za Yt) _ from⟨rfl,by decide +kernel,rfl,by decide +kernel,by decide +kernel,by decide +kernel,by decide +kernel⟩) (Jh (pv 1)) (fun _ _ _ _=>(Z55 (Zb Zv (Zd (r:=Uu K) Zc (pv 0) Z4 (fun _ _=>rfl)) Zg (Ze _)))) (fun _ _ _ _=>(Zd (r:=Uu K) Zc (pv 0) Z4 (fun _ _=>rfl)))) Z3) (Zfb Z4 Zih))) rfl)
  (Z1 (Yk (pv 0) Uh rfl)
  (Z1 (Yk (pv 0) (Y4 Z3) rfl)
  (Z1 (Yk (pv 0) Z4 rfl)
  (Z1 (Yk (pv 0) Tk rfl)
  (Z5 (Yk (pv 0) Tk rfl))))))))))),?_⟩
 refine Zi3 ?_
 intro Ez Az1 Az2 Az3 Az4 Az5 Az6 Az7 Az8 Az9
 have hl:=Paired.length hp
 refine(Z9 rfl (Z9 rfl ⟨m,C,dx,Z9 rfl ⟨h0,MT.cl,MT.a1,by simp,?_⟩⟩))
 have g1:Gro [m] H (Zq H m (.ins C dx (Yg "rows" (.ref ra) []))):=Gro.obj h0
 have e1:(Zq H m (.ins C dx (Yg "rows" (.ref ra) []))) m=some (.ins C dx [("rows",.ref ra)]):=Z2
 generalize Zq H m (.ins C dx (Yg "rows" (.ref ra) []))=H1 at *
 refine(Z9 rfl (Z9 rfl ⟨m,C,dx,Z9 rfl ⟨e1,MT.cl,MT.a2,by simp,?_⟩⟩))
 have g2:Gro [m] H1 (Zq H1 m (.ins C dx (Yg "text" (.str t) [("rows",.ref ra)]))):=Gro.obj e1
 have e2:(Zq H1 m (.ins C dx (Yg "text" (.str t) [("rows",.ref ra)]))) m=some (.ins C dx [("rows",.ref ra),("text",.str t)]):=by rw[Z2,Zm (by decide +kernel),U3]
 generalize Zq H1 m (.ins C dx (Yg "text" (.str t) [("rows",.ref ra)]))=H2 at *
 refine(Z9 rfl ⟨m,C,dx,Z9 rfl ⟨e2,MT.cl,MT.a3,by simp,?_⟩⟩)
 have g3:Gro [m] H2 (Zq H2 m (.ins C dx (Yg "row" (.int 0) [("rows",.ref ra),("text",.str t)]))):=Gro.obj e2
 have e3:(Zq H2 m (.ins C dx (Yg "row" (.int 0) [("rows",.ref ra),("text",.str t)]))) m=some (.ins C dx [("rows",.ref ra),("text",.str t),("row",.int 0)]):=by rw[Z2,Zm (by decide +kernel),Zm (by decide +kernel),U3]
 generalize Zq H2 m (.ins C dx (Yg "row" (.int 0) [("rows",.ref ra),("text",.str t)]))=H3 at *
 refine(Z9 rfl (Z9 rfl ⟨m,C,dx,Z9 rfl ⟨e3,MT.cl,MT.a4,by simp,?_⟩⟩))
 have g4:Gro [m] H3 (Zq H3 m (.ins C dx (Yg "at" (.int i) [("rows",.ref ra),("text",.str t),("row",.int 0)]))):=Gro.obj e3
 have e4:(Zq H3 m (.ins C dx (Yg "at" (.int i) [("rows",.ref ra),("text",.str t),("row",.int 0)]))) m=some (.ins C dx [("rows",.ref ra),("text",.str t),("row",.int 0),("at",.int i)]):=by rw[Z2,Zm (by decide +kernel),Zm (by decide +kernel),Zm (by decide +kernel),U3]
 generalize Zq H3 m (.ins C dx (Yg "at" (.int i) [("rows",.ref ra),("text",.str t),("row",.int 0)]))=H4 at *
 have g14:=((g1.trans g2).trans g3).trans g4
 refine⟨sz,fun t1 ht1=>?_⟩
 have g5:Gro [m] H4 (Zq H4 t1 (.tup [.non])):=Gro.new ht1 _
 have f5:(Zq H4 t1 (.tup [.non])) t1=some (.tup [.non]):=Z2
 have e5:(Zq H4 t1 (.tup [.non])) m=some (.ins C dx [("rows",.ref ra),("text",.str t),("row",.int 0),("at",.int i)]):=by rw[Zi (Z7 e4 ht1)];exact e4
 generalize Zq H4 t1 (.tup [.non])=H5 at *
 have g15:=g14.trans g5
 have hra5:=g15.tups _ _ hra
 have hp5:=Y7 g15.tups hp
 refine(Z9 rfl ⟨ra,rfl,⟨ys,SqT.of hra5⟩,?_⟩)
 refine Z1j (n:=ys.length) (fun j zs H'=>H'=H5/\zs=(Xk (rs.take j)).map V.int/\zs.length<=j) ⟨rfl,rfl,Nat.le_refl _⟩ (Z5z hz) (fun j zs H' ⟨_,_,h⟩=>h) (fun j zs H' hj ⟨e,_⟩=>by rw[e];exact⟨ys,ys[j],SqT.of hra5,by simp[hj]⟩) (fun zs H' ⟨e,_⟩=>by rw[e];exact⟨ys,SqT.of hra5,Nat.le_refl _⟩) ?_ ?_
 ·rintro j zs H' x H'' hj ⟨rfl,rfl,hzl⟩ ⟨rfl,hx⟩
  have hx':=hx ys (SqT.of hra5)
  obtain⟨r,hri,hr'⟩:=Y0 hp5 hx'
  obtain⟨a,wd,xs,rfl,ha,hcl⟩:=Z7v hr' (htm r (List.mem_of_getElem? hri))
  have snoc:Xk (rs.take (j+1))=Xk (rs.take j)++r.close.toList:=by
   unfold Xk
   rw[Yf hri,List.filterMap_append]
   congr 1
  refine(Ys ha Vw ⟨rfl,_,rfl,?_⟩)
  rcases hcl with⟨h1,h2⟩ | ⟨h1,k,rfl,h2⟩
  ·rw[h1,if_neg (by decide)]
   refine⟨rfl,?_,by omega⟩
   rw[snoc,h2]
   simp
  ·rw[h1,if_pos rfl]
   refine(Ys ha rfl ⟨rfl,?_,by simp at hzl ⊢;omega⟩)
   rw[snoc,h2]
   simp
 ·rintro zs H' ⟨rfl,rfl,_⟩ l6 hl6
  rw[hl,List.take_length]
  have g6:Gro [m] H' (Zq H' l6 (.lst ((Xk rs).map V.int))):=Gro.new hl6 _
  refine⟨l6,Xk rs,.int 0,rfl,rfl,SqL.of Z2,?_⟩
  have ev:(if Xk rs=[] then V.int 0 else V.int (Zk2 (Xk rs)))=V.int (Z1n rs):=by unfold Z1n;split <;> rfl
  rw[ev]
  have f6:=g6.tups _ _ f5
  have e6:(Zq H' l6 (.lst ((Xk rs).map V.int))) m=some (.ins C dx [("rows",.ref ra),("text",.str t),("row",.int 0),("at",.int i)]):=by rw[Zi (Z7 e5 hl6)];exact e5
  generalize Zq H' l6 (.lst ((Xk rs).map V.int))=H6 at *
  have g16:=g15.trans g6
  have fin:∀(g:Addr) (H7:Hp),H7 g=some (.tup (List.replicate (Z1n rs).toNat .non))->H7 m=some (.ins C dx [("rows",.ref ra),("text",.str t),("row",.int 0),("at",.int i)])->Gro [m] H H7 ->
    (Xc 0) [some (.ref m),some (.ref ra),some (.str t),some (.int i)] H7 (fun x H2=>∃a C dx fs,x=.ref a/\H2 a=some (.ins C dx fs)/\Cls K C/\NoAttr K C "groups"/\fs.length<1000 /\
     (Z8 (Zbk K (Xc 0) (tC .non) "held") (Z8 (Zbk K (Xc 0) (Zgo Ub) "choices") (Z8 (Zbk K (Xc 0) (tC (.int 0)) "made") (Z8 (Zbk K (Xc 0) (tC (.bl false)) "found") (Zbk K (Xc 0) (tC (.bl false)) "ended"))))) { nx:=fun _ H'=>Q .non H',rt:=Q } [some (.ref m),some (.ref ra),some (.str t),some (.int i)] (Zq H2 a (.ins C dx (Yg "groups" (.ref g) fs)))):=by
   intro g H7 hg e7 g17
   refine(Z9 rfl ⟨m,C,dx,Z9 rfl ⟨e7,MT.cl,MT.a5,by simp,?_⟩⟩)
   have g8:Gro [m] H7 (Zq H7 m (.ins C dx (Yg "groups" (.ref g) [("rows",.ref ra),("text",.str t),("row",.int 0),("at",.int i)]))):=Gro.obj e7
   have e8:(Zq H7 m (.ins C dx (Yg "groups" (.ref g) [("rows",.ref ra),("text",.str t),("row",.int 0),("at",.int i)]))) m=some (.ins C dx [("rows",.ref ra),("text",.str t),("row",.int 0),("at",.int i),("groups",.ref g)]):=by
    rw[Z2,Zm (by decide +kernel),Zm (by decide +kernel),Zm (by decide +kernel),Zm (by decide +kernel),U3]
   generalize Zq H7 m (.ins C dx (Yg "groups" (.ref g) [("rows",.ref ra),("text",.str t),("row",.int 0),("at",.int i)]))=H8 at *
   refine(Z9 rfl ⟨m,C,dx,Z9 rfl ⟨e8,MT.cl,MT.a6,by simp,?_⟩⟩)
   have g9:Gro [m] H8 (Zq H8 m (.ins C dx (Yg "held" .non [("rows",.ref ra),("text",.str t),("row",.int 0),("at",.int i),("groups",.ref g)]))):=Gro.obj e8
   have e9:(Zq H8 m (.ins C dx (Yg "held" .non [("rows",.ref ra),("text",.str t),("row",.int 0),("at",.int i),("groups",.ref g)]))) m=some (.ins C dx [("rows",.ref ra),("text",.str t),("row",.int 0),("at",.int i),("groups",.ref g),("held",.non)]):=by
    rw[Z2,Zm (by decide +kernel),Zm (by decide +kernel),Zm (by decide +kernel),Zm (by decide +kernel),Zm (by decide +kernel),U3]
   generalize Zq H8 m (.ins C dx (Yg "held" .non [("rows",.ref ra),("text",.str t),("row",.int 0),("at",.int i),("groups",.ref g)]))=H9 at *
   refine⟨sz,fun c hc=>?_⟩
   have gA:Gro [m] H9 (Zq H9 c (.lst [])):=Gro.new hc _
   have fA:(Zq H9 c (.lst [])) c=some (.lst []):=Z2
   have mc:m≠c:=Z7 e9 hc
   have eA:(Zq H9 c (.lst [])) m=some (.ins C dx [("rows",.ref ra),("text",.str t),("row",.int 0),("at",.int i),("groups",.ref g),("held",.non)]):=by rw[Zi mc];exact e9
   generalize Zq H9 c (.lst [])=HA at *
   refine(Z9 rfl ⟨m,C,dx,Z9 rfl ⟨eA,MT.cl,MT.a7,by simp,?_⟩⟩)
   have gB:Gro [m] HA (Zq HA m (.ins C dx (Yg "choices" (.ref c) [("rows",.ref ra),("text",.str t),("row",.int 0),("at",.int i),("groups",.ref g),("held",.non)]))):=Gro.obj eA
   have eB:(Zq HA m (.ins C dx (Yg "choices" (.ref c) [("rows",.ref ra),("text",.str t),("row",.int 0),("at",.int i),("groups",.ref g),("held",.non)]))) m=some (.ins C dx [("rows",.ref ra),("text",.str t),("row",.int 0),("at",.int i),("groups",.ref g),("held",.non),("choices",.ref c)]):=by
    rw[Z2,Zm (by decide +kernel),Zm (by decide +kernel),Zm (by decide +kernel),Zm (by decide +kernel),Zm (by decide +kernel),Zm (by decide +kernel),U3]
   generalize Zq HA m (.ins C dx (Yg "choices" (.ref c) [("rows",.ref ra),("text",.str t),("row",.int 0),("at",.int i),("groups",.ref g),("held",.non)]))=HB at *
   refine(Z9 rfl ⟨m,C,dx,Z9 rfl ⟨eB,MT.cl,MT.a8,by simp,?_⟩⟩)
   have gC:Gro [m] HB (Zq HB m (.ins C dx (Yg "made" (.int 0) [("rows",.ref ra),("text",.str t),("row",.int 0),("at",.int i),("groups",.ref g),("held",.non),("choices",.ref c)]))):=Gro.obj eB
   have eC:(Zq HB m (.ins C dx (Yg "made" (.int 0) [("rows",.ref ra),("text",.str t),("row",.int 0),("at",.int i),("groups",.ref g),("held",.non),("choices",.ref c)]))) m=some (.ins C dx [("rows",.ref ra),("text",.str t),("row",.int 0),("at",.int i),("groups",.ref g),("held",.non),("choices",.ref c),("made",.int 0)]):=by
    rw[Z2,Zm (by decide +kernel),Zm (by decide +kernel),Zm (by decide +kernel),Zm (by decide +kernel),Zm (by decide +kernel),Zm (by decide +kernel),Zm (by decide +kernel),U3]
   generalize Zq HB m (.ins C dx (Yg "made" (.int 0) [("rows",.ref ra),("text",.str t),("row",.int 0),("at",.int i),("groups",.ref g),("held",.non),("choices",.ref c)]))=HC at *
   refine(Z9 rfl ⟨m,C,dx,Z9 rfl ⟨eC,MT.cl,MT.a9,by simp,?_⟩⟩)
   have gD:Gro [m] HC (Zq HC m (.ins C dx (Yg "found" (.bl false) [("rows",.ref ra),("text",.str t),("row",.int 0),("at",.int i),("groups",.ref g),("held",.non),("choices",.ref c),("made",.int 0)]))):=Gro.obj eC
   have eD:(Zq HC m (.ins C dx (Yg "found" (.bl false) [("rows",.ref ra),("text",.str t),("row",.int 0),("at",.int i),("groups",.ref g),("held",.non),("choices",.ref c),("made",.int 0)]))) m=some (.ins C dx [("rows",.ref ra),("text",.str t),("row",.int 0),("at",.int i),("groups",.ref g),("held",.non),("choices",.ref c),("made",.int 0),("found",.bl false)]):=by
    rw[Z2,Zm (by decide +kernel),Zm (by decide +kernel),Zm (by decide +kernel),Zm (by decide +kernel),Zm (by decide +kernel),Zm (by decide +kernel),Zm (by decide +kernel),Zm (by decide +kernel),U3]
   generalize Zq HC m (.ins C dx (Yg "found" (.bl false) [("rows",.ref ra),("text",.str t),("row",.int 0),("at",.int i),("groups",.ref g),("held",.non),("choices",.ref c),("made",.int 0)]))=HD at *
   refine(Z9 rfl ⟨m,C,dx,Z9 rfl ⟨eD,MT.cl,MT.a10,by simp,?_⟩⟩)
   have gE:Gro [m] HD (Zq HD m (.ins C dx (Yg "ended" (.bl false) [("rows",.ref ra),("text",.str t),("row",.int 0),("at",.int i),("groups",.ref g),("held",.non),("choices",.ref c),("made",.int 0),("found",.bl false)]))):=Gro.obj eD
   have eE:(Zq HD m (.ins C dx (Yg "ended" (.bl false) [("rows",.ref ra),("text",.str t),("row",.int 0),("at",.int i),("groups",.ref g),("held",.non),("choices",.ref c),("made",.int 0),("found",.bl false)]))) m=some (.ins C dx (Zlp ra t i (.ref g) c).s.fs):=by
    rw[Z2,Zm (by decide +kernel),Zm (by decide +kernel),Zm (by decide +kernel),Zm (by decide +kernel),Zm (by decide +kernel),Zm (by decide +kernel),Zm (by decide +kernel),Zm (by decide +kernel),Zm (by decide +kernel),U3]
    rfl
   have gAE:=((gB.trans gC).trans gD).trans gE
   have fE:=gAE.keep c _ fA (by simpa using Ne.symm mc)
   have gg:=(((g17.trans g8).trans g9).trans gA).trans gAE
   have hnc:H c=none:=by
    cases hh:H c with
    |none=>rfl
    |some o =>
     exfalso
     have:=((g17.trans g8).trans g9).keep c o hh (by simpa using Ne.symm mc)
     rw[hc]at this
     cases this
   exact q c g _ hnc ⟨⟨dx,eE⟩,[],fE,.nil⟩ (gAE.tups _ _ (gA.tups _ _ (g9.tups _ _ (g8.tups _ _ hg)))) gg
  refine⟨t1,Z1n rs,[.non],rfl,rfl,f6,hc0,by simp;omega,hc1,fun hk1=>?_,fun _ _ p hp'=>?_,by simp⟩
  ·exact fin t1 H6 (by rw[f6,hk1];rfl) e6 g16
  ·refine fin p _ ?_ (by rw[Zi (Z7 e6 hp')];exact e6) (g16.tup hp')
   rw[Z2]
   congr 2
   induction (Z1n rs).toNat with
   |zero=>rfl
   |succ n ih=>rw[List.replicate_succ,List.flatten_cons,ih];rfl
end
inductive Ez where
 |pat (h:Hd) | try_ (z:Int) | go (z:Int) | found
def Ez.rw:Ez->Rw
 |.pat h=>.pat h | .try_ z=>.tup [.str "try",.int z] | .go z=>.tup [.str "go",.int z] | .found=>.tup [.str "found"]
def MM.push(z:Int)(M:MM):MM:=⟨M.s,M.cs++[(z,M.s.place,M.s.groups,M.s.held)]⟩
def MM.goTo(z:Int)(M:MM):MM:=⟨{ M.s with row:=z },M.cs⟩
def Zmo:Hd->MM->MM
 |.beg=>MM.doBegin
 |.fin=>MM.doEnd
 |h=>MM.doSign h
def Ez.act:Ez->MM->MM
 |.pat h=>Zmo h
 |.try_ z=>MM.push z
 |.go z=>MM.goTo z
 |.found=>MM.doFound
theorem Tq{α β:Type}{F:α->β->Prop}:∀ {xs:List α} {ys:List β} {i:Nat} {y:β},Paired F xs ys->ys[i]? = some y->∃x,xs[i]? = some x/\F x y
 |_,_,_,_,.nil,h=>by simp at h
 |_,_,0,_,.cons r _,h=>by
  simp only[List.getElem?_cons_zero,Option.some.injEq]at h
  subst h
  exact(Z9 rfl r)
 |_,_,i+1,_,.cons _ t,h=>by
  rw[List.getElem?_cons_succ]at h
  obtain⟨x,e,q⟩:=Tq t h
  exact⟨x,by rw[List.getElem?_cons_succ];exact e,q⟩
section
variable{P:Program}{w:World}{K:W.Frag}{mg:Str->Option Value}{base:Heap}{f C:Addr}{fd:FuncData}{h:Heap}
abbrev Zl7(e:Ez):Hp->Addr->Prop:=fun H a=>RowAt H (.ref a) e.rw
abbrev Z0b:Stmt:=top 23
theorem Zaq:FnScope ["machine","row"] ["machine","row"] (Za Z0b):=V7
theorem Zb2{z:Int}(MT:Txt K mg C)(F:Fun K "do_try" "do_try" Z0b f fd):FnOk P w K mg base W3 1 f fd ["machine","row"] (Z3b C Zbm (Zl7 (.try_ z)) (MM.push z)):=by
 refine F.ok Zaq (fun vs H Q E h=>?_) (fun cdv A outer s H vs Q E hr h=>?_)
 ·obtain⟨m,a,M,rfl,_⟩:=h
  rfl
 obtain⟨m,a,M,rfl,hM,hz,_,⟨a',e,ha⟩,q⟩:=h
 cases e
 refine V6 ?_
 intro Xz
 refine⟨_,(Z5 (Zn (Yw PySem.F.plainAttrs_list PySem.F.slot_list_append PySem.F.type_list_append Zz (Zt (pv 0) rfl) (Z0 (Zr (Z0 (Zd Zc (pv 1) Z4 (fun _ _=>rfl)) (Z0 (Zt (pv 0) rfl) (Z0 (Zt (pv 0) rfl) (Z0 (Zt (pv 0) rfl) Z3))))) Z3)))),?_⟩
 have hne:=hM.ne
 obtain⟨⟨dx,e1⟩,vs,hv,hp⟩:=id hM
 have hl:=Paired.length hp
 refine(Z9 rfl ⟨m,C,dx,_,_,rfl,e1,MT.cl,MT.a7,X0 _,.inl ⟨rfl,_,SqL.of hv⟩,Ys ha rfl ⟨_,rfl,m,C,dx,_,_,rfl,e1,MT.cl,MT.a4,Vd _,_,rfl,m,C,dx,_,_,rfl,e1,MT.cl,MT.a5,Wa _,_,rfl,m,C,dx,_,_,rfl,e1,MT.cl,MT.a6,Tc _,sz,fun t ht=>?_⟩⟩)
 refine⟨M.s.choices,vs,Z9 rfl ⟨rfl,W6 hv ht,Z5z (by omega),?_⟩⟩
 have g1:Gro [M.s.choices] H _:=Vf (zs:=vs++[V.ref t]) (o:=.tup [.int z,.int M.s.place,M.s.groups,M.s.held]) hv ht
 refine q _ ⟨⟨dx,?_⟩,vs++[.ref t],Z2,?_⟩ (g1.mono (by simp))
 ·rw[Zi hne,Zi (Z7 e1 ht)]
  exact e1
 ·exact(Paired.mapP hp fun _ _ q=>q.mono g1.tups).snoc ⟨t,rfl,Ve hv ht⟩
abbrev Z20:Stmt:=top 24
theorem Zbx:FnScope ["machine","row"] ["machine","row"] (Za Z20):=V7
theorem Zcg{z:Int}(MT:Txt K mg C)(F:Fun K "do_go" "do_go" Z20 f fd):FnOk P w K mg base W3 1 f fd ["machine","row"] (Z3b C Zbm (Zl7 (.go z)) (MM.goTo z)):=by
 refine F.ok Zbx (fun vs H Q E h=>?_) (fun cdv A outer s H vs Q E hr h=>?_)
 ·obtain⟨m,a,M,rfl,_⟩:=h
  rfl
 obtain⟨m,a,M,rfl,hM,hz,_,⟨a',e,ha⟩,q⟩:=h
 cases e
 refine V6 ?_
 intro Xz
 refine⟨_,(Z5 (Yk (pv 0) (Zd Zc (pv 1) Z4 (fun _ _=>rfl)) rfl)),?_⟩
 obtain⟨⟨dx,e1⟩,_⟩:=id hM
 refine(Ys ha rfl ⟨_,rfl,m,C,dx,_,rfl,e1,MT.cl,MT.a3,X4 _,?_⟩)
 rw[Z1g]
 exact q _ (hM.put (s':={ M.s with row:=z }) e1 rfl) (Gro.ins (by simp) e1 _)
def Zn5(es:List Ez)(M:MM):MM:=(es.getD M.s.row.toNat .found).act M.next
def its(es:List Ez):Nat->MM->MM
 |0,M=>M
 |k+1,M=>Zn5 es (its es k M)
theorem Z3z{H:Hp}{v:V}{r:Rw}(h:RowAt H v r):∃a,v=.ref a:=by
 cases r with
 |pat hd=>obtain⟨a,kv,e,_⟩:=h;exact⟨a,e⟩
 |tup xs=>obtain⟨a,e,_⟩:=h;exact⟨a,e⟩
def MDef(K:W.Frag)(C:Addr)(m qual:Str)(st:Stmt)(ps:List Str):Prop:=∃f fd,Fun K m qual st f fd/\Meth K C m f/\Binds K fd ps []
theorem Xu{C f:Addr}{m qual:Str}{st:Stmt}{ps:List Str}{oc:Value}{od an:Option Addr}{osl:Array (Option Value)}{kV doc pm cdv ct:Value}(a:W.findIn K (.ref C) m=some (some (.ref f)))(i:W.isFn K (.ref f)=true)
  (l:K.lookup f=some ⟨oc,od,.func (W.fnOf m qual (W8 st) (Xj st) (Za st) .none kV doc pm an cdv ct),osl⟩) (c:W.codeIn K cdv qual=true) (k:W.keepIn K (.ref f)=true)
  (hb:∀(kV doc pm:Value) (an:Option Addr) (cdv ct:Value) (us:List Value),us.length=ps.length->bindArgs (W.fnOf m qual (W8 st) (Xj st) (Za st) .none kV doc pm an cdv ct) ⟨us,[]⟩=pure (ps.zip us)):MDef K C m qual st ps :=
 ⟨f,_,Z02 (st:=st) l c k,⟨a,i,k⟩,(Z02 (st:=st) l c k).binds hb⟩
theorem Zh5{C:Addr}(pg:W.plainGet K C Str.empty=true)(hd:W.hasDictIn K C=true)(po:W.plainOver K C=true)(sa:W.findIn K (.ref C) "__setattr__" = some (some (.builtin "object.__setattr__")))
  (a1:W.findIn K (.ref C) "rows" = some none) (a2:W.findIn K (.ref C) "text" = some none) (a3:W.findIn K (.ref C) "row" = some none) (a4:W.findIn K (.ref C) "at" = some none) (a5:W.findIn K (.ref C) "groups" = some none) (a6:W.findIn K (.ref C) "held" = some none)
  (a7:W.findIn K (.ref C) "choices" = some none) (a8:W.findIn K (.ref C) "made" = some none) (a9:W.findIn K (.ref C) "found" = some none) (a10:W.findIn K (.ref C) "ended" = some none):Txt K mg C:=⟨⟨pg,hd,po,sa⟩,a1,a2,a3,a4,a5,a6,a7,a8,a9,a10⟩
structure MachDefs(K:W.Frag)(mg:Str->Option Value)(C:Addr):Prop where
 mg_:mg "Machine" = some (.ref C)
 tx:Txt K mg C
 mks:W.makesIn K C=true
 kc:W.keepIn K (.ref C)=true
 init:MDef K C "__init__" "Machine.__init__" Yt ["self","rows","text","at"]
 way:MDef K C "way" "Machine.way" Wz ["self","most"]
 moves:MDef K C "moves" "Machine.moves" W0 ["self"]
 move:MDef K C "move" "Machine.move" We ["self"]
 enter:MDef K C "enter" "Machine.enter" W2 ["self","state"]
 go_back:MDef K C "go_back" "Machine.go_back" Xh ["self"]
def Dn(K:W.Frag)(ds:List (Ti×V))(wd x:Str)(st:Stmt)(ps:List Str):Prop:=∃f fd,Z3p ds (Sum.inr wd)=some (.ref f)/\Fun K x x st f fd/\Binds K fd ps []
theorem Xw{ds:List (Ti×V)}{wd x:Str}{st:Stmt}{ps:List Str}{f:Addr}{oc:Value}{od an:Option Addr}{osl:Array (Option Value)}{kV doc pm cdv ct:Value}(v:Z3p ds (Sum.inr wd)=some (.ref f))
  (l:K.lookup f=some ⟨oc,od,.func (W.fnOf x x (W8 st) (Xj st) (Za st) .none kV doc pm an cdv ct),osl⟩) (c:W.codeIn K cdv x=true) (k:W.keepIn K (.ref f)=true)
  (hb:∀(kV doc pm:Value) (an:Option Addr) (cdv ct:Value) (us:List Value),us.length=ps.length->bindArgs (W.fnOf x x (W8 st) (Xj st) (Za st) .none kV doc pm an cdv ct) ⟨us,[]⟩=pure (ps.zip us)):Dn K ds wd x st ps :=
 ⟨f,_,v,Z02 (st:=st) l c k,(Z02 (st:=st) l c k).binds hb⟩
theorem Dn.tells{P:Program}{w:World}{base:Heap}{k:Nat}{ds:List (Ti×V)}{wd x:Str}{st:Stmt}{ps:List Str}{sp:Sp}(D:Dn K ds wd x st ps)(h:∀f fd,Fun K x x st f fd->FnOk P w K mg base W3 k f fd ps sp):Tells P w K mg base k ds wd sp:=by
 obtain⟨f,fd,v,F,b⟩:=D
 exact⟨f,fd,ps,v,h f fd F,F.kp,b⟩
theorem Yb{w:World}{h:Int}{x:Str}{t:Tok}{a:Addr}(e:h=PyData.keyHash w.params x):Zet w ⟨h,.str x t,.ref a⟩ (.inr x,.ref a):=⟨Z10 x t,e,rfl⟩
theorem MDef.own{m qual:Str}{st:Stmt}{ps:List Str}{k:Nat}{sp:Sp}(D:MDef K C m qual st ps)(h:∀f fd,Fun K m qual st f fd->FnOk P w K mg base W3 k f fd ps sp):OwnM P w K mg base k C m ps sp:=by
 obtain⟨f,fd,F,M,b⟩:=D
 exact⟨f,fd,h f fd F,M,b⟩
theorem Zc6(T:Blt mg)(MD:MachDefs K mg C):OwnC P w K mg base 1 C "Machine" ["self","rows","text","at"] (Z5o C):=by
 obtain⟨f,fd,F,M,b⟩:=MD.init
 exact⟨f,fd,Zfr T MD.tx F,⟨MD.mks,M.at_,M.fn,MD.kc⟩,MD.mg_,b⟩
theorem Zay(MD:MachDefs K mg C):OwnM P w K mg base 1 C "moves" ["self"] (Z1w C):=MD.moves.own fun _ _ F=>Zcc MD.tx F
inductive spHoldMI(C:Addr)(vs:List V)(H:Hp)(Q:VK):Prop
 |mk (m:Addr) (k:Int) (M:MM) (_:vs=[.ref m,.int k]) (_:MAt C H m M) (_:∀(H':Hp) (p:Addr),MAt C H' m ⟨{ M.s with held:=.ref p },M.cs⟩->H' p=some (.tup [.int k,.int M.s.place,M.s.held])->Gro [m] H H'->Q .non H')
def Z0h(C:Addr):Sp:=fun vs H Q _=>spHoldMI C vs H Q
inductive spLetMI(C:Addr)(vs:List V)(H:Hp)(Q:VK):Prop
 |mk (m p:Addr) (M:MM) (a b v:V) (_:vs=[.ref m]) (_:MAt C H m M) (_:M.s.held=.ref p) (_:H p=some (.tup [a,b,v])) (_:∀H':Hp,MAt C H' m ⟨{ M.s with held:=v },M.cs⟩->Gro [m] H H'->Q (.ref p) H')
def Jy(C:Addr):Sp:=fun vs H Q _=>spLetMI C vs H Q
inductive spDropMI(C:Addr)(vs:List V)(H:Hp)(Q:VK):Prop
 |mk (m:Addr) (k:Nat) (M:MM) (_:vs=[.ref m,.int k]) (_:MAt C H m M) (_:M.cs.length<=1000000) (_:∀H':Hp,MAt C H' m ⟨M.s,M.cs.take k⟩->Gro [M.s.choices] H H'->Q .non H')
def Z0i(C:Addr):Sp:=fun vs H Q _=>spDropMI C vs H Q
inductive spEntMI(C:Addr)(vs:List V)(H:Hp)(Q:VK):Prop
 |mk (m g:Addr) (k:Int) (M:MM) (es:List V) (e:V) (_:vs=[.ref m,.int k]) (_:MAt C H m M) (_:M.s.groups=.ref g) (_:H g=some (.tup es)) (_:k<=es.length) (_:es.length<=1000) (_:Z3o es (k-1)=some e) (_:Q e H)
def Z5p(C:Addr):Sp:=fun vs H Q _=>spEntMI C vs H Q
inductive spWithI(vs:List V)(H:Hp)(Q:VK):Prop
 |mk (g:Addr) (k:Int) (x y:V) (es:List V) (_:vs=[.ref g,.int k,x,y]) (_:H g=some (.tup es)) (_:1<=k) (_:k<=es.length) (_:es.length<=900) (_:∀(r p:Addr) (H':Hp),H' p=some (.tup [x,y])->H' r=some (.tup (es.take (k-1).toNat++[.ref p]++es.drop k.toNat))->Gro [] H H'->Q (.ref r) H')
def Z8l:Sp:=fun vs H Q _=>spWithI vs H Q
abbrev Wf:Stmt:=Xv (top 39) 7
theorem Z1o:FnScope ["self","number"] ["self","number"] (Za Wf):=V7
theorem Zfs(MT:Txt K mg C)(F:Fun K "hold" "Machine.hold" Wf f fd):FnOk P w K mg base W3 1 f fd ["self","number"] (Z0h C):=by
 refine F.ok Z1o (fun vs H Q E h=>?_) (fun cdv A outer s H vs Q E hr h=>?_)
 ·obtain⟨m,k,M,rfl,_⟩:=h
  rfl
 obtain⟨m,k,M,rfl,hM,q⟩:=h
 refine V6 ?_
 intro Xz
 refine⟨_,(Z5 (Yk (pv 0) (Zr (Z0 (pv 1) (Z0 (Zt (pv 0) rfl) (Z0 (Zt (pv 0) rfl) Z3)))) rfl)),?_⟩
 obtain⟨⟨dx,h1⟩,_⟩:=id hM
 refine(Z9 rfl (Z9 rfl ⟨m,C,dx,_,_,rfl,h1,MT.cl,MT.a4,Vd _,Z9 rfl ⟨m,C,dx,_,_,rfl,h1,MT.cl,MT.a6,Tc _,sz,fun p hp=>?_⟩⟩))
 have hM1:=hM.new (o:=.tup [.int k,.int M.s.place,M.s.held]) hp
 have e1:(Zq H p (.tup [.int k,.int M.s.place,M.s.held])) m=some (.ins C dx M.s.fs):=by rw[Zi (Z7 h1 hp)];exact h1
 have ep:(Zq H p (.tup [.int k,.int M.s.place,M.s.held])) p=some (.tup [.int k,.int M.s.place,M.s.held]):=Z2
 have g1:=Gro.new (S:=[m]) hp (.tup [.int k,.int M.s.place,M.s.held])
 generalize Zq H p (.tup [.int k,.int M.s.place,M.s.held])=H1 at *
 refine(Z9 rfl ⟨m,C,dx,Z9 rfl ⟨e1,MT.cl,MT.a6,X4 _,?_⟩⟩)
 rw[Z0k]
 have g2:Gro [m] H1 (Zq H1 m (.ins C dx ({ M.s with held:=.ref p }:MS).fs)):=Gro.ins (by simp) e1 _
 exact q _ p (hM1.put (s':={ M.s with held:=.ref p }) e1 rfl) (g2.tups _ _ ep) (g1.trans g2)
abbrev Xo:Stmt:=Xv (top 39) 8
theorem sc_Machine_let_go:FnScope ["self","pair"] ["self"] (Za Xo):=V7
theorem Zb1(MT:Txt K mg C)(F:Fun K "let_go" "Machine.let_go" Xo f fd):FnOk P w K mg base W3 1 f fd ["self"] (Jy C):=by
 refine F.ok sc_Machine_let_go (fun vs H Q E h=>?_) (fun cdv A outer s H vs Q E hr h=>?_)
 ·obtain⟨m,p,M,a,b,v,rfl,_⟩:=h
  rfl
 obtain⟨m,p,M,a,b,v,rfl,hM,hh,hp,q⟩:=h
 refine V6 ?_
 intro Xz
 refine⟨_,(Z1 (pS 1 sc_Machine_let_go.nd (Zt (pv 0) rfl))
  (Z1 (Yk (pv 0) (Zd Zc (pv 1) Z4 (fun _ _=>rfl)) rfl)
  (Z5 (Zl (pv 1))))),?_⟩
 refine Z36 ?_
 intro Ez Az1 Az2
 obtain⟨⟨dx,h1⟩,_⟩:=id hM
 refine(Z9 rfl ⟨m,C,dx,_,_,rfl,h1,MT.cl,MT.a6,(by rw[Tc,hh]),?_⟩)
 refine(Ys hp rfl ⟨_,rfl,m,C,dx,_,rfl,h1,MT.cl,MT.a6,X4 _,?_⟩)
 rw[Z0k]
 exact(Z9 rfl (q _ (hM.put (s':={ M.s with held:=v }) h1 rfl) (Gro.ins (by simp) h1 _)))
abbrev Yr:Stmt:=Xv (top 39) 6
theorem Uf:FnScope ["self","size"] ["self","size"] (Za Yr):=V7
theorem Zfy(T:Blt mg)(MT:Txt K mg C)(F:Fun K "drop_choices" "Machine.drop_choices" Yr f fd):FnOk P w K mg base W3 1 f fd ["self","size"] (Z0i C):=by
 refine F.ok Uf (fun vs H Q E h=>?_) (fun cdv A outer s H vs Q E hr h=>?_)
 ·obtain⟨m,k,M,rfl,_⟩:=h
  rfl
 obtain⟨m,k,M,rfl,hM,hz,q⟩:=h
 refine V6 ?_
 intro Xz
 refine⟨_,(Z5 (Ur PassesOwn.never (Zb Z3d (Zy Y8 rfl T.b_len PyProof.Rows.Boot.«len» (Z0 (Zt (pv 0) rfl) Z3)) (pv 1) (Ze _)) (Z5 (Zn (Zdn PySem.F.plainAttrs_list PySem.F.slot_list_pop PySem.F.type_list_pop Zdt (Zt (pv 0) rfl)))))),?_⟩
 refine Zi5 ?_
 intro Ez Az1
 refine Zbq (fun σ H'=>∃j,σ=[some (.ref m),some (.int k)]/\MAt C H' m ⟨M.s,M.cs.take j⟩/\(k<=j∨j=M.cs.length)/\j<=M.cs.length/\Gro [M.s.choices] H H') (fun σ H'=>match H' M.s.choices with | some (.lst vs)=>vs.length | _=>0) ⟨M.cs.length,rfl,by rw[List.take_length];exact hM,.inr rfl,Nat.le_refl _,Gro.refl⟩ ?_ ?_
 ·rintro σ H1 ⟨j,rfl,hM1,hj,hjl,g1⟩
  have hne:=hM1.ne
  obtain⟨⟨dx,h1⟩,vs,hv,hp⟩:=id hM1
  have hl:=Paired.length hp
  have hv':H1 M.s.choices=some (.lst vs):=hv
  have hvl:vs.length=j:=by rw[hl];show(M.cs.take j).length=j;rw[List.length_take];omega
  refine(Z9 rfl ⟨m,C,dx,_,_,rfl,h1,MT.cl,MT.a7,X0 _,M.s.choices,vs,rfl,.inl (SqL.of hv'),Z9 rfl (Xy rfl rfl (Z9 rfl (Ym (fun z=>?_) (fun z=>?_))))⟩)
  ·have hkj:k<j:=by have:=of_decide_eq_true z;omega
   have hx:vs[vs.length-1]? = some (vs[vs.length-1]'(by omega)):=List.getElem?_eq_getElem _
   refine(Z9 rfl ⟨m,C,dx,_,_,rfl,h1,MT.cl,MT.a7,X0 _,.inl ⟨rfl,_,SqL.of hv'⟩,M.s.choices,vs,Z9 rfl ⟨rfl,hv',hx,?_⟩⟩)
   have g2:Gro [M.s.choices] H1 (Zq H1 M.s.choices (.lst vs.dropLast)):=Gro.set (by simp) hv' _
   refine⟨⟨j-1,rfl,⟨⟨dx,by rw[Zi hne];exact h1⟩,vs.dropLast,Z2,?_⟩,.inl (by omega),by omega,g1.trans g2⟩,?_⟩
   ·have:=Paired.mapP (Z16 hp) fun _ _ q=>q.mono g2.tups
    have e:(M.cs.take j).dropLast=M.cs.take (j-1):=by rw[List.dropLast_eq_take,List.take_take,List.length_take];congr 1;omega
    show Paired _ _ (M.cs.take (j-1))
    rw[← e]
    exact this
   ·show(match(Zq H1 M.s.choices (.lst vs.dropLast)) M.s.choices with | some (.lst vs)=>vs.length | _=>0)<(match H1 M.s.choices with | some (.lst vs)=>vs.length | _=>0)
    rw[Z2,hv']
    show vs.dropLast.length<vs.length
    rw[List.length_dropLast]
    omega
  ·have hkj:j<=k:=by
    have:¬(k:Int)<vs.length:=fun z'=>z (decide_eq_true z')
    omega
   refine q H1 ?_ g1
   have:M.cs.take k=M.cs.take j:=by
    rcases hj with h | h
    ·rw[show k=j by omega]
    ·rw[List.take_of_length_le (by omega),List.take_of_length_le (by omega)]
   rw[this]
   exact hM1
 ·intro σ H1 Q1 Q2 hQ h
  obtain⟨x,hx,a,b,d,e,f',r1,r2,r3,r4,r5,p,ys,r6,r7,x2,r8,i,j,r9,r10,b2,r11,r12⟩:=h
  exact⟨x,hx,a,b,d,e,f',r1,r2,r3,r4,r5,p,ys,r6,r7,x2,r8,i,j,r9,r10,b2,r11,hQ _ _ r12⟩
abbrev W1:Stmt:=Xv (top 39) 9
theorem Z0q:FnScope ["self","number"] ["self","number"] (Za W1):=V7
theorem Zce(T:Blt mg)(MT:Txt K mg C)(F:Fun K "entry" "Machine.entry" W1 f fd):FnOk P w K mg base W3 1 f fd ["self","number"] (Z5p C):=by
 refine F.ok Z0q (fun vs H Q E h=>?_) (fun cdv A outer s H vs Q E hr h=>?_)
 ·obtain⟨m,g,k,M,es,e,rfl,_⟩:=h
  rfl
 obtain⟨m,g,k,M,es,e,rfl,hM,hg,hge,hk,hl,hat,q⟩:=h
 refine V6 ?_
 intro Xz
 refine⟨_,(Z5 (Zl (W5 (Zb Zai (pv 1) (Zy Y8 rfl T.b_len PyProof.Rows.Boot.«len» (Z0 (Zt (pv 0) rfl) Z3)) (Ze _)) (Zd Zc (Zt (pv 0) rfl) (Zx X3 (pv 1) Z4) (fun _ _=>rfl)) Uh))),?_⟩
 obtain⟨⟨dx,h1⟩,_⟩:=id hM
 have hfs:M.s.fs.lookup ("groups":Str)=some (.ref g):=by rw[Wa,hg]
 refine(Z9 rfl (Z9 rfl ⟨m,C,dx,_,_,rfl,h1,MT.cl,MT.a5,hfs,g,es,rfl,.inr (SqT.of hge),Xy rfl rfl (Z9 rfl (Zp (decide_eq_true hk) ?_))⟩))
 exact⟨_,rfl,m,C,dx,_,_,rfl,h1,MT.cl,MT.a5,hfs,_,rfl,_,_,rfl,rfl,g,es,_,_,rfl,rfl,SqT.of hge,hat,q⟩
abbrev Xd:Stmt:=top 13
theorem Z3h:FnScope ["groups","number","begin","end"] ["groups","number","begin","end"] (Za Xd):=V7
theorem Zfj(F:Fun K "with_entry" "with_entry" Xd f fd):FnOk P w K mg base W3 1 f fd ["groups","number","begin","end"] Z8l:=by
 refine F.ok Z3h (fun vs H Q E h=>?_) (fun cdv A outer s H vs Q E hr h=>?_)
 ·obtain⟨g,k,x,y,es,rfl,_⟩:=h
  rfl
 obtain⟨g,k,x,y,es,rfl,hg,hk1,hk2,hl,q⟩:=h
 obtain⟨j,rfl⟩:∃j:Nat,k=((j+1:Nat):Int):=⟨(k-1).toNat,by omega⟩
 refine V6 ?_
 intro Xz
 refine⟨_,(Z5 (Zl (Zx Z24 (Zx Z24 (Y9 Jz (pv 0) Xs (Y2 (Zx X3 (pv 1) Z4))) (Zr (Z0 (Zr (Z0 (pv 2) (Z0 (pv 3) Z3))) Z3))) (Y9 Jz (pv 0) (Y2 (pv 1)) Xs)))),?_⟩
 refine(Z9 rfl (Z9 rfl (Xy rfl rfl (Z9 rfl ⟨g,es,rfl,SqT.of hg,?nw1,fun p1 hp1=>?_⟩))))
 case nw1 =>
  rw[show((j+1:Nat):Int)-1=(j:Nat) by omega,HT.sIx_nat]
  omega
 rw[show((j+1:Nat):Int)-1=(j:Nat) by omega,Ze7 (by omega)]
 have g1:=Gro.new (S:=[]) hp1 (.tup (es.take j))
 have e1:(Zq H p1 (.tup (es.take j))) p1=some (.tup (es.take j)):=Z2
 generalize Zq H p1 (.tup (es.take j))=H1 at *
 refine(Z9 rfl (Z9 rfl ⟨sz,fun p2 hp2=>⟨sz,fun p3 hp3=>?_⟩⟩))
 have g2:Gro [] H1 (Zq (Zq H1 p2 (.tup [x,y])) p3 (.tup [.ref p2])):=(Gro.new hp2 _).tup hp3
 have e2:(Zq (Zq H1 p2 (.tup [x,y])) p3 (.tup [.ref p2])) p3=some (.tup [.ref p2]):=Z2
 have e3:(Zq (Zq H1 p2 (.tup [x,y])) p3 (.tup [.ref p2])) p2=some (.tup [x,y]):=by rw[Zi (Z7 Z2 hp3)];exact Z2
 generalize Zq (Zq H1 p2 (.tup [x,y])) p3 (.tup [.ref p2])=H2 at *
 refine Z29 (g2.tups _ _ e1) e2 (by rw[List.length_take,List.length_singleton];omega) fun r4 H4 hr4 g4=>?_
 have t4:Tm H H4:=fun b xs h=>g4.tups _ _ (g2.tups _ _ (g1.tups _ _ h))
 refine(Z9 rfl (Z9 rfl (Z9 rfl ⟨g,es,rfl,SqT.of (t4 _ _ hg),?nw2,fun p5 hp5=>?_⟩)))
 case nw2 =>
  rw[HT.sIx_nat]
  omega
 rw[Z78 (by omega)]
 have g5:=Gro.new (S:=[]) hp5 (.tup (es.drop (j+1)))
 refine Z29 (g5.tups _ _ hr4) Z2 (by simp only[List.length_append,List.length_take,List.length_drop,List.length_singleton];omega) fun r6 H6 hr6 g6=>?_
 refine q r6 p2 H6 (g6.tups _ _ (g5.tups _ _ (g4.tups _ _ e3))) ?_ ((((g1.trans g2).trans g4).trans g5).trans g6)
 rw[show(((j+1:Nat):Int)-1).toNat=j by omega,show((j+1:Nat):Int).toNat=j+1 from rfl]
 exact hr6
end
theorem Ab.cslen{H:Hp}{ra:Addr}{t:Str}{ch:Addr}{M:MM}{c:Cg}(h:Ab H ra t ch M c):M.cs.length=c.cs.length:=Paired.length h.cs
theorem MAt.push{C:Addr}{H:Hp}{m tp:Addr}{M:MM}{vs:List V}{q:Zh4}(h:MAt C H m M)(hv:H M.s.choices=some (.lst vs))(hp:Paired (ChAt H) vs M.cs)(ht:H tp=some (.tup [.int q.1,.int q.2.1,q.2.2.1,q.2.2.2])) :
  MAt C (Zq H M.s.choices (.lst (vs++[.ref tp]))) m ⟨M.s,M.cs++[q]⟩/\Gro [M.s.choices] H (Zq H M.s.choices (.lst (vs++[.ref tp]))):=by
 have hne:=h.ne
 obtain⟨⟨dx,e1⟩,_⟩:=h
 have g1:Gro [M.s.choices] H (Zq H M.s.choices (.lst (vs++[.ref tp]))):=Gro.set (by simp) hv _
 exact⟨⟨⟨dx,by rw[Zi hne];exact e1⟩,vs++[.ref tp],Z2,(Paired.mapP hp fun _ _ q=>q.mono g1.tups).snoc ⟨tp,rfl,g1.tups _ _ ht⟩⟩,g1⟩
section
variable{P:Program}{w:World}{K:W.Frag}{mg:Str->Option Value}{base:Heap}{f C:Addr}{fd:FuncData}
abbrev T3:Stmt:=top 22
theorem sc_do_again:FnScope ["machine","row","entry","end"] ["machine","row"] (Za T3):=V7
theorem Z6a{k:Int}(MT:Txt K mg C)(O_Machine_go_back:OwnM P w K mg base 2 C "go_back" ["self"] (Wn C))(O_Machine_entry:OwnM P w K mg base 1 C "entry" ["self","number"] (Z5p C))(F:Fun K "do_again" "do_again" T3 f fd):FnOk P w K mg base W3 3 f fd ["machine","row"] (Jm C (.pat (.again k))):=by
 refine F.ok sc_do_again (fun vs H Q E h=>?_) (fun cdv A outer s H vs Q E hr h=>?_)
 ·obtain⟨m,a,ra,ch,t,n,M,c,rfl,_⟩:=h
  rfl
 obtain⟨m,a,ra,ch,t,n,M,c,rfl,hM,hA,hrow,ht,hci,hgo,hn,Xi,hcs,q⟩:=h
 refine V6 ?_
 intro Xz
 refine⟨_,(Z1 (pS 2 sc_do_again.nd (X6 (O_Machine_entry.mono (by omega)) MT.cl hr (pv 0) (Z0 (Zd Zc (pv 1) Z4 (fun _ _=>rfl)) Z3)))
  (Z1 (Zs (Ug (Th (pv 2))) (Z1 (Zn (Yo (O_Machine_go_back.mono (by omega)) MT.cl hr (pv 0)))
  (Z5 Z9b)) Zk)
  (Z1 (pS 3 sc_do_again.nd (Zx X3 (Zx Yn (Zt (pv 0) rfl) (Zd Zc (pv 2) Z4 (fun _ _=>rfl))) (Zd Zc (pv 2) Z4 (fun _ _=>rfl))))
  (Z5 (Zs (Zb Zv (Y9 V8 (Zt (pv 0) rfl) (Y2 (Zt (pv 0) rfl)) (Y2 (pv 3))) (Y9 V8 (Zt (pv 0) rfl) (Y2 (Zd Zc (pv 2) Z4 (fun _ _=>rfl))) (Y2 (Zd Zc (pv 2) Z4 (fun _ _=>rfl)))) (Ze _)) (Z5 (Yk (pv 0) (pv 3) rfl)) (Z5 (Zn (Yo (O_Machine_go_back.mono (by omega)) MT.cl hr (pv 0))))))))),?_⟩
 refine Zhq ?_
 intro Ez Az1 Az2 Az3 Az4 Az5 Az6 Az7
 obtain rfl:=hA.chs
 obtain rfl:=hA.text
 obtain⟨⟨dx,e1⟩,_⟩:=id hM
 obtain⟨a',kv,e,⟨hk,_,ha⟩,_⟩:=hrow
 cases e
 obtain⟨hk1,hk2⟩:1<=k/\k<=n:=by
  rcases Xi with h | h
  ·exact h
  ·cases h
 have hcl:=hA.cslen
 have hgl:=hgo.len
 obtain⟨g,es,en,hg,hge,hel,hat,hen⟩:=hA.gs.ent hk1 (by omega)
 refine(Z9 rfl ⟨m,dx,Z9 rfl ⟨e1,Z6y _,Ys ha rfl ⟨m,g,k,M,es,en,rfl,hM,hg,hge,by omega,by omega,hat,?_⟩⟩⟩)
 refine(Z9 rfl (Z9 rfl (?_)))
 cases he:ent c.g k with
 |none =>
  rw[he]at hen
  have hen':en=.non:=hen
  have Yv:(Op.pat (.again k)).act M.s.text c=bk c.cs:=by
   show(match ent c.g k with | none=>bk c.cs | some p=>_)=_
   rw[he]
  refine Zp (decide_eq_true hen') (Z9 rfl ⟨m,dx,Z9 rfl ⟨e1,Yz _,m,M,rfl,hM,by omega,fun H' hM' g'=>?_⟩⟩)
  have bf:=X1 M
  exact q H' _ hM' (by rw[Yv];exact hA.back.mono g'.tups) bf.1 bf.2 g'
 |some p =>
  rw[he]at hen
  obtain⟨pa,rfl,hpa⟩:=hen
  obtain⟨p1,p2⟩:=Z8y hgo he
  refine Zf (by intro z;have z':=of_decide_eq_true z;cases z') ?_
  refine(Z9 rfl ⟨m,C,dx,_,_,rfl,e1,MT.cl,MT.a4,Vd _,Ys hpa rfl ⟨_,_,rfl,rfl,Ys hpa Vw ⟨_,_,rfl,rfl,?_⟩⟩⟩)
  have hend:M.s.place+(p.2:Int)-(p.1:Int)=((c.i+(p.2-p.1):Nat):Int):=by rw[hA.pl];omega
  refine(Z9 rfl ⟨m,C,dx,_,_,rfl,e1,MT.cl,MT.a2,Z26 _,Z9 rfl ⟨m,C,dx,_,_,rfl,e1,MT.cl,MT.a4,Vd _,Z9 rfl (Z9 rfl (Z9 rfl ⟨M.s.text,rfl,Y5 ht,?_⟩))⟩⟩)
  refine(Z9 rfl ⟨m,C,dx,_,_,rfl,e1,MT.cl,MT.a2,Z26 _,Ys hpa Vw ⟨_,rfl,Ys hpa rfl ⟨_,rfl,M.s.text,rfl,Y5 ht,rfl,_,rfl,?_⟩⟩⟩)
  have hs1:Txt.slice M.s.text (some M.s.place) (some (M.s.place+(p.2:Int)-(p.1:Int)))=sub M.s.text c.i (c.i+(p.2-p.1)):=by
   rw[hend,hA.pl,Vq (by omega) (by omega)]
   rfl
  have hs2:Txt.slice M.s.text (some (p.1:Int)) (some (p.2:Int))=sub M.s.text p.1 p.2:=by
   rw[Vq (by omega) (by omega)]
   rfl
  have Yv:(Op.pat (.again k)).act M.s.text c=if sub M.s.text c.i (c.i+(p.2-p.1))=sub M.s.text p.1 p.2 then .run { c with i:=c.i+(p.2-p.1) } else bk c.cs:=by
   show(match ent c.g k with | none=>bk c.cs | some p=>_)=_
   rw[he]
  show if decide (V.str (Txt.slice M.s.text (some M.s.place) (some (M.s.place+(p.2:Int)-(p.1:Int))))=V.str (Txt.slice M.s.text (some (p.1:Int)) (some (p.2:Int))))=true then _ else _
  rw[hs1,hs2]
  refine Ym (fun z=>?_) (fun z=>?_)
  ·have z':sub M.s.text c.i (c.i+(p.2-p.1))=sub M.s.text p.1 p.2:=by
    have:=of_decide_eq_true z
    injection this
   rw[if_pos z']at Yv
   refine(Z9 rfl (Z9 rfl ⟨m,C,dx,Z9 rfl ⟨e1,MT.cl,MT.a4,X4 _,?_⟩⟩))
   rw[Zag]
   have g1:Gro [m,M.s.choices] H (Zq H m (.ins C dx ({ M.s with place:=M.s.place+(p.2:Int)-(p.1:Int) }:MS).fs)):=Gro.ins (by simp) e1 _
   refine q _ _ (hM.put (s':={ M.s with place:=M.s.place+(p.2:Int)-(p.1:Int) }) e1 rfl) ?_ rfl rfl g1
   rw[Yv]
   have hA1:=hA.mono g1.tups
   exact⟨hA1.rows,rfl,rfl,hA1.en,hA1.row,hend,hA1.gs,hA1.hl,hA1.cs⟩
  ·have z':¬sub M.s.text c.i (c.i+(p.2-p.1))=sub M.s.text p.1 p.2:=fun e=>z (decide_eq_true (by rw[e]))
   rw[if_neg z']at Yv
   refine(Z9 rfl ⟨m,dx,Z9 rfl ⟨e1,Yz _,m,M,rfl,hM,by omega,fun H' hM' g'=>?_⟩⟩)
   have bf:=X1 M
   exact q H' _ hM' (by rw[Yv];exact hA.back.mono g'.tups) bf.1 bf.2 g'
abbrev Jb:Stmt:=top 25
theorem Z7u:FnScope ["machine","row"] ["machine","row"] (Za Jb):=V7
theorem Z88{k:Int}{z:Nat}(MT:Txt K mg C)(O_Machine_entry:OwnM P w K mg base 1 C "entry" ["self","number"] (Z5p C))(F:Fun K "do_have" "do_have" Jb f fd):FnOk P w K mg base W3 2 f fd ["machine","row"] (Jm C (.have_ k z)):=by
 refine F.ok Z7u (fun vs H Q E h=>?_) (fun cdv A outer s H vs Q E hr h=>?_)
 ·obtain⟨m,a,ra,ch,t,n,M,c,rfl,_⟩:=h
  rfl
 obtain⟨m,a,ra,ch,t,n,M,c,rfl,hM,hA,hrow,ht,hci,hgo,hn,Xi,hcs,q⟩:=h
 refine V6 ?_
 intro Xz
 refine⟨_,(Z5 (Zs (Ug (Th (X6 (O_Machine_entry.mono (by omega)) MT.cl hr (pv 0) (Z0 (Zd Zc (pv 1) Z4 (fun _ _=>rfl)) Z3)))) (Z5 (Yk (pv 0) (Zd Zc (pv 1) Z4 (fun _ _=>rfl)) rfl)) Zk)),?_⟩
 refine Z37 ?_
 intro Ez Az1
 obtain rfl:=hA.chs
 obtain rfl:=hA.text
 obtain⟨⟨dx,e1⟩,_⟩:=id hM
 obtain⟨a',e,ha⟩:=hrow
 cases e
 obtain⟨hk1,hk2⟩:1<=k/\k<=n:=by
  rcases Xi with h | h
  ·exact h
  ·cases h
 have hgl:=hgo.len
 obtain⟨g,es,en,hg,hge,hel,hat,hen⟩:=hA.gs.ent hk1 (by omega)
 refine(Z9 rfl ⟨m,dx,Z9 rfl ⟨e1,Z6y _,Ys ha rfl ⟨m,g,k,M,es,en,rfl,hM,hg,hge,by omega,by omega,hat,_,rfl,?_⟩⟩⟩)
 cases he:ent c.g k with
 |none =>
  rw[he]at hen
  have hen':en=.non:=hen
  have Yv:(Op.have_ k z).act M.s.text c=.run { c with r:=z }:=by
   show(match ent c.g k with | none=>Cf.run _ | some _=>_)=_
   rw[he]
  refine Zp (decide_eq_true hen') ?_
  refine(Ys ha rfl ⟨_,rfl,m,C,dx,_,rfl,e1,MT.cl,MT.a3,X4 _,?_⟩)
  rw[Z1g]
  have g1:Gro [m,M.s.choices] H (Zq H m (.ins C dx ({ M.s with row:=(z:Int) }:MS).fs)):=Gro.ins (by simp) e1 _
  refine q _ _ (hM.put (s':={ M.s with row:=(z:Int) }) e1 rfl) ?_ rfl rfl g1
  rw[Yv]
  have hA1:=hA.mono g1.tups
  exact⟨hA1.rows,rfl,rfl,hA1.en,rfl,hA1.pl,hA1.gs,hA1.hl,hA1.cs⟩
 |some p =>
  rw[he]at hen
  obtain⟨pa,rfl,hpa⟩:=hen
  have Yv:(Op.have_ k z).act M.s.text c=.run c:=by
   show(match ent c.g k with | none=>Cf.run _ | some _=>_)=_
   rw[he]
  refine Zf (by intro z;have z':=of_decide_eq_true z;cases z') ?_
  exact q H M hM (by rw[Yv];exact hA) rfl rfl Gro.refl
abbrev Vs:Stmt:=top 26
theorem Z7s:FnScope ["machine","row"] ["machine","row"] (Za Vs):=V7
theorem Z2j{o:Op}(ho:o=.turns∨o=.open_)(MT:Txt K mg C)(O_Machine_hold:OwnM P w K mg base 1 C "hold" ["self","number"] (Z0h C))(F:Fun K "do_hold" "do_hold" Vs f fd):FnOk P w K mg base W3 2 f fd ["machine","row"] (Jm C o):=by
 refine F.ok Z7s (fun vs H Q E h=>?_) (fun cdv A outer s H vs Q E hr h=>?_)
 ·obtain⟨m,a,ra,ch,t,n,M,c,rfl,_⟩:=h
  rfl
 obtain⟨m,a,ra,ch,t,n,M,c,rfl,hM,hA,hrow,ht,hci,hgo,hn,Xi,hcs,q⟩:=h
 refine V6 ?_
 intro Xz
 refine⟨_,(Z5 (Zn (X6 (O_Machine_hold.mono (by omega)) MT.cl hr (pv 0) (Z0 Z4 Z3)))),?_⟩
 obtain rfl:=hA.chs
 obtain rfl:=hA.text
 obtain⟨⟨dx,e1⟩,_⟩:=id hM
 refine(Z9 rfl ⟨m,dx,Z9 rfl ⟨e1,Z58 _,m,0,M,rfl,hM,fun H' p hM' hp g'=>?_⟩⟩)
 have hA1:=hA.mono g'.tups
 have hres:Ab H' ra M.s.text M.s.choices ⟨{ M.s with held:=.ref p },M.cs⟩ { c with h:=(0,c.i)::c.h }:=⟨hA1.rows,rfl,rfl,hA1.en,hA1.row,hA1.pl,hA1.gs,⟨p,Z9 rfl ⟨by rw[hp,hA.pl];rfl,hA1.hl⟩⟩,hA1.cs⟩
 rcases ho with rfl | rfl
 ·exact q H' _ hM' hres rfl rfl (g'.mono (by simp))
 ·exact q H' _ hM' hres rfl rfl (g'.mono (by simp))
abbrev T1:Stmt:=top 27
theorem sc_do_close:FnScope ["machine","row","pair"] ["machine","row"] (Za T1):=V7
theorem Z68{k:Int}(MT:Txt K mg C)(O_Machine_let_go:OwnM P w K mg base 1 C "let_go" ["self"] (Jy C))(O_with_entry:Own P w K mg base 1 "with_entry" ["groups","number","begin","end"] Z8l)(F:Fun K "do_close" "do_close" T1 f fd):FnOk P w K mg base W3 2 f fd ["machine","row"] (Jm C (.close k)):=by
 refine F.ok sc_do_close (fun vs H Q E h=>?_) (fun cdv A outer s H vs Q E hr h=>?_)
 ·obtain⟨m,a,ra,ch,t,n,M,c,rfl,_⟩:=h
  rfl
 obtain⟨m,a,ra,ch,t,n,M,c,rfl,hM,hA,hrow,ht,hci,hgo,hn,Xi,hcs,q⟩:=h
 refine V6 ?_
 intro Xz
 refine⟨_,(Z1 (pS 2 sc_do_close.nd (Yo (O_Machine_let_go.mono (by omega)) MT.cl hr (pv 0)))
  (Z5 (Yk (pv 0) (Zj (O_with_entry.mono (by omega)) hr rfl (Z0 (Zt (pv 0) rfl) (Z0 (Zd Zc (pv 1) Z4 (fun _ _=>rfl)) (Z0 (Zd Zc (pv 2) Z4 (fun _ _=>rfl)) (Z0 (Zt (pv 0) rfl) Z3))))) rfl))),?_⟩
 refine Z1e ?_
 intro Ez Az1
 obtain rfl:=hA.chs
 obtain rfl:=hA.text
 obtain⟨⟨dx,e1⟩,_⟩:=id hM
 obtain⟨a',e,ha⟩:=hrow
 cases e
 obtain⟨⟨hk1,hk2⟩,hh⟩:(1<=k/\k<=n)/\c.h≠[]:=by
  rcases Xi with h | h
  ·exact h
  ·cases h
 obtain⟨x,hrest,hch⟩:∃x r,c.h=x::r:=by
  cases hc:c.h with
  |nil=>exact absurd hc hh
  |cons x r=>exact⟨x,r,rfl⟩
 have hl:=hA.hl
 rw[hch]at hl
 obtain⟨pa,v',hheld,hpa,hl'⟩:=hl
 have hgl:=hgo.len
 obtain⟨g,es,hg,hge,hel,hpe⟩:=hA.gs.len
 refine(Z9 rfl ⟨m,dx,Z9 rfl ⟨e1,Up _,m,pa,M,_,_,_,rfl,hM,hheld,hpa,fun H1 hM1 g1=>?_⟩⟩)
 obtain⟨⟨dx1,f1⟩,_⟩:=id hM1
 have hfg:({ M.s with held:=v' }:MS).fs.lookup ("groups":Str)=some (.ref g):=by rw[Wa];exact congrArg some hg
 refine(Z9 rfl ⟨m,C,dx1,_,_,rfl,f1,MT.cl,MT.a5,hfg,Ys (g1.tups _ _ ha) rfl (Ys (g1.tups _ _ hpa) rfl ⟨_,rfl,m,C,dx1,_,_,rfl,f1,MT.cl,MT.a4,Vd _,g,k,_,_,es,rfl,g1.tups _ _ hge,hk1,by omega,by omega,fun r p H2 hp2 hr2 g2=>?_⟩)⟩)
 have hM2:=hM1.gro g2 (by simp) (by simp)
 obtain⟨⟨dx2,f2⟩,_⟩:=id hM2
 refine(Z9 rfl ⟨m,C,dx2,Z9 rfl ⟨f2,MT.cl,MT.a5,X4 _,?_⟩⟩)
 rw[Z43]
 have g3:Gro [m,M.s.choices] H2 (Zq H2 m (.ins C dx2 ({ M.s with held:=v',groups:=.ref r }:MS).fs)):=Gro.ins (by simp) f2 _
 have gg:Gro [m,M.s.choices] H (Zq H2 m (.ins C dx2 ({ M.s with held:=v',groups:=.ref r }:MS).fs)):=((g1.mono (by simp)).trans (g2.mono (by simp))).trans g3
 refine q _ _ (hM2.put (s':={ M.s with held:=v',groups:=.ref r }) f2 rfl) ?_ rfl rfl gg
 have Yv:(Op.close k).act M.s.text c=.run { c with h:=hrest,g:=put c.g k x.2 c.i }:=by
  show(match c.h with | []=>Cf.ended | p::h=>Cf.run { c with h:=h,g:=put c.g k p.2 c.i })=_
  rw[hch]
 rw[Yv]
 have hA1:=hA.mono gg.tups
 refine⟨hA1.rows,rfl,rfl,hA1.en,hA1.row,hA1.pl,?_,hl'.mono gg.tups,hA1.cs⟩
 refine GsAt.put (Paired.mapP hpe fun _ _ h=>h.mono gg.tups) (g3.tups _ _ ?_) (g3.tups _ _ hr2)
 rw[hp2]
 show some (HO.tup [.int x.2,.int M.s.place])=_
 rw[hA.pl]
theorem Ab.top{H:Hp}{ra:Addr}{t:Str}{ch:Addr}{M:MM}{c:Cg}(h:Ab H ra t ch M c)(hh:c.h≠[]):∃(x:Nat×Nat) (r:Hl) (pa:Addr) (v':V),c.h=x::r/\M.s.held=.ref pa/\H pa=some (.tup [.int x.1,.int x.2,v'])/\HlAt H v' r:=by
 have hl:=h.hl
 cases hc:c.h with
 |nil=>exact absurd hc hh
 |cons x r =>
  rw[hc]at hl
  obtain⟨pa,v',h1,h2,h3⟩:=hl
  exact⟨x,r,pa,v',rfl,h1,h2,h3⟩
theorem Z1h{n:Nat}{c:Cg}{o:Op}(h:o.need n c∨o=.found)(e:o.need n c=(c.h≠[]))(hf:o≠.found):c.h≠[]:=by
 rcases h with h | h
 ·rw[e]at h;exact h
 ·exact absurd h hf
abbrev J6:Stmt:=top 30
theorem Z7p:FnScope ["machine","row"] ["machine","row"] (Za J6):=V7
theorem Z83(T:Blt mg)(MT:Txt K mg C)(O_Machine_hold:OwnM P w K mg base 1 C "hold" ["self","number"] (Z0h C))(F:Fun K "do_once" "do_once" J6 f fd):FnOk P w K mg base W3 2 f fd ["machine","row"] (Jm C .once):=by
 refine F.ok Z7p (fun vs H Q E h=>?_) (fun cdv A outer s H vs Q E hr h=>?_)
 ·obtain⟨m,a,ra,ch,t,n,M,c,rfl,_⟩:=h
  rfl
 obtain⟨m,a,ra,ch,t,n,M,c,rfl,hM,hA,hrow,ht,hci,hgo,hn,Xi,hcs,q⟩:=h
 refine V6 ?_
 intro Xz
 refine⟨_,(Z5 (Zn (X6 (O_Machine_hold.mono (by omega)) MT.cl hr (pv 0) (Z0 (Zy Y8 rfl T.b_len PyProof.Rows.Boot.«len» (Z0 (Zt (pv 0) rfl) Z3)) Z3)))),?_⟩
 obtain rfl:=hA.chs
 obtain rfl:=hA.text
 obtain⟨⟨dx,e1⟩,vs,hv,hp⟩:=id hM
 have hl:=Paired.length hp
 have hcl:=hA.cslen
 refine(Z9 rfl ⟨m,dx,Z9 rfl ⟨e1,Z58 _,Z9 rfl ⟨m,C,dx,_,_,rfl,e1,MT.cl,MT.a7,X0 _,M.s.choices,vs,rfl,.inl (SqL.of hv),m,_,M,rfl,hM,fun H' p hM' hp' g'=>?_⟩⟩⟩)
 have hA1:=hA.mono g'.tups
 refine q H' _ hM' ⟨hA1.rows,rfl,rfl,hA1.en,hA1.row,hA1.pl,hA1.gs,⟨p,Z9 rfl ⟨?_,hA1.hl⟩⟩,hA1.cs⟩ rfl rfl (g'.mono (by simp))
 rw[hp',hA.pl,show vs.length=c.cs.length by omega]
abbrev J9:Stmt:=top 31
theorem Z7r:FnScope ["machine","row"] ["machine","row"] (Za J9):=V7
theorem Z86(MT:Txt K mg C)(O_Machine_let_go:OwnM P w K mg base 1 C "let_go" ["self"] (Jy C))(O_Machine_drop_choices:OwnM P w K mg base 1 C "drop_choices" ["self","size"] (Z0i C))(F:Fun K "do_kept" "do_kept" J9 f fd):FnOk P w K mg base W3 2 f fd ["machine","row"] (Jm C .kept):=by
 refine F.ok Z7r (fun vs H Q E h=>?_) (fun cdv A outer s H vs Q E hr h=>?_)
 ·obtain⟨m,a,ra,ch,t,n,M,c,rfl,_⟩:=h
  rfl
 obtain⟨m,a,ra,ch,t,n,M,c,rfl,hM,hA,hrow,ht,hci,hgo,hn,Xi,hcs,q⟩:=h
 refine V6 ?_
 intro Xz
 refine⟨_,(Z5 (Zn (X6 (O_Machine_drop_choices.mono (by omega)) MT.cl hr (pv 0) (Z0 (Zd Zc (Yo (O_Machine_let_go.mono (by omega)) MT.cl hr (pv 0)) Z4 (fun _ _=>rfl)) Z3)))),?_⟩
 obtain rfl:=hA.chs
 obtain rfl:=hA.text
 obtain⟨⟨dx,e1⟩,_⟩:=id hM
 have hcl:=hA.cslen
 obtain⟨x,r,pa,v',hch,hheld,hpa,hl'⟩:=hA.top (Z1h Xi rfl (by intro z;cases z))
 refine(Z9 rfl ⟨m,dx,Z9 rfl ⟨e1,Z59 _,Z9 rfl ⟨m,dx,Z9 rfl ⟨e1,Up _,m,pa,M,_,_,_,rfl,hM,hheld,hpa,fun H1 hM1 g1=>?_⟩⟩⟩⟩)
 refine⟨pa,_,_,_,rfl,rfl,SqT.of (g1.tups _ _ hpa),Vw,m,x.1,_,rfl,hM1,by show M.cs.length<=_;omega,fun H2 hM2 g2=>?_⟩
 have gg:Gro [m,M.s.choices] H H2:=(g1.mono (by simp)).trans (g2.mono (by simp))
 have hA1:=hA.mono gg.tups
 refine q H2 _ hM2 ?_ rfl rfl gg
 have Yv:Op.kept.act M.s.text c=.run { c with h:=r,cs:=c.cs.take x.1 }:=by
  show(match c.h with | []=>Cf.ended | p::h=>Cf.run { c with h:=h,cs:=c.cs.take p.1 })=_
  rw[hch]
 rw[Yv]
 exact⟨hA1.rows,rfl,rfl,hA1.en,hA1.row,hA1.pl,hA1.gs,hl'.mono gg.tups,Xb _ hA1.cs⟩
abbrev U6:Stmt:=top 32
theorem sc_do_peeked:FnScope ["machine","row","pair"] ["machine","row"] (Za U6):=V7
theorem Z4q(MT:Txt K mg C)(O_Machine_let_go:OwnM P w K mg base 1 C "let_go" ["self"] (Jy C))(O_Machine_drop_choices:OwnM P w K mg base 1 C "drop_choices" ["self","size"] (Z0i C))(F:Fun K "do_peeked" "do_peeked" U6 f fd):FnOk P w K mg base W3 2 f fd ["machine","row"] (Jm C .peeked):=by
 refine F.ok sc_do_peeked (fun vs H Q E h=>?_) (fun cdv A outer s H vs Q E hr h=>?_)
 ·obtain⟨m,a,ra,ch,t,n,M,c,rfl,_⟩:=h
  rfl
 obtain⟨m,a,ra,ch,t,n,M,c,rfl,hM,hA,hrow,ht,hci,hgo,hn,Xi,hcs,q⟩:=h
 refine V6 ?_
 intro Xz
 refine⟨_,(Z1 (pS 2 sc_do_peeked.nd (Yo (O_Machine_let_go.mono (by omega)) MT.cl hr (pv 0)))
  (Z1 (Zn (X6 (O_Machine_drop_choices.mono (by omega)) MT.cl hr (pv 0) (Z0 (Zd Zc (pv 2) Z4 (fun _ _=>rfl)) Z3)))
  (Z5 (Yk (pv 0) (Zd Zc (pv 2) Z4 (fun _ _=>rfl)) rfl)))),?_⟩
 refine Z36 ?_
 intro Ez Az1 Az2
 obtain rfl:=hA.chs
 obtain rfl:=hA.text
 obtain⟨⟨dx,e1⟩,_⟩:=id hM
 have hcl:=hA.cslen
 obtain⟨x,r,pa,v',hch,hheld,hpa,hl'⟩:=hA.top (Z1h Xi rfl (by intro z;cases z))
 refine(Z9 rfl ⟨m,dx,Z9 rfl ⟨e1,Up _,m,pa,M,_,_,_,rfl,hM,hheld,hpa,fun H1 hM1 g1=>?_⟩⟩)
 obtain⟨⟨dx1,f1⟩,_⟩:=id hM1
 refine(Z9 rfl ⟨m,dx1,Z9 rfl ⟨f1,Z59 _,Ys (g1.tups _ _ hpa) Vw ⟨m,x.1,_,rfl,hM1,by show M.cs.length<=_;omega,fun H2 hM2 g2=>?_⟩⟩⟩)
 obtain⟨⟨dx2,f2⟩,_⟩:=id hM2
 refine(Ys (g2.tups _ _ (g1.tups _ _ hpa)) rfl ⟨_,rfl,m,C,dx2,_,rfl,f2,MT.cl,MT.a4,X4 _,?_⟩)
 rw[Zag]
 have g3:Gro [m,M.s.choices] H2 (Zq H2 m (.ins C dx2 ({ M.s with held:=v',place:=(x.2:Int) }:MS).fs)):=Gro.ins (by simp) f2 _
 have gg:Gro [m,M.s.choices] H (Zq H2 m (.ins C dx2 ({ M.s with held:=v',place:=(x.2:Int) }:MS).fs)):=((g1.mono (by simp)).trans (g2.mono (by simp))).trans g3
 have hA1:=hA.mono gg.tups
 refine q _ _ (hM2.put (s':={ M.s with held:=v',place:=(x.2:Int) }) f2 rfl) ?_ rfl rfl gg
 have Yv:Op.peeked.act M.s.text c=.run { c with i:=x.2,h:=r,cs:=c.cs.take x.1 }:=by
  show(match c.h with | []=>Cf.ended | p::h=>Cf.run { c with i:=p.2,h:=h,cs:=c.cs.take p.1 })=_
  rw[hch]
 rw[Yv]
 exact⟨hA1.rows,rfl,rfl,hA1.en,hA1.row,rfl,hA1.gs,hl'.mono gg.tups,Xb _ hA1.cs⟩
abbrev U7:Stmt:=top 34
theorem Z4n:FnScope ["machine","row"] ["machine","row"] (Za U7):=V7
theorem Z4r(MT:Txt K mg C)(O_Machine_let_go:OwnM P w K mg base 1 C "let_go" ["self"] (Jy C))(O_Machine_drop_choices:OwnM P w K mg base 1 C "drop_choices" ["self","size"] (Z0i C))(O_Machine_go_back:OwnM P w K mg base 2 C "go_back" ["self"] (Wn C))(F:Fun K "do_barred" "do_barred" U7 f fd):FnOk P w K mg base W3 3 f fd ["machine","row"] (Jm C .barred):=by
 refine F.ok Z4n (fun vs H Q E h=>?_) (fun cdv A outer s H vs Q E hr h=>?_)
 ·obtain⟨m,a,ra,ch,t,n,M,c,rfl,_⟩:=h
  rfl
 obtain⟨m,a,ra,ch,t,n,M,c,rfl,hM,hA,hrow,ht,hci,hgo,hn,Xi,hcs,q⟩:=h
 refine V6 ?_
 intro Xz
 refine⟨_,(Z1 (Zn (X6 (O_Machine_drop_choices.mono (by omega)) MT.cl hr (pv 0) (Z0 (Zd Zc (Yo (O_Machine_let_go.mono (by omega)) MT.cl hr (pv 0)) Z4 (fun _ _=>rfl)) Z3)))
  (Z5 (Zn (Yo (O_Machine_go_back.mono (by omega)) MT.cl hr (pv 0))))),?_⟩
 refine Z1e ?_
 intro Ez Az1
 obtain rfl:=hA.chs
 obtain rfl:=hA.text
 obtain⟨⟨dx,e1⟩,_⟩:=id hM
 have hcl:=hA.cslen
 obtain⟨x,r,pa,v',hch,hheld,hpa,hl'⟩:=hA.top (Z1h Xi rfl (by intro z;cases z))
 refine(Z9 rfl ⟨m,dx,Z9 rfl ⟨e1,Z59 _,Z9 rfl ⟨m,dx,Z9 rfl ⟨e1,Up _,m,pa,M,_,_,_,rfl,hM,hheld,hpa,fun H1 hM1 g1=>?_⟩⟩⟩⟩)
 refine⟨pa,_,_,_,rfl,rfl,SqT.of (g1.tups _ _ hpa),Vw,m,x.1,_,rfl,hM1,by show M.cs.length<=_;omega,fun H2 hM2 g2=>?_⟩
 have gg:Gro [m,M.s.choices] H H2:=(g1.mono (by simp)).trans (g2.mono (by simp))
 have hA1:=hA.mono gg.tups
 have hA2:Ab H2 ra M.s.text M.s.choices ⟨{ M.s with held:=v' },M.cs.take x.1⟩ { c with h:=r,cs:=c.cs.take x.1 }:=⟨hA1.rows,rfl,rfl,hA1.en,hA1.row,hA1.pl,hA1.gs,hl'.mono gg.tups,Xb _ hA1.cs⟩
 obtain⟨⟨dx2,f2⟩,_⟩:=id hM2
 refine(Z9 rfl ⟨m,dx2,Z9 rfl ⟨f2,Yz _,m,_,rfl,hM2,by show(M.cs.take x.1).length<=_;rw[List.length_take];omega,fun H3 hM3 g3=>?_⟩⟩)
 have bf:=X1 ⟨{ M.s with held:=v' },M.cs.take x.1⟩
 have Yv:Op.barred.act M.s.text c=bk (c.cs.take x.1):=by
  show(match c.h with | []=>Cf.ended | p::_=>bk (c.cs.take p.1))=_
  rw[hch]
 exact q H3 _ hM3 (by rw[Yv];exact hA2.back.mono g3.tups) bf.1 bf.2 (gg.trans g3)
abbrev Ja:Stmt:=top 36
theorem Z7t:FnScope ["machine","row"] ["machine","row"] (Za Ja):=V7
theorem Z87(MT:Txt K mg C)(O_Machine_go_back:OwnM P w K mg base 2 C "go_back" ["self"] (Wn C))(F:Fun K "do_here" "do_here" Ja f fd):FnOk P w K mg base W3 3 f fd ["machine","row"] (Jm C .here):=by
 refine F.ok Z7t (fun vs H Q E h=>?_) (fun cdv A outer s H vs Q E hr h=>?_)
 ·obtain⟨m,a,ra,ch,t,n,M,c,rfl,_⟩:=h
  rfl
 obtain⟨m,a,ra,ch,t,n,M,c,rfl,hM,hA,hrow,ht,hci,hgo,hn,Xi,hcs,q⟩:=h
 refine V6 ?_
 intro Xz
 refine⟨_,(Z5 (Zs (Zb Z7j (Zt (pv 0) rfl) (Zd Zc (Zt (pv 0) rfl) Z4 (fun _ _=>rfl)) (Ze _)) (Z5 (Zn (Yo (O_Machine_go_back.mono (by omega)) MT.cl hr (pv 0)))) Zk)),?_⟩
 refine Z37 ?_
 intro Ez Az1
 obtain rfl:=hA.chs
 obtain rfl:=hA.text
 obtain⟨⟨dx,e1⟩,_⟩:=id hM
 have hcl:=hA.cslen
 obtain⟨x,r,pa,v',hch,hheld,hpa,hl'⟩:=hA.top (Z1h Xi rfl (by intro z;cases z))
 have hfh:M.s.fs.lookup ("held":Str)=some (.ref pa):=by rw[Tc,hheld]
 have Yv:Op.here.act M.s.text c=if c.i=x.2 then .run c else bk c.cs:=by
  show(match c.h with | []=>Cf.ended | p::_=>if c.i=p.2 then Cf.run c else bk c.cs)=_
  rw[hch]
 refine(Z9 rfl ⟨m,C,dx,_,_,rfl,e1,MT.cl,MT.a4,Vd _,Z9 rfl ⟨m,C,dx,_,_,rfl,e1,MT.cl,MT.a6,hfh,pa,_,_,_,rfl,rfl,SqT.of hpa,rfl,rfl,Z9 rfl (?_)⟩⟩)
 by_cases e:c.i=x.2
 ·rw[if_pos e]at Yv
  refine Zf (fun z=>?_) (q H M hM (by rw[Yv];exact hA) rfl rfl Gro.refl)
  have:V.int M.s.place=V.int (x.2:Int):=by rw[hA.pl,e]
  rw[decide_eq_true this]at z
  cases z
 ·rw[if_neg e]at Yv
  refine Zp ?_ (Z9 rfl ⟨m,dx,Z9 rfl ⟨e1,Yz _,m,M,rfl,hM,by omega,fun H' hM' g'=>?_⟩⟩)
  ·have:¬V.int M.s.place=V.int (x.2:Int):=fun z=>by
    injection z with z
    rw[hA.pl]at z
    omega
   rw[decide_eq_false this]
   rfl
  ·have bf:=X1 M
   exact q H' _ hM' (by rw[Yv];exact hA.back.mono g'.tups) bf.1 bf.2 g'
abbrev J8:Stmt:=top 35
theorem Z7q:FnScope ["machine","row"] ["machine","row"] (Za J8):=V7
theorem Z85(MT:Txt K mg C)(F:Fun K "do_lean" "do_lean" J8 f fd):FnOk P w K mg base W3 1 f fd ["machine","row"] (Jm C .lean):=by
 refine F.ok Z7q (fun vs H Q E h=>?_) (fun cdv A outer s H vs Q E hr h=>?_)
 ·obtain⟨m,a,ra,ch,t,n,M,c,rfl,_⟩:=h
  rfl
 obtain⟨m,a,ra,ch,t,n,M,c,rfl,hM,hA,hrow,ht,hci,hgo,hn,Xi,hcs,q⟩:=h
 refine V6 ?_
 intro Xz
 refine⟨_,(Z5 (Zs (Zb Z3d (Zt (pv 0) rfl) Z4 (Ze _)) (Z5 (Zn (Yw PySem.F.plainAttrs_list PySem.F.slot_list_append PySem.F.type_list_append Zz (Zt (pv 0) rfl) (Z0 (Zr (Z0 (Zx X3 (Zt (pv 0) rfl) Z4) (Z0 (Zx X3 (Zt (pv 0) rfl) Z4) (Z0 (Zt (pv 0) rfl) (Z0 (Zt (pv 0) rfl) Z3))))) Z3)))) Zk)),?_⟩
 refine Z37 ?_
 intro Ez Az1
 obtain rfl:=hA.chs
 obtain rfl:=hA.text
 obtain⟨⟨dx,e1⟩,vs,hv,hp⟩:=id hM
 have hl:=Paired.length hp
 have hcl:=hA.cslen
 have Yv:Op.lean.act M.s.text c=if 0<c.i then .run { c with cs:=c.cs++[(c.r-1,c.i-1,c.g,c.h)] } else .run c:=rfl
 refine(Z9 rfl ⟨m,C,dx,_,_,rfl,e1,MT.cl,MT.a4,Vd _,Xy rfl rfl (Z9 rfl (?_))⟩)
 by_cases e:0<c.i
 ·rw[if_pos e]at Yv
  refine Zp (decide_eq_true (by rw[hA.pl];omega)) ?_
  refine(Z9 rfl ⟨m,C,dx,_,_,rfl,e1,MT.cl,MT.a7,X0 _,.inl ⟨rfl,_,SqL.of hv⟩,Z9 rfl ⟨m,C,dx,_,_,rfl,e1,MT.cl,MT.a3,Z5w _,Xy rfl rfl (Z9 rfl ⟨m,C,dx,_,_,rfl,e1,MT.cl,MT.a4,Vd _,Xy rfl rfl (Z9 rfl ⟨m,C,dx,_,_,rfl,e1,MT.cl,MT.a5,Wa _,Z9 rfl ⟨m,C,dx,_,_,rfl,e1,MT.cl,MT.a6,Tc _,sz,fun tp htp=>?_⟩⟩)⟩)⟩⟩)
  have g2:=Gro.new (S:=[m,M.s.choices]) htp (.tup [.int (M.s.row-1),.int (M.s.place-1),M.s.groups,M.s.held])
  have hM2:=hM.new (o:=.tup [.int (M.s.row-1),.int (M.s.place-1),M.s.groups,M.s.held]) htp
  have hv2:(Zq H tp (.tup [.int (M.s.row-1),.int (M.s.place-1),M.s.groups,M.s.held])) M.s.choices=some (.lst vs):=by rw[Zi (Z7 hv htp)];exact hv
  have hq2:=Paired.mapP hp fun _ _ q=>q.mono g2.tups
  have et:(Zq H tp (.tup [.int (M.s.row-1),.int (M.s.place-1),M.s.groups,M.s.held])) tp=some (.tup [.int (M.s.row-1),.int (M.s.place-1),M.s.groups,M.s.held]):=Z2
  refine⟨M.s.choices,vs,Z9 rfl ⟨rfl,hv2,Z5z (by omega),?_⟩⟩
  obtain⟨hM3,g3⟩:=hM2.push (q:=(M.s.row-1,M.s.place-1,M.s.groups,M.s.held)) hv2 hq2 et
  have gg:Gro [m,M.s.choices] H _:=g2.trans (g3.mono (by simp))
  have hA1:=hA.mono gg.tups
  refine q _ _ hM3 ?_ rfl rfl gg
  rw[Yv]
  refine⟨hA1.rows,rfl,rfl,hA1.en,hA1.row,hA1.pl,hA1.gs,hA1.hl,hA1.cs.snoc ⟨?_,?_,hA1.gs,hA1.hl⟩⟩
  ·show M.s.row-1=((c.r-1:Nat):Int)
   rw[hA.row]
   omega
  ·show M.s.place-1=((c.i-1:Nat):Int)
   rw[hA.pl]
   omega
 ·rw[if_neg e]at Yv
  refine Zf (fun z=>?_) (q H M hM (by rw[Yv];exact hA) rfl rfl Gro.refl)
  have:=of_decide_eq_true z
  rw[hA.pl]at this
  omega
abbrev Z0d:Stmt:=top 33
theorem sc_do_bar:FnScope ["machine","row","held"] ["machine","row"] (Za Z0d):=V7
theorem Zb4{z:Nat}(T:Blt mg)(MT:Txt K mg C)(O_Machine_hold:OwnM P w K mg base 1 C "hold" ["self","number"] (Z0h C))(F:Fun K "do_bar" "do_bar" Z0d f fd):FnOk P w K mg base W3 2 f fd ["machine","row"] (Jm C (.bar z)):=by
 refine F.ok sc_do_bar (fun vs H Q E h=>?_) (fun cdv A outer s H vs Q E hr h=>?_)
 ·obtain⟨m,a,ra,ch,t,n,M,c,rfl,_⟩:=h
  rfl
 obtain⟨m,a,ra,ch,t,n,M,c,rfl,hM,hA,hrow,ht,hci,hgo,hn,Xi,hcs,q⟩:=h
 refine V6 ?_
 intro Xz
 refine⟨_,(Z1 (pS 2 sc_do_bar.nd (Zt (pv 0) rfl))
  (Z1 (Zn (X6 (O_Machine_hold.mono (by omega)) MT.cl hr (pv 0) (Z0 (Zy Y8 rfl T.b_len PyProof.Rows.Boot.«len» (Z0 (Zt (pv 0) rfl) Z3)) Z3)))
  (Z5 (Zn (Yw PySem.F.plainAttrs_list PySem.F.slot_list_append PySem.F.type_list_append Zz (Zt (pv 0) rfl) (Z0 (Zr (Z0 (Zd Zc (pv 1) Z4 (fun _ _=>rfl)) (Z0 (Zt (pv 0) rfl) (Z0 (Zt (pv 0) rfl) (Z0 (pv 2) Z3))))) Z3)))))),?_⟩
 refine Z36 ?_
 intro Ez Az1 Az2
 obtain rfl:=hA.chs
 obtain rfl:=hA.text
 obtain⟨⟨dx,e1⟩,vs,hv,hp⟩:=id hM
 obtain⟨a',e,ha⟩:=hrow
 cases e
 have hl:=Paired.length hp
 have hcl:=hA.cslen
 refine(Z9 rfl ⟨m,C,dx,_,_,rfl,e1,MT.cl,MT.a6,Tc _,?_⟩)
 refine(Z9 rfl ⟨m,dx,Z9 rfl ⟨e1,Z58 _,Z9 rfl ⟨m,C,dx,_,_,rfl,e1,MT.cl,MT.a7,X0 _,M.s.choices,vs,rfl,.inl (SqL.of hv),m,_,M,rfl,hM,fun H1 p hM1 hp1 g1=>?_⟩⟩⟩)
 obtain⟨⟨dx1,f1⟩,vs1,hv1,hq1⟩:=id hM1
 have hv1':H1 M.s.choices=some (.lst vs1):=hv1
 have hl1:vs1.length=M.cs.length:=Paired.length hq1
 refine(Z9 rfl ⟨m,C,dx1,_,_,rfl,f1,MT.cl,MT.a7,X0 _,.inl ⟨rfl,_,SqL.of hv1'⟩,Ys (g1.tups _ _ ha) rfl ⟨_,rfl,m,C,dx1,_,_,rfl,f1,MT.cl,MT.a4,Vd _,_,rfl,m,C,dx1,_,_,rfl,f1,MT.cl,MT.a5,Wa _,_,rfl,sz,fun tp htp=>?_⟩⟩)
 have g2:=Gro.new (S:=[m,M.s.choices]) htp (.tup [.int z,.int M.s.place,M.s.groups,M.s.held])
 have hM2:=hM1.new (o:=.tup [.int z,.int M.s.place,M.s.groups,M.s.held]) htp
 have hv2:(Zq H1 tp (.tup [.int z,.int M.s.place,M.s.groups,M.s.held])) M.s.choices=some (.lst vs1):=by rw[Zi (Z7 hv1' htp)];exact hv1'
 have hq2:=Paired.mapP hq1 fun _ _ q=>q.mono g2.tups
 have et:(Zq H1 tp (.tup [.int z,.int M.s.place,M.s.groups,M.s.held])) tp=some (.tup [.int z,.int M.s.place,M.s.groups,M.s.held]):=Z2
 refine⟨M.s.choices,vs1,Z9 rfl ⟨rfl,hv2,Z5z (by omega),?_⟩⟩
 obtain⟨hM3,g3⟩:=hM2.push (q:=((z:Int),M.s.place,M.s.groups,M.s.held)) hv2 hq2 et
 have gg:Gro [m,M.s.choices] H _:=((g1.mono (by simp)).trans g2).trans (g3.mono (by simp))
 have hA1:=hA.mono gg.tups
 refine q _ _ hM3 ⟨hA1.rows,rfl,rfl,hA1.en,hA1.row,hA1.pl,hA1.gs,⟨p,Z9 rfl ⟨?_,hA1.hl⟩⟩,hA1.cs.snoc ⟨rfl,hA1.pl,hA1.gs,hA1.hl⟩⟩ rfl rfl gg
 rw[g3.tups _ _ (g2.tups _ _ hp1),hA.pl,show vs.length=c.cs.length by omega]
abbrev J7:Stmt:=top 29
theorem sc_do_next:FnScope ["machine","row","pair"] ["machine","row"] (Za J7):=V7
theorem Z84{lo:Int}{z:Nat}(MT:Txt K mg C)(O_Machine_let_go:OwnM P w K mg base 1 C "let_go" ["self"] (Jy C))(O_Machine_go_back:OwnM P w K mg base 2 C "go_back" ["self"] (Wn C))(F:Fun K "do_next" "do_next" J7 f fd):FnOk P w K mg base W3 3 f fd ["machine","row"] (Jm C (.next lo z)):=by
 refine F.ok sc_do_next (fun vs H Q E h=>?_) (fun cdv A outer s H vs Q E hr h=>?_)
 ·obtain⟨m,a,ra,ch,t,n,M,c,rfl,_⟩:=h
  rfl
 obtain⟨m,a,ra,ch,t,n,M,c,rfl,hM,hA,hrow,ht,hci,hgo,hn,Xi,hcs,q⟩:=h
 refine V6 ?_
 intro Xz
 refine⟨_,(Z1 (pS 2 sc_do_next.nd (Yo (O_Machine_let_go.mono (by omega)) MT.cl hr (pv 0)))
  (Z5 (Zs (PW.pt (Vj (Zb Zei (Zd Zc (pv 2) Z4 (fun _ _=>rfl)) (Zd Zc (pv 1) Z4 (fun _ _=>rfl)) (Ze _)) (Wl (Zb Zv (Zt (pv 0) rfl) (Zd Zc (pv 2) Z4 (fun _ _=>rfl)) (Ze _))))) (Z5 (Zn (Yo (O_Machine_go_back.mono (by omega)) MT.cl hr (pv 0)))) (Z1 (Yk (pv 0) (Zr (Z0 (Zx Yn (Zd Zc (pv 2) Z4 (fun _ _=>rfl)) Z4) (Z0 (Zd Zc (pv 2) Z4 (fun _ _=>rfl)) (Z0 (Zd Zc (pv 2) Z4 (fun _ _=>rfl)) Z3)))) rfl)
  (Z5 (Yk (pv 0) (Zd Zc (pv 1) Z4 (fun _ _=>rfl)) rfl)))))),?_⟩
 refine Zhr ?_
 intro Ez Az1 Az2 Az3 Az4
 obtain rfl:=hA.chs
 obtain rfl:=hA.text
 obtain⟨⟨dx,e1⟩,_⟩:=id hM
 obtain⟨a',e,ha⟩:=hrow
 cases e
 have hcl:=hA.cslen
 obtain⟨x,r,pa,v',hch,hheld,hpa,hl'⟩:=hA.top (Z1h Xi rfl (by intro z;cases z))
 have Yv:(Op.next lo z).act M.s.text c=if lo<=x.1/\c.i=x.2 then bk c.cs else .run ⟨z,c.i,c.g,(x.1+1,x.2)::r,c.cs⟩:=by
  show(match c.h with | []=>Cf.ended | p::h=>if lo<=p.1/\c.i=p.2 then bk c.cs else .run ⟨z,c.i,c.g,(p.1+1,p.2)::h,c.cs⟩)=_
  rw[hch]
 refine(Z9 rfl ⟨m,dx,Z9 rfl ⟨e1,Up _,m,pa,M,_,_,_,rfl,hM,hheld,hpa,fun H1 hM1 g1=>?_⟩⟩)
 obtain⟨⟨dx1,f1⟩,_⟩:=id hM1
 have hpa1:=g1.tups _ _ hpa
 have ha1:=g1.tups _ _ ha
 have hA1:=hA.mono g1.tups
 have hA2:Ab H1 ra M.s.text M.s.choices ⟨{ M.s with held:=v' },M.cs⟩ { c with h:=r }:=⟨hA1.rows,rfl,rfl,hA1.en,hA1.row,hA1.pl,hA1.gs,hl'.mono g1.tups,hA1.cs⟩
 have goback:lo<=x.1/\c.i=x.2->Wn C [.ref m] H1 (fun _ H'=>Q .non H') E:=fun hc=>by
  rw[if_pos hc]at Yv
  refine⟨m,_,rfl,hM1,by show M.cs.length<=_;omega,fun H' hM' g'=>?_⟩
  have bf:=X1 ⟨{ M.s with held:=v' },M.cs⟩
  exact q H' _ hM' (by rw[Yv];exact hA2.back.mono g'.tups) bf.1 bf.2 ((g1.mono (by simp)).trans g')
 have onward:¬(lo<=x.1/\c.i=x.2)->∀p:Addr,H1 p=none->Q .non (Zq (Zq H1 p (.tup [.int ((x.1:Int)+1),.int x.2,v'])) m (.ins C dx1 ({ M.s with held:=.ref p,row:=(z:Int) }:MS).fs)):=fun hc p hp=>by
  rw[if_neg hc]at Yv
  have hM2:=hM1.new (o:=.tup [.int ((x.1:Int)+1),.int x.2,v']) hp
  have f2:(Zq H1 p (.tup [.int ((x.1:Int)+1),.int x.2,v'])) m=some (.ins C dx1 ({ M.s with held:=v' }:MS).fs):=by rw[Zi (Z7 f1 hp)];exact f1
  have g2:=Gro.new (S:=[m,M.s.choices]) hp (.tup [.int ((x.1:Int)+1),.int x.2,v'])
  have g3:Gro [m,M.s.choices] (Zq H1 p (.tup [.int ((x.1:Int)+1),.int x.2,v'])) (Zq (Zq H1 p (.tup [.int ((x.1:Int)+1),.int x.2,v'])) m (.ins C dx1 ({ M.s with held:=.ref p,row:=(z:Int) }:MS).fs)):=Gro.ins (by simp) f2 _
  have gg:=((g1.mono (S':=[m,M.s.choices]) (by simp)).trans g2).trans g3
  have hA3:=hA.mono gg.tups
  refine q _ _ (hM2.put (s':={ M.s with held:=.ref p,row:=(z:Int) }) f2 rfl) ?_ rfl rfl gg
  rw[Yv]
  exact⟨hA3.rows,rfl,rfl,hA3.en,rfl,hA3.pl,hA3.gs,⟨p,v',rfl,g3.tups _ _ Z2,hl'.mono gg.tups⟩,hA3.cs⟩
 refine(Ys hpa1 Vw (Ys ha1 rfl ⟨_,_,rfl,rfl,_,rfl,?_⟩))
 have rest:¬(lo<=x.1/\c.i=x.2)->_:=onward
 by_cases hlo:lo<=x.1
 ·refine Zp (decide_eq_true hlo) ?_
  refine(Z9 rfl ⟨m,C,dx1,_,_,rfl,f1,MT.cl,MT.a4,Vd _,Ys hpa1 rfl ⟨rfl,_,rfl,?_⟩⟩)
  by_cases hi:c.i=x.2
  ·refine Zp (decide_eq_true ?_) (Z9 rfl ⟨m,dx1,Z9 rfl ⟨f1,Yz _,goback ⟨hlo,hi⟩⟩⟩)
   show V.int M.s.place=V.int (x.2:Int)
   rw[hA.pl,hi]
  ·refine Zf (fun z=>?_) ?_
   ·have z':V.int M.s.place=V.int (x.2:Int):=of_decide_eq_true z
    injection z' with z'
    rw[hA.pl]at z'
    omega
   ·refine(Ys hpa1 Vw ⟨_,_,rfl,rfl,Ys hpa1 rfl (Ys hpa1 rfl ⟨sz,fun p hp=>?_⟩)⟩)
    have f2:(Zq H1 p (.tup [.int ((x.1:Int)+1),.int x.2,v'])) m=some (.ins C dx1 ({ M.s with held:=v' }:MS).fs):=by rw[Zi (Z7 f1 hp)];exact f1
    refine(Z9 rfl ⟨m,C,dx1,Z9 rfl ⟨f2,MT.cl,MT.a6,X4 _,?_⟩⟩)
    rw[Z0k]
    have ha2:=(Gro.ins (S:=[m]) (by simp) f2 (.ins C dx1 ({ M.s with held:=.ref p }:MS).fs)).tups _ _ ((Gro.new (S:=[]) hp (.tup [.int ((x.1:Int)+1),.int x.2,v'])).tups _ _ ha1)
    refine(Ys ha2 rfl ⟨_,rfl,m,C,dx1,_,rfl,Z2,MT.cl,MT.a3,X4 _,?_⟩)
    rw[Z1g,Z93]
    exact onward (fun h=>hi h.2) p hp
 ·refine Zf (fun z=>hlo (of_decide_eq_true z)) (Zf (by decide) ?_)
  refine(Ys hpa1 Vw ⟨_,_,rfl,rfl,Ys hpa1 rfl (Ys hpa1 rfl ⟨sz,fun p hp=>?_⟩)⟩)
  have f2:(Zq H1 p (.tup [.int ((x.1:Int)+1),.int x.2,v'])) m=some (.ins C dx1 ({ M.s with held:=v' }:MS).fs):=by rw[Zi (Z7 f1 hp)];exact f1
  refine(Z9 rfl ⟨m,C,dx1,Z9 rfl ⟨f2,MT.cl,MT.a6,X4 _,?_⟩⟩)
  rw[Z0k]
  have ha2:=(Gro.ins (S:=[m]) (by simp) f2 (.ins C dx1 ({ M.s with held:=.ref p }:MS).fs)).tups _ _ ((Gro.new (S:=[]) hp (.tup [.int ((x.1:Int)+1),.int x.2,v'])).tups _ _ ha1)
  refine(Ys ha2 rfl ⟨_,rfl,m,C,dx1,_,rfl,Z2,MT.cl,MT.a3,X4 _,?_⟩)
  rw[Z1g,Z93]
  exact onward (fun h=>hlo h.1) p hp
theorem Zcq{K:W.Frag}{σ:L2.St}{H:Hp}{Q:VK}{a:Addr}{n:Nat}{hi:Option Int}{xs:List V}(h1:σ[1]? = some (some (.ref a)))(h2:σ[2]? = some (some (.int n)))(ha:H a=some (.tup xs))(hx:Z3o xs 2=some (Z5i hi))(q:Q (.bl (Ua hi n)) H) :
  Zl2 (Zl3 (Z3l (Uu K) (Xc 1) (tC (.int 2)))) (Z3l (Zgk fun i j=>V.bl (decide (i<j))) (Xc 2) (Z3l (Uu K) (Xc 1) (tC (.int 2)))) σ H Q:=by
 refine⟨_,h1,a,_,_,_,rfl,rfl,SqT.of ha,hx,Z9 rfl (?_)⟩
 cases hi with
 |none=>exact Zp (by decide) q
 |some y=>exact Zf (by intro z;have z':=of_decide_eq_true z;cases z') ⟨_,h2,_,h1,a,_,_,_,rfl,rfl,SqT.of ha,hx,Xy rfl rfl q⟩
abbrev J5:Stmt:=top 28
theorem sc_do_turn:FnScope ["machine","row","turns","below","going","stopping","may_go","may_stop","little"] ["machine","row"] (Za J5):=V7
theorem Z81{lo:Int}{hi:Option Int}{how:How}{z:Nat}(MT:Txt K mg C)(O_Machine_enter:OwnM P w K mg base 1 C "enter" ["self","state"] (Uc C))(O_Machine_go_back:OwnM P w K mg base 2 C "go_back" ["self"] (Wn C))(F:Fun K "do_turn" "do_turn" J5 f fd):FnOk P w K mg base W3 3 f fd ["machine","row"] (Jm C (.turn lo hi how z)):=by
 refine F.ok sc_do_turn (fun vs H Q E h=>?_) (fun cdv A outer s H vs Q E hr h=>?_)
 ·obtain⟨m,a,ra,ch,t,n,M,c,rfl,_⟩:=h
  rfl
 obtain⟨m,a,ra,ch,t,n,M,c,rfl,hM,hA,hrow,ht,hci,hgo,hn,Xi,hcs,q⟩:=h
 refine V6 ?_
 intro Xz
 refine⟨_,(Z1 (pS 2 sc_do_turn.nd (Zd Zc (Zt (pv 0) rfl) Z4 (fun _ _=>rfl)))
  (Z1 (pS 3 sc_do_turn.nd (Zd Zc (Zt (pv 0) rfl) Z4 (fun _ _=>rfl)))
  (Z1 (pS 4 sc_do_turn.nd (Zr (Z0 (Zt (pv 0) rfl) (Z0 (Zt (pv 0) rfl) (Z0 (Zt (pv 0) rfl) (Z0 (Zr (Z0 (pv 2) (Z0 (Zt (pv 0) rfl) (Z0 (pv 3) Z3)))) Z3))))))
  (Z1 (pS 5 sc_do_turn.nd (Zr (Z0 (Zd Zc (pv 1) Z4 (fun _ _=>rfl)) (Z0 (Zt (pv 0) rfl) (Z0 (Zt (pv 0) rfl) (Z0 (pv 3) Z3))))))
  (Z1 (pS 6 sc_do_turn.nd (Zgz (Zdm (Th (Zd Zc (pv 1) Z4 (fun _ _=>rfl)))) (Z5v (X7 Vc (pv 2) (Zd Zc (pv 1) Z4 (fun _ _=>rfl)) (Ze _)))))
  (Z1 (pS 7 sc_do_turn.nd (X7 Zei (pv 2) (Zd Zc (pv 1) Z4 (fun _ _=>rfl)) (Ze _)))
  (Z5 (Zs (PW.pt (Vj (Wo (pv 6)) (Wl (Wo (pv 7))))) (Z1 (pS 8 sc_do_turn.nd (X7 Zv (Zd Zc (pv 1) Z4 (fun _ _=>rfl)) Zg (Ze _)))
  (Z1 (Zn (Yw PySem.F.plainAttrs_list PySem.F.slot_list_append PySem.F.type_list_append Zz (Zt (pv 0) rfl) (Z0 (W5 (Wo (pv 8)) (pv 4) (pv 5)) Z3)))
  (Z5 (Zn (X6 (O_Machine_enter.mono (by omega)) MT.cl hr (pv 0) (Z0 (W5 (Wo (pv 8)) (pv 5) (pv 4)) Z3)))))) (Z5 (Zs (Wo (pv 6)) (Z5 (Zn (X6 (O_Machine_enter.mono (by omega)) MT.cl hr (pv 0) (Z0 (pv 4) Z3)))) (Z5 (Zs (Wo (pv 7)) (Z5 (Zn (X6 (O_Machine_enter.mono (by omega)) MT.cl hr (pv 0) (Z0 (pv 5) Z3)))) (Z5 (Zn (Yo (O_Machine_go_back.mono (by omega)) MT.cl hr (pv 0)))))))))))))))),?_⟩
 refine Zi4 ?_
 intro Ez Az1 Az2 Az3 Az4 Az5 Az6 Az7 Az8 Az9 Az10 Az11 Az12 Az13 Az14
 obtain rfl:=hA.chs
 obtain rfl:=hA.text
 obtain⟨⟨dx,e1⟩,vs,hv,hvp⟩:=id hM
 obtain⟨a',e,ha⟩:=hrow
 cases e
 have hcl:=hA.cslen
 have hvl:=Paired.length hvp
 obtain⟨x,r,pa,v',hch,hheld,hpa,hl'⟩:=hA.top (Z1h Xi rfl (by intro z;cases z))
 have hfh:M.s.fs.lookup ("held":Str)=some (.ref pa):=by rw[Tc,hheld]
 refine(Z9 rfl ⟨m,C,dx,_,_,rfl,e1,MT.cl,MT.a6,hfh,pa,_,_,_,rfl,rfl,SqT.of hpa,Vw,?_⟩)
 refine(Z9 rfl ⟨m,C,dx,_,_,rfl,e1,MT.cl,MT.a6,hfh,pa,_,_,_,rfl,rfl,SqT.of hpa,rfl,?_⟩)
 refine(Z9 rfl ⟨m,C,dx,_,_,rfl,e1,MT.cl,MT.a3,Z5w _,Z9 rfl ⟨m,C,dx,_,_,rfl,e1,MT.cl,MT.a4,Vd _,Z9 rfl ⟨m,C,dx,_,_,rfl,e1,MT.cl,MT.a5,Wa _,Z9 rfl (Z9 rfl ⟨m,C,dx,_,_,rfl,e1,MT.cl,MT.a4,Vd _,Z9 rfl ⟨sz,fun p1 hp1=>⟨sz,fun p2 hp2=>?_⟩⟩⟩)⟩⟩⟩)
 have g1:Gro [] H (Zq (Zq H p1 (.tup [.int x.1,.int M.s.place,v'])) p2 (.tup [.int M.s.row,.int M.s.place,M.s.groups,.ref p1])):=(Gro.new hp1 _).tup hp2
 have t1:(Zq (Zq H p1 (.tup [.int x.1,.int M.s.place,v'])) p2 (.tup [.int M.s.row,.int M.s.place,M.s.groups,.ref p1])) p1=some (.tup [.int x.1,.int M.s.place,v']):=by rw[Zi (Z7 Z2 hp2)];exact Z2
 have t2:(Zq (Zq H p1 (.tup [.int x.1,.int M.s.place,v'])) p2 (.tup [.int M.s.row,.int M.s.place,M.s.groups,.ref p1])) p2=some (.tup [.int M.s.row,.int M.s.place,M.s.groups,.ref p1]):=Z2
 have hM1:=hM.gro g1 (by simp) (by simp)
 have f1:=g1.keep _ _ e1 (by simp)
 have ha1:=g1.tups _ _ ha
 generalize Zq (Zq H p1 (.tup [.int x.1,.int M.s.place,v'])) p2 (.tup [.int M.s.row,.int M.s.place,M.s.groups,.ref p1])=H1 at *
 refine(Ys ha1 rfl ⟨_,rfl,m,C,dx,_,_,rfl,f1,MT.cl,MT.a4,Vd _,_,rfl,m,C,dx,_,_,rfl,f1,MT.cl,MT.a5,Wa _,_,rfl,sz,fun p3 hp3=>?_⟩)
 have g2:=Gro.new (S:=[]) hp3 (.tup [.int z,.int M.s.place,M.s.groups,v'])
 have t3:(Zq H1 p3 (.tup [.int z,.int M.s.place,M.s.groups,v'])) p3=some (.tup [.int z,.int M.s.place,M.s.groups,v']):=Z2
 have hM2:=hM1.new (o:=.tup [.int z,.int M.s.place,M.s.groups,v']) hp3
 have f2:=g2.keep _ _ f1 (by simp)
 have ha2:=g2.tups _ _ ha1
 have t1':=g2.tups _ _ t1
 have t2':=g2.tups _ _ t2
 have g12:=g1.trans g2
 have hv2:=g12.keep _ _ hv (by simp)
 have hvp2:=Paired.mapP hvp fun _ _ q=>q.mono g12.tups
 generalize Zq H1 p3 (.tup [.int z,.int M.s.place,M.s.groups,v'])=H2 at *
 have hA2:=hA.mono g12.tups
 have hHl:HlAt H2 (.ref p1) ((x.1,c.i)::r):=⟨p1,v',rfl,by rw[t1',hA.pl],hl'.mono g12.tups⟩
 have Yv:(Op.turn lo hi how z).act M.s.text c=if Ua hi x.1=true then
    (if lo<=x.1 then(match how with
     |.little=>.run ⟨z,c.i,c.g,r,c.cs++[(c.r,c.i,c.g,(x.1,c.i)::r)]⟩
     |_=>.run ⟨c.r,c.i,c.g,(x.1,c.i)::r,c.cs++[(z,c.i,c.g,r)]⟩)
    else .run ⟨c.r,c.i,c.g,(x.1,c.i)::r,c.cs⟩)
   else if lo<=x.1 then .run ⟨z,c.i,c.g,r,c.cs⟩ else bk c.cs:=by
  cases how <;> simp only[Op.act,hch]
 have goG:∀(H3:Hp) (cs:List Zh4) (cs':List Ch),MAt C H3 m ⟨M.s,cs⟩->Gro [m,M.s.choices] H2 H3->Paired (ChA H3) cs cs'->(Op.turn lo hi how z).act M.s.text c=.run ⟨c.r,c.i,c.g,(x.1,c.i)::r,cs'⟩->Uc C [.ref m,.ref p2] H3 (fun _ H'=>Q .non H') E:=fun H3 cs cs' hM3 g3 hcs' hact' =>
  ⟨m,p2,⟨M.s,cs⟩,(M.s.row,M.s.place,M.s.groups,.ref p1),rfl,hM3,g3.tups _ _ t2',fun H' hM' g'=>by
   have gg:=(g12.mono (S':=[m,M.s.choices]) (by simp)).trans (g3.trans g')
   have hA3:=hA.mono gg.tups
   refine q H' _ hM' ?_ rfl rfl gg
   rw[hact']
   exact⟨hA3.rows,rfl,rfl,hA3.en,hA3.row,hA3.pl,hA3.gs,hHl.mono fun b xs h=>g'.tups _ _ (g3.tups _ _ h),Paired.mapP hcs' fun _ _ h=>h.mono g'.tups⟩⟩
 have goS:∀(H3:Hp) (cs:List Zh4) (cs':List Ch),MAt C H3 m ⟨M.s,cs⟩->Gro [m,M.s.choices] H2 H3->Paired (ChA H3) cs cs'->(Op.turn lo hi how z).act M.s.text c=.run ⟨z,c.i,c.g,r,cs'⟩->Uc C [.ref m,.ref p3] H3 (fun _ H'=>Q .non H') E:=fun H3 cs cs' hM3 g3 hcs' hact' =>
  ⟨m,p3,⟨M.s,cs⟩,((z:Int),M.s.place,M.s.groups,v'),rfl,hM3,g3.tups _ _ t3,fun H' hM' g'=>by
   have gg:=(g12.mono (S':=[m,M.s.choices]) (by simp)).trans (g3.trans g')
   have hA3:=hA.mono gg.tups
   refine q H' _ hM' ?_ rfl rfl gg
   rw[hact']
   exact⟨hA3.rows,rfl,rfl,hA3.en,rfl,hA3.pl,hA3.gs,hl'.mono gg.tups,Paired.mapP hcs' fun _ _ h=>h.mono g'.tups⟩⟩
 refine Zcq rfl rfl ha2 rfl ?_
 refine(Z9 rfl (Ys ha2 rfl ⟨_,_,rfl,rfl,?_⟩))
 refine(Z9 rfl (Z9 rfl (?_)))
 cases hG:Ua hi x.1 with
 |true =>
  rw[hG,if_pos rfl]at Yv
  refine Zp rfl (Z9 rfl (Z9 rfl (?_)))
  by_cases hlo:lo<=x.1
  ·rw[if_pos hlo]at Yv
   refine Zp (decide_eq_true hlo) ?_
   refine(Ys ha2 rfl ⟨rfl,?_⟩)
   refine(Z9 rfl ⟨m,C,dx,_,_,rfl,f2,MT.cl,MT.a7,X0 _,.inl ⟨rfl,_,SqL.of hv2⟩,Z9 rfl (Z9 rfl (?_))⟩)
   by_cases hl:how=.little
   ·subst hl
    refine Zp (show Xx "little" "little" = true by decide +kernel) (Z9 rfl ⟨M.s.choices,vs,Z9 rfl ⟨rfl,hv2,Z5z (by omega),?_⟩⟩)
    obtain⟨hM3,g3⟩:=hM2.push (q:=(M.s.row,M.s.place,M.s.groups,.ref p1)) hv2 hvp2 t2'
    obtain⟨⟨dx3,f3⟩,_⟩:=id hM3
    refine(Z9 rfl ⟨m,dx3,Z9 rfl ⟨f3,Tz _,Z9 rfl (Z9 rfl (Zp (show Xx "little" "little" = true by decide +kernel) (Z9 rfl (?_))))⟩⟩)
    exact goS _ _ _ hM3 (g3.mono (by simp)) ((Paired.mapP hA2.cs fun _ _ h=>h.mono g3.tups).snoc ⟨hA.row,hA.pl,hA2.gs.mono g3.tups,hHl.mono g3.tups⟩) Yv
   ·have hn':¬Xx how.text "little" = true:=by
     cases how with
     |little=>exact absurd rfl hl
     |much=>decide +kernel
     |keep=>decide +kernel
    have hact':(Op.turn lo hi how z).act M.s.text c=.run ⟨c.r,c.i,c.g,(x.1,c.i)::r,c.cs++[(z,c.i,c.g,r)]⟩:=by
     cases how with
     |little=>exact absurd rfl hl
     |much=>exact Yv
     |keep=>exact Yv
    refine Zf hn' (Z9 rfl ⟨M.s.choices,vs,Z9 rfl ⟨rfl,hv2,Z5z (by omega),?_⟩⟩)
    obtain⟨hM3,g3⟩:=hM2.push (q:=((z:Int),M.s.place,M.s.groups,v')) hv2 hvp2 t3
    obtain⟨⟨dx3,f3⟩,_⟩:=id hM3
    refine(Z9 rfl ⟨m,dx3,Z9 rfl ⟨f3,Tz _,Z9 rfl (Z9 rfl (Zf hn' (Z9 rfl (?_))))⟩⟩)
    exact goG _ _ _ hM3 (g3.mono (by simp)) ((Paired.mapP hA2.cs fun _ _ h=>h.mono g3.tups).snoc ⟨rfl,hA.pl,hA2.gs.mono g3.tups,(hl'.mono g12.tups).mono g3.tups⟩) hact'
  ·rw[if_neg hlo]at Yv
   refine Zf (fun z=>hlo (of_decide_eq_true z)) (Z9 rfl (Z9 rfl (Zp rfl ?_)))
   exact(Z9 rfl ⟨m,dx,Z9 rfl ⟨f2,Tz _,Z9 rfl (goG H2 M.cs c.cs hM2 Gro.refl hA2.cs Yv)⟩⟩)
 |false =>
  rw[hG,if_neg (by decide)]at Yv
  refine Zf (by decide) (Zf (by decide) (Z9 rfl (Z9 rfl (Zf (by decide) (Z9 rfl (Z9 rfl (?_)))))))
  by_cases hlo:lo<=x.1
  ·rw[if_pos hlo]at Yv
   refine Zp (decide_eq_true hlo) ?_
   exact(Z9 rfl ⟨m,dx,Z9 rfl ⟨f2,Tz _,Z9 rfl (goS H2 M.cs c.cs hM2 Gro.refl hA2.cs Yv)⟩⟩)
  ·rw[if_neg hlo]at Yv
   refine Zf (fun z=>hlo (of_decide_eq_true z)) (Z9 rfl ⟨m,dx,Z9 rfl ⟨f2,Yz _,m,M,rfl,hM2,by omega,fun H' hM' g'=>?_⟩⟩)
   have bf:=X1 M
   exact q H' _ hM' (by rw[Yv];exact hA2.back.mono g'.tups) bf.1 bf.2 ((g12.mono (by simp)).trans g')
end
theorem Z6k{H:Hp}{a:Addr}{o:Op}(h:RowAt H (.ref a) o.rw):∃r,H a=some (.tup (.str o.word::r)):=by
 cases o with
 |pat hd =>
  obtain⟨a',kv,e',l,_⟩:=h
  cases e'
  exact l.head
 |_=>obtain⟨a',e',h⟩:=h;cases e';exact⟨_,h⟩
def Cf.csl:Cf->Nat
 |.run c=>c.cs.length
 |.ended=>0
theorem Z8z(cs:List Ch):(bk cs).csl<=cs.length:=by
 unfold bk
 split
 ·exact Nat.zero_le _
 ·show cs.dropLast.length<=_
  rw[List.length_dropLast]
  omega
theorem Zgh(t:Str)(o:Op)(c:Cg):(o.act t c).csl<=c.cs.length+1:=by
 have b:=Z8z c.cs
 have one:∀q:Ch,(c.cs++[q]).length<=c.cs.length+1:=fun q=>by rw[List.length_append];exact Nat.le_refl _
 have tk:∀k,(c.cs.take k).length<=c.cs.length+1:=fun k=>by rw[List.length_take];omega
 cases o with
 |pat h =>
  cases h with
  |beg=>simp only[Op.act];split <;> first | exact Nat.le_succ _ | omega
  |fin=>simp only[Op.act];split <;> first | exact Nat.le_succ _ | omega
  |again k =>
   simp only[Op.act]
   split
   ·omega
   ·split <;> first | exact Nat.le_succ _ | omega
  |_=>simp only[Op.act];split <;> first | exact Nat.le_succ _ | omega
 |try_ z=>exact one _
 |go z=>exact Nat.le_succ _
 |have_ k z=>simp only[Op.act];split <;> exact Nat.le_succ _
 |turns=>exact Nat.le_succ _
 |open_=>exact Nat.le_succ _
 |close k=>simp only[Op.act];split <;> first | exact Nat.zero_le _ | exact Nat.le_succ _
 |turn lo hi how z =>
  simp only[Op.act]
  split
  ·exact Nat.zero_le _
  ·split
   ·split
    ·split <;> exact one _
    ·exact Nat.le_succ _
   ·split
    ·exact Nat.le_succ _
    ·omega
 |next lo z =>
  simp only[Op.act]
  split
  ·exact Nat.zero_le _
  ·split
   ·omega
   ·exact Nat.le_succ _
 |once=>exact Nat.le_succ _
 |kept=>simp only[Op.act];split <;> first | exact Nat.zero_le _ | exact tk _
 |peeked=>simp only[Op.act];split <;> first | exact Nat.zero_le _ | exact tk _
 |bar z=>exact one _
 |barred =>
  simp only[Op.act]
  split
  ·exact Nat.zero_le _
  ·rename_i p _ _
   have h1:=Z8z (c.cs.take p.1)
   have h2:=tk p.1
   omega
 |lean=>simp only[Op.act];split <;> first | exact one _ | exact Nat.le_succ _
 |here =>
  simp only[Op.act]
  split
  ·exact Nat.zero_le _
  ·split
   ·exact Nat.le_succ _
   ·omega
 |found=>exact Nat.le_succ _
theorem Vm(es:List Op)(t:Str)(M:Cf):∀k,(run es t k M).csl<=M.csl+k
 |0=>Nat.le_refl _
 |k+1=>by
  have ih:=Vm es t M k
  show(step es t (run es t k M)).csl<=_
  cases h:run es t k M with
  |ended=>exact Nat.zero_le _
  |run c =>
   rw[h]at ih
   have:=Zgh t (es.getD c.r .found) { c with r:=c.r+1 }
   show((es.getD c.r .found).act t { c with r:=c.r+1 }).csl<=_
   have ih':c.cs.length<=M.csl+k:=ih
   have th':_<=c.cs.length+1:=this
   omega
section
variable{P:Program}{w:World}{K:W.Frag}{mg:Str->Option Value}{base:Heap}{C:Addr}
theorem Z1k{o:Op}{row:Hp->Addr->Prop}{go:MM->MM}(hrow:∀H a,RowAt H (.ref a) o.rw->row H a)(hgo:∀(H:Hp) (ra ch:Addr) (t:Str) (n:Nat) (M:MM) (c:Cg),Ab H ra t ch M c->AbF H ra t ch (go M) (o.act t c)/\(go M).s.made=M.s.made/\(go M).s.found=o.fd M.s.found) :
  ∀vs H Q E,Jm C o vs H Q E->Z3b C Zbm row go vs H Q E:=by
 rintro vs H Q E ⟨m,a,ra,ch,t,n,M,c,rfl,hM,hA,hr,ht,hci,hg,hn,Xi,hcs,q⟩
 have hl:=hA.cslen
 refine⟨m,a,M,rfl,hM,by omega,⟨by rw[hA.pl];omega,by rw[hA.text];exact ht⟩,hrow H a hr,fun H' hM' g'=>?_⟩
 obtain⟨h1,h2,h3⟩:=hgo H ra ch t n M c hA
 have g'':Gro [m,ch] H H':=by rw[← hA.chs];exact g'
 exact q H' _ hM' (h1.mono g'.tups) h2 h3 g''
theorem Zgi{h:Hd}(h1:h.one=true)(H:Hp)(ra ch:Addr)(t:Str)(n:Nat)(M:MM)(c:Cg)(hA:Ab H ra t ch M c):AbF H ra t ch (MM.doSign h M) ((Op.pat h).act t c)/\(MM.doSign h M).s.made=M.s.made/\(MM.doSign h M).s.found=(Op.pat h).fd M.s.found:=by
 have Yv:(Op.pat h).act t c=if W7 h t c.i=true then .run { c with i:=c.i+1 } else bk c.cs:=by
  cases h <;> first | rfl | cases h1
 have b:=X1 M
 unfold MM.doSign
 rw[Yv,hA.text,hA.pl]
 split
 ·exact⟨⟨hA.rows,hA.text,hA.chs,hA.en,hA.row,by show(c.i:Int)+1=((c.i+1:Nat):Int);omega,hA.gs,hA.hl,hA.cs⟩,rfl,rfl⟩
 ·exact⟨hA.back,b.1,b.2⟩
theorem Zjg(H:Hp)(ra ch:Addr)(t:Str)(n:Nat)(M:MM)(c:Cg)(hA:Ab H ra t ch M c):AbF H ra t ch (MM.doBegin M) ((Op.pat .beg).act t c)/\(MM.doBegin M).s.made=M.s.made/\(MM.doBegin M).s.found=(Op.pat .beg).fd M.s.found:=by
 have b:=X1 M
 have Yv:(Op.pat .beg).act t c=if c.i=0 then .run c else bk c.cs:=rfl
 have hp:=hA.pl
 unfold MM.doBegin
 rw[Yv]
 by_cases e:c.i=0
 ·rw[if_pos e,if_pos (by omega)]
  exact⟨hA,rfl,rfl⟩
 ·rw[if_neg e,if_neg (by omega)]
  exact⟨hA.back,b.1,b.2⟩
theorem Zjf(H:Hp)(ra ch:Addr)(t:Str)(n:Nat)(M:MM)(c:Cg)(hA:Ab H ra t ch M c):AbF H ra t ch (MM.doEnd M) ((Op.pat .fin).act t c)/\(MM.doEnd M).s.made=M.s.made/\(MM.doEnd M).s.found=(Op.pat .fin).fd M.s.found:=by
 have b:=X1 M
 have Yv:(Op.pat .fin).act t c=if c.i=t.length then .run c else bk c.cs:=rfl
 have hp:=hA.pl
 unfold MM.doEnd
 rw[Yv,hA.text]
 by_cases e:c.i=t.length
 ·rw[if_pos e,if_pos (by omega)]
  exact⟨hA,rfl,rfl⟩
 ·rw[if_neg e,if_neg (by omega)]
  exact⟨hA.back,b.1,b.2⟩
structure DoesA(P:Program)(w:World)(K:W.Frag)(mg:Str->Option Value)(base:Heap)(kk:Nat)(ds:List (Ti×V))(C:Addr):Prop where
 all:∀o:Op,o.ok->Tells P w K mg base kk ds o.word (Jm C o)
def AM(H:Hp)(ra:Addr)(t:Str)(ch:Addr)(M:MM)(cf:Cf):Prop:=(M.s.found=false/\AbF H ra t ch M cf)∨(M.s.found=true/\∃c,Ab H ra t ch M c/\cf=bk c.cs)
theorem AM.fresh{H:Hp}{ra:Addr}{t:Str}{ch:Addr}{M:MM}{cf:Cf}(h:AM H ra t ch M cf):AbF H ra t ch M.fresh cf/\M.fresh.s.found=false/\M.fresh.s.made=M.s.made/\M.s.choices=ch:=by
 unfold MM.fresh
 rcases h with⟨h1,h2⟩ | ⟨h1,c,h2,rfl⟩
 ·rw[if_neg (by rw[h1];decide)]
  refine⟨h2,h1,rfl,?_⟩
  cases cf with
  |run c=>exact Ab.chs h2
  |ended=>exact AbE.chs h2
 ·rw[if_pos h1]
  have h3:Ab H ra t ch ⟨{ M.s with found:=false },M.cs⟩ c:=⟨h2.rows,h2.text,h2.chs,h2.en,h2.row,h2.pl,h2.gs,h2.hl,h2.cs⟩
  have b:=X1 ⟨{ M.s with found:=false },M.cs⟩
  exact⟨h3.back,b.2,b.1,h2.chs⟩
def Zl1(C:Addr)(Q:VK)(H:Hp)(m ra ch:Addr)(t:Str)(n:Nat)(es:List Op)(most:Int)(cf:Cf):Prop :=
 (∃(k:Nat) (c:Cg),Rc es t n cf k (.run c)/\es[c.r]? = some .found/\c.i<=t.length/\GOk t n c.g/\(k:Int)<most/\cf.csl+k<=999999 /\
  ∀(H':Hp) (tt:Addr) (gv:V) (M':MM),MAt C H' m M'->AM H' ra t ch M' (bk c.cs)->M'.cs.length=c.cs.length->H' tt=some (.tup [.str "way",.int c.i,gv])->GsAt H' gv c.g->Gro [m,ch] H H'->Q (.ref tt) H') ∨
 (∃k:Nat,Rc es t n cf k .ended/\(k:Int)<=most/\cf.csl+k<=999999 /\
  ∀(H':Hp) (tt:Addr) (M':MM),MAt C H' m M'->AM H' ra t ch M' .ended->M'.cs.length=0->H' tt=some (.tup [.str "none"])->Gro [m,ch] H H'->Q (.ref tt) H')
inductive spWayAI(C:Addr)(vs:List V)(H:Hp)(Q:VK):Prop
 |mk (m ra ch:Addr) (most:Int) (t:Str) (n:Nat) (es:List Op) (ys:List V) (M:MM) (cf:Cf) (_:vs=[.ref m,.int most]) (_:1<=most) (_:MAt C H m M) (_:AM H ra t ch M cf) (_:M.cs.length<=1000000) (_:H ra=some (.tup ys)) (_:Paired (RowAt H) ys (es.map Op.rw)) (_:(∀o∈es,o.ok)) (_:t.length<=1000) (_:n<=900) (_:Zl1 C Q H m ra ch t n es most cf)
def Z8m(C:Addr):Sp:=fun vs H Q _=>spWayAI C vs H Q
theorem Zka{kk:Nat}{ds:List (Ti×V)}(D:DoesA P w K mg base kk ds C):∀vs H Q E,Z8m C vs H Q E->Zeb P w K mg base kk ds C vs H Q E:=by
 rintro vs H Q E ⟨m,ra,ch,most,t,n,es,ys,M,cf,rfl,h1,hM,hAM,hz,hra,hp,hok,ht,hn,hw⟩
 obtain⟨hF,hff,hfm,hch⟩:=hAM.fresh
 subst hch
 have mv:∀(j:Nat) (M':MM) (H':Hp) (c:Cg) (o:Op),es[c.r]? = some o->MAt C H' m M'->Ab H' ra t M.s.choices M' c->c.i<=t.length->GOk t n c.g->(o.need n { c with r:=c.r+1 }∨o=.found)->c.cs.length<=1000000->Gro [m,M.s.choices] H H'->∀Q':VK,
   (∀(H2:Hp) (M2:MM),MAt C H2 m M2->AbF H2 ra t M.s.choices M2 (o.act t { c with r:=c.r+1 })->M2.s.made=M'.s.made+1->M2.s.found=o.fd M'.s.found->Gro [m,M.s.choices] H H2->Q' .non H2)->Jx P w K mg base kk ds C [.ref m] H' Q' E0:=by
  intro j M' H' c o ho hM' hA' hi hg Xi hcs g Q' hQ
  have hge:(es.map Op.rw)[c.r]? = some o.rw:=by rw[List.getElem?_map,ho];rfl
  obtain⟨v,hv,hrow⟩:=Tq hp hge
  have hrow':=hrow.mono g.tups
  obtain⟨a,rfl⟩:=Z3z hrow
  obtain⟨r,ha⟩:=Z6k hrow'
  have hat:Z3o ys M'.s.row=some (.ref a):=by rw[hA'.row];exact Ue hv
  refine⟨m,ra,a,ys,_,r,M',Jm C o,rfl,hM',hA'.rows,g.tups _ _ hra,hat,ha,D.all o (hok o (List.mem_of_getElem? ho)),fun H1 hM1 g1=>?_⟩
  have hA1:=hA'.mono g1.tups
  refine⟨m,a,ra,M.s.choices,t,n,M'.next,{ c with r:=c.r+1 },rfl,hM1,⟨hA1.rows,hA1.text,hA1.chs,hA1.en,by show M'.s.row+1=((c.r+1:Nat):Int);rw[hA'.row];omega,hA1.pl,hA1.gs,hA1.hl,hA1.cs⟩,hrow'.mono g1.tups,ht,hi,hg,hn,Xi,⟨hcs,Nat.le_add_left 1 _⟩,fun H2 M2 hM2 hA2 hm2 hf2 g2=>?_⟩
  exact hQ H2 M2 hM2 hA2 hm2 hf2 (g.trans ((g1.mono (by simp)).trans g2))
 have getD_of:∀(r:Nat),r<es.length->es[r]? = some (es.getD r .found):=fun r h=>by rw[List.getD_eq_getElem?_getD,List.getElem?_eq_getElem h];rfl
 have noF:∀(o:Op) (c:Cg),o.need n c->∀b,o.fd b=b:=fun o c h b=>by cases o <;> first | rfl | exact h.elim
 rcases hw with⟨k,c0,rc,hfd,hi0,hg0,hkm,hcsb,fin⟩ | ⟨k,rc,hkm,hcsb,fin⟩
 ·refine⟨m,most,M,fun j M' H'=>j<=k/\MAt C H' m M'/\AbF H' ra t M.s.choices M' (run es t j cf)/\M'.s.made=M.s.made+j/\M'.s.found=false/\Gro [m,M.s.choices] H H',rfl,hM,h1,hz,⟨?_,?_,?_,?_,?_⟩⟩
  ·exact fun H' hM' g=>⟨Nat.zero_le _,hM',hF.mono g.tups,by rw[hfm];simp,hff,g⟩
  ·rintro j M' H' ⟨hj,hM',_,hm,hf,_⟩
   exact⟨hM',hm,hf,by omega⟩
  ·rintro j M' H' ⟨hj,hM',hA',hm,hf,g⟩ he
   exfalso
   have:∃c,run es t j cf=.run c:=by
    by_cases hlt:j<k
    ·obtain⟨c,h,_⟩:=rc.live j hlt
     exact⟨c,h⟩
    ·rw[show j=k by omega]
     exact⟨c0,rc.eq⟩
   obtain⟨c,h⟩:=this
   rw[h]at hA'
   have:=Ab.en hA'
   rw[he]at this
   cases this
  ·rintro j M' H' ⟨hj,_⟩ _ hjm
   omega
  ·rintro j M' H' ⟨hj,hM',hA',hm,hf,g⟩ he hjm Q' hQ
   have hcl:=Vm es t cf j
   by_cases hlt:j<k
   ·obtain⟨c,h,lv⟩:=rc.live j hlt
    rw[h]at hA' hcl
    have ho:=getD_of c.r lv.r
    have hcl':c.cs.length<=cf.csl+j:=hcl
    refine mv j M' H' c _ ho hM' hA' lv.i lv.g (.inl lv.op) (by omega) g Q' fun H2 M2 hM2 hA2 hm2 hf2 g2=>hQ _ H2 M2 hM2 (.inr ⟨?_,by omega,hM2,?_,by rw[hm2,hm];omega,?_,g2⟩)
    ·rw[hf2,noF _ _ lv.op,hf]
    ·show AbF H2 ra t M.s.choices M2 (step es t (run es t j cf))
     rw[h]
     exact hA2
    ·rw[hf2,noF _ _ lv.op,hf]
   ·have hjk:j=k:=by omega
    subst hjk
    rw[rc.eq]at hA' hcl
    have hcl':c0.cs.length<=cf.csl+j:=hcl
    refine mv j M' H' c0 _ hfd hM' hA' hi0 hg0 (.inr rfl) (by omega) g Q' fun H2 M2 hM2 hA2 hm2 hf2 g2=>hQ _ H2 M2 hM2 (.inl ⟨hf2,fun tt htt=>?_⟩)
    have hA3:Ab H2 ra t M.s.choices M2 { c0 with r:=c0.r+1 }:=hA2
    have g3:=Gro.new (S:=[]) htt (.tup [.str "way",.int M2.s.place,M2.s.groups])
    have hA4:=hA3.mono g3.tups
    exact fin _ tt M2.s.groups M2 (hM2.new htt) (.inr ⟨hf2,_,hA4,rfl⟩) hA4.cslen (by rw[Z2,hA3.pl]) hA4.gs (g2.trans (g3.mono (by simp)))
 ·refine⟨m,most,M,fun j M' H'=>j<=k/\MAt C H' m M'/\AbF H' ra t M.s.choices M' (run es t j cf)/\M'.s.made=M.s.made+j/\M'.s.found=false/\Gro [m,M.s.choices] H H',rfl,hM,h1,hz,⟨?_,?_,?_,?_,?_⟩⟩
  ·exact fun H' hM' g=>⟨Nat.zero_le _,hM',hF.mono g.tups,by rw[hfm];simp,hff,g⟩
  ·rintro j M' H' ⟨hj,hM',_,hm,hf,_⟩
   exact⟨hM',hm,hf,by omega⟩
  ·rintro j M' H' ⟨hj,hM',hA',hm,hf,g⟩ he tt htt
   have hjk:j=k:=by
    by_cases hlt:j<k
    ·obtain⟨c,h,_⟩:=rc.live j hlt
     rw[h]at hA'
     have:=Ab.en hA'
     rw[he]at this
     cases this
    ·omega
   subst hjk
   rw[rc.eq]at hA'
   have g3:=Gro.new (S:=[]) htt (.tup [.str "none"])
   have hE:AbE ra t M.s.choices M':=hA'
   exact fin _ tt M' (hM'.new htt) (.inl ⟨hf,hE⟩) (by rw[hE.cs];rfl) Z2 (g.trans (g3.mono (by simp)))
  ·rintro j M' H' ⟨hj,hM',hA',hm,hf,g⟩ he hjm
   exfalso
   have hjk:j=k:=by omega
   subst hjk
   rw[rc.eq]at hA'
   have hE:AbE ra t M.s.choices M':=hA'
   rw[hE.en]at he
   cases he
  ·rintro j M' H' ⟨hj,hM',hA',hm,hf,g⟩ he hjm Q' hQ
   have hcl:=Vm es t cf j
   have hlt:j<k:=by
    by_cases hlt:j<k
    ·exact hlt
    ·exfalso
     have hjk:j=k:=by omega
     subst hjk
     rw[rc.eq]at hA'
     have hE:AbE ra t M.s.choices M':=hA'
     rw[hE.en]at he
     cases he
   obtain⟨c,h,lv⟩:=rc.live j hlt
   rw[h]at hA' hcl
   have ho:=getD_of c.r lv.r
   have hcl':c.cs.length<=cf.csl+j:=hcl
   refine mv j M' H' c _ ho hM' hA' lv.i lv.g (.inl lv.op) (by omega) g Q' fun H2 M2 hM2 hA2 hm2 hf2 g2=>hQ _ H2 M2 hM2 (.inr ⟨?_,by omega,hM2,?_,by rw[hm2,hm];omega,?_,g2⟩)
   ·rw[hf2,noF _ _ lv.op,hf]
   ·show AbF H2 ra t M.s.choices M2 (step es t (run es t j cf))
    rw[h]
    exact hA2
   ·rw[hf2,noF _ _ lv.op,hf]
end
structure MachDefsA(K:W.Frag)(mg:Str->Option Value)(C:Addr):Prop where
 base_:MachDefs K mg C
 hold:MDef K C "hold" "Machine.hold" Wf ["self","number"]
 let_go:MDef K C "let_go" "Machine.let_go" Xo ["self"]
 drop:MDef K C "drop_choices" "Machine.drop_choices" Yr ["self","size"]
 entry:MDef K C "entry" "Machine.entry" W1 ["self","number"]
structure DoingsA(K:W.Frag)(ds:List (Ti×V)):Prop where
 sign:Dn K ds "sign" "do_sign" X5 ["machine","row"]
 any:Dn K ds "any" "do_sign" X5 ["machine","row"]
 inn:Dn K ds "in" "do_sign" X5 ["machine","row"]
 out:Dn K ds "out" "do_sign" X5 ["machine","row"]
 beg:Dn K ds "begin" "do_begin" T2 ["machine","row"]
 fin:Dn K ds "end" "do_end" Z0c ["machine","row"]
 again:Dn K ds "again" "do_again" T3 ["machine","row"]
 try_:Dn K ds "try" "do_try" Z0b ["machine","row"]
 go:Dn K ds "go" "do_go" Z20 ["machine","row"]
 have_:Dn K ds "have" "do_have" Jb ["machine","row"]
 turns:Dn K ds "turns" "do_hold" Vs ["machine","row"]
 open_:Dn K ds "open" "do_hold" Vs ["machine","row"]
 close:Dn K ds "close" "do_close" T1 ["machine","row"]
 turn:Dn K ds "turn" "do_turn" J5 ["machine","row"]
 next:Dn K ds "next" "do_next" J7 ["machine","row"]
 once:Dn K ds "once" "do_once" J6 ["machine","row"]
 kept:Dn K ds "kept" "do_kept" J9 ["machine","row"]
 peeked:Dn K ds "peeked" "do_peeked" U6 ["machine","row"]
 bar:Dn K ds "bar" "do_bar" Z0d ["machine","row"]
 barred:Dn K ds "barred" "do_barred" U7 ["machine","row"]
 lean:Dn K ds "lean" "do_lean" J8 ["machine","row"]
 here:Dn K ds "here" "do_here" Ja ["machine","row"]
 found:Dn K ds "found" "do_found" T0 ["machine","row"]
section
variable{P:Program}{w:World}{K:W.Frag}{mg:Str->Option Value}{base:Heap}{C f:Addr}{fd:FuncData}
theorem Z77{ds:List (Ti×V)}(T:Blt mg)(MA:MachDefsA K mg C)(DD:DoingsA K ds)(p1:Def K mg "takes_sign" Xe ["row","text","at"])(p2:Def K mg "lies_in" Wt ["runs","sign"])(p3:Def K mg "with_entry" Xd ["groups","number","begin","end"]):DoesA P w K mg base 3 ds C:=by
 have MD:=MA.base_
 have li:Own P w K mg base 1 "lies_in" ["runs","sign"] Z8o:=p2.own fun _ _ F=>Z7z F
 have ta:Own P w K mg base 2 "takes_sign" ["row","text","at"] Z50:=p1.own fun _ _ F=>Z3j T li F
 have we:Own P w K mg base 1 "with_entry" ["groups","number","begin","end"] Z8l:=p3.own fun _ _ F=>Zfj F
 have en:OwnM P w K mg base 1 C "enter" ["self","state"] (Uc C):=MD.enter.own fun _ _ F=>Z2w MD.tx F
 have gb:OwnM P w K mg base 2 C "go_back" ["self"] (Wn C):=MD.go_back.own fun _ _ F=>Jr T MD.tx en F
 have ho:OwnM P w K mg base 1 C "hold" ["self","number"] (Z0h C):=MA.hold.own fun _ _ F=>Zfs MD.tx F
 have lg:OwnM P w K mg base 1 C "let_go" ["self"] (Jy C):=MA.let_go.own fun _ _ F=>Zb1 MD.tx F
 have dr:OwnM P w K mg base 1 C "drop_choices" ["self","size"] (Z0i C):=MA.drop.own fun _ _ F=>Zfy T MD.tx F
 have et:OwnM P w K mg base 1 C "entry" ["self","number"] (Z5p C):=MA.entry.own fun _ _ F=>Zce T MD.tx F
 have sg:∀h:Hd,h.one=true->∀f fd,Fun K "do_sign" "do_sign" X5 f fd->FnOk P w K mg base W3 3 f fd ["machine","row"] (Jm C (.pat h)):=fun h h1 f fd F =>
  (Z82 (P:=P) (w:=w) (base:=base) h1 MD.tx ta gb F).imp (Z1k (fun _ _ h=>h) (Zgi h1))
 refine⟨fun o hok=>?_⟩
 cases o with
 |pat h =>
  cases h with
  |sign x=>exact DD.sign.tells (sg (.sign x) rfl)
  |any=>exact DD.any.tells (sg .any rfl)
  |inn x=>exact DD.inn.tells (sg (.inn x) rfl)
  |out x=>exact DD.out.tells (sg (.out x) rfl)
  |beg=>exact DD.beg.tells fun _ _ F=>(Z69 MD.tx gb F).imp (Z1k (fun _ _ h=>h) Zjg)
  |fin=>exact DD.fin.tells fun _ _ F=>(Zb3 T MD.tx gb F).imp (Z1k (fun _ _ h=>h) Zjf)
  |again k=>exact DD.again.tells fun _ _ F=>Z6a MD.tx gb et F
  |_=>cases hok
 |try_ z=>exact DD.try_.tells fun _ _ F=>((Zb2 (z:=(z:Int)) MD.tx F).mono (by decide)).imp (Z1k (fun _ _ h=>h) fun H ra ch t n M c hA=>⟨⟨hA.rows,hA.text,hA.chs,hA.en,hA.row,hA.pl,hA.gs,hA.hl,hA.cs.snoc ⟨rfl,hA.pl,hA.gs,hA.hl⟩⟩,rfl,rfl⟩)
 |go z=>exact DD.go.tells fun _ _ F=>((Zcg (z:=(z:Int)) MD.tx F).mono (by decide)).imp (Z1k (fun _ _ h=>h) fun H ra ch t n M c hA=>⟨⟨hA.rows,hA.text,hA.chs,hA.en,rfl,hA.pl,hA.gs,hA.hl,hA.cs⟩,rfl,rfl⟩)
 |have_ k z=>exact DD.have_.tells fun _ _ F=>(Z88 MD.tx et F).mono (by decide)
 |turns=>exact DD.turns.tells fun _ _ F=>(Z2j (.inl rfl) MD.tx ho F).mono (by decide)
 |open_=>exact DD.open_.tells fun _ _ F=>(Z2j (.inr rfl) MD.tx ho F).mono (by decide)
 |close k=>exact DD.close.tells fun _ _ F=>(Z68 MD.tx lg we F).mono (by decide)
 |turn lo hi how z=>exact DD.turn.tells fun _ _ F=>Z81 MD.tx en gb F
 |next lo z=>exact DD.next.tells fun _ _ F=>Z84 MD.tx lg gb F
 |once=>exact DD.once.tells fun _ _ F=>(Z83 T MD.tx ho F).mono (by decide)
 |kept=>exact DD.kept.tells fun _ _ F=>(Z86 MD.tx lg dr F).mono (by decide)
 |peeked=>exact DD.peeked.tells fun _ _ F=>(Z4q MD.tx lg dr F).mono (by decide)
 |bar z=>exact DD.bar.tells fun _ _ F=>(Zb4 T MD.tx ho F).mono (by decide)
 |barred=>exact DD.barred.tells fun _ _ F=>Z4r MD.tx lg dr gb F
 |lean=>exact DD.lean.tells fun _ _ F=>(Z85 MD.tx F).mono (by decide)
 |here=>exact DD.here.tells fun _ _ F=>Z87 MD.tx gb F
 |found =>
  refine DD.found.tells fun _ _ F=>((Z67 MD.tx F).mono (by decide)).imp fun vs H Q E h=>?_
  obtain⟨m,a,M,rfl,hM,hz,_,⟨a',e',ha⟩,q⟩:=Z1k (C:=C) (o:=.found) (row:=fun H a=>RowAt H (.ref a) (Op.rw .found)) (go:=MM.doFound) (fun _ _ h=>h) (fun H ra ch t n M c hA=>⟨⟨hA.rows,hA.text,hA.chs,hA.en,hA.row,hA.pl,hA.gs,hA.hl,hA.cs⟩,rfl,rfl⟩) vs H Q E h
  cases e'
  exact⟨m,a,M,rfl,hM,hz,trivial,ha,q⟩
theorem Zc5{dn:Addr}{ds:List (Ti×V)}(T:Blt mg)(MA:MachDefsA K mg C)(Wj:mg "DOINGS" = some (.ref dn))(hDN:Zen K w dn ds)(DD:DoingsA K ds)(p1:Def K mg "takes_sign" Xe ["row","text","at"])(p2:Def K mg "lies_in" Wt ["runs","sign"])(p3:Def K mg "with_entry" Xd ["groups","number","begin","end"]):OwnM P w K mg base 6 C "way" ["self","most"] (Z8m C):=by
 have MD:=MA.base_
 have en:OwnM P w K mg base 1 C "enter" ["self","state"] (Uc C):=MD.enter.own fun _ _ F=>Z2w MD.tx F
 have gb:OwnM P w K mg base 2 C "go_back" ["self"] (Wn C):=MD.go_back.own fun _ _ F=>Jr T MD.tx en F
 have mv:OwnM P w K mg base (3+1) C "move" ["self"] (Jx P w K mg base 3 ds C):=MD.move.own fun _ _ F=>Z9o MD.tx Wj hDN F
 exact MD.way.own fun _ _ F=>(Zdr (kk:=3) MD.tx mv gb F).imp (Zka (Z77 T MA DD p1 p2 p3))
inductive spHoldI(vs:List V)(H:Hp)(Q:VK):Prop
 |mk (r:Addr) (xs:List V) (_:vs=[.ref r]) (_:H r=some (.lst xs)) (_:xs.length<=1000000) (_:∀(t:Addr) (H':Hp),H' r=some (.lst (xs++[.ref t]))->H' t=some (.tup [])->Gro [r] H H'->Q (.int xs.length) H')
def Z1d:Sp:=fun vs H Q _=>spHoldI vs H Q
def Zeq(Q:VK)(H:Hp)(r:Addr)(xs:List V)(rs:List Rw):Prop:=∀(ys:List V) (H':Hp),H' r=some (.lst (xs++ys))->Paired (RowAt H') ys rs->Gro [r] H H'->Q .non H'
inductive spPutI(n:Nat)(vs:List V)(H:Hp)(Q:VK):Prop
 |mk (r:Addr) (v:V) (xs:List V) (p:Pat) (_:vs=[.ref r,v]) (_:PatAt H n v p) (_:H r=some (.lst xs)) (_:xs.length+7*p.size<=1000000) (_:Zeq Q H r xs (p.code xs.length))
def Z1s(n:Nat):Sp:=fun vs H Q _=>spPutI n vs H Q
inductive spPutOrI(n:Nat)(vs:List V)(H:Hp)(Q:VK):Prop
 |mk (r b:Addr) (xs kv:List V) (ks:List Pat) (_:vs=[.ref r,.ref b]) (_:H b=some (.tup kv)) (_:Paired (PatAt H n) kv ks) (_:1<=kv.length) (_:kv.length<=10) (_:H r=some (.lst xs)) (_:xs.length+7*(Ya ks+1)<=1000000) (_:Zeq Q H r xs (Zjh (ks.map Pat.code) xs.length))
def Z96(n:Nat):Sp:=fun vs H Q _=>spPutOrI n vs H Q
def How.ext:How->Nat
 |.keep=>7 | _=>6
inductive spPutTimesI(ok:How->Prop)(n:Nat)(vs:List V)(H:Hp)(Q:VK):Prop
 |mk (r:Addr) (lo:Int) (hi:Option Int) (how:How) (v:V) (xs:List V) (p:Pat) (_:vs=[.ref r,.int lo,Z5i hi,.str how.text,v]) (_:ok how) (_:PatAt H n v p) (_:H r=some (.lst xs)) (_:xs.length+7*p.size+how.ext<=1000000) (_:Zeq Q H r xs (Jw lo hi how p.code xs.length))
def Wq(ok:How->Prop)(n:Nat):Sp:=fun vs H Q _=>spPutTimesI ok n vs H Q
inductive spPutHaveI(n:Nat)(vs:List V)(H:Hp)(Q:VK):Prop
 |mk (r:Addr) (k:Int) (y z:V) (xs:List V) (p q:Pat) (_:vs=[.ref r,.int k,y,z]) (_:PatAt H n y p) (_:PatAt H n z q) (_:H r=some (.lst xs)) (_:xs.length+7*(p.size+q.size+1)<=1000000) (_:Zeq Q H r xs (Zab k p.code q.code xs.length))
def Z3w(n:Nat):Sp:=fun vs H Q _=>spPutHaveI n vs H Q
inductive spPutLookI(n:Nat)(vs:List V)(H:Hp)(Q:VK):Prop
 |mk (r:Addr) (lk:Lk) (v:V) (xs:List V) (p:Pat) (_:vs=[.ref r,.str lk.text,v]) (_:PatAt H n v p) (_:H r=some (.lst xs)) (_:xs.length+7*(p.size+1)<=1000000) (_:Zeq Q H r xs (Tn lk p.code xs.length))
def Z3v(n:Nat):Sp:=fun vs H Q _=>spPutLookI n vs H Q
abbrev Wh:Stmt:=top 6
theorem Z3i:FnScope ["rows"] ["rows"] (Za Wh):=V7
theorem Z3k(T:Blt mg)(F:Fun K "hold_place" "hold_place" Wh f fd):FnOk P w K mg base W3 1 f fd ["rows"] Z1d:=by
 refine F.ok Z3i (fun vs H Q E h=>?_) (fun cdv A outer s H vs Q E hr h=>?_)
 ·obtain⟨r,xs,rfl,_⟩:=h
  rfl
 obtain⟨r,xs,rfl,hr0,hz,q⟩:=h
 refine V6 ?_
 intro Xz
 refine⟨_,(Z1 (Zn (Yw PySem.F.plainAttrs_list PySem.F.slot_list_append PySem.F.type_list_append Zz (pv 0) (Z0 (Zr Z3) Z3)))
  (Z5 (Zl (Zx X3 (Zy Y8 rfl T.b_len PyProof.Rows.Boot.«len» (Z0 (pv 0) Z3)) Z4)))),?_⟩
 refine Z1e ?_
 intro Ez Az1
 refine(Z9 rfl ⟨.inl ⟨rfl,_,SqL.of hr0⟩,sz,fun t ht=>⟨r,xs,Z9 rfl ⟨rfl,W6 hr0 ht,Z5z hz,?_⟩⟩⟩)
 refine(Z9 rfl ⟨r,Z9 rfl ⟨.inl (SqL.of Z2),Xy rfl rfl (?_)⟩⟩)
 have e:((xs++[V.ref t]).length:Int)-1=xs.length:=by simp
 show Q (V.int (((xs++[V.ref t]).length:Int)-1)) _
 rw[e]
 exact q t _ Z2 (Ve hr0 ht) (Vf hr0 ht)
abbrev V2:Stmt:=top 8
theorem sc_put_times:FnScope ["rows","low","high","how","part","turn"] ["rows","low","high","how","part"] (Za V2):=V7
theorem Z04{n k:Nat}{ok ok':How->Prop}(hk:∀how,ok how->how=.keep->ok' .much)(T:Blt mg)(O_hold_place:Own P w K mg base 1 "hold_place" ["rows"] Z1d)(O_put:Own P w K mg base (2+k) "put" ["rows","pattern"] (Z1s n))(O_put_times:Own P w K mg base (2+k) "put_times" ["rows","low","high","how","part"] (Wq ok' n))
  (F:Fun K "put_times" "put_times" V2 f fd):FnOk P w K mg base W3 (2+k+1) f fd ["rows","low","high","how","part"] (Wq ok n):=by
 refine F.ok sc_put_times (fun vs H Q E h=>?_) (fun cdv A outer s H vs Q E hr h=>?_)
 ·obtain⟨r,lo,hi,how,v,xs,p,rfl,_⟩:=h
  rfl
 obtain⟨r,lo,hi,how,v,xs,p,rfl,hok,hp,hr0,hz,q⟩:=h
 refine V6 ?_
 intro Xz
 refine⟨_,(Z1 (Zs (Zb Zv (pv 3) Zg (Ze _)) (Z1 (Zn (Yw PySem.F.plainAttrs_list PySem.F.slot_list_append PySem.F.type_list_append Zz (pv 0) (Z0 (Zr (Z0 Zg Z3)) Z3)))
  (Z1 (Zn (Zj (O_put_times.mono (by omega)) hr rfl (Z0 (pv 0) (Z0 (pv 1) (Z0 (pv 2) (Z0 Zg (Z0 (pv 4) Z3)))))))
  (Z1 (Zn (Yw PySem.F.plainAttrs_list PySem.F.slot_list_append PySem.F.type_list_append Zz (pv 0) (Z0 (Zr (Z0 Zg Z3)) Z3)))
  (Z5 Z9b)))) Zk)
  (Z1 (Zn (Yw PySem.F.plainAttrs_list PySem.F.slot_list_append PySem.F.type_list_append Zz (pv 0) (Z0 (Zr (Z0 Zg Z3)) Z3)))
  (Z1 (pS 5 sc_put_times.nd (Zj (O_hold_place.mono (by omega)) hr rfl (Z0 (pv 0) Z3)))
  (Z1 (Zn (Zj (O_put.mono (by omega)) hr rfl (Z0 (pv 0) (Z0 (pv 4) Z3))))
  (Z1 (Zn (Yw PySem.F.plainAttrs_list PySem.F.slot_list_append PySem.F.type_list_append Zz (pv 0) (Z0 (Zr (Z0 Zg (Z0 (pv 1) (Z0 (pv 5) Z3)))) Z3)))
  (Z5 (U1 (Zr (Z0 Zg (Z0 (pv 1) (Z0 (pv 2) (Z0 (pv 3) (Z0 (Zy Y8 rfl T.b_len PyProof.Rows.Boot.«len» (Z0 (pv 0) Z3)) Z3)))))) (U2 (pv 0) (pv 5) Xp)))))))),?_⟩
 refine Zhd ?_
 intro Ez Az1 Az2 Az3 Az4 Az5 Az6 Az7 Az8 Az9
 refine(Z9 rfl ⟨rfl,Z9 rfl (Ym (fun z=>?_) (fun z=>?_))⟩)
 ·have hk':how=.keep:=by
   cases how with
   |keep=>rfl
   |much=>exact absurd z (by decide +kernel)
   |little=>exact absurd z (by decide +kernel)
  subst hk'
  have hz:xs.length+7*p.size+7<=1000000:=hz
  refine(Z9 rfl ⟨.inl ⟨rfl,_,SqL.of hr0⟩,sz,fun t ht=>⟨r,xs,Z9 rfl ⟨rfl,W6 hr0 ht,Z5z (by omega),?_⟩⟩⟩)
  have g1:Gro [r] H _:=Vf (zs:=xs++[.ref t]) (o:=.tup [.str "once"]) hr0 ht
  have e1:(xs++[V.ref t]).length=xs.length+1:=by simp
  refine(Z9 rfl (Z9 rfl (Z9 rfl (Z9 rfl ⟨r,lo,hi,.much,v,xs++[.ref t],p,rfl,hk _ hok rfl,hp.mono g1.tups,Z2,by rw[e1];show _+6<=_;omega,fun ys H2 hr2 hp2 g2=>?_⟩))))
  rw[e1]at hp2
  have hl:=Paired.length hp2
  have hf:=Pat.code_fits p (xs.length+1+2)
  have hl2:(xs++[V.ref t]++ys).length<=1000000:=by
   rw[List.length_append,e1,hl]
   show _+(Z1q lo hi "much" p.code (xs.length+1)).length<=_
   rw[J2]
   omega
  refine(Z9 rfl ⟨.inl ⟨rfl,_,SqL.of hr2⟩,sz,fun t2 ht2=>⟨r,Xy rfl rfl ⟨W6 hr2 ht2,Z5z hl2,?_⟩⟩⟩)
  have g3:Gro [r] H2 _:=Vf (zs:=xs++[V.ref t]++ys++[V.ref t2]) (o:=.tup [.str "kept"]) hr2 ht2
  have et:H2 t=some (.tup [.str "once"]):=g2.tups _ _ (Ve hr0 ht)
  refine q (.ref t::(ys++[.ref t2])) _ (by simp[Z2]) ?_ ((g1.trans g2).trans g3)
  exact .cons ⟨t,rfl,g3.tups _ _ et⟩ (Zw (Y7 g3.tups hp2) (.cons ⟨t2,rfl,Ve hr2 ht2⟩ .nil))
 ·have hT:Jw lo hi how p.code=Z1q lo hi how.text p.code:=by
   cases how with
   |keep=>exact absurd (by decide +kernel) z
   |much=>rfl
   |little=>rfl
  rw[hT]at q
  have hz:xs.length+7*p.size+6<=1000000:=by
   cases how with
   |keep=>exact absurd (by decide +kernel) z
   |much=>exact hz
   |little=>exact hz
  have hf:=Pat.code_fits p (xs.length+2)
  refine(Z9 rfl ⟨.inl ⟨rfl,_,SqL.of hr0⟩,sz,fun t ht=>⟨r,xs,Z9 rfl ⟨rfl,W6 hr0 ht,Z5z (by omega),?_⟩⟩⟩)
  have g1:Gro [r] H _:=Vf (zs:=xs++[.ref t]) (o:=.tup [.str "turns"]) hr0 ht
  have e1:(xs++[V.ref t]).length=xs.length+1:=by simp
  refine(Z9 rfl ⟨r,_,rfl,Z2,by rw[e1];omega,fun t1 H2 hr2 ht1 g2=>?_⟩)
  have e2:(xs++[V.ref t]++[V.ref t1]).length=xs.length+2:=by simp
  have g12:=g1.trans g2
  refine(Z9 rfl (Z9 rfl ⟨r,v,_,p,rfl,hp.mono g12.tups,hr2,by rw[e2];omega,fun ys H3 hr3 hp3 g3=>?_⟩))
  rw[e2]at hp3
  have hl:=Paired.length hp3
  have hl2:(xs++[V.ref t]++[V.ref t1]++ys).length<=1000000:=by rw[List.length_append,e2,hl];omega
  refine(Z9 rfl ⟨.inl ⟨rfl,_,SqL.of hr3⟩,Z9 rfl (Z9 rfl ⟨sz,fun t2 ht2=>⟨r,Xy rfl rfl ⟨W6 hr3 ht2,Z5z hl2,?_⟩⟩⟩)⟩)
  have g4:Gro [r] H3 _:=Vf (zs:=xs++[V.ref t]++[V.ref t1]++ys++[V.ref t2]) (o:=.tup [.str "next",.int lo,.int ((xs++[V.ref t]).length:Nat)]) hr3 ht2
  refine(Z9 rfl (Z9 rfl (Z9 rfl (Z9 rfl ⟨r,Z9 rfl ⟨.inl (SqL.of Z2),sz,fun t3 ht3=>?_⟩⟩))))
  refine(Z9 rfl (Z9 rfl ⟨r,_,_,xs.length+1,rfl,rfl,W6 Z2 ht3,by rw[e1];exact Tb (by simp),?_⟩))
  have g5:Gro [r] _ (Zq (Zq (Zq (Zq H3 t2 (.tup [.str "next",.int lo,.int ((xs++[V.ref t]).length:Nat)])) r (.lst (xs++[V.ref t]++[V.ref t1]++ys++[V.ref t2]))) t3 (.tup [.str "turn",.int lo,Z5i hi,.str how.text,.int ((xs++[V.ref t]++[V.ref t1]++ys++[V.ref t2]).length:Nat)])) r (HO.lst ((xs++[V.ref t]++[V.ref t1]++ys++[V.ref t2]).set (xs.length+1) (V.ref t3)))):=Vf Z2 ht3
  have eL:(xs++[V.ref t]++[V.ref t1]++ys++[V.ref t2]).set (xs.length+1) (.ref t3)=xs++(.ref t::.ref t3::(ys++[.ref t2])):=by
   rw[show xs++[V.ref t]++[V.ref t1]++ys++[V.ref t2]=(xs++[V.ref t])++V.ref t1::(ys++[V.ref t2]) by simp,Z35 (by simp)]
   simp
  rw[eL]at g5 ⊢
  have et:H3 t=some (.tup [.str "turns"]):=g3.tups _ _ (g2.tups _ _ (Ve hr0 ht))
  refine q _ _ Z2 ?_ (((g12.trans g3).trans g4).trans g5)
  refine .cons ⟨t,rfl,g5.tups _ _ (g4.tups _ _ et)⟩ (.cons ⟨t3,rfl,?_⟩ (Zw (Y7 (fun b xs h=>g5.tups _ _ (g4.tups _ _ h)) hp3) (.cons ⟨t2,rfl,?_⟩ .nil)))
  ·rw[Ve Z2 ht3]
   have:((xs++[V.ref t]++[V.ref t1]++ys++[V.ref t2]).length:Int)=(xs.length:Int)+3+(p.code (xs.length+2)).length:=by
    rw[List.length_append,List.length_append,e2,hl]
    simp
    omega
   rw[this]
  ·rw[g5.tups _ _ (Ve hr3 ht2),e1]
   rfl
abbrev Vy:Stmt:=top 9
theorem sc_put_have:FnScope ["rows","number","yes","no","asked","gone"] ["rows","number","yes","no"] (Za Vy):=V7
theorem Z65{n k:Nat}(T:Blt mg)(O_hold_place:Own P w K mg base 1 "hold_place" ["rows"] Z1d)(O_put:Own P w K mg base (2+k) "put" ["rows","pattern"] (Z1s n))(F:Fun K "put_have" "put_have" Vy f fd):FnOk P w K mg base W3 (2+k+1) f fd ["rows","number","yes","no"] (Z3w n):=by
 refine F.ok sc_put_have (fun vs H Q E h=>?_) (fun cdv A outer s H vs Q E hr h=>?_)
 ·obtain⟨r,j,y,z,xs,p,p',rfl,_⟩:=h
  rfl
 obtain⟨r,j,y,z,xs,p,p',rfl,hp,hp',hr0,hz,q⟩:=h
 refine V6 ?_
 intro Xz
 refine⟨_,(Z1 (pS 4 sc_put_have.nd (Zj (O_hold_place.mono (by omega)) hr rfl (Z0 (pv 0) Z3)))
  (Z1 (Zn (Zj (O_put.mono (by omega)) hr rfl (Z0 (pv 0) (Z0 (pv 2) Z3))))
  (Z1 (pS 5 sc_put_have.nd (Zj (O_hold_place.mono (by omega)) hr rfl (Z0 (pv 0) Z3)))
  (Z1 (U1 (Zr (Z0 Zg (Z0 (pv 1) (Z0 (Zy Y8 rfl T.b_len PyProof.Rows.Boot.«len» (Z0 (pv 0) Z3)) Z3)))) (U2 (pv 0) (pv 4) Xp))
  (Z1 (Zn (Zj (O_put.mono (by omega)) hr rfl (Z0 (pv 0) (Z0 (pv 3) Z3))))
  (Z5 (U1 (Zr (Z0 Zg (Z0 (Zy Y8 rfl T.b_len PyProof.Rows.Boot.«len» (Z0 (pv 0) Z3)) Z3))) (U2 (pv 0) (pv 5) Xp)))))))),?_⟩
 refine Zhg ?_
 intro Ez Az1 Az2 Az3 Az4 Az5
 have hf:=Pat.code_fits p (xs.length+1)
 refine(Z9 rfl ⟨r,_,rfl,hr0,by omega,fun t1 H1 hr1 ht1 g1=>?_⟩)
 have e1:(xs++[V.ref t1]).length=xs.length+1:=by simp
 refine(Z9 rfl (Z9 rfl ⟨r,y,_,p,rfl,hp.mono g1.tups,hr1,by rw[e1];omega,fun ys H2 hr2 hp2 g2=>?_⟩))
 rw[e1]at hp2
 have hl:=Paired.length hp2
 have e2:(xs++[V.ref t1]++ys).length=xs.length+1+(p.code (xs.length+1)).length:=by rw[List.length_append,e1,hl]
 refine(Z9 rfl ⟨r,_,rfl,hr2,by rw[e2];omega,fun t2 H3 hr3 ht2 g3=>?_⟩)
 have e3:(xs++[V.ref t1]++ys++[V.ref t2]).length=xs.length+(p.code (xs.length+1)).length+2:=by rw[List.length_append,e2];simp;omega
 refine(Z9 rfl (Z9 rfl ⟨r,Z9 rfl ⟨.inl (SqL.of hr3),sz,fun t3 ht3=>?_⟩⟩))
 refine(Z9 rfl (Z9 rfl ⟨r,_,_,xs.length,rfl,rfl,W6 hr3 ht3,Tb (by rw[e3];omega),?_⟩))
 have eL:(xs++[V.ref t1]++ys++[V.ref t2]).set xs.length (.ref t3)=xs++[.ref t3]++ys++[V.ref t2]:=by
  rw[show xs++[V.ref t1]++ys++[V.ref t2]=xs++V.ref t1::(ys++[V.ref t2]) by simp,Z35 rfl]
  simp
 rw[eL]
 generalize hH4:Zq (Zq H3 t3 (.tup [.str "have",.int j,.int ((xs++[V.ref t1]++ys++[V.ref t2]).length:Nat)])) r (.lst (xs++[.ref t3]++ys++[V.ref t2]))=H4
 have g4:Gro [r] H3 H4:=by rw[← hH4];exact Vf hr3 ht3
 have hr4:H4 r=some (.lst (xs++[.ref t3]++ys++[V.ref t2])):=by rw[← hH4];exact Z2
 have ht3':H4 t3=some (.tup [.str "have",.int j,.int ((xs.length:Int)+(p.code (xs.length+1)).length+2)]):=by
  rw[← hH4,Ve hr3 ht3,e3]
  simp
 have e4:(xs++[V.ref t3]++ys++[V.ref t2]).length=xs.length+(p.code (xs.length+1)).length+2:=by rw[← e3];simp
 have g14:=((g1.trans g2).trans g3).trans g4
 refine(Z9 rfl (Z9 rfl ⟨r,z,_,p',rfl,hp'.mono g14.tups,hr4,by rw[e4];omega,fun zs H5 hr5 hp5 g5=>?_⟩))
 rw[e4]at hp5
 have hl5:=Paired.length hp5
 refine(Z9 rfl ⟨r,Z9 rfl ⟨.inl (SqL.of hr5),sz,fun t6 ht6=>?_⟩⟩)
 have eL2:(xs++[V.ref t3]++ys++[V.ref t2]++zs).set (xs.length+1+(p.code (xs.length+1)).length) (.ref t6)=xs++(.ref t3::(ys++.ref t6::zs)):=by
  rw[show xs++[V.ref t3]++ys++[V.ref t2]++zs=(xs++[V.ref t3]++ys)++V.ref t2::zs by simp,Z35 (by simp[hl];omega)]
  simp
 refine(Z9 rfl (Z9 rfl ⟨r,_,_,xs.length+1+(p.code (xs.length+1)).length,rfl,rfl,W6 hr5 ht6,by rw[e2];exact Tb (by rw[List.length_append,e4];omega),?_⟩))
 rw[eL2]
 generalize hH6:Zq (Zq H5 t6 (.tup [.str "go",.int ((xs++[V.ref t3]++ys++[V.ref t2]++zs).length:Nat)])) r (.lst (xs++(.ref t3::(ys++.ref t6::zs))))=H6
 have g6:Gro [r] H5 H6:=by rw[← hH6];exact Vf hr5 ht6
 have hr6:H6 r=some (.lst (xs++(.ref t3::(ys++.ref t6::zs)))):=by rw[← hH6];exact Z2
 have ht6':H6 t6=some (.tup [.str "go",.int ((xs.length:Int)+(p.code (xs.length+1)).length+2+(p'.code (xs.length+(p.code (xs.length+1)).length+2)).length)]):=by
  rw[← hH6,Ve hr5 ht6,List.length_append,e4,hl5]
  simp
 refine q _ H6 hr6 ?_ ((g14.trans g5).trans g6)
 exact .cons ⟨t3,rfl,g6.tups _ _ (g5.tups _ _ ht3')⟩ (Zw (Y7 (fun b c h=>g6.tups _ _ (g5.tups _ _ (g4.tups _ _ (g3.tups _ _ h)))) hp2) (.cons ⟨t6,rfl,ht6'⟩ (Y7 g6.tups hp5)))
end
def Lk.pre(l:Lk):List Rw:=match l.leans with
 |true=>[.tup [.str "lean"]]
 |false=>[]
def Lk.post(l:Lk):List Rw:=match l.leans with
 |true=>[.tup [.str "here"]]
 |false=>[]
theorem Z2z(l:Lk)(c:Cd)(b:Nat):l.inner c b=l.pre++(c (b+1+l.pre.length)++l.post):=by
 unfold Lk.inner Lk.pre Lk.post
 cases l.leans <;> simp
section
variable{P:Program}{w:World}{K:W.Frag}{mg:Str->Option Value}{base:Heap}{f:Addr}{fd:FuncData}
def Zes(D:Ends)(H:Hp)(r:Addr)(xs:List V)(rs:List Rw):Prop:=∀(σ':L2.St) (ys:List V) (H':Hp),H' r=some (.lst (xs++ys))->Paired (RowAt H') ys rs->Gro [r] H H'->D.nx σ' H'
def Zmn(H:Hp)(r:Addr)(xs:List V)(lk:Lk)(v:V)(p:Pat):TS:=fun D σ H1=>∃(t1:Addr) (pre:List V),σ=[some (.ref r),some (.str lk.text),some v,some (.int xs.length)]/\H1 r=some (.lst (xs++.ref t1::pre))/\Paired (RowAt H1) pre lk.pre/\Gro [r] H H1/\Zes D H r xs (Tn lk p.code xs.length)
def Zmm(H:Hp)(r:Addr)(xs:List V)(lk:Lk)(v:V)(p:Pat):TS:=fun D σ H1=>∃(t1:Addr) (mid:List V),σ=[some (.ref r),some (.str lk.text),some v,some (.int xs.length)]/\H1 r=some (.lst (xs++.ref t1::mid))/\Paired (RowAt H1) mid (lk.inner p.code xs.length)/\Gro [r] H H1/\Zes D H r xs (Tn lk p.code xs.length)
abbrev Vx:Stmt:=top 10
theorem sc_put_look:FnScope ["rows","kind","part","first"] ["rows","kind","part"] (Za Vx):=V7
theorem Z64{n k:Nat}{le ls:Addr}(T:Blt mg)(Ww:mg "LEANING" = some (.ref le))(hLE:∀H,SqT K H le Vp)(Xm:mg "LAST_ROWS" = some (.ref ls))(hLS:Zen K w ls Vz)(O_hold_place:Own P w K mg base 1 "hold_place" ["rows"] Z1d)(O_put:Own P w K mg base (2+k) "put" ["rows","pattern"] (Z1s n))
  (F:Fun K "put_look" "put_look" Vx f fd):FnOk P w K mg base W3 (2+k+1) f fd ["rows","kind","part"] (Z3v n):=by
 refine F.ok sc_put_look (fun vs H Q E h=>?_) (fun cdv A outer s H vs Q E hr h=>?_)
 ·obtain⟨r,lk,v,xs,p,rfl,_⟩:=h
  rfl
 obtain⟨r,lk,v,xs,p,rfl,hp,hr0,hz,q⟩:=h
 have hf:=Pat.code_fits p (xs.length+1+lk.pre.length)
 have hpre:lk.pre.length<=1/\lk.post.length<=1:=by unfold Lk.pre Lk.post;cases lk.leans <;> simp
 have hin:(lk.inner p.code xs.length).length=lk.pre.length+(p.code (xs.length+1+lk.pre.length)).length+lk.post.length:=by rw[Z2z];simp;omega
 refine V6 ?_
 intro Xz
 refine⟨_,(Z1 (pS 3 sc_put_look.nd (Zj (O_hold_place.mono (by omega)) hr rfl (Z0 (pv 0) Z3)))
  (Z1 (Zs (Zb Uo (pv 1) (Ud (v:=.ref _) rfl Ww rfl) (by with_unfolding_all rfl)) (Z5 (Zn (Yw PySem.F.plainAttrs_list PySem.F.slot_list_append PySem.F.type_list_append Zz (pv 0) (Z0 (Zr (Z0 Zg Z3)) Z3)))) Zk)
  (Va (Zmn H r xs lk v p) (Z1 (Zn (Zj (O_put.mono (by omega)) hr rfl (Z0 (pv 0) (Z0 (pv 2) Z3))))
  (Z1 (Zs (Zb Uo (pv 1) (Ud (v:=.ref _) rfl Ww rfl) (by with_unfolding_all rfl)) (Z5 (Zn (Yw PySem.F.plainAttrs_list PySem.F.slot_list_append PySem.F.type_list_append Zz (pv 0) (Z0 (Zr (Z0 Zg Z3)) Z3)))) Zk)
  (Va (Zmm H r xs lk v p) (Z1 (Zn (Yw PySem.F.plainAttrs_list PySem.F.slot_list_append PySem.F.type_list_append Zz (pv 0) (Z0 (Zr (Z0 (Z56 (Ud (v:=.ref _) rfl Xm rfl) (pv 1) (fun _ _=>rfl)) Z3)) Z3)))
  (Z5 (U1 (W5 (Zb Zv (Z56 (Ud (v:=.ref _) rfl Xm rfl) (pv 1) (fun _ _=>rfl)) Zg (Ze _)) (Zr (Z0 Zg (Z0 (Zy Y8 rfl T.b_len PyProof.Rows.Boot.«len» (Z0 (pv 0) Z3)) Z3))) (Zr (Z0 Zg Z3))) (U2 (pv 0) (pv 3) Xp)))) (fun D1 σ1 H1 hcut=>?cut4)))) (fun D1 σ1 H1 hcut=>?cut2)))),?_⟩
 case cut4 =>
  refine Z1e ?_
  intro Ez Az1
  obtain⟨t1,mid,rfl,hr1,hm1,g1,q⟩:=hcut
  have hl:=Paired.length hm1
  have e1:(xs++V.ref t1::mid).length=xs.length+1+(lk.inner p.code xs.length).length:=by rw[List.length_append,List.length_cons,hl];omega
  refine(Z9 rfl ⟨.inl ⟨rfl,_,SqL.of hr1⟩,Z9 rfl ⟨ls,Vz,_,_,rfl,hLS,rfl,Z9t lk,sz,fun t2 ht2=>⟨r,Xy rfl rfl ⟨W6 hr1 ht2,Z5z (by omega),?_⟩⟩⟩⟩)
  have g2:Gro [r] H1 _:=Vf (zs:=xs++V.ref t1::mid++[V.ref t2]) (o:=.tup [.str lk.last]) hr1 ht2
  have e2:(xs++V.ref t1::mid++[V.ref t2]).length=xs.length+2+(lk.inner p.code xs.length).length:=by rw[List.length_append,e1];simp;omega
  have eL:∀t3,(xs++V.ref t1::mid++[V.ref t2]).set xs.length (.ref t3)=xs++(.ref t3::(mid++[.ref t2])):=fun t3=>by
   rw[show xs++V.ref t1::mid++[V.ref t2]=xs++V.ref t1::(mid++[V.ref t2]) by simp,Z35 rfl]
  have fin:∀(t3:Addr) (ws:List V),(Zq (Zq H1 t2 (.tup [.str lk.last])) r (.lst (xs++V.ref t1::mid++[V.ref t2]))) t3=none->Tn lk p.code xs.length=.tup ws::(lk.inner p.code xs.length++[.tup [.str lk.last]]) ->
    ∀σ',D1.nx σ' (Zq (Zq (Zq (Zq H1 t2 (.tup [.str lk.last])) r (.lst (xs++V.ref t1::mid++[V.ref t2]))) t3 (.tup ws)) r (.lst ((xs++V.ref t1::mid++[V.ref t2]).set xs.length (.ref t3)))):=by
   intro t3 ws ht3 hws σ'
   have g3:=Vf (zs:=(xs++V.ref t1::mid++[V.ref t2]).set xs.length (.ref t3)) (o:=.tup ws) (Z2 (H:=Zq H1 t2 (.tup [.str lk.last])) (a:=r) (o:=.lst (xs++V.ref t1::mid++[V.ref t2]))) ht3
   have e3:=Ve (ys:=ws) (zs:=(xs++V.ref t1::mid++[V.ref t2]).set xs.length (.ref t3)) (Z2 (H:=Zq H1 t2 (.tup [.str lk.last])) (a:=r) (o:=.lst (xs++V.ref t1::mid++[V.ref t2]))) ht3
   rw[eL]at g3 e3 ⊢
   refine q σ' _ _ Z2 ?_ ((g1.trans g2).trans g3)
   rw[hws]
   exact .cons ⟨t3,rfl,e3⟩ (Zw (Y7 (fun b c h=>g3.tups _ _ (g2.tups _ _ h)) hm1) (.cons ⟨t2,rfl,g3.tups _ _ (Ve hr1 ht2)⟩ .nil))
  refine(Z9 rfl ⟨ls,Vz,_,_,rfl,hLS,rfl,Z9t lk,rfl,Z9 rfl (Ym (fun z=>?_) (fun z=>?_))⟩)
  ·have hb:(lk.last=="barred")=true:=by rw[← Z28];exact z
   refine(Z9 rfl ⟨r,Z9 rfl ⟨.inl (SqL.of Z2),sz,fun t3 ht3=>?_⟩⟩)
   refine(Z9 rfl (Z9 rfl ⟨r,_,_,xs.length,rfl,rfl,W6 Z2 ht3,Tb (by rw[e2];omega),fin t3 _ ht3 ?_ _⟩))
   unfold Tn
   rw[hb,e2]
   simp only[List.cons.injEq,and_true,Rw.tup.injEq,V.int.injEq,true_and]
   omega
  ·have hb:(lk.last=="barred")=false:=by rw[← Z28];simpa using z
   refine⟨sz,fun t3 ht3=>?_⟩
   refine(Z9 rfl (Z9 rfl ⟨r,_,_,xs.length,rfl,rfl,W6 Z2 ht3,Tb (by rw[e2];omega),fin t3 _ ht3 ?_ _⟩))
   unfold Tn
   rw[hb]
 case cut2 =>
  refine Zde ?_
  intro Ez Az1 Az2 Az3
  obtain⟨t1,pre,rfl,hr1,hm1,g1,q⟩:=hcut
  have hl:=Paired.length hm1
  have e1:(xs++V.ref t1::pre).length=xs.length+1+lk.pre.length:=by rw[List.length_append,List.length_cons,hl];omega
  refine(Z9 rfl (Z9 rfl ⟨r,v,_,p,rfl,hp.mono g1.tups,hr1,by rw[e1];omega,fun ys H2 hr2 hp2 g2=>?_⟩))
  rw[e1]at hp2
  have hl2:=Paired.length hp2
  have e2:(xs++V.ref t1::pre++ys).length=xs.length+1+lk.pre.length+(p.code (xs.length+1+lk.pre.length)).length:=by rw[List.length_append,e1,hl2]
  refine(Z9 rfl ⟨le,Vp,rfl,.inr (hLE _),rfl,rfl,Z9 rfl (?_)⟩)
  show if Zgm (.str lk.text) Vp=true then _ else _
  rw[Z9s]
  refine Ym (fun z=>?_) (fun z=>?_)
  ·refine(Z9 rfl ⟨.inl ⟨rfl,_,SqL.of hr2⟩,sz,fun t2 ht2=>⟨r,Xy rfl rfl ⟨W6 hr2 ht2,Z5z (by omega),?_⟩⟩⟩)
   have g3:Gro [r] H2 _:=Vf (zs:=xs++V.ref t1::pre++ys++[V.ref t2]) (o:=.tup [.str "here"]) hr2 ht2
   refine⟨t1,pre++(ys++[.ref t2]),rfl,by simp[Z2],?_,(g1.trans g2).trans g3,q⟩
   rw[Z2z]
   refine Zw (Y7 (fun b c h=>g3.tups _ _ (g2.tups _ _ h)) hm1) (Zw (Y7 g3.tups hp2) ?_)
   rw[show lk.post=[.tup [.str "here"]] by unfold Lk.post;rw[z]]
   exact .cons ⟨t2,rfl,Ve hr2 ht2⟩ .nil
  ·refine⟨t1,pre++ys,rfl,by rw[hr2];simp,?_,g1.trans g2,q⟩
   rw[Z2z,show lk.post=[] by unfold Lk.post;rw[Bool.eq_false_iff.mpr z],List.append_nil]
   exact Zw (Y7 g2.tups hm1) hp2
 refine Zde ?_
 intro Ez Az1 Az2 Az3
 refine(Z9 rfl ⟨r,_,rfl,hr0,by omega,fun t1 H1 hr1 ht1 g1=>?_⟩)
 refine(Z9 rfl ⟨le,Vp,rfl,.inr (hLE _),rfl,rfl,Z9 rfl (?_)⟩)
 show if Zgm (.str lk.text) Vp=true then _ else _
 rw[Z9s]
 have q':Zes { nx:=fun _ H'=>Q .non H',rt:=Q } H r xs (Tn lk p.code xs.length):=fun _ ys H' h1 h2 h3=>q ys H' h1 h2 h3
 refine Ym (fun z=>?_) (fun z=>?_)
 ·refine(Z9 rfl ⟨.inl ⟨rfl,_,SqL.of hr1⟩,sz,fun t2 ht2=>⟨r,Xy rfl rfl ⟨W6 hr1 ht2,Z5z (by simp;omega),?_⟩⟩⟩)
  have g3:Gro [r] H1 _:=Vf (zs:=xs++[V.ref t1]++[V.ref t2]) (o:=.tup [.str "lean"]) hr1 ht2
  refine⟨t1,[.ref t2],rfl,by simp[Z2],?_,g1.trans g3,q'⟩
  rw[show lk.pre=[.tup [.str "lean"]] by unfold Lk.pre;rw[z]]
  exact .cons ⟨t2,rfl,Ve hr1 ht2⟩ .nil
 ·refine⟨t1,[],rfl,hr1,?_,g1,q'⟩
  rw[show lk.pre=[] by unfold Lk.pre;rw[Bool.eq_false_iff.mpr z]]
  exact .nil
end
theorem Z2e(ks:List Pat)(i:Nat):Ya (ks.take i)+Ya (ks.drop i)=Ya ks:=by
 rw[← Uv,List.take_append_drop]
theorem Z12{α:Type}{l:List α}{i:Nat}{x:α}(h:l[i]? = some x):l.drop i=x::l.drop (i+1):=by
 obtain⟨hi,e⟩:=List.getElem?_eq_some_iff.mp h
 rw[← e]
 exact List.drop_eq_getElem_cons hi
section
variable{P:Program}{w:World}{K:W.Frag}{mg:Str->Option Value}{base:Heap}{f:Addr}{fd:FuncData}
def Vk(b:Nat)(gs:List Nat):List V:=gs.map fun(j:Nat)=>V.int ((b:Int)+(j:Int))
def Zmk(H:Hp)(r b:Addr)(xs kv:List V)(ks:List Pat):TS:=fun D σ H1=>∃(g:Addr) (ys:List V) (br tr:Option V),σ=[some (.ref r),some (.ref b),some (.ref g),br,tr,none]/\r≠g/\H g=none/\H1 r=some (.lst (xs++ys))/\Paired (RowAt H1) ys (Vg [] ((ks.take (kv.length-1)).map Pat.code) xs.length) /\
 H1 g=some (.lst (Vk xs.length (Z0s ((ks.take (kv.length-1)).map Pat.code) xs.length 0)))/\Gro [r] H H1/\Zes D H r xs (Zjh (ks.map Pat.code) xs.length)
abbrev Tt:Stmt:=top 7
theorem sc_put_or:FnScope ["rows","branches","goes","branch","tried","place"] ["rows","branches"] (Za Tt):=V7
theorem Zb0{n k:Nat}(T:Blt mg)(O_hold_place:Own P w K mg base 1 "hold_place" ["rows"] Z1d)(O_put:Own P w K mg base (2+k) "put" ["rows","pattern"] (Z1s n))(F:Fun K "put_or" "put_or" Tt f fd):FnOk P w K mg base W3 (2+k+1) f fd ["rows","branches"] (Z96 n):=by
 refine F.ok sc_put_or (fun vs H Q E h=>?_) (fun cdv A outer s H vs Q E hr h=>?_)
 ·obtain⟨r,b,xs,kv,ks,rfl,_⟩:=h
  rfl
 obtain⟨r,b,xs,kv,ks,rfl,hb,hk,h1,h10,hr0,hz,q⟩:=h
 have hkl:=Paired.length hk
 refine V6 ?_
 intro Xz
 refine⟨_,(Z1 (pS 2 sc_put_or.nd (Y4 Z3))
  (Z1 (Xr PassesOwn.never rfl (Jh (Y9 Jz (pv 1) Xs (Y2 (Zah Z5k Z4)))) (pN 3 sc_put_or.nd) (Z1 (pS 4 sc_put_or.nd (Zj (O_hold_place.mono (by omega)) hr rfl (Z0 (pv 0) Z3)))
  (Z1 (Zn (Zj (O_put.mono (by omega)) hr rfl (Z0 (pv 0) (Z0 (pv 3) Z3))))
  (Z1 (Zn (Yw PySem.F.plainAttrs_list PySem.F.slot_list_append PySem.F.type_list_append Zz (pv 2) (Z0 (Zj (O_hold_place.mono (by omega)) hr rfl (Z0 (pv 0) Z3)) Z3)))
  (Z5 (U1 (Zr (Z0 Zg (Z0 (Zy Y8 rfl T.b_len PyProof.Rows.Boot.«len» (Z0 (pv 0) Z3)) Z3))) (U2 (pv 0) (pv 4) Xp)))))))
  (Va (Zmk H r b xs kv ks) (Z1 (Zn (Zj (O_put.mono (by omega)) hr rfl (Z0 (pv 0) (Z0 (Zd Zc (pv 1) (Zah Z5k Z4) (fun _ _=>rfl)) Z3))))
  (Z5 (Xr PassesOwn.never rfl (Vn (pv 2)) (pN 5 sc_put_or.nd) (Z5 (U1 (Zr (Z0 Zg (Z0 (Zy Y8 rfl T.b_len PyProof.Rows.Boot.«len» (Z0 (pv 0) Z3)) Z3))) (U2 (pv 0) (pv 5) Xp)))))) (fun D1 σ1 H1 hcut=>?cut2)))),?_⟩
 case cut2 =>
  refine Zic ?_
  intro Ez Az1 Az2
  obtain⟨g,ys,br,tr,rfl,rg,hgn,hr1,hy1,hg1,g1,q⟩:=hcut
  have hl:=Paired.length hy1
  have hpf:=Z0x (ks.take (kv.length-1)) xs.length
  have hne:ks≠[]:=fun z=>by rw[z,List.length_nil]at hkl;omega
  obtain⟨d,hd⟩:∃d,ks[kv.length-1]? = some d:=⟨ks[kv.length-1]'(by omega),List.getElem?_eq_getElem (by omega)⟩
  obtain⟨vd,hvd⟩:∃vd,kv[kv.length-1]? = some vd:=⟨kv[kv.length-1]'(by omega),List.getElem?_eq_getElem (by omega)⟩
  obtain⟨d',hd',hpd⟩:=Y0 hk hvd
  rw[hd]at hd'
  cases hd'
  have hks:ks=ks.take (kv.length-1)++[d]:=by
   have:=List.take_append_drop (kv.length-1) ks
   rw[Z12 hd,show kv.length-1+1=ks.length by omega,List.drop_length]at this
   exact this.symm
  have hss:Ya (ks.take (kv.length-1))+d.size=Ya ks:=by
   rw[← Xq d,← Uv,← hks]
  generalize hT:ks.take (kv.length-1)=ts at hy1 hg1 hl hpf hks hss
  have e1:(xs++ys).length=xs.length+(Vg [] (ts.map Pat.code) xs.length).length:=by rw[List.length_append,hl]
  refine⟨_,rfl,_,rfl,_,rfl,b,kv,_,_,rfl,rfl,SqT.of (g1.tups _ _ hb),Zge (by rw[List.getLast?_eq_getElem?];exact hvd),?_⟩
  refine⟨r,vd,_,d,rfl,hpd.mono g1.tups,hr1,by rw[e1];omega,fun zs H2 hr2 hz2 g2=>?_⟩
  rw[e1]at hz2
  have hl2:=Paired.length hz2
  have rg':g∉[r]:=by simpa using Ne.symm rg
  have hg2:=g2.keep g _ hg1 rg'
  have alt:∀G,Xl G (ks.map Pat.code) xs.length=Vg G (ts.map Pat.code) xs.length++d.code (xs.length+(Vg G (ts.map Pat.code) xs.length).length):=fun G=>by
   rw[hks,List.map_append]
   exact Z4i G _ d.code _
  have hgo:Z0s (ts.map Pat.code) xs.length 0=goes (ks.map Pat.code) xs.length 0:=by
   rw[hks,List.map_append]
   exact(Z4b _ d.code _ _).symm
  have halen:(ys++zs).length=(Xl [] (ks.map Pat.code) xs.length).length:=by rw[alt,List.length_append,List.length_append,hl,hl2]
  rw[hgo]at hg2
  have hy2:Paired (RowAt H2) (ys++zs) (Xl [] (ks.map Pat.code) xs.length):=by
   rw[alt]
   exact Zw (Y7 g2.tups hy1) hz2
  have hlt:=Zcz (ks.map Pat.code) xs.length
  have hset:=Z14 [] (Zjk ((xs.length:Int)+(Xl [] (ks.map Pat.code) xs.length).length)) (ks.map Pat.code) xs.length []
  generalize goes (ks.map Pat.code) xs.length 0=gs at *
  refine(Z9 rfl ⟨g,rfl,⟨_,SqL.of hg2⟩,?_⟩)
  refine J0 (xs:=Vk xs.length gs) (fun i σ H'=>∃(ws:List V) (pl:Option V),σ=[some (.ref r),some (.ref b),some (.ref g),br,tr,pl]/\H' r=some (.lst (xs++ws))/\Paired (RowAt H') ws (Tg (.tup (Zjk ((xs.length:Int)+(Xl [] (ks.map Pat.code) xs.length).length))) (gs.take i) (Xl [] (ks.map Pat.code) xs.length))/\H' g=some (.lst (Vk xs.length gs))/\Gro [r] H2 H')
   ⟨ys++zs,none,rfl,by rw[hr2];simp,hy2,hg2,Gro.refl⟩ (fun i σ H' _ hh=>by obtain⟨_,_,_,_,_,e,_⟩:=hh;exact SqL.of e) ?_ ?_
  ·rintro i x σ H3 hx ⟨ws,pl,rfl,hr3,hw3,hg3,g3⟩
   obtain⟨j,hj,rfl⟩:∃j,gs[i]? = some j/\x=.int ((xs.length:Int)+j):=by
    unfold Vk at hx
    rw[List.getElem?_map]at hx
    obtain⟨j,h1,h2⟩:=Option.map_eq_some_iff.mp hx
    exact⟨j,h1,h2.symm⟩
   have hjl:=hlt j (List.mem_of_getElem? hj)
   have hwl:=Paired.length hw3
   rw[Z2g]at hwl
   have elen:((xs++ws).length:Int)=(xs.length:Int)+(Xl [] (ks.map Pat.code) xs.length).length:=by rw[List.length_append,hwl];simp
   refine(Z9 rfl ⟨r,Z9 rfl ⟨.inl (SqL.of hr3),sz,fun t3 ht3=>?_⟩⟩)
   refine(Z9 rfl (Z9 rfl ⟨r,_,_,xs.length+j,rfl,rfl,W6 hr3 ht3,by rw[show(xs.length:Int)+(j:Int)=((xs.length+j:Nat):Int) by omega];exact Tb (by rw[List.length_append];omega),?_⟩))
   have eS:(xs++ws).set (xs.length+j) (.ref t3)=xs++ws.set j (.ref t3):=by rw[List.set_append_right _ _ (by omega)];congr 1;congr 1;omega
   rw[eS]
   have g4:Gro [r] H3 (Zq (Zq H3 t3 (.tup [.str "go",.int ((xs++ws).length:Nat)])) r (.lst (xs++ws.set j (.ref t3)))):=Vf hr3 ht3
   have et:=Ve (ys:=[.str "go",.int ((xs++ws).length:Nat)]) (zs:=xs++ws.set j (.ref t3)) hr3 ht3
   rw[elen]at g4 et ⊢
   refine⟨ws.set j (.ref t3),Z9 rfl ⟨Z2,?_,g4.keep g _ hg3 rg',g3.trans g4⟩⟩
   have:Tg (.tup (Zjk ((xs.length:Int)+(Xl [] (ks.map Pat.code) xs.length).length))) (gs.take (i+1)) (Xl [] (ks.map Pat.code) xs.length)=(Tg (.tup (Zjk ((xs.length:Int)+(Xl [] (ks.map Pat.code) xs.length).length))) (gs.take i) (Xl [] (ks.map Pat.code) xs.length)).set j (.tup (Zjk ((xs.length:Int)+(Xl [] (ks.map Pat.code) xs.length).length))):=by
    rw[Yf hj]
    unfold Tg
    rw[List.foldl_append]
    rfl
   rw[this]
   exact Z2h ⟨t3,rfl,et⟩ j (Y7 g4.tups hw3)
  ·rintro σ H3 ⟨ws,pl,rfl,hr3,hw3,hg3,g3⟩
   refine q _ ws H3 hr3 ?_ ((g1.trans g2).trans g3)
   rw[show(Vk xs.length gs).length=gs.length by simp[Vk],List.take_length]at hw3
   rw[show Tg (.tup (Zjk ((xs.length:Int)+(Xl [] (ks.map Pat.code) xs.length).length))) gs (Xl [] (ks.map Pat.code) xs.length)=Zjh (ks.map Pat.code) xs.length from hset]at hw3
   exact hw3
 refine Zhw ?_
 intro Ez Az1 Az2 Az3 Az4 Az5 Az6
 refine⟨sz,fun g hg=>?_⟩
 have rg:r≠g:=Z7 hr0 hg
 obtain⟨ec,ew⟩:=Zd2 h1
 have q':Zes { nx:=fun _ H'=>Q .non H',rt:=Q } H r xs (Zjh (ks.map Pat.code) xs.length):=fun _ ys H' h1 h2 h3=>q ys H' h1 h2 h3
 refine(Z9 rfl (Z9 rfl (Z9 rfl ⟨b,kv,rfl,SqT.of ((Gro.new (S:=[]) hg _).tups _ _ hb),ew,fun s1 hs1=>⟨s1,rfl,⟨_,SqT.of Z2⟩,?_⟩⟩)))
 rw[ec]
 have g0:Gro [r] H (Zq (Zq H g (.lst [])) s1 (.tup (kv.take (kv.length-1)))):=(Gro.new hg _).tup hs1
 have hg0:(Zq (Zq H g (.lst [])) s1 (.tup (kv.take (kv.length-1)))) g=some (.lst []):=by rw[Zi (Z7 Z2 hs1)];exact Z2
 have hr0':(Zq (Zq H g (.lst [])) s1 (.tup (kv.take (kv.length-1)))) r=some (.lst xs):=by rw[Zi (Z7 (W6 hr0 hg) hs1)];exact W6 hr0 hg
 have hs0:(Zq (Zq H g (.lst [])) s1 (.tup (kv.take (kv.length-1)))) s1=some (.tup (kv.take (kv.length-1))):=Z2
 generalize Zq (Zq H g (.lst [])) s1 (.tup (kv.take (kv.length-1)))=H0 at g0 hg0 hr0' hs0 ⊢
 refine Z0m (xs:=kv.take (kv.length-1)) (fun i σ H'=>∃(ys:List V) (br tr:Option V),σ=[some (.ref r),some (.ref b),some (.ref g),br,tr,none]/\H' r=some (.lst (xs++ys))/\Paired (RowAt H') ys (Vg [] ((ks.take i).map Pat.code) xs.length)/\H' g=some (.lst (Vk xs.length (Z0s ((ks.take i).map Pat.code) xs.length 0)))/\Gro [r] H H'/\Gro [r,g] H0 H')
  ⟨[],none,none,rfl,by simpa using hr0',.nil,hg0,g0,Gro.refl⟩ (fun i σ H' _ hh=>by obtain⟨_,_,_,_,_,_,_,_,gg⟩:=hh;exact SqT.of (gg.tups _ _ hs0)) ?_ ?_
 ·rintro i x σ H1 hx ⟨ys,br,tr,rfl,hr1,hy1,hg1,g1,gg1⟩
  have hi:i<kv.length-1:=by
   have:=(List.getElem?_eq_some_iff.mp hx).1
   rw[List.length_take]at this
   omega
  have hx':kv[i]? = some x:=by rw[List.getElem?_take_of_lt hi]at hx;exact hx
  obtain⟨p,hpi,hpx⟩:=Y0 hk hx'
  have hl:=Paired.length hy1
  have hpf:=Z0x (ks.take i) xs.length
  have hsp:Ya (ks.take i)+p.size<=Ya ks:=by
   have:=Z2e ks i
   rw[Z12 hpi,Ya]at this
   omega
  generalize hM:xs.length+(Vg [] ((ks.take i).map Pat.code) xs.length).length=m
  have e1:(xs++ys).length=m:=by rw[List.length_append,hl,hM]
  have hf:=Pat.code_fits p (m+1)
  refine(Z9 rfl ⟨r,_,rfl,hr1,by omega,fun t1 H2 hr2 ht1 g2=>?_⟩)
  have e2:(xs++ys++[V.ref t1]).length=m+1:=by rw[List.length_append,e1];rfl
  have g12:=g1.trans g2
  refine(Z9 rfl (Z9 rfl ⟨r,x,_,p,rfl,hpx.mono g12.tups,hr2,by rw[e2];omega,fun zs H3 hr3 hz3 g3=>?_⟩))
  rw[e2]at hz3
  have hl3:=Paired.length hz3
  have g23:=g2.trans g3
  have rg':g∉[r]:=by simpa using Ne.symm rg
  have hg3:=g23.keep g _ hg1 rg'
  have e3:(xs++ys++[V.ref t1]++zs).length=m+1+(p.code (m+1)).length:=by rw[List.length_append,e2,hl3]
  refine(Z9 rfl ⟨.inl ⟨rfl,_,SqL.of hg3⟩,Z9 rfl ⟨r,_,rfl,hr3,by rw[e3];omega,fun t2 H4 hr4 ht2 g4=>?_⟩⟩)
  have hg4:=g4.keep g _ hg3 rg'
  have hgl:(Vk xs.length (Z0s ((ks.take i).map Pat.code) xs.length 0)).length<=1000:=by
   have:∀(cs:List Cd) (b s:Nat),(Z0s cs b s).length=cs.length:=by
    intro cs
    induction cs with
    |nil=>intro b s;rfl
    |cons c cs ih=>intro b s;rw[Z0s,List.length_cons,ih,List.length_cons]
   simp only[Vk,List.length_map,this,List.length_take]
   omega
  refine⟨g,Xy rfl rfl ⟨hg4,Yj hgl,?_⟩⟩
  generalize hH5:Zq H4 g (.lst (Vk xs.length (Z0s ((ks.take i).map Pat.code) xs.length 0)++[V.int ((xs++ys++[V.ref t1]++zs).length:Nat)]))=H5
  have g5:Gro [g] H4 H5:=by rw[← hH5];exact Gro.set (by simp) hg4 _
  have hr5:H5 r=some (.lst (xs++ys++[V.ref t1]++zs++[.ref t2])):=by rw[← hH5,Zi rg];exact hr4
  have hg5:H5 g=some (.lst (Vk xs.length (Z0s ((ks.take (i+1)).map Pat.code) xs.length 0))):=by
   rw[← hH5,Z2,Yf hpi,List.map_append,List.map_singleton,Z40 _ _ _ _ m hM.symm]
   unfold Vk
   rw[List.map_append,List.map_singleton,e3]
   congr 3
   simp only[List.cons.injEq,V.int.injEq,and_true]
   omega
  have e5:(xs++ys++[V.ref t1]++zs++[V.ref t2]).length=m+(p.code (m+1)).length+2:=by rw[List.length_append,e3];simp;omega
  refine(Z9 rfl ⟨r,Z9 rfl ⟨.inl (SqL.of hr5),sz,fun t6 ht6=>?_⟩⟩)
  refine(Z9 rfl (Z9 rfl ⟨r,_,_,m,rfl,rfl,W6 hr5 ht6,by rw[e1];exact Tb (by rw[e5];omega),?_⟩))
  have eL:(xs++ys++[V.ref t1]++zs++[V.ref t2]).set m (.ref t6)=xs++(ys++(.ref t6::(zs++[.ref t2]))):=by
   rw[show xs++ys++[V.ref t1]++zs++[V.ref t2]=(xs++ys)++V.ref t1::(zs++[V.ref t2]) by simp,Z35 e1.symm]
   simp
  rw[eL]
  have g6:Gro [r] H5 (Zq (Zq H5 t6 (.tup [.str "try",.int ((xs++ys++[V.ref t1]++zs++[V.ref t2]).length:Nat)])) r (.lst (xs++(ys++(.ref t6::(zs++[.ref t2])))))):=Vf hr5 ht6
  have et:=Ve (ys:=[.str "try",.int ((xs++ys++[V.ref t1]++zs++[V.ref t2]).length:Nat)]) (zs:=xs++(ys++(.ref t6::(zs++[.ref t2])))) hr5 ht6
  rw[e5]at g6 et ⊢
  have k16:∀b c,H1 b=some (.tup c)->_:=fun b c h=>g6.tups b c (g5.tups _ _ (g4.tups _ _ (g23.tups _ _ h)))
  have k36:∀b c,H3 b=some (.tup c)->_:=fun b c h=>g6.tups b c (g5.tups _ _ (g4.tups _ _ h))
  have g15:Gro [r,g] H1 _:=(((g23.trans g4).mono (by simp)).trans (g5.mono (by simp))).trans (g6.mono (by simp))
  refine⟨ys++(.ref t6::(zs++[.ref t2])),_,_,rfl,Z2,?_,g6.keep g _ hg5 rg',?_,gg1.trans g15⟩
  ·rw[Yf hpi,List.map_append,List.map_singleton,Z41 _ _ _ _ m hM.symm]
   refine Zw (Y7 k16 hy1) (.cons ⟨t6,rfl,?_⟩ (Zw (Y7 k36 hz3) (.cons ⟨t2,rfl,?_⟩ .nil)))
   ·rw[et]
    congr 5
   ·exact g6.tups _ _ (g5.tups _ _ ht2)
  ·have:=(g0.mono (S':=[r,g]) (by simp)).trans (gg1.trans g15)
   refine⟨fun c o hc hcr=>this.keep c o hc ?_,this.tups⟩
   have:c≠g:=Z7 hc hg
   simp at hcr ⊢
   exact⟨hcr,this⟩
 ·rintro σ H1 ⟨ys,br,tr,rfl,hr1,hy1,hg1,g1,gg1⟩
  rw[List.length_take,show min (kv.length-1) kv.length=kv.length-1 by omega]at hy1 hg1
  exact⟨g,ys,br,tr,rfl,rg,hg,hr1,hy1,hg1,g1,q'⟩
end
theorem Z3y:∀(cs:List Cd) (c:Cd) (b m:Nat),m=b+(Jt cs b).length->Jt (cs++[c]) b=Jt cs b++c m
 | [],c,b,m,h=>by rw[show m=b from h];simp[Jt]
 |d::cs,c,b,m,h=>by
  rw[Jt,List.length_append]at h
  rw[List.cons_append,Jt,Z3y cs c (b+(d b).length) m (by omega),Jt,List.append_assoc]
theorem T5{α β:Type}{F:α->β->Prop}{x:α}{ys:List β}(h:Paired F [x] ys):∃y,ys=[y]/\F x y:=by
 cases h with
 |cons r t=>cases t;exact(Z9 rfl r)
theorem Z7x{α β:Type}{F:α->β->Prop}{x x':α}{ys:List β}(h:Paired F [x,x'] ys):∃y y',ys=[y,y']/\F x y/\F x' y':=by
 cases h with
 |cons r t =>
  obtain⟨y,rfl,h'⟩:=T5 t
  exact⟨_,_,rfl,r,h'⟩
section
variable{P:Program}{w:World}{K:W.Frag}{mg:Str->Option Value}{base:Heap}{f:Addr}{fd:FuncData}
abbrev Ze8:How->Prop:=fun _=>True
abbrev Z7h:Stmt:=top 5
theorem sc_put:FnScope ["rows","pattern","kind","part"] ["rows","pattern"] (Za Z7h):=V7
theorem Ziq{n k:Nat}{it:Addr}(T:Blt mg)(Ut:mg "ITSELF" = some (.ref it))(hIT:∀H,SqT K H it Z01)(O_put:Own P w K mg base (2+k) "put" ["rows","pattern"] (Z1s n))(O_put_or:Own P w K mg base (2+k+1) "put_or" ["rows","branches"] (Z96 n))(O_put_times:Own P w K mg base (2+k+2) "put_times" ["rows","low","high","how","part"] (Wq Ze8 n))
  (O_put_have:Own P w K mg base (2+k+1) "put_have" ["rows","number","yes","no"] (Z3w n)) (O_put_look:Own P w K mg base (2+k+1) "put_look" ["rows","kind","part"] (Z3v n)) (F:Fun K "put" "put" Z7h f fd):FnOk P w K mg base W3 (2+k+3) f fd ["rows","pattern"] (Z1s (n+1)):=by
 refine F.ok sc_put (fun vs H Q E h=>?_) (fun cdv A outer s H vs Q E hr h=>?_)
 ·obtain⟨r,v,xs,p,rfl,_⟩:=h
  rfl
 obtain⟨r,v,xs,⟨h,ks⟩,rfl,hp,hr0,hz,q⟩:=h
 refine V6 ?_
 intro Xz
 refine⟨_,(Z1 (pS 2 sc_put.nd (Zd Zc (pv 1) Z4 (fun _ _=>rfl)))
  (Z5 (Zs (Zb Uo (pv 2) (Ud (v:=.ref _) rfl Ut rfl) (by with_unfolding_all rfl)) (Z5 (Zn (Yw PySem.F.plainAttrs_list PySem.F.slot_list_append PySem.F.type_list_append Zz (pv 0) (Z0 (pv 1) Z3)))) (Z5 (Zs (Zb Zv (pv 2) Zg (Ze _)) (Z5 (Xr PassesOwn.never rfl (Jh (Zd Zc (pv 1) Z4 (fun _ _=>rfl))) (pN 3 sc_put.nd) (Z5 (Zn (Zj (O_put.mono (by omega)) hr rfl (Z0 (pv 0) (Z0 (pv 3) Z3))))))) (Z5 (Zs (Zb Zv (pv 2) Zg (Ze _)) (Z5 (Zn (Zj (O_put_or.mono (by omega)) hr rfl (Z0 (pv 0) (Z0 (Zd Zc (pv 1) Z4 (fun _ _=>rfl)) Z3))))) (Z5 (Zs (Zb Zv (pv 2) Zg (Ze _)) (Z5 (Zn (Zj (O_put_times.mono (by omega)) hr rfl (Z0 (pv 0) (Z0 (Zd Zc (pv 1) Z4 (fun _ _=>rfl)) (Z0 (Zd Zc (pv 1) Z4 (fun _ _=>rfl)) (Z0 (Zd Zc (pv 1) Z4 (fun _ _=>rfl)) (Z0 (Zd Zc (pv 1) Z4 (fun _ _=>rfl)) Z3)))))))) (Z5 (Zs (Zb Zv (pv 2) Zg (Ze _)) (Z1 (Zn (Yw PySem.F.plainAttrs_list PySem.F.slot_list_append PySem.F.type_list_append Zz (pv 0) (Z0 (Zr (Z0 Zg Z3)) Z3)))
  (Z1 (Zn (Zj (O_put.mono (by omega)) hr rfl (Z0 (pv 0) (Z0 (Zd Zc (pv 1) Z4 (fun _ _=>rfl)) Z3))))
  (Z5 (Zn (Yw PySem.F.plainAttrs_list PySem.F.slot_list_append PySem.F.type_list_append Zz (pv 0) (Z0 (Zr (Z0 Zg (Z0 (Zd Zc (pv 1) Z4 (fun _ _=>rfl)) Z3))) Z3)))))) (Z5 (Zs (Zb Zv (pv 2) Zg (Ze _)) (Z5 (Zn (Zj (O_put_have.mono (by omega)) hr rfl (Z0 (pv 0) (Z0 (Zd Zc (pv 1) Z4 (fun _ _=>rfl)) (Z0 (Zd Zc (pv 1) Z4 (fun _ _=>rfl)) (Z0 (Zd Zc (pv 1) Z4 (fun _ _=>rfl)) Z3))))))) (Z5 (Zn (Zj (O_put_look.mono (by omega)) hr rfl (Z0 (pv 0) (Z0 (pv 2) (Z0 (Zd Zc (pv 1) Z4 (fun _ _=>rfl)) Z3))))))))))))))))))),?_⟩
 refine Zhe ?_
 intro Ez Az1 Az2 Az3 Az4 Az5 Az6 Az7 Az8 Az9 Az10 Az11 Az12 Az13 Az14 Az15 Az16
 rw[Z13]at q
 rw[Xf]at hz
 obtain⟨a,kv,rfl,lay,hk⟩:=id hp
 obtain⟨r0,ea⟩:=lay.head
 refine(Ys ea Vw (?_))
 refine(Z9 rfl ⟨it,Z01,rfl,.inr (hIT _),rfl,rfl,Z9 rfl (?_)⟩)
 show if Zgm (.str h.word) Z01=true then _ else _
 rw[Zbr]
 refine Ym (fun z=>?_) (fun z=>?_)
 ·refine(Z9 rfl ⟨.inl ⟨rfl,_,SqL.of hr0⟩,Z9 rfl ⟨r,xs,Z9 rfl ⟨rfl,hr0,Z5z (by omega),?_⟩⟩⟩)
  have g1:Gro [r] H (Zq H r (.lst (xs++[.ref a]))):=Gro.set (by simp) hr0 _
  refine q [.ref a] _ Z2 ?_ g1
  rw[Zb8 z]
  exact .cons ((hp.leafy z).mono g1.tups) .nil
 cases h with
 |row =>
  obtain⟨z10,b,e,er⟩:=lay
  refine(Z9 rfl ⟨rfl,Z9 rfl (Zp (by decide +kernel) ?_)⟩)
  refine(Ys e rfl ⟨b,rfl,⟨_,SqT.of er⟩,?_⟩)
  have hkl:=Paired.length hk
  refine Z0m (xs:=kv) (fun i σ H'=>∃(ys:List V) (pt:Option V),σ=[some (.ref r),some (.ref a),some (.str "row"),pt]/\H' r=some (.lst (xs++ys))/\Paired (RowAt H') ys (Jt ((ks.take i).map Pat.code) xs.length)/\Gro [r] H H')
   ⟨[],none,rfl,by simpa using hr0,.nil,Gro.refl⟩ (fun i σ H' _ hh=>by obtain⟨_,_,_,_,_,g⟩:=hh;exact SqT.of (g.tups _ _ er)) ?_ ?_
  ·rintro i x σ H1 hx ⟨ys,pt,rfl,hr1,hy1,g1⟩
   obtain⟨p,hpi,hpx⟩:=Y0 hk hx
   have hl:=Paired.length hy1
   have hrf:=Z0w (ks:=ks.take i) (fun k _=>Pat.code_fits k) xs.length
   have hsp:Ya (ks.take i)+p.size<=Ya ks:=by
    have:=Z2e ks i
    rw[Z12 hpi,Ya]at this
    omega
   have e1:(xs++ys).length=xs.length+(Jt ((ks.take i).map Pat.code) xs.length).length:=by rw[List.length_append,hl]
   refine(Z9 rfl (Z9 rfl ⟨r,x,_,p,rfl,hpx.mono g1.tups,hr1,by rw[e1];omega,fun zs H2 hr2 hz2 g2=>?_⟩))
   refine⟨ys++zs,Z9 rfl ⟨by rw[hr2,List.append_assoc],?_,g1.trans g2⟩⟩
   rw[Yf hpi,List.map_append,List.map_singleton,Z3y _ _ _ _ rfl]
   rw[e1]at hz2
   exact Zw (Y7 g2.tups hy1) hz2
  ·rintro σ H1 ⟨ys,pt,rfl,hr1,hy1,g1⟩
   rw[hkl,List.take_length]at hy1
   exact q ys H1 hr1 hy1 g1
 |alt =>
  obtain⟨z1,z10,b,e,er⟩:=lay
  refine(Z9 rfl ⟨rfl,Z9 rfl (Zf (by decide +kernel) ?_)⟩)
  refine(Z9 rfl ⟨rfl,Z9 rfl (Zp (by decide +kernel) ?_)⟩)
  exact(Z9 rfl (Ys e rfl ⟨r,b,xs,kv,ks,rfl,er,hk,z1,z10,hr0,by omega,fun ys H' h1 h2 h3=>q ys H' h1 h2 h3⟩))
 |times lo hi how =>
  obtain⟨_,k,e0,e⟩:=lay
  subst e0
  refine(Z9 rfl ⟨rfl,Z9 rfl (Zf (show ¬Xx "times" "row" = true by decide +kernel) ?_)⟩)
  refine(Z9 rfl ⟨rfl,Z9 rfl (Zf (show ¬Xx "times" "or" = true by decide +kernel) ?_)⟩)
  refine(Z9 rfl ⟨rfl,Z9 rfl (Zp (show Xx "times" "times" = true by decide +kernel) ?_)⟩)
  obtain⟨p,rfl,hpk⟩:=T5 hk
  rw[Xq]at hz
  exact(Z9 rfl (Ys e rfl (Ys e rfl (Ys e rfl (Ys e rfl ⟨r,lo,hi,how,k,xs,p,rfl,trivial,hpk,hr0,by cases how <;> simp only[How.ext] <;> omega,fun ys H' h1 h2 h3=>q ys H' h1 h2 h3⟩)))))
 |grp j =>
  obtain⟨_,k,e0,e⟩:=lay
  subst e0
  refine(Z9 rfl ⟨rfl,Z9 rfl (Zf (show ¬Xx "group" "row" = true by decide +kernel) ?_)⟩)
  refine(Z9 rfl ⟨rfl,Z9 rfl (Zf (show ¬Xx "group" "or" = true by decide +kernel) ?_)⟩)
  refine(Z9 rfl ⟨rfl,Z9 rfl (Zf (show ¬Xx "group" "times" = true by decide +kernel) ?_)⟩)
  refine(Z9 rfl ⟨rfl,Z9 rfl (Zp (show Xx "group" "group" = true by decide +kernel) ?_)⟩)
  obtain⟨p,rfl,hpk⟩:=T5 hk
  rw[Xq]at hz
  have hf:=Pat.code_fits p (xs.length+1)
  refine(Z9 rfl ⟨.inl ⟨rfl,_,SqL.of hr0⟩,sz,fun t ht=>⟨r,xs,Z9 rfl ⟨rfl,W6 hr0 ht,Z5z (by omega),?_⟩⟩⟩)
  have g1:Gro [r] H _:=Vf (zs:=xs++[V.ref t]) (o:=.tup [.str "open"]) hr0 ht
  have e1:(xs++[V.ref t]).length=xs.length+1:=by simp
  refine(Z9 rfl (Ys (g1.tups _ _ e) rfl ⟨r,k,_,p,rfl,hpk.mono g1.tups,Z2,by rw[e1];omega,fun ys H2 hr2 hp2 g2=>?_⟩))
  rw[e1]at hp2
  have hl:=Paired.length hp2
  have hl2:(xs++[V.ref t]++ys).length<=1000000:=by rw[List.length_append,e1,hl];omega
  refine(Z9 rfl ⟨.inl ⟨rfl,_,SqL.of hr2⟩,Ys (g2.tups _ _ (g1.tups _ _ e)) rfl ⟨sz,fun t2 ht2=>⟨r,Xy rfl rfl ⟨W6 hr2 ht2,Z5z hl2,?_⟩⟩⟩⟩)
  have g3:Gro [r] H2 _:=Vf (zs:=xs++[V.ref t]++ys++[V.ref t2]) (o:=.tup [.str "close",.int j]) hr2 ht2
  have et:H2 t=some (.tup [.str "open"]):=g2.tups _ _ (Ve hr0 ht)
  refine q (.ref t::(ys++[.ref t2])) _ (by simp[Z2]) ?_ ((g1.trans g2).trans g3)
  exact .cons ⟨t,rfl,g3.tups _ _ et⟩ (Zw (Y7 g3.tups hp2) (.cons ⟨t2,rfl,Ve hr2 ht2⟩ .nil))
 |hav j =>
  obtain⟨_,y,z',e0,e⟩:=lay
  subst e0
  refine(Z9 rfl ⟨rfl,Z9 rfl (Zf (show ¬Xx "have" "row" = true by decide +kernel) ?_)⟩)
  refine(Z9 rfl ⟨rfl,Z9 rfl (Zf (show ¬Xx "have" "or" = true by decide +kernel) ?_)⟩)
  refine(Z9 rfl ⟨rfl,Z9 rfl (Zf (show ¬Xx "have" "times" = true by decide +kernel) ?_)⟩)
  refine(Z9 rfl ⟨rfl,Z9 rfl (Zf (show ¬Xx "have" "group" = true by decide +kernel) ?_)⟩)
  refine(Z9 rfl ⟨rfl,Z9 rfl (Zp (show Xx "have" "have" = true by decide +kernel) ?_)⟩)
  obtain⟨p,p',rfl,hpk,hpk'⟩:=Z7x hk
  rw[Ya,Xq]at hz
  exact(Z9 rfl (Ys e rfl (Ys e rfl (Ys e rfl ⟨r,j,y,z',xs,p,p',rfl,hpk,hpk',hr0,by omega,fun ys H' h1 h2 h3=>q ys H' h1 h2 h3⟩))))
 |look lk =>
  obtain⟨k,e0,e⟩:=lay
  subst e0
  have t:Xx lk.text "row" = false/\Xx lk.text "or" = false/\Xx lk.text "times" = false/\Xx lk.text "group" = false/\Xx lk.text "have" = false:=by cases lk <;> decide +kernel
  obtain⟨t1,t2,t3,t4,t5⟩:=t
  refine(Z9 rfl ⟨rfl,Z9 rfl (Zf (show ¬Xx lk.text "row" = true by rw[t1];decide) ?_)⟩)
  refine(Z9 rfl ⟨rfl,Z9 rfl (Zf (show ¬Xx lk.text "or" = true by rw[t2];decide) ?_)⟩)
  refine(Z9 rfl ⟨rfl,Z9 rfl (Zf (show ¬Xx lk.text "times" = true by rw[t3];decide) ?_)⟩)
  refine(Z9 rfl ⟨rfl,Z9 rfl (Zf (show ¬Xx lk.text "group" = true by rw[t4];decide) ?_)⟩)
  refine(Z9 rfl ⟨rfl,Z9 rfl (Zf (show ¬Xx lk.text "have" = true by rw[t5];decide) ?_)⟩)
  obtain⟨p,rfl,hpk⟩:=T5 hk
  rw[Xq]at hz
  exact(Z9 rfl (Z9 rfl (Ys e rfl ⟨r,lk,k,xs,p,rfl,hpk,hr0,by omega,fun ys H' h1 h2 h3=>q ys H' h1 h2 h3⟩)))
 |sign _=>exact absurd rfl z
 |any=>exact absurd rfl z
 |inn _=>exact absurd rfl z
 |out _=>exact absurd rfl z
 |beg=>exact absurd rfl z
 |fin=>exact absurd rfl z
 |again _=>exact absurd rfl z
theorem Z9i{it le ls:Addr}(T:Blt mg)(Ut:mg "ITSELF" = some (.ref it))(hIT:∀H,SqT K H it Z01)(Ww:mg "LEANING" = some (.ref le))(hLE:∀H,SqT K H le Vp)(Xm:mg "LAST_ROWS" = some (.ref ls))(hLS:Zen K w ls Vz)
  (d1:Def K mg "put" Z7h ["rows","pattern"]) (d2:Def K mg "hold_place" Wh ["rows"]) (d3:Def K mg "put_or" Tt ["rows","branches"]) (d4:Def K mg "put_times" V2 ["rows","low","high","how","part"]) (d5:Def K mg "put_have" Vy ["rows","number","yes","no"]) (d6:Def K mg "put_look" Vx ["rows","kind","part"]) :
  ∀n,Own P w K mg base (2+3*n) "put" ["rows","pattern"] (Z1s n)
 |0=>d1.own fun f fd F=>FnOk.never fun vs H Q E h=>by
  obtain⟨_,_,_,_,_,hp,_⟩:=h
  exact hp.elim
 |n+1=>by
  have ih:=Z9i T Ut hIT Ww hLE Xm hLS d1 d2 d3 d4 d5 d6 n
  have hold:Own P w K mg base 1 "hold_place" ["rows"] Z1d:=d2.own fun _ _ F=>Z3k T F
  have no:Own P w K mg base (2+3*n) "put_times" ["rows","low","high","how","part"] (Wq (fun _=>False) n):=d4.own fun _ _ F=>FnOk.never fun vs H Q E h=>by
   obtain⟨_,_,_,_,_,_,_,_,z,_⟩:=h
   exact z
  have t1:Own P w K mg base (2+3*n+1) "put_times" ["rows","low","high","how","part"] (Wq (fun h=>h=.much) n):=d4.own fun _ _ F=>Z04 (ok':=fun _=>False) (fun how e z=>by rw[e]at z;cases z) T hold ih no F
  have t2:Own P w K mg base (2+(3*n+1)+1) "put_times" ["rows","low","high","how","part"] (Wq Ze8 n):=d4.own fun _ _ F=>Z04 (k:=3*n+1) (ok':=fun h=>h=.much) (fun how _ _=>rfl) T hold (ih.mono (k:=2+(3*n+1)) (by omega)) (t1.mono (k:=2+(3*n+1)) (by omega)) F
  exact d1.own fun _ _ F=>Ziq (k:=3*n) T Ut hIT ih (d3.own fun _ _ F=>Zb0 T hold ih F) (t2.mono (k:=2+3*n+2) (by omega)) (d5.own fun _ _ F=>Z65 T hold ih F) (d6.own fun _ _ F=>Z64 T Ww hLE Xm hLS hold ih F) F
inductive spCodedI(vs:List V)(H:Hp)(Q:VK):Prop
 |mk (v:V) (p:Pat) (_:vs=[v]) (_:PatAt H 8 v p) (_:p.size<=20000) (_:∀(t:Addr) (ys:List V) (H':Hp),H' t=some (.tup ys)->Paired (RowAt H') ys (p.code 0++[.tup [.str "found"]])->Gro [] H H'->Q (.ref t) H')
def Z1y:Sp:=fun vs H Q _=>spCodedI vs H Q
abbrev Z21:Stmt:=top 4
theorem sc_coded:FnScope ["pattern","rows"] ["pattern"] (Za Z21):=V7
theorem Zch(T:Blt mg)(O_put:Own P w K mg base 26 "put" ["rows","pattern"] (Z1s 8))(F:Fun K "coded" "coded" Z21 f fd):FnOk P w K mg base W3 27 f fd ["pattern"] Z1y:=by
 refine F.ok sc_coded (fun vs H Q E h=>?_) (fun cdv A outer s H vs Q E hr h=>?_)
 ·obtain⟨v,p,rfl,_⟩:=h
  rfl
 obtain⟨v,p,rfl,hp,hz,q⟩:=h
 refine V6 ?_
 intro Xz
 refine⟨_,(Z1 (pS 1 sc_coded.nd (Y4 Z3))
  (Z1 (Zn (Zj (O_put.mono (by omega)) hr rfl (Z0 (pv 1) (Z0 (pv 0) Z3))))
  (Z1 (Zn (Yw PySem.F.plainAttrs_list PySem.F.slot_list_append PySem.F.type_list_append Zz (pv 1) (Z0 (Zr (Z0 Zg Z3)) Z3)))
  (Z5 (Zl (Yu V0 rfl T.b_tuple PyProof.Rows.Boot.«tuple» (Z0 (pv 1) Z3))))))),?_⟩
 refine Z8u ?_
 intro Ez Az1 Az2 Az3
 refine⟨sz,fun r hr0=>?_⟩
 have g0:Gro [] H (Zq H r (.lst [])):=Gro.new hr0 _
 refine(Z9 rfl (Z9 rfl ⟨r,v,[],p,rfl,hp.mono g0.tups,Z2,by simp;omega,fun ys H1 hr1 hy1 g1=>?_⟩))
 have hl:=Paired.length hy1
 have hf:=Pat.code_fits p 0
 have hl1:([]++ys).length<=1000000:=by rw[List.nil_append,hl];show(p.code 0).length<=_;omega
 refine(Z9 rfl ⟨.inl ⟨rfl,_,SqL.of hr1⟩,sz,fun t ht=>⟨r,Xy rfl rfl ⟨W6 hr1 ht,Z5z hl1,?_⟩⟩⟩)
 have g2:Gro [r] H1 _:=Vf (zs:=[]++ys++[V.ref t]) (o:=.tup [.str "found"]) hr1 ht
 refine(Z9 rfl ⟨r,Z9 rfl (.inl ⟨SqL.of Z2,fun t3 ht3=>?_⟩)⟩)
 have et:=Ve (ys:=[.str "found"]) (zs:=[]++ys++[V.ref t]) hr1 ht
 generalize Zq (Zq H1 t (.tup [.str "found"])) r (.lst ([]++ys++[V.ref t]))=H2 at *
 have g3:Gro [] H2 (Zq H2 t3 (.tup ([]++ys++[V.ref t]))):=Gro.new ht3 _
 have gg:Gro [r] (Zq H r (.lst [])) (Zq H2 t3 (.tup ([]++ys++[V.ref t]))):=(g1.trans g2).trans (g3.mono (by simp))
 refine q t3 _ _ Z2 ?_ ⟨fun c o hc _=>?_,fun c zs hc=>gg.tups _ _ (g0.tups _ _ hc)⟩
 ·rw[List.nil_append]
  exact Zw (Y7 (fun b c h=>g3.tups _ _ (g2.tups _ _ h)) hy1) (.cons ⟨t,rfl,g3.tups _ _ et⟩ .nil)
 ·exact gg.keep c o (g0.keep c o hc (by simp)) (by simpa using Z7 hc hr0)
end
theorem Z70:∀xs:List Str,(Txt.join "" xs).length=(xs.map (·.length)).sum:=by
 have fold:∀(xs:List Str) (acc:Array Nat),(xs.foldl (fun a p=>a++("":Str).cps++p.cps) acc).size=acc.size+(xs.map (·.length)).sum:=by
  intro xs
  induction xs with
  |nil=>intro acc;simp
  |cons x xs ih =>
   intro acc
   rw[List.foldl_cons,ih,Array.size_append,Array.size_append,List.map_cons,List.sum_cons]
   show acc.size+0+x.length+_=_
   omega
 intro xs
 cases xs with
 |nil=>rfl
 |cons x xs =>
  show(xs.foldl (fun a p=>a++("":Str).cps++p.cps) x.cps).size=_
  rw[fold,List.map_cons,List.sum_cons]
  rfl
theorem Z6t:∀ {xs:List Str},(∀x∈xs,x.length=1)->(xs.map (·.length)).sum=xs.length
 | [],_=>rfl
 |x::xs,h=>by
  rw[List.map_cons,List.sum_cons,Z6t (fun y hy=>h y (by simp[hy])),h x (by simp),List.length_cons]
  omega
section
variable{P:Program}{w:World}{K:W.Frag}{mg:Str->Option Value}{base:Heap}{f C:Addr}{fd:FuncData}
inductive spTextI(vs:List V)(H:Hp)(Q:VK):Prop
 |mk (b l:Addr) (n:Int) (_:vs=[.ref b,.ref l,.int n]) (_:BoxAt H b) (_:LetAt H l) (_:0<=n) (_:n<=1000) (_:∀(t:Str) (H':Hp),(t.length:Int)=n->BoxAt H' b->Gro [b] H H'->Q (.str t) H')
def Z5m:Sp:=fun vs H Q _=>spTextI vs H Q
abbrev Tu:Stmt:=top 58
theorem Zao:FnScope ["_law_box","_law_letters_here","_law_size"] ["_law_box","_law_letters_here","_law_size"] (Za Tu):=V7
theorem Zfl(T:Blt mg)(O_l_take:Own P w K mg base 1 "_law_take" ["_law_box","_law_many"] W4)(F:Fun K "_law_text" "_law_text" Tu f fd):FnOk P w K mg base W3 2 f fd ["_law_box","_law_letters_here","_law_size"] Z5m:=by
 refine F.ok Zao (fun vs H Q E h=>?_) (fun cdv A outer s H vs Q E hr h=>?_)
 ·obtain⟨b,l,n,rfl,_⟩:=h
  rfl
 obtain⟨b,l,n,rfl,hb,hl,h0,h1,q⟩:=h
 have bl:b≠l:=hb.ne_let hl
 have lS:l∉[b]:=by simpa using Ne.symm bl
 refine V6 ?_
 intro Xz
 refine⟨_,(Z5 (Zl (Yw PySem.F.plainAttrs_str PySem.F.slot_str_join PySem.F.type_str_join Z5b Zg (Z0 (Vb rfl (show CScope _ ["_law_box","_law_letters_here","_law_size"] (Za Tu) _ from⟨rfl,by decide +kernel,rfl,by decide +kernel,by decide +kernel,by decide +kernel,by decide +kernel⟩) (Wu rfl T.b_range (Z0 (pv 2) Z3)) (fun _ _ _ _=>Ta) (fun _ _ _ _=>(Zd (r:=Zbl K) Y1 (pv 2) (Zj (O_l_take.mono (by omega)) hr rfl (Z0 (pv 1) (Z0 Z4 Z3))) (fun _ _=>rfl)))) Z3)))),?_⟩
 refine⟨rfl,Z9 rfl (Z9 rfl ⟨by omega,by omega,?_⟩)⟩
 refine Z2y (n:=n.toNat) (fun i ys H'=>(∃xs:List Str,ys=xs.map V.str/\xs.length=i/\∀x∈xs,x.length=1)/\BoxAt H' b/\Gro [b] H H') ⟨⟨[],rfl,rfl,by simp⟩,hb,Gro.refl⟩ (Yj (by omega)) (fun i ys H' ⟨⟨xs,e1,e2,_⟩,_⟩=>by rw[e1,List.length_map,e2];exact Nat.le_refl _) ?_ ?_
 ·rintro i ys H1 hi ⟨⟨xs,rfl,e2,e3⟩,hb1,g1⟩
  refine(Z9 rfl (Z9 rfl ⟨b,3,rfl,hb1,by decide,by decide,fun r H2 h20 h21 hb2 g2=>?_⟩))
  refine Zbn ((hl.gro g1 lS).gro g2 lS) h20 h21 fun s hs=>⟨⟨xs++[s],by simp,by simp[e2],fun x hx=>?_⟩,hb2,g1.trans g2⟩
  rcases List.mem_append.mp hx with z | z
  ·exact e3 x z
  ·rw[List.mem_singleton.mp z];exact hs
 ·rintro ys H1 ⟨⟨xs,rfl,e2,e3⟩,hb1,g1⟩ a ha
  have hs:=Z6t e3
  have e0:("":Str).length=0:=rfl
  refine⟨_,a,xs,rfl,rfl,SqL.of Z2,by rw[hs,e0];omega,?_⟩
  exact q _ _ (by rw[Z70,hs];omega) (hb1.new ha) (g1.tup ha)
end
def WyA(H:Hp)(v:V)(w:Yd):Prop:=∃(a:Addr) (gv:V),v=.ref a/\H a=some (.tup [.int w.1,gv])/\GsAt H gv w.2
theorem WyA.mono{H H':Hp}(t:Tm H H'){v:V}{w:Yd}(h:WyA H v w):WyA H' v w:=by
 obtain⟨a,gv,e1,e2,e3⟩:=h
 exact⟨a,gv,e1,t _ _ e2,e3.mono t⟩
theorem Ye{H H':Hp}(t:Tm H H'){vs:List V}{ws:List Yd}(h:Paired (WyA H) vs ws):Paired (WyA H') vs ws:=Paired.mapP h fun _ _ q=>q.mono t
theorem T9{H:Hp}{r lf:Addr}{vs:List V}{ws:List Yd}{f:Int}(h:Paired (WyA H) vs ws)(hr:H r=some (.lst vs))(hf:H lf=some (.lst [.int f])):r≠lf:=by
 refine Z3e hr hf fun q=>?_
 injection q with q'
 subst q'
 cases h with
 |cons x _ =>
  obtain⟨a,gv,e,_⟩:=x
  cases e
def WX(lf:Addr)(S:Yd->Prop)(R:List Yd->Nat->Prop)(f:Int)(Q:VK)(H:Hp):Prop:=∀(r:Addr) (vs:List V) (ws:List Yd) (N:Nat) (H':Hp),H' r=some (.lst vs)->Paired (WyA H') vs ws->(∀w∈ws,S w)->(0<=f-N->R ws N)->H' lf=some (.lst [.int (f-N)])->ws.length+(f-N).toNat<=f.toNat->Gro [lf] H H'->Q (.ref r) H'
theorem Za4{x:Str}(h:x.length=1):x.cps.toList=[x.cps.getD 0 0]:=by
 obtain⟨a⟩:=x
 have:a.size=1:=h
 match a,this with
 | ⟨[c]⟩,_=>rfl
theorem Zdu{x y:Str}(hx:x.length=1)(hy:y.length=1):(!decide (y.cps.toList<x.cps.toList))=decide (((x.cps.getD 0 0:Nat):Int)<=((y.cps.getD 0 0:Nat):Int)):=by
 rw[Za4 hx,Za4 hy]
 generalize x.cps.getD 0 0=m
 generalize y.cps.getD 0 0=n
 have:([n]<[m])↔n<m:=by
  constructor
  ·intro h
   cases h with
   |rel h=>exact h
   |cons h=>cases h
  ·exact fun h=>.rel h
 rw[Bool.eq_iff_iff]
 simp only[Bool.not_eq_true',decide_eq_false_iff_not,decide_eq_true_eq,this]
 omega
abbrev Zgq:List V->Hp->VK->Prop:=fun xs H Q=>∃x,xs=[.str x]/\x.length=1/\Q (.int (x.cps.getD 0 0:Nat)) H
theorem Zg3{K:W.Frag}{H:Hp}{σ:L2.St}{r:Addr}{rs:List (Str×Str)}{c:Str}{ts:TE}{Fin:List V->Hp->Prop}(hr:RunsAt H r rs)(hc:c.length=1)(hts:∀(x:V) (Q:VK),Q (.str c) H->ts (some x::σ) H Q)
  (fin:∀zs:List V,(!zs.isEmpty)=Yq rs c->Fin zs H) :
  Zjx (Zk6 K r) σ (Zl5 (Jk (Z3l (Zgk fun i j=>V.bl (decide (i<=j))) (Zle Zgq (Yy (Z3l (Uu K) (Xc 0) (tC (.int 0))) Ub)) (Zle Zgq (Yy ts Ub))))
   (Jk (Z3l (Zgk fun i j=>V.bl (decide (i<=j))) (Zle Zgq (Yy ts Ub)) (Zle Zgq (Yy (Z3l (Uu K) (Xc 0) (tC (.int 1))) Ub))))) (Xc 0) Fin H:=by
 obtain⟨vs,hv,hp,hz⟩:=hr
 have hl:=Paired.length hp
 refine Z1j (n:=vs.length) (fun j zs H'=>H'=H/\(!zs.isEmpty)=Yq (rs.take j) c/\zs.length<=j) ⟨rfl,rfl,Nat.le_refl _⟩ (Yj (by omega)) (fun j zs H' ⟨_,_,h⟩=>h) (fun j zs H' hj ⟨e,_⟩=>by rw[e];exact⟨vs,vs[j],SqT.of hv,by simp[hj]⟩) (fun zs H' ⟨e,_⟩=>by rw[e];exact⟨vs,SqT.of hv,Nat.le_refl _⟩) ?_ ?_
 ·rintro j zs H' x H'' hj ⟨rfl,hzs,hzl⟩ ⟨rfl,hx⟩
  have hx':=hx vs (SqT.of hv)
  obtain⟨p,hpi,h1,h2,a,rfl,ha⟩:=Y0 hp hx'
  have snoc:Yq (rs.take (j+1)) c=(Yq (rs.take j) c||(!decide (c.cps.toList<p.1.cps.toList) && !decide (p.2.cps.toList<c.cps.toList))):=by
   unfold Yq
   rw[Yf hpi,List.any_append]
   simp
  refine(Ys ha Vw ⟨p.1,rfl,h1,?_⟩)
  refine hts _ _ ⟨c,rfl,hc,Xy rfl rfl (Z9 rfl (?_))⟩
  rw[Zdu h1 hc]at snoc
  rw[Zdu hc h2]at snoc
  refine Ym (fun z=>?_) (fun z=>?_)
  ·refine hts _ _ ⟨c,rfl,hc,?_⟩
   refine(Ys ha rfl ⟨p.2,rfl,h2,_,_,rfl,rfl,_,rfl,?_⟩)
   refine Ym (fun z2=>?_) (fun z2=>?_)
   ·refine(Z9 rfl ⟨rfl,?_,by simp;omega⟩)
    rw[snoc,z,z2]
    simp
   ·refine⟨rfl,?_,by omega⟩
    rw[snoc,hzs,Bool.eq_false_iff.mpr z2]
    simp
  ·refine Ju ⟨rfl,?_,by omega⟩
   rw[snoc,hzs,Bool.eq_false_iff.mpr z]
   simp
 ·rintro zs H' ⟨rfl,hzs,_⟩
  rw[hl,List.take_length]at hzs
  exact fin zs hzs
section
variable{P:Program}{w:World}{K:W.Frag}{mg:Str->Option Value}{base:Heap}{f:Addr}{fd:FuncData}
inductive spTkI(vs:List V)(H:Hp)(Q:VK):Prop
 |mk (d:Nat) (v:V) (h:Hd) (ks:List Pat) (c:Str) (_:vs=[v,.str c]) (_:PatAt H d v (.node h ks)) (_:h.one=true) (_:c.length=1) (_:∀(H':Hp),Gro [] H H'->Q (.bl (h.eats c)) H')
def Zgp:Sp:=fun vs H Q _=>spTkI vs H Q
abbrev Uk:Stmt:=top 66
theorem sc_l_takes:FnScope ["_law_p","_law_sign_here","_law_lies"] ["_law_p","_law_sign_here"] (Za Uk):=V7
theorem Zkl(T:Blt mg)(F:Fun K "_law_takes" "_law_takes" Uk f fd):FnOk P w K mg base W3 1 f fd ["_law_p","_law_sign_here"] Zgp:=by
 refine F.ok sc_l_takes (fun vs H Q E h=>?_) (fun cdv A outer s H vs Q E hr h=>?_)
 ·obtain⟨d,v,h,ks,c,rfl,_⟩:=h
  rfl
 obtain⟨d,v,h,ks,c,rfl,hp,hs,hc,q⟩:=h
 refine V6 ?_
 intro Xz
 refine⟨_,(Z1 (Zs (PW.pt (T7 (Zb Zv (Zd Zc (pv 0) Z4 (fun _ _=>rfl)) Zg (Ze _)) (Vi (Zb Zv (Zd Zc (pv 0) Z4 (fun _ _=>rfl)) Zg (Ze _))))) (Z5 (Zl (Zgz (X7 Zv (Zd Zc (pv 0) Z4 (fun _ _=>rfl)) Zg (Ze _)) (Z5v (X7 Zv (Zd Zc (pv 0) Z4 (fun _ _=>rfl)) (pv 1) (Ze _)))))) Zk)
  (Z1 (Z6m (i:=2) sc_l_takes.nd rfl rfl rfl (show CScope _ ["_law_p","_law_sign_here","_law_lies"] (Za Uk) _ from⟨rfl,by decide +kernel,rfl,by decide +kernel,by decide +kernel,by decide +kernel,by decide +kernel⟩) (Jh (Zd Zc (pv 0) Z4 (fun _ _=>rfl))) (fun _ _ _ _=>(Z55 (PW.pt (Vj (Zb Zai (Zy Us rfl T.b_ord PyProof.Rows.Boot.«ord» (Z0 (Zd (r:=Uu K) Zc (pv 0) Z4 (fun _ _=>rfl)) Z3)) (Zy Us rfl T.b_ord PyProof.Rows.Boot.«ord» (Z0 (pv 2) Z3)) (Ze _)) (Wl (Zb Zai (Zy Us rfl T.b_ord PyProof.Rows.Boot.«ord» (Z0 (pv 2) Z3)) (Zy Us rfl T.b_ord PyProof.Rows.Boot.«ord» (Z0 (Zd (r:=Uu K) Zc (pv 0) Z4 (fun _ _=>rfl)) Z3)) (Ze _))))))) (fun _ _ _ _=>(pv 0)) rfl)
  (Z5 (Zl (X7 Zv (X7 (Z2u hr.units0) (pv 2) (Y4 Z3) (Ze _)) (X7 Zv (Zd Zc (pv 0) Z4 (fun _ _=>rfl)) Zg (Ze _)) (Ze _)))))),?_⟩
 refine Zdh ?_
 intro Ez Az1 Az2 Az3
 cases d with
 |zero=>exact hp.elim
 |succ d =>
 obtain⟨a,kv,rfl,lay,hk⟩:=hp
 obtain⟨r0,ea⟩:=lay.head
 have kinds:(∃x,h=.sign x)∨h=.any∨∃(rs:List (Str×Str)) (r:Addr) (w1:Str) (b:Bool),H a=some (.tup [.str w1,.ref r])/\RunsAt H r rs/\Xx w1 "any" = false/\Xx w1 "sign" = false/\decide (V.str w1=V.str "in")=b/\h.eats c=(Yq rs c==b):=by
  cases h with
  |sign x=>exact .inl ⟨x,rfl⟩
  |any=>exact .inr (.inl rfl)
  |inn rs =>
   obtain⟨_,r,e,hr'⟩:=lay
   exact .inr (.inr ⟨rs,r,"in",true,e,hr',by decide +kernel,by decide +kernel,by decide +kernel,by show Yq rs c=_;cases Yq rs c <;> rfl⟩)
  |out rs =>
   obtain⟨_,r,e,hr'⟩:=lay
   exact .inr (.inr ⟨rs,r,"out",false,e,hr',by decide +kernel,by decide +kernel,by decide +kernel,by show(!Yq rs c)=_;cases Yq rs c <;> rfl⟩)
  |_=>cases hs
 rcases kinds with⟨x,rfl⟩ | rfl | ⟨rs,r,w1,b,e,hr',n1,n2,hb,hev⟩
 ·refine(Ys ea Vw ⟨rfl,_,rfl,Zf (show ¬Xx "sign" "any" = true by decide +kernel) ?_⟩)
  refine(Ys ea Vw ⟨rfl,_,rfl,Zp (show Xx "sign" "sign" = true by decide +kernel) ?_⟩)
  refine(Ys ea Vw ⟨rfl,_,rfl,Zf (show ¬Xx "sign" "any" = true by decide +kernel) ?_⟩)
  exact(Ys lay.2.2 rfl ⟨_,rfl,rfl,q _ Gro.refl⟩)
 ·refine(Ys ea Vw ⟨rfl,_,rfl,Zp (show Xx "any" "any" = true by decide +kernel) (Te ?_)⟩)
  refine(Ys ea Vw ⟨rfl,_,rfl,Zp (show Xx "any" "any" = true by decide +kernel) ?_⟩)
  exact q H Gro.refl
 ·refine(Ys e Vw ⟨rfl,_,rfl,Zf (by show ¬Xx w1 "any" = true;rw[n1];decide) ?_⟩)
  refine(Ys e Vw ⟨rfl,_,rfl,Zf (by show ¬Xx w1 "sign" = true;rw[n2];decide) ?_⟩)
  refine(Ys e rfl ⟨r,rfl,?_⟩)
  obtain⟨vs,hv,hp,hz⟩:=id hr'
  refine⟨⟨vs,SqT.of hv⟩,?_⟩
  refine Zg3 (K:=K) hr' hc (fun x Q' q'=>(Z9 rfl q')) (fun zs hzs l hl2=>?_)
  refine(Z9 rfl ⟨sz,fun l2 hl3=>?_⟩)
  have g2:Gro [] H (Zq (Zq H l (.lst zs)) l2 (.lst [])):=(Gro.new hl2 _).tup hl3
  refine⟨l,l2,zs,rfl,rfl,SqL.of (by rw[Zi (Z7 Z2 hl3)];exact Z2),SqL.of Z2,?_⟩
  refine(Ys (g2.tups _ _ e) Vw ⟨rfl,rfl,?_⟩)
  have q':=q _ g2
  rw[hev]at q'
  rw[hb,hzs]
  show Q (.bl (decide (V.bl (Yq rs c)=V.bl b))) _
  rw[show decide (V.bl (Yq rs c)=V.bl b)=(Yq rs c==b) by cases Yq rs c <;> cases b <;> rfl]
  exact q'
inductive spWaysI(d:Nat)(vs:List V)(H:Hp)(Q:VK):Prop
 |mk (v0 gv:V) (p:Pat) (t:Str) (i n:Nat) (g:Gs) (f:Int) (lf:Addr) (_:vs=[v0,.str t,.int i,gv,.ref lf]) (_:PatAt H d v0 p) (_:p.nm n) (_:t.length<=8) (_:i<=t.length) (_:n<=900) (_:GsAt H gv g) (_:GOk t n g) (_:H lf=some (.lst [.int f])) (_:f<=1500) (_:WX lf (Gd t n i) (Wy t d p i g) f Q H)
def U0(d:Nat):Sp:=fun vs H Q _=>spWaysI d vs H Q
inductive spEachI(d:Nat)(vs:List V)(H:Hp)(Q:VK):Prop
 |mk (v0:V) (p:Pat) (t:Str) (i n:Nat) (f:Int) (wr lf:Addr) (us:List V) (is:List Yd) (_:vs=[v0,.str t,.ref wr,.ref lf]) (_:PatAt H d v0 p) (_:p.nm n) (_:t.length<=8) (_:n<=900) (_:H wr=some (.lst us)) (_:Paired (WyA H) us is) (_:us.length<=1500) (_:(∀w∈is,Gd t n i w)) (_:H lf=some (.lst [.int f])) (_:f<=1500) (_:WX lf (Gd t n i) (Ew (Wy t d) p is) f Q H)
def Z8t(d:Nat):Sp:=fun vs H Q _=>spEachI d vs H Q
theorem Ew.snoc{W:Wk}{p:Pat}:∀ {vs ws us:List Yd} {w:Yd} {N N':Nat},Ew W p vs ws N->W p w.1 w.2 us N'->Ew W p (vs++[w]) (ws++us) (N+N')
 |_,_,_,_,_,_,.nil,h=>by
  have:=Ew.cons h Ew.nil
  rw[List.append_nil]at this
  simpa using this
 |_,_,_,_,_,_,.cons h r,h'=>by
  have:=Ew.cons h (Ew.snoc r h')
  rw[List.append_assoc,Nat.add_assoc]
  exact this
abbrev Tv:Stmt:=top 67
theorem sc_l_each:FnScope ["_law_part","_law_text_here","_law_ways_here","_law_left","_law_found","_law_way"] ["_law_part","_law_text_here","_law_ways_here","_law_left"] (Za Tv):=V7
theorem Zfx{d k:Nat}(O_l_ways:Own P w K mg base k "_law_ways" ["_law_p","_law_text_here","_law_i","_law_g","_law_left"] (U0 d))(F:Fun K "_law_each" "_law_each" Tv f fd):FnOk P w K mg base W3 (k+1) f fd ["_law_part","_law_text_here","_law_ways_here","_law_left"] (Z8t d):=by
 refine F.ok sc_l_each (fun vs H Q E h=>?_) (fun cdv A outer s H vs Q E hr h=>?_)
 ·obtain⟨v0,p,t,i,n,f,wr,lf,us,is,rfl,_⟩:=h
  rfl
 obtain⟨v0,p,t,i0,n,f0,wr,lf,us,is,rfl,hp,hnm,ht,hn,hwr,hus,hul,his,hlf,hf,q⟩:=h
 refine V6 ?_
 intro Xz
 refine⟨_,(Z1 (pS 4 sc_l_each.nd (Y4 Z3))
  (Z1 (Xr PassesOwn.never rfl (Vn (pv 2)) (pN 5 sc_l_each.nd) (Z5 (pS 4 sc_l_each.nd (Zx Z38 (pv 4) (Zj (O_l_ways.mono (by omega)) hr rfl (Z0 (pv 0) (Z0 (pv 1) (Z0 (Zd Zc (pv 5) Z4 (fun _ _=>rfl)) (Z0 (Zd Zc (pv 5) Z4 (fun _ _=>rfl)) (Z0 (pv 3) Z3))))))))))
  (Z5 (Zl (pv 4))))),?_⟩
 refine Zhj ?_
 intro Ez Az1 Az2 Az3
 have hne:=T9 hus hwr hlf
 refine⟨sz,fun a ha=>?_⟩
 have na:wr≠a:=Z7 hwr ha
 have nf:lf≠a:=Z7 hlf ha
 refine(Z9 rfl ⟨wr,rfl,⟨us,SqL.of (by rw[Zi na];exact hwr)⟩,?_⟩)
 refine J0 (xs:=us) (fun k σ H'=>∃(fr:Addr) (vs:List V) (ws:List Yd) (N:Nat) (wy:Option V),σ=[some v0,some (.str t),some (.ref wr),some (.ref lf),some (.ref fr),wy]/\H' fr=some (.lst vs)/\Paired (WyA H') vs ws/\(∀w∈ws,Gd t n i0 w)/\(0<=f0-N->Ew (Wy t d) p (is.take k) ws N)/\H' lf=some (.lst [.int (f0-N)])/\ws.length+(f0-N).toNat<=f0.toNat/\Gro [lf] H H')
  ⟨a,[],[],0,none,rfl,Z2,.nil,(fun j hj=>by simp at hj),(fun _=>.nil),by rw[Zi nf,hlf];simp,by simp,Gro.new ha _⟩ (fun k σ H' _ hh=>by obtain⟨_,_,_,_,_,_,_,_,_,_,_,_,g⟩:=hh;exact SqL.of (g.keep _ _ hwr (by simpa using hne))) ?_ ?_
 ·rintro k x σ H1 hx ⟨fr,vs,ws,N,wy,rfl,hfr,hvs,hws,hR,hl1,hlen,g1⟩
  obtain⟨w0,hii,hw⟩:=Y0 hus hx
  have him:=List.mem_of_getElem? hii
  have gd:=his w0 him
  obtain⟨b,gv,rfl,hb,hg⟩:=hw.mono g1.tups
  refine(Z9 rfl (Z9 rfl (Z9 rfl (Ys hb Vw (Ys hb rfl ⟨_,rfl,v0,gv,p,t,w0.1,n,w0.2,f0-N,lf,rfl,hp.mono g1.tups,hnm,ht,gd.hi,hn,hg,gd.g,hl1,by omega,fun r2 vs2 ws2 N2 H2 hr2 hv2 hs2 hR2 hl2 hlen2 g2=>?_⟩)))))
  have nr:fr≠lf:=T9 hvs hfr hl1
  have hfr2:=g2.keep _ _ hfr (by simpa using nr)
  have e1:=Paired.length hvs
  have e2:=Paired.length hv2
  refine⟨fr,r2,vs,vs2,rfl,rfl,hfr2,hr2,Nat.le_of_lt (Z5z (n:=vs.length+vs2.length) (by omega)),fun c hc=>?_⟩
  have g3:=Gro.new (S:=[lf]) hc (.lst (vs++vs2))
  have hN:f0-(N:Int)-(N2:Int)=f0-((N+N2:Nat):Int):=by omega
  refine⟨c,vs++vs2,ws++ws2,N+N2,Z9 rfl ⟨Z2,Zw (Ye (fun b xs h=>g3.tups _ _ (g2.tups _ _ h)) hvs) (Ye g3.tups hv2),fun j hj=>?_,fun h0=>?_,by rw[Zi (Z7 hl2 hc),hl2,hN],by rw[List.length_append];omega,(g1.trans g2).trans g3⟩⟩
  ·rcases List.mem_append.mp hj with z | z
   ·exact hws j z
   ·exact(hs2 j z).trans gd.lo
  ·rw[Yf hii]
   exact(hR (by omega)).snoc (hR2 (by omega))
 ·rintro σ H1 ⟨fr,vs,ws,N,wy,rfl,hfr,hvs,hws,hR,hl1,hlen,g1⟩
  rw[List.take_of_length_le (by rw[← Paired.length hus];exact Nat.le_refl _)]at hR
  exact(Z9 rfl (q fr vs ws N H1 hfr hvs hws hR hl1 hlen g1))
end
structure Bh(t:Str)(n i:Nat)(w:Yd):Prop where
 e:w.1=i
 hi:w.1<=t.length
 g:GOk t n w.2
section
variable{P:Program}{w:World}{K:W.Frag}{mg:Str->Option Value}{base:Heap}{f:Addr}{fd:FuncData}
inductive spBehI(d:Nat)(vs:List V)(H:Hp)(Q:VK):Prop
 |mk (v0 gv:V) (p:Pat) (t:Str) (i n:Nat) (g:Gs) (f:Int) (lf:Addr) (_:vs=[v0,.str t,.int i,gv,.ref lf]) (_:PatAt H d v0 p) (_:p.nm n) (_:t.length<=8) (_:i<=t.length) (_:n<=900) (_:GsAt H gv g) (_:GOk t n g) (_:H lf=some (.lst [.int f])) (_:f<=1500) (_:WX lf (Bh t n i) (Bx (Wy t d) p i g i) f Q H)
def Zeg(d:Nat):Sp:=fun vs H Q _=>spBehI d vs H Q
abbrev Ws:Stmt:=top 69
theorem sc_l_behind:FnScope ["_law_p","_law_text_here","_law_i","_law_g","_law_left","_law_found","_law_k"] ["_law_p","_law_text_here","_law_i","_law_g","_law_left"] (Za Ws):=V7
theorem Ziv{d k:Nat}(T:Blt mg)(O_l_ways:Own P w K mg base k "_law_ways" ["_law_p","_law_text_here","_law_i","_law_g","_law_left"] (U0 d))(F:Fun K "_law_behind" "_law_behind" Ws f fd):FnOk P w K mg base W3 (k+1) f fd ["_law_p","_law_text_here","_law_i","_law_g","_law_left"] (Zeg d):=by
 refine F.ok sc_l_behind (fun vs H Q E h=>?_) (fun cdv A outer s H vs Q E hr h=>?_)
 ·obtain⟨v0,gv,p,t,i,n,g,f,lf,rfl,_⟩:=h
  rfl
 obtain⟨v0,gv,p,t,i,n,g,f0,lf,rfl,hp,hnm,ht,hi1,hn,hgs,hgo,hlf,hf,q⟩:=h
 refine V6 ?_
 intro Xz
 refine⟨_,(Z1 (pS 5 sc_l_behind.nd (Y4 Z3))
  (Z1 (Xr PassesOwn.never rfl (Wu rfl T.b_range (Z0 (Zx Yn (pv 2) Z4) Z3)) (pN 6 sc_l_behind.nd) (Z5 (Zs (Zb (Z6s hr.units0) (pv 5) (Y4 Z3) (Ze _)) (Z5 (Z6m (i:=5) sc_l_behind.nd rfl rfl rfl (show CScope _ ["_law_p","_law_text_here","_law_i","_law_g","_law_left","_law_found","_law_k"] (Za Ws) _ from⟨rfl,by decide +kernel,rfl,by decide +kernel,by decide +kernel,by decide +kernel,by decide +kernel⟩) (Vn (Zj (O_l_ways.mono (by omega)) hr rfl (Z0 (pv 0) (Z0 (pv 1) (Z0 (Zx X3 (pv 2) (pv 6)) (Z0 (pv 3) (Z0 (pv 4) Z3))))))) (fun _ _ _ _=>(Z55 (Zb Zv (Zd (r:=Uu K) Zc (pv 0) Z4 (fun _ _=>rfl)) (pv 3) (Ze _)))) (fun _ _ _ _=>(pv 0)) rfl)) Zk)))
  (Z5 (Zl (pv 5))))),?_⟩
 refine Zhv ?_
 intro Ez Az1 Az2 Az3 Az4
 refine⟨sz,fun a ha=>?_⟩
 have nf:lf≠a:=Z7 hlf ha
 refine(Z9 rfl (Xy rfl rfl (Z9 rfl ⟨by omega,by omega,?_⟩)))
 refine Vu (n:=((i:Int)+1).toNat) (fun x σ H'=>∃(fr:Addr) (vs:List V) (ws:List Yd) (N:Nat) (kv:Option V),σ=[some v0,some (.str t),some (.int i),some gv,some (.ref lf),some (.ref fr),kv]/\H' fr=some (.lst vs)/\Paired (WyA H') vs ws/\(∀w∈ws,Bh t n i w) /\
   (0<=f0-N->(ws=[]/\x<=i/\∀us N',Bx (Wy t d) p i g (i-x) us N'->Bx (Wy t d) p i g i us (N+N'))∨(Bx (Wy t d) p i g i ws N/\(ws=[]->x=i+1)))/\H' lf=some (.lst [.int (f0-N)])/\ws.length+(f0-N).toNat<=f0.toNat/\Gro [lf] H H')
  ⟨a,[],[],0,none,rfl,Z2,.nil,(fun j hj=>by simp at hj),(fun _=>.inl ⟨rfl,Nat.zero_le _,fun us N' h=>by rw[Nat.zero_add];exact h⟩),by rw[Zi nf,hlf];simp,by simp,Gro.new ha _⟩ ?_ ?_
 ·rintro x σ H1 hx ⟨fr,vs,ws,N,kv,rfl,hfr,hvs,hws,hR,hl1,hlen,g1⟩
  have hxi:x<=i:=by omega
  refine(Z9 rfl ⟨sz,fun b hb=>?_⟩)
  have g2:=Gro.new (S:=[lf]) hb (.lst [])
  have hl2:(Zq H1 b (.lst [])) lf=some (.lst [.int (f0-N)]):=by rw[Zi (Z7 hl1 hb)];exact hl1
  have hfr2:(Zq H1 b (.lst [])) fr=some (.lst vs):=by rw[Zi (Z7 hfr hb)];exact hfr
  have hvs2:=Ye g2.tups hvs
  refine⟨fr,b,vs,rfl,rfl,SqL.of hfr2,SqL.of Z2,Z9 rfl (Ym (fun z=>?_) (fun z=>?_))⟩
  ·have hv0:vs=[]:=List.isEmpty_iff.mp z
   have hw0:ws=[]:=by
    have:=Paired.length hvs
    rw[hv0]at this
    exact List.length_eq_zero_iff.mp this.symm
   generalize Zq H1 b (.lst [])=H2 at *
   have g12:=g1.trans g2
   have hst:(i:Int)-(0+(x:Int))=((i-x:Nat):Int):=by omega
   refine(Z9 rfl (Z9 rfl (Z9 rfl (Z9 rfl (Xy rfl rfl (Z9 rfl (Z9 rfl ⟨v0,gv,p,t,i-x,n,g,f0-N,lf,by rw[← hst];rfl,hp.mono g12.tups,hnm,ht,by omega,hn,hgs.mono g12.tups,hgo,hl2,by omega,fun r3 vs3 ws3 N3 H3 hr3 hv3 hs3 hR3 hl3 hlen3 g3=>?_⟩)))))))
   have e3:=Paired.length hv3
   have nr:=T9 hv3 hr3 hl3
   refine⟨r3,rfl,⟨vs3,SqL.of hr3⟩,?_⟩
   refine Zct (xs:=vs3) (fun y ys H'=>Paired (WyA H') ys ((ws3.take y).filter fun w=>w.1==i)/\ys.length<=y/\H'=H3) ⟨.nil,Nat.le_refl _,rfl⟩ (Z5z (by omega)) (fun y ys H' ⟨_,hl,_⟩=>hl) (fun y ys H' ⟨_,_,e⟩=>by rw[e];exact SqL.of hr3) ?_ ?_
   ·rintro y ys H' v hv ⟨hz,hzl,rfl⟩
    obtain⟨w0,hj,⟨b2,gv2,rfl,hb2,hg2⟩⟩:=Y0 hv3 hv
    refine(Ys hb2 Vw ⟨_,rfl,rfl,_,rfl,?_⟩)
    rw[Yf hj,List.filter_append]
    by_cases hji:w0.1=i
    ·refine Zp (decide_eq_true (by rw[hji])) (Z9 rfl ⟨?_,by simp;omega,rfl⟩)
     rw[List.filter_cons_of_pos (by simpa using hji)]
     exact hz.snoc ⟨b2,gv2,rfl,hb2,hg2⟩
    ·refine Zf (fun z=>hji ?_) ⟨?_,by omega,rfl⟩
     ·have z':V.int (w0.1:Int)=V.int (i:Int):=of_decide_eq_true z
      injection z' with z'
      omega
     ·rw[List.filter_cons_of_neg (by simpa using hji),List.filter_nil,List.append_nil]
      exact hz
   ·rintro ys H' ⟨hz,hzl,rfl⟩ c hc
    rw[List.take_of_length_le (by omega)]at hz
    have g4:=Gro.new (S:=[lf]) hc (.lst ys)
    have hN:f0-(N:Int)-(N3:Int)=f0-((N+N3:Nat):Int):=by omega
    refine⟨c,ys,ws3.filter fun w=>w.1==i,N+N3,Z9 rfl ⟨Z2,Ye g4.tups hz,fun w hw=>?_,fun h0=>?_,by rw[Zi (Z7 hl3 hc),hl3,hN],?_,(g12.trans g3).trans g4⟩⟩
    ·obtain⟨h1,h2⟩:=List.mem_filter.mp hw
     have gd:=hs3 w h1
     exact⟨by simpa using h2,gd.hi,gd.g⟩
    ·have r3':=hR3 (by omega)
     rcases hR (by omega) with⟨_,_,acc⟩ | ⟨_,h⟩
     ·by_cases hfl:(ws3.filter fun w=>w.1==i)=[]
      ·by_cases h0':i-x=0
       ·refine .inr ⟨?_,fun _=>by omega⟩
        rw[hfl]
        rw[h0']at r3' acc
        exact acc [] N3 (.last r3' hfl)
       ·refine .inl ⟨hfl,by omega,fun us N' h=>?_⟩
        rw[Nat.add_assoc]
        refine acc us (N3+N') ?_
        obtain⟨y,hy⟩:∃y,i-x=y+1:=⟨i-x-1,by omega⟩
        rw[hy]at r3' ⊢
        rw[show i-(x+1)=y by omega]at h
        exact .down r3' hfl h
      ·exact .inr ⟨acc _ N3 (.here r3' hfl),fun e=>absurd e hfl⟩
     ·have:=h hw0
      omega
    ·have h1:=List.length_filter_le (fun w:Yd=>w.1==i) ws3
     rw[hw0]at hlen
     simp at hlen
     omega
  ·refine⟨fr,vs,ws,N,Z9 rfl ⟨hfr2,hvs2,hws,fun h0=>?_,hl2,hlen,g1.trans g2⟩⟩
   have hwn:ws≠[]:=fun e=>z (by
    have:=Paired.length hvs
    rw[e]at this
    rw[List.length_eq_zero_iff.mp this]
    rfl)
   rcases hR h0 with⟨e,_⟩ | ⟨h1,_⟩
   ·exact absurd e hwn
   ·exact .inr ⟨h1,fun e=>absurd e hwn⟩
 ·rintro σ H1 ⟨fr,vs,ws,N,kv,rfl,hfr,hvs,hws,hR,hl1,hlen,g1⟩
  refine(Z9 rfl (q fr vs ws N H1 hfr hvs hws (fun h0=>?_) hl1 hlen g1))
  rcases hR h0 with⟨_,h,_⟩ | ⟨h,_⟩
  ·omega
  ·exact h
inductive spTurnsI(d e:Nat)(vs:List V)(H:Hp)(Q:VK):Prop
 |mk (v0 gv:V) (p:Pat) (lo:Int) (hi:Option Int) (how:How) (t:Str) (m i n:Nat) (g:Gs) (f:Int) (lf:Addr) (_:vs=[v0,.str t,.int m,.int i,gv,.ref lf]) (_:PatAt H (d+1) v0 (.node (.times lo hi how) [p])) (_:p.nm n) (_:t.length<=8) (_:i<=t.length) (_:n<=900) (_:GsAt H gv g) (_:GOk t n g) (_:H lf=some (.lst [.int f])) (_:f<=1500) (_:(lo-m).toNat+(t.length-i)<e) (_:WX lf (Gd t n i) (Tx (Wy t d) lo hi how p e m i g) f Q H)
def Z1v(d e:Nat):Sp:=fun vs H Q _=>spTurnsI d e vs H Q
def Zmj(W:Wk)(v0 gv:V)(p:Pat)(lo:Int)(hi:Option Int)(how:How)(t:Str)(e m i n:Nat)(g:Gs)(f:Int)(lf:Addr)(H:Hp):TS:=fun D σ H1=>∃(ar:Addr) (vs:List V) (on:List Yd) (N1:Nat) (wy:Option V),σ=[some v0,some (.str t),some (.int m),some (.int i),some gv,some (.ref lf),some (.ref ar),wy]/\H1 ar=some (.lst vs)/\Paired (WyA H1) vs on/\(∀w∈on,Gd t n i w) /\
 (0<=f-((N1+1:Nat):Int)->(Ua hi m=true/\∃vs Na Nb,W p i g vs Na/\Lx (Tx W lo hi how p e) lo m i vs on Nb/\N1=Na+Nb)∨(Ua hi m=false/\on=[]/\N1=0))/\H1 lf=some (.lst [.int (f-((N1+1:Nat):Int))])/\on.length+1+(f-((N1+1:Nat):Int)).toNat<=f.toNat/\Gro [lf] H H1/\WX lf (Gd t n i) (Tx W lo hi how p (e+1) m i g) f D.rt H
theorem Lx.snoc{T:Nat->Nat->Gs->List Yd->Nat->Prop}{lo:Int}{m i:Nat}:∀ {vs ws us:List Yd} {w:Yd} {N N':Nat},Lx T lo m i vs ws N->((m:Int)<lo∨i<w.1)->T (m+1) w.1 w.2 us N'->Lx T lo m i (vs++[w]) (ws++us) (N+N')
 |_,_,_,_,_,_,.nil,c,h=>by
  have:=Lx.go c h (Lx.nil (T:=T) (lo:=lo) (m:=m) (i:=i))
  rw[List.append_nil]at this
  simpa using this
 |_,_,_,_,_,_,.go c' h' r,c,h=>by
  have:=Lx.go c' h' (Lx.snoc r c h)
  rw[List.append_assoc,Nat.add_assoc]
  exact this
 |_,_,_,_,_,_,.skip c' r,c,h=>.skip c' (Lx.snoc r c h)
theorem Lx.snocS{T:Nat->Nat->Gs->List Yd->Nat->Prop}{lo:Int}{m i:Nat}:∀ {vs ws:List Yd} {w:Yd} {N:Nat},Lx T lo m i vs ws N->¬((m:Int)<lo∨i<w.1)->Lx T lo m i (vs++[w]) ws N
 |_,_,_,_,.nil,c=>.skip c .nil
 |_,_,_,_,.go c' h' r,c=>.go c' h' (Lx.snocS r c)
 |_,_,_,_,.skip c' r,c=>.skip c' (Lx.snocS r c)
abbrev Vr:Stmt:=top 68
theorem sc_l_turns:FnScope ["_law_p","_law_text_here","_law_n","_law_j","_law_g","_law_left","_law_on","_law_way"] ["_law_p","_law_text_here","_law_n","_law_j","_law_g","_law_left"] (Za Vr):=V7
theorem Zc8{d e k:Nat}(O_l_ways:Own P w K mg base k "_law_ways" ["_law_p","_law_text_here","_law_i","_law_g","_law_left"] (U0 d))(O_l_turns:Own P w K mg base k "_law_turns" ["_law_p","_law_text_here","_law_n","_law_j","_law_g","_law_left"] (Z1v d e))(F:Fun K "_law_turns" "_law_turns" Vr f fd):FnOk P w K mg base W3 (k+1) f fd ["_law_p","_law_text_here","_law_n","_law_j","_law_g","_law_left"] (Z1v d (e+1)):=by
 refine F.ok sc_l_turns (fun vs H Q E h=>?_) (fun cdv A outer s H vs Q E hr h=>?_)
 ·obtain⟨v0,gv,p,lo,hi,how,t,m,i,n,g,f,lf,rfl,_⟩:=h
  rfl
 obtain⟨v0,gv,p,lo,hi,how,t,m,i,n,g,f0,lf,rfl,hp,hnm,ht,hi1,hn,hgs,hgo,hlf,hf,hme,q⟩:=h
 obtain⟨a0,kv,rfl,⟨⟨hlo0,hlo1,hhi⟩,k0,rfl,ea⟩,hk⟩:=id hp
 have hp1:PatAt H d k0 p:=by
  cases hk with
  |cons h _=>exact h
 refine V6 ?_
 intro Xz
 refine⟨_,(Z1 (U1 (Zx X3 (Zd Y1 (pv 5) Z4 (fun _ _=>rfl)) Z4) (U2 (pv 5) Z4 Xp))
  (Z1 (Zs (Zb Vc (Zd Y1 (pv 5) Z4 (fun _ _=>rfl)) Z4 (Ze _)) (Z5 (Zl (Y4 Z3))) Zk)
  (Z1 (pS 6 sc_l_turns.nd (Y4 Z3))
  (Z1 (Zs (PW.pt (T7 (Ug (Th (Zd Zc (pv 0) Z4 (fun _ _=>rfl)))) (Vi (Zb Vc (pv 2) (Zd Zc (pv 0) Z4 (fun _ _=>rfl)) (Ze _))))) (Z5 (Xr PassesOwn.never rfl (Vn (Zj (O_l_ways.mono (by omega)) hr rfl (Z0 (Zd Zc (pv 0) Z4 (fun _ _=>rfl)) (Z0 (pv 1) (Z0 (pv 3) (Z0 (pv 4) (Z0 (pv 5) Z3))))))) (pN 7 sc_l_turns.nd) (Z5 (Zs (PW.pt (T7 (Zb Vc (pv 2) (Zd Zc (pv 0) Z4 (fun _ _=>rfl)) (Ze _)) (Vi (Zb Z3d (Zd Zc (pv 7) Z4 (fun _ _=>rfl)) (pv 3) (Ze _))))) (Z5 (pS 6 sc_l_turns.nd (Zx Z38 (pv 6) (Zj (O_l_turns.mono (by omega)) hr rfl (Z0 (pv 0) (Z0 (pv 1) (Z0 (Zx Yn (pv 2) Z4) (Z0 (Zd Zc (pv 7) Z4 (fun _ _=>rfl)) (Z0 (Zd Zc (pv 7) Z4 (fun _ _=>rfl)) (Z0 (pv 5) Z3)))))))))) Zk)))) Zk)
  (Va (Zmj (Wy t d) (.ref a0) gv p lo hi how t e m i n g f0 lf H) (Z1 (Zs (Zb Vc (pv 2) (Zd Zc (pv 0) Z4 (fun _ _=>rfl)) (Ze _)) (Z5 (Zl (pv 6))) Zk)
  (Z1 (Zs (Zb Zv (Zd Zc (pv 0) Z4 (fun _ _=>rfl)) Zg (Ze _)) (Z5 (Zl (Zx Z38 (Y4 (Z0 (Zr (Z0 (pv 3) (Z0 (pv 4) Z3))) Z3)) (pv 6)))) Zk)
  (Z5 (Zl (Zx Z38 (pv 6) (Y4 (Z0 (Zr (Z0 (pv 3) (Z0 (pv 4) Z3))) Z3))))))) (fun D1 σ1 H1 hcut=>?cut4)))))),?_⟩
 case cut4 =>
  refine Zdi ?_
  intro Ez Az1 Az2 Az3 Az4
  obtain⟨ar,vs,on,N1,wy,rfl,har,hvs,hon,hR,hl1,hlen,g1,q⟩:=hcut
  have ea1:=g1.tups _ _ ea
  have el:=Paired.length hvs
  have me:Gd t n i (i,g):=⟨Nat.le_refl _,hi1,hgo⟩
  have tx:∀ws,ws=(if(m:Int)<lo then on else if how=.little then(i,g)::on else on++[(i,g)])->0<=f0-((N1+1:Nat):Int)->Tx (Wy t d) lo hi how p (e+1) m i g ws (N1+1):=fun ws hws h0=>⟨on,N1,hR h0,rfl,hws⟩
  refine(Z9 rfl (Ys ea1 rfl ⟨_,_,rfl,rfl,_,rfl,?_⟩))
  by_cases hml:(m:Int)<lo
  ·exact Zp (decide_eq_true hml) (Z9 rfl (q ar vs on (N1+1) H1 har hvs hon (tx on (by rw[if_pos hml])) hl1 (by omega) g1))
  refine Zf (fun z=>hml (of_decide_eq_true z)) ?_
  have nar:=T9 hvs har hl1
  refine(Ys ea1 rfl ⟨rfl,_,rfl,?_⟩)
  by_cases hl:how=.little
  ·refine Zp (show Xx how.text "little" = true by rw[hl];decide +kernel) ?_
   refine(Z9 rfl (Z9 rfl ⟨sz,fun t1 ht1=>⟨sz,fun r1 hr1=>?_⟩⟩))
   have g2:Gro [] H1 (Zq (Zq H1 t1 (.tup [.int i,gv])) r1 (.lst [.ref t1])):=(Gro.new ht1 _).tup hr1
   have et:(Zq (Zq H1 t1 (.tup [.int i,gv])) r1 (.lst [.ref t1])) t1=some (.tup [.int i,gv]):=by rw[Zi (Z7 Z2 hr1)];exact Z2
   have er:(Zq (Zq H1 t1 (.tup [.int i,gv])) r1 (.lst [.ref t1])) r1=some (.lst [.ref t1]):=Z2
   generalize Zq (Zq H1 t1 (.tup [.int i,gv])) r1 (.lst [.ref t1])=H2 at *
   refine(Z9 rfl ⟨r1,ar,[.ref t1],vs,rfl,rfl,er,g2.keep _ _ har (by simp),Nat.le_of_lt (Z5z (n:=1+vs.length) (by omega)),fun r2 hr2=>?_⟩)
   have g3:=Gro.new (S:=[]) hr2 (.lst ([.ref t1]++vs))
   refine q r2 ([.ref t1]++vs) ((i,g)::on) (N1+1) _ Z2 (.cons ⟨t1,gv,rfl,g3.tups _ _ et,hgs.mono fun b xs h=>g3.tups _ _ (g2.tups _ _ (g1.tups _ _ h))⟩ (Ye (fun b xs h=>g3.tups _ _ (g2.tups _ _ h)) hvs)) (fun w hw=>?_) (tx _ (by rw[if_neg hml,if_pos hl])) ((g2.trans g3).keep _ _ hl1 (by simp)) (by rw[List.length_cons];omega) (g1.trans ((g2.trans g3).mono (by simp)))
   rcases List.mem_cons.mp hw with rfl | hw
   ·exact me
   ·exact hon w hw
  ·have hn':¬Xx how.text "little" = true:=by
    cases how with
    |little=>exact absurd rfl hl
    |much=>decide +kernel
    |keep=>decide +kernel
   refine Zf hn' ?_
   refine(Z9 rfl (Z9 rfl (Z9 rfl ⟨sz,fun t1 ht1=>⟨sz,fun r1 hr1=>?_⟩⟩)))
   have g2:Gro [] H1 (Zq (Zq H1 t1 (.tup [.int i,gv])) r1 (.lst [.ref t1])):=(Gro.new ht1 _).tup hr1
   have et:(Zq (Zq H1 t1 (.tup [.int i,gv])) r1 (.lst [.ref t1])) t1=some (.tup [.int i,gv]):=by rw[Zi (Z7 Z2 hr1)];exact Z2
   have er:(Zq (Zq H1 t1 (.tup [.int i,gv])) r1 (.lst [.ref t1])) r1=some (.lst [.ref t1]):=Z2
   generalize Zq (Zq H1 t1 (.tup [.int i,gv])) r1 (.lst [.ref t1])=H2 at *
   refine⟨ar,r1,vs,[.ref t1],rfl,rfl,g2.keep _ _ har (by simp),er,Nat.le_of_lt (Z5z (n:=vs.length+1) (by omega)),fun r2 hr2=>?_⟩
   have g3:=Gro.new (S:=[]) hr2 (.lst (vs++[.ref t1]))
   refine q r2 (vs++[.ref t1]) (on++[(i,g)]) (N1+1) _ Z2 ((Ye (fun b xs h=>g3.tups _ _ (g2.tups _ _ h)) hvs).snoc ⟨t1,gv,rfl,g3.tups _ _ et,hgs.mono fun b xs h=>g3.tups _ _ (g2.tups _ _ (g1.tups _ _ h))⟩) (fun w hw=>?_) (tx _ (by rw[if_neg hml,if_neg hl])) ((g2.trans g3).keep _ _ hl1 (by simp)) (by rw[List.length_append,List.length_singleton];omega) (g1.trans ((g2.trans g3).mono (by simp)))
   rcases List.mem_append.mp hw with hw | hw
   ·exact hon w hw
   ·rw[List.mem_singleton.mp hw];exact me
 refine Zhu ?_
 intro Ez Az1 Az2 Az3 Az4 Az5 Az6 Az7 Az8
 refine(Z7l hlf rfl ⟨_,_,rfl,rfl,_,rfl,lf,_,_,0,rfl,rfl,hlf,rfl,?_⟩)
 have g1:Gro [lf] H (Zq H lf (.lst [.int (f0-1)])):=Gro.set (by simp) hlf _
 have hl1:(Zq H lf (.lst [.int (f0-1)])) lf=some (.lst [.int (f0-1)]):=Z2
 refine(Z7l hl1 rfl ⟨_,_,rfl,rfl,_,rfl,Ym (fun z=>?_) (fun z=>?_)⟩)
 ·have hz:f0-1<0:=of_decide_eq_true z
  refine⟨sz,fun r hr=>q r [] [] 1 _ Z2 .nil (fun w hw=>by simp at hw) (fun h0=>?_) ?_ (by show 0+(f0-((1:Nat):Int)).toNat<=f0.toNat;omega) (g1.trans (Gro.new hr _))⟩
  ·exfalso
   have:f0-((1:Nat):Int)=f0-1:=rfl
   omega
  ·have:(Zq H lf (.lst [.int (f0-1)])) lf=some (.lst [.int (f0-((1:Nat):Int))]):=hl1
   exact(Gro.new (S:=[]) hr (.lst [])).keep _ _ this (by simp)
 have hf0:0<=f0-1:=by
  have:¬f0-1<0:=fun z'=>z (decide_eq_true z')
  omega
 refine⟨sz,fun ar har=>?_⟩
 have g2:=Gro.new (S:=[lf]) har (.lst [])
 have hl2:(Zq (Zq H lf (.lst [.int (f0-1)])) ar (.lst [])) lf=some (.lst [.int (f0-1)]):=by rw[Zi (Z7 hl1 har)];exact hl1
 have ear:(Zq (Zq H lf (.lst [.int (f0-1)])) ar (.lst [])) ar=some (.lst []):=Z2
 have g12:Gro [lf] H (Zq (Zq H lf (.lst [.int (f0-1)])) ar (.lst [])):=g1.trans g2
 have ea2:=g12.tups _ _ ea
 have nar:ar≠lf:=Z3e ear hl2 (by intro z;cases z)
 refine(Ys ea2 rfl ⟨_,rfl,?_⟩)
 cases hb:Ua hi m with
 |true =>
  refine(fun key=>Ym (fun z=>Te key) (fun z=>?_)) ?_
  ·obtain⟨h,hh⟩:∃h,hi=some h:=by
    cases hi with
    |none=>exact absurd (decide_eq_true rfl) z
    |some h=>exact⟨h,rfl⟩
   have hmh:(m:Int)<h:=by
    rw[hh]at hb
    exact of_decide_eq_true hb
   refine(Z9 rfl (Ys ea2 (show Z3o [V.str "times",.int lo,Z5i hi,.str how.text,k0] 2=some (.int h) by rw[hh];rfl) ⟨_,_,rfl,rfl,_,rfl,Zp (decide_eq_true hmh) key⟩))
  refine(Ys ea2 rfl ⟨_,rfl,_,rfl,_,rfl,_,rfl,k0,gv,p,t,i,n,g,f0-1,lf,rfl,hp1.mono g12.tups,hnm,ht,hi1,hn,hgs.mono g12.tups,hgo,hl2,by omega,fun r3 vs3 ws3 N3 H3 hr3 hv3 hs3 hR3 hl3 hlen3 g3=>?_⟩)
  have g13:=g12.trans g3
  have nr3:=T9 hv3 hr3 hl3
  have hel3:=Paired.length hv3
  refine⟨r3,rfl,⟨vs3,SqL.of hr3⟩,?_⟩
  refine J0 (xs:=vs3) (fun x σ H'=>∃(ar':Addr) (vs:List V) (on:List Yd) (N:Nat) (wy:Option V),σ=[some (.ref a0),some (.str t),some (.int m),some (.int i),some gv,some (.ref lf),some (.ref ar'),wy]/\H' ar'=some (.lst vs)/\Paired (WyA H') vs on/\(∀w∈on,Gd t n i w)/\(0<=f0-1-N3-N->Lx (Tx (Wy t d) lo hi how p e) lo m i (ws3.take x) on N)/\H' lf=some (.lst [.int (f0-1-N3-N)])/\on.length+(f0-1-N3-N).toNat<=(f0-1-N3).toNat/\Gro [lf] H3 H')
   ⟨ar,[],[],0,none,rfl,g3.keep _ _ ear (by simpa using nar),.nil,(fun w hw=>by simp at hw),(fun _=>.nil),by simp[hl3],by simp,Gro.refl⟩ (fun x σ H' _ hh=>by obtain⟨_,_,_,_,_,_,_,_,_,_,_,_,g⟩:=hh;exact SqL.of (g.keep _ _ hr3 (by simpa using nr3))) ?_ ?_
  ·rintro x v σ H4 hv ⟨ar4,vs4,on4,N4,wy,rfl,har4,hvs4,hon4,hR4,hl4,hlen4,g4⟩
   obtain⟨w0,hw3,hw⟩:=Y0 hv3 hv
   obtain⟨b4,gv4,rfl,hb4,hg4⟩:=hw.mono g4.tups
   have gd:=hs3 w0 (List.mem_of_getElem? hw3)
   have ea4:=g4.tups _ _ (g3.tups _ _ ea2)
   have nar4:=T9 hvs4 har4 hl4
   refine(Z9 rfl (Ys ea4 rfl ⟨_,_,rfl,rfl,_,rfl,?_⟩))
   by_cases hc:(m:Int)<lo∨i<w0.1
   ·refine(fun key=>Ym (fun z=>Te key) (fun z=>⟨_,rfl,b4,_,_,_,rfl,rfl,SqT.of hb4,Vw,_,rfl,_,_,rfl,rfl,_,rfl,Zp (decide_eq_true (by rcases hc with hc | hc <;> first | (show(i:Int)<(w0.1:Int);omega) | exact absurd (decide_eq_true hc) z)) key⟩)) ?_
    have hm1:(m:Int)+1=((m+1:Nat):Int):=by omega
    have hme2:=gd.lo
    have hme3:=gd.hi
    refine(Z9 rfl (Z9 rfl (Z9 rfl (Z9 rfl (Xy rfl rfl (Ys hb4 Vw (Ys hb4 rfl ⟨_,rfl,.ref a0,gv4,p,lo,hi,how,t,m+1,w0.1,n,w0.2,f0-1-N3-N4,lf,by rw[← hm1];rfl,hp.mono (fun b xs h=>g4.tups _ _ (g13.tups _ _ h)),hnm,ht,gd.hi,hn,hg4,gd.g,hl4,by omega,by omega,fun r5 vs5 ws5 N5 H5 hr5 hv5 hs5 hR5 hl5 hlen5 g5=>?_⟩)))))))
    have e4:=Paired.length hvs4
    have e5:=Paired.length hv5
    refine⟨ar4,r5,vs4,vs5,rfl,rfl,g5.keep _ _ har4 (by simpa using nar4),hr5,Nat.le_of_lt (Z5z (n:=vs4.length+vs5.length) (by omega)),fun c hc'=>?_⟩
    have g6:=Gro.new (S:=[lf]) hc' (.lst (vs4++vs5))
    have hN:f0-1-(N3:Int)-(N4:Int)-(N5:Int)=f0-1-N3-((N4+N5:Nat):Int):=by omega
    refine⟨c,vs4++vs5,on4++ws5,N4+N5,Z9 rfl ⟨Z2,Zw (Ye (fun b xs h=>g6.tups _ _ (g5.tups _ _ h)) hvs4) (Ye g6.tups hv5),fun y hy=>?_,fun h0=>?_,by rw[Zi (Z7 hl5 hc'),hl5,hN],by rw[List.length_append];omega,(g4.trans g5).trans g6⟩⟩
    ·rcases List.mem_append.mp hy with hy | hy
     ·exact hon4 y hy
     ·exact(hs5 y hy).trans gd.lo
    ·rw[Yf hw3]
     exact(hR4 (by omega)).snoc hc (hR5 (by omega))
   ·refine Zf (fun z=>hc (.inl (of_decide_eq_true z))) (Ys hb4 Vw ⟨_,rfl,_,_,rfl,rfl,_,rfl,Zf (fun z=>hc (.inr (by have:(i:Int)<(w0.1:Int):=of_decide_eq_true z;omega))) ?_⟩)
    refine⟨ar4,vs4,on4,N4,Z9 rfl ⟨har4,hvs4,hon4,fun h0=>?_,hl4,hlen4,g4⟩⟩
    rw[Yf hw3]
    exact(hR4 h0).snocS hc
  ·rintro σ H4 ⟨ar4,vs4,on4,N4,wy,rfl,har4,hvs4,hon4,hR4,hl4,hlen4,g4⟩
   rw[List.take_of_length_le (by omega)]at hR4
   have hN:f0-1-(N3:Int)-(N4:Int)=f0-((N3+N4+1:Nat):Int):=by omega
   exact⟨ar4,vs4,on4,N3+N4,wy,rfl,har4,hvs4,hon4,fun h0=>.inl ⟨hb,ws3,N3,N4,hR3 (by omega),hR4 (by omega),rfl⟩,by rw[hl4,hN],by omega,g13.trans g4,q⟩
 |false =>
  obtain⟨h,hh,hmh3⟩:∃h,hi=some h/\¬(m:Int)<h:=by
   cases hi with
   |none=>cases hb
   |some h=>exact⟨h,rfl,of_decide_eq_false hb⟩
  refine Zf (by rw[hh];intro z;have z':V.int h=V.non:=of_decide_eq_true z;cases z') ?_
  refine(Z9 rfl (Ys ea2 (show Z3o [V.str "times",.int lo,Z5i hi,.str how.text,k0] 2=some (.int h) by rw[hh];rfl) ⟨_,_,rfl,rfl,_,rfl,Zf (fun z=>hmh3 (of_decide_eq_true z)) ?_⟩))
  exact⟨ar,[],[],0,none,rfl,ear,.nil,(fun w hw=>by simp at hw),(fun _=>.inr ⟨hb,rfl,rfl⟩),hl2,by show 0+1+(f0-((0+1:Nat):Int)).toNat<=f0.toNat;omega,g12,q⟩
theorem Z45{d k:Nat}(O_l_ways:Own P w K mg base k "_law_ways" ["_law_p","_law_text_here","_law_i","_law_g","_law_left"] (U0 d))(D:Def K mg "_law_turns" Vr ["_law_p","_law_text_here","_law_n","_law_j","_law_g","_law_left"]):∀e,Own P w K mg base (k+e) "_law_turns" ["_law_p","_law_text_here","_law_n","_law_j","_law_g","_law_left"] (Z1v d e)
 |0=>D.own fun f fd F=>FnOk.never fun vs H Q E h=>by
  obtain⟨_,_,_,_,_,_,_,_,_,_,_,_,_,_,_,_,_,_,_,_,_,_,_,h,_⟩:=h
  omega
 |e+1=>D.own fun f fd F=>Zc8 (O_l_ways.mono (Nat.le_add_right _ _)) (Z45 O_l_ways D e) F
end
abbrev Xt:List V:=[.str "sign",.str "any",.str "in",.str "out"]
inductive Kd where | one | edge | row | alt | times | grp | mem
 deriving DecidableEq
def Wd.kd:Wd->Kd
 |.sign=>.one | .any=>.one | .inn=>.one | .out=>.one | .beg=>.edge | .fin=>.edge | .row=>.row | .alt=>.alt | .times=>.times | .grp=>.grp | _=>.mem
theorem Zkr(h:Hd):Zgm (.str h.word) Xt=decide (h.wd.kd=.one):=by rw[h.word_wd];cases h.wd <;> decide +kernel
theorem Zdy(h:Hd):(Xx h.word "begin" || Xx h.word "end")=decide (h.wd.kd=.edge):=by rw[h.word_wd];cases h.wd <;> decide +kernel
theorem Zkq(h:Hd):Xx h.word "row" = decide (h.wd.kd=.row):=by rw[h.word_wd];cases h.wd <;> decide +kernel
theorem Zkt(h:Hd):Xx h.word "or" = decide (h.wd.kd=.alt):=by rw[h.word_wd];cases h.wd <;> decide +kernel
theorem Zg5(h:Hd):Xx h.word "times" = decide (h.wd.kd=.times):=by rw[h.word_wd];cases h.wd <;> decide +kernel
theorem Zks(h:Hd):Xx h.word "group" = decide (h.wd.kd=.grp):=by rw[h.word_wd];cases h.wd <;> decide +kernel
theorem Zf0{t:Str}{a b:Nat}(h1:a<=b)(h2:b<=t.length):(sub t a b).length=b-a:=by
 show((t.cps.toList.drop a).take (b-a)).toArray.size=_
 have:t.cps.toList.length=t.length:=by simp[Str.length]
 rw[List.size_toArray,List.length_take,List.length_drop]
 omega
section
variable{P:Program}{w:World}{K:W.Frag}{mg:Str->Option Value}{base:Heap}{f:Addr}{fd:FuncData}
theorem WX.nil{lf:Addr}{S:Yd->Prop}{R:List Yd->Nat->Prop}{f:Int}{Q:VK}{H H':Hp}{r:Addr}{N:Nat}(h:WX lf S R f Q H)(hr:H' r=none)(g:Gro [lf] H H')(hf:H' lf=some (.lst [.int (f-N)]))(hR:0<=f-N->R [] N):Q (.ref r) (Zq H' r (.lst [])) :=
 h r [] [] N _ Z2 .nil (fun j hj=>by simp at hj) hR (by rw[Zi (Z7 hf hr)];exact hf) (by show 0+(f-(N:Int)).toNat<=f.toNat;omega) (g.trans (Gro.new hr _))
theorem WX.one{lf:Addr}{S:Yd->Prop}{R:List Yd->Nat->Prop}{f:Int}{Q:VK}{H H':Hp}{t r:Addr}{i:Nat}{gv:V}{gs:Gs}{N:Nat}(h:WX lf S R f Q H)(ht:H' t=none)(hr:(Zq H' t (.tup [.int i,gv])) r=none)(g:Gro [lf] H H')(hf:H' lf=some (.lst [.int (f-N)]))(hN:1<=N)(h0:0<f)(hg:GsAt H' gv gs)(hs:S (i,gs))(hR:0<=f-N->R [(i,gs)] N) :
  Q (.ref r) (Zq (Zq H' t (.tup [.int i,gv])) r (.lst [.ref t])):=by
 have g1:Gro [] H' (Zq (Zq H' t (.tup [.int i,gv])) r (.lst [.ref t])):=(Gro.new ht _).tup hr
 refine h r [.ref t] [(i,gs)] N _ Z2 (.cons ⟨t,gv,rfl,?_,hg.mono g1.tups⟩ .nil) (fun k hk=>by rw[List.mem_singleton.mp hk];exact hs) hR (g1.keep _ _ hf (by simp)) (by show 1+(f-(N:Int)).toNat<=f.toNat;omega) (g.trans (g1.mono (by simp)))
 rw[Zi (Z7 Z2 hr)]
 exact Z2
inductive spMemI(d:Nat)(vs:List V)(H:Hp)(Q:VK):Prop
 |mk (v0 gv:V) (h:Hd) (ks:List Pat) (t:Str) (i n:Nat) (g:Gs) (f:Int) (lf:Addr) (_:vs=[v0,.str t,.int i,gv,.ref lf]) (_:PatAt H (d+1) v0 (.node h ks)) (_:h.wd.kd=.mem) (_:(Pat.node h ks).nm n) (_:t.length<=8) (_:i<=t.length) (_:n<=900) (_:GsAt H gv g) (_:GOk t n g) (_:H lf=some (.lst [.int f])) (_:0<=f) (_:f<=1499) (_:WX lf (Gd t n i) (Wy t (d+1) (.node h ks) i g) (f+1) Q H)
def Zed(d:Nat):Sp:=fun vs H Q _=>spMemI d vs H Q
def Zml(v0 gv:V)(h:Hd)(t:Str)(i n:Nat)(g:Gs)(f:Int)(lf:Addr)(H:Hp)(R:List Yd->Nat->Prop):TS:=fun D σ H1=>∃(wr:Addr) (vs:List V) (us:List Yd) (N:Nat),σ=[some v0,some (.str t),some (.int i),some gv,some (.ref lf),some (.str h.word),none,none,some (.ref wr)]/\H1 wr=some (.lst vs)/\Paired (WyA H1) vs us/\(∀w∈us,w.1<=t.length/\GOk t n w.2)/\H1 lf=some (.lst [.int (f-N)])/\us.length+(f-N).toNat<=f.toNat/\Gro [lf] H H1 /\
 (0<=f-N->R us N)/\∃lk:Lk,h=.look lk/\lk≠.once/\∀(r:Addr) (vs:List V) (ws:List Yd) (N:Nat) (H':Hp),H' r=some (.lst vs)->Paired (WyA H') vs ws->(∀w∈ws,Gd t n i w)->(0<=f-N->∃us,R us N/\ws=Z7k lk i g us)->H' lf=some (.lst [.int (f-N)])->ws.length+(f-N).toNat<=f.toNat+1->Gro [lf] H H'->D.rt (.ref r) H'
abbrev Wr:Stmt:=top 70
theorem sc_l_memory:FnScope ["_law_p","_law_text_here","_law_i","_law_g","_law_left","_law_word","_law_pair","_law_told","_law_ways_here"] ["_law_p","_law_text_here","_law_i","_law_g","_law_left"] (Za Wr):=V7
theorem Zir{d k:Nat}(T:Blt mg)(O_l_ways:Own P w K mg base k "_law_ways" ["_law_p","_law_text_here","_law_i","_law_g","_law_left"] (U0 d))(O_l_behind:Own P w K mg base k "_law_behind" ["_law_p","_law_text_here","_law_i","_law_g","_law_left"] (Zeg d))(F:Fun K "_law_memory" "_law_memory" Wr f fd):FnOk P w K mg base W3 (k+1) f fd ["_law_p","_law_text_here","_law_i","_law_g","_law_left"] (Zed d):=by
 refine F.ok sc_l_memory (fun vs H Q E h=>?_) (fun cdv A outer s H vs Q E hr h=>?_)
 ·obtain⟨v0,gv,h,ks,t,i,n,g,f,lf,rfl,_⟩:=h
  rfl
 obtain⟨v0,gv,h,ks,t,i,n,g,f0,lf,rfl,hp,hkd,hnm,ht,hi1,hn,hgs,hgo,hlf,hf0,hf,q⟩:=h
 have me:Gd t n i (i,g):=⟨Nat.le_refl _,hi1,hgo⟩
 refine V6 ?_
 intro Xz
 refine⟨_,(Z1 (pS 5 sc_l_memory.nd (Zd Zc (pv 0) Z4 (fun _ _=>rfl)))
  (Z1 (Zs (Zb Zv (pv 5) Zg (Ze _)) (Z1 (pS 6 sc_l_memory.nd (Zd Zc (pv 3) (Zx X3 (Zd Zc (pv 0) Z4 (fun _ _=>rfl)) Z4) (fun _ _=>rfl)))
  (Z1 (Zs (Ug (Th (pv 6))) (Z5 (Zl (Y4 Z3))) Zk)
  (Z1 (pS 7 sc_l_memory.nd (Y9 V8 (pv 1) (Y2 (Zd Zc (pv 6) Z4 (fun _ _=>rfl))) (Y2 (Zd Zc (pv 6) Z4 (fun _ _=>rfl)))))
  (Z1 (Zs (Zb Zv (Y9 V8 (pv 1) (Y2 (pv 2)) (Y2 (Zx Yn (pv 2) (Zy Yh rfl T.b_len PyProof.Rows.Boot.«len» (Z0 (pv 7) Z3))))) (pv 7) (Ze _)) (Z5 (Zl (Y4 (Z0 (Zr (Z0 (Zx Yn (pv 2) (Zy Yh rfl T.b_len PyProof.Rows.Boot.«len» (Z0 (pv 7) Z3))) (Z0 (pv 3) Z3))) Z3)))) Zk)
  (Z5 (Zl (Y4 Z3))))))) Zk)
  (Z1 (Zs (Zb Zv (pv 5) Zg (Ze _)) (Z5 (Zl (Zj (O_l_ways.mono (by omega)) hr rfl (Z0 (Zd Zc (pv 0) (Zx Yn Z4 (Yu Jf rfl T.b_int PyProof.Rows.Boot.«int» (Z0 (Zdm (Th (Zd Zc (pv 3) (Zx X3 (Zd Zc (pv 0) Z4 (fun _ _=>rfl)) Z4) (fun _ _=>rfl)))) Z3))) (fun _ _=>rfl)) (Z0 (pv 1) (Z0 (pv 2) (Z0 (pv 3) (Z0 (pv 4) Z3)))))))) Zk)
  (Z1 (Zs (Zb Zv (pv 5) Zg (Ze _)) (Z5 (Zl (Y9 Z1z (Zj (O_l_ways.mono (by omega)) hr rfl (Z0 (Zd Zc (pv 0) Z4 (fun _ _=>rfl)) (Z0 (pv 1) (Z0 (pv 2) (Z0 (pv 3) (Z0 (pv 4) Z3)))))) Xs (Y2 Z4)))) Zk)
  (Z1 (Zs (PW.pt (T7 (Zb Zv (pv 5) Zg (Ze _)) (Vi (Zb Zv (pv 5) Zg (Ze _))))) (Z5 (pS 8 sc_l_memory.nd (Zj (O_l_ways.mono (by omega)) hr rfl (Z0 (Zd Zc (pv 0) Z4 (fun _ _=>rfl)) (Z0 (pv 1) (Z0 (pv 2) (Z0 (pv 3) (Z0 (pv 4) Z3)))))))) (Z5 (pS 8 sc_l_memory.nd (Zj (O_l_behind.mono (by omega)) hr rfl (Z0 (Zd Zc (pv 0) Z4 (fun _ _=>rfl)) (Z0 (pv 1) (Z0 (pv 2) (Z0 (pv 3) (Z0 (pv 4) Z3)))))))))
  (Va (Zml v0 gv h t i n g f0 lf H (fun us N=>∃p l,h=.look l/\ks=[p]/\(if l.leans=true then Bx (Wy t d) p i g i us N else Wy t d p i g us N))) (Z1 (Zs (PW.pt (T7 (Zb Zv (pv 5) Zg (Ze _)) (Vi (Zb Zv (pv 5) Zg (Ze _))))) (Z5 (Zl (Vb rfl (show CScope _ ["_law_p","_law_text_here","_law_i","_law_g","_law_left","_law_word","_law_pair","_law_told","_law_ways_here"] (Za Wr) _ from⟨rfl,by decide +kernel,rfl,by decide +kernel,by decide +kernel,by decide +kernel,by decide +kernel⟩) (Vn (Y9 Z1z (pv 8) Xs (Y2 Z4))) (fun _ _ _ _=>Ta) (fun _ _ _ _=>(Zr (Z0 (pv 3) (Z0 (Zd (r:=Uu K) Zc (pv 0) Z4 (fun _ _=>rfl)) Z3))))))) Zk)
  (Z1 (Zs (Zb (Z2u hr.units0) (pv 8) (Y4 Z3) (Ze _)) (Z5 (Zl (Y4 Z3))) Zk)
  (Z5 (Zl (Y4 (Z0 (Zr (Z0 (pv 2) (Z0 (pv 3) Z3))) Z3)))))) (fun D1 σ1 H1 hcut=>?cut5))))))),?_⟩
 case cut5 =>
  refine Zdi ?_
  intro Ez Az1 Az2 Az3 Az4
  obtain⟨wr,vs,us,N,rfl,hwr,hvs,hus,hl1,hlen,g1,hR,lk,hlk,hno,q⟩:=hcut
  have el:=Paired.length hvs
  subst hlk
  have ahd:(lk=.ahead∨lk=.behind)∨(lk=.notahead∨lk=.notbehind):=by
   cases lk with
   |once=>exact absurd rfl hno
   |ahead=>exact .inl (.inl rfl)
   |behind=>exact .inl (.inr rfl)
   |notahead=>exact .inr (.inl rfl)
   |notbehind=>exact .inr (.inr rfl)
  rcases ahd with hpos | hneg
  ·have hlw:Z7k lk i g us=(us.take 1).map fun w=>(i,w.2):=by rcases hpos with rfl | rfl <;> rfl
   have hw2:Xx (Hd.look lk).word "ahead" = true∨Xx (Hd.look lk).word "behind" = true:=by
    rcases hpos with rfl | rfl
    ·exact .inl (by decide +kernel)
    ·exact .inr (by decide +kernel)
   refine(Z9 rfl ⟨rfl,Z9 rfl (?_)⟩)
   refine(fun key=>Ym (fun z=>Te key) (fun z=>⟨_,rfl,rfl,_,rfl,Zp (by rcases hw2 with hw2 | hw2 <;> first | exact hw2 | exact absurd hw2 z) key⟩)) ?_
   refine(Z9 rfl (Z9 rfl ⟨wr,vs,rfl,SqL.of hwr,fun c hc=>?_⟩))
   rw[Z5f]
   have g2:=Gro.new (S:=[]) hc (.lst (vs.take 1))
   have hl2:(Zq H1 c (.lst (vs.take 1))) lf=some (.lst [.int (f0-N)]):=g2.keep _ _ hl1 (by simp)
   have hc2:(Zq H1 c (.lst (vs.take 1))) c=some (.lst (vs.take 1)):=Z2
   have hv2:=Ye g2.tups (Xb 1 hvs)
   generalize Zq H1 c (.lst (vs.take 1))=H2 at *
   refine⟨c,rfl,⟨vs.take 1,SqL.of hc2⟩,?_⟩
   refine Z5c (xs:=vs.take 1) (fun x ys H'=>(Paired (WyA H') ys (((us.take 1).take x).map fun w=>(i,w.2))/\ys.length=x)/\Gro [] H2 H') ⟨⟨.nil,rfl⟩,Gro.refl⟩ (Yj (by rw[List.length_take];omega)) (fun x ys H' ⟨⟨_,hl⟩,_⟩=>by omega) (fun x ys H' ⟨_,g⟩=>SqL.of (g.keep _ _ hc2 (by simp))) ?_ ?_
   ·rintro x ys H' v hv ⟨⟨hz,hzl⟩,g3⟩
    obtain⟨w0,hj,hw⟩:=Y0 hv2 hv
    obtain⟨b2,gv2,rfl,hb2,hg2⟩:=hw.mono g3.tups
    refine(Z9 rfl (Ys hb2 rfl ⟨sz,fun t1 ht1=>?_⟩))
    have g4:=Gro.new (S:=[]) ht1 (.tup [.int i,gv2])
    refine⟨⟨?_,by simp[hzl]⟩,g3.trans g4⟩
    rw[Yf hj,List.map_append]
    exact(Ye g4.tups hz).snoc ⟨t1,gv2,rfl,Z2,hg2.mono g4.tups⟩
   ·rintro ys H' ⟨⟨hz,hzl⟩,g3⟩ c2 hc3
    have g4:=Gro.new (S:=[]) hc3 (.lst ys)
    have hl1':(us.take 1).length=(vs.take 1).length:=(Paired.length hv2).symm
    rw[List.take_of_length_le (by omega)]at hz
    refine q c2 ys _ N _ Z2 (Ye g4.tups hz) (fun w hw=>?_) (fun h0=>⟨us,hR h0,hlw.symm⟩) ((g3.trans g4).keep _ _ hl2 (by simp)) (by rw[List.length_map,List.length_take];omega) (g1.trans (((g2.trans g3).trans g4).mono (by simp)))
    obtain⟨v,hv,rfl⟩:=List.mem_map.mp hw
    exact⟨Nat.le_refl _,hi1,(hus v (List.mem_of_mem_take hv)).2⟩
  ·have hlw:Z7k lk i g us=if us.isEmpty=true then[(i,g)] else[]:=by rcases hneg with rfl | rfl <;> rfl
   have hw2:¬Xx (Hd.look lk).word "ahead" = true/\¬Xx (Hd.look lk).word "behind" = true:=by
    rcases hneg with rfl | rfl <;> exact⟨by decide +kernel,by decide +kernel⟩
   refine(Z9 rfl ⟨rfl,Z9 rfl (Zf hw2.1 (Z9 rfl ⟨rfl,Z9 rfl (Zf hw2.2 ?_)⟩))⟩)
   refine(Z9 rfl ⟨sz,fun c hc=>?_⟩)
   have g2:=Gro.new (S:=[]) hc (.lst [])
   have hl2:(Zq H1 c (.lst [])) lf=some (.lst [.int (f0-N)]):=g2.keep _ _ hl1 (by simp)
   have hw2:(Zq H1 c (.lst [])) wr=some (.lst vs):=g2.keep _ _ hwr (by simp)
   have hemp:vs.isEmpty=us.isEmpty:=by
    cases vs with
    |nil=>cases us with
     |nil=>rfl
     |cons a b=>cases el
    |cons a b=>cases us with
     |nil=>cases el
     |cons a b=>rfl
   refine⟨wr,c,vs,rfl,rfl,SqL.of hw2,SqL.of Z2,Z9 rfl (Ym (fun z=>?_) (fun z=>?_))⟩
   ·refine⟨sz,fun r hr=>?_⟩
    have g3:=Gro.new (S:=[]) hr (.lst [])
    rw[if_neg (by rw[← hemp];simpa using z)]at hlw
    exact q r [] [] N _ Z2 .nil (fun w hw=>by simp at hw) (fun h0=>⟨us,hR h0,hlw.symm⟩) (g3.keep _ _ hl2 (by simp)) (by show 0+_<=_;omega) (g1.trans ((g2.trans g3).mono (by simp)))
   ·refine(Z9 rfl (Z9 rfl ⟨sz,fun t1 ht1=>⟨sz,fun r hr=>?_⟩⟩))
    rw[if_pos (by rw[← hemp];simpa using z)]at hlw
    have hg2:=hgs.mono fun b xs h=>g2.tups _ _ (g1.tups _ _ h)
    have g12:=g1.trans (g2.mono (S':=[lf]) (by simp))
    have g3:Gro [] (Zq H1 c (.lst [])) (Zq (Zq (Zq H1 c (.lst [])) t1 (.tup [.int i,gv])) r (.lst [.ref t1])):=(Gro.new ht1 _).tup hr
    refine q r [.ref t1] [(i,g)] N _ Z2 (.cons ⟨t1,gv,rfl,?_,hg2.mono g3.tups⟩ .nil) (fun w hw=>by rw[List.mem_singleton.mp hw];exact me) (fun h0=>⟨us,hR h0,hlw.symm⟩) (g3.keep _ _ hl2 (by simp)) (by show 1+_<=_;omega) (g12.trans (g3.mono (by simp)))
    rw[Zi (Z7 Z2 hr)]
    exact Z2
 refine Zi9 ?_
 intro Ez Az1 Az2 Az3 Az4 Az5 Az6 Az7 Az8 Az9 Az10 Az11 Az12 Az13 Az14 Az15 Az16
 obtain⟨a0,kv,rfl,lay,hk⟩:=id hp
 obtain⟨r0,ea⟩:=lay.head
 refine(Ys ea Vw (?_))
 have hnm':=nm_node.mp hnm
 have hlf1:H lf=some (.lst [.int (f0+1-((1:Nat):Int))]):=by rw[hlf,show f0+1-((1:Nat):Int)=f0 by omega]
 cases h with
 |again x =>
  obtain⟨hx,_,ea'⟩:=lay
  obtain⟨hx1,hx2⟩:1<=x/\x<=n:=hnm'.1
  obtain⟨ga,es,en,rfl,hge,hel,hat,hen⟩:=hgs.ent hx1 (by rw[hgo.len];exact hx2)
  refine(Z9 rfl ⟨rfl,Z9 rfl (Zp (show Xx "again" "again" = true by decide +kernel) ?_)⟩)
  refine Zac (Q:=Q) (fun D hD=>?_)
  subst hD
  refine(Z9 rfl (Ys ea' rfl ⟨_,_,rfl,rfl,ga,es,_,_,rfl,rfl,SqT.of hge,hat,?_⟩))
  refine(Z9 rfl (Z9 rfl (?_)))
  have wy:∀ws,Zk3 t i g x=ws->0<=f0+1-((1:Nat):Int)->Wy t (d+1) (.node (.again x) ks) i g ws 1:=fun ws h _=>⟨h.symm,rfl⟩
  cases he:ent g x with
  |none =>
   rw[he]at hen
   have hen':en=.non:=hen
   exact Zp (decide_eq_true hen') ⟨sz,fun r hr=>q.nil hr Gro.refl hlf1 (wy [] (by unfold Zk3;rw[he]))⟩
  |some pp =>
   rw[he]at hen
   obtain⟨pa,rfl,hpa⟩:=hen
   obtain⟨p1,p2⟩:=Z8y hgo he
   refine Zf (by intro z;have z':=of_decide_eq_true z;cases z') ?_
   refine(Z9 rfl (Ys hpa Vw ⟨_,rfl,Ys hpa rfl ⟨_,rfl,t,rfl,Y5 (by omega),?_⟩⟩))
   have hsl:Txt.slice t (some (pp.1:Int)) (some (pp.2:Int))=sub t pp.1 pp.2:=Vq (by omega) (by omega)
   rw[hsl]
   have hs1:=Zf0 (t:=t) p1 p2
   refine(Z9 rfl (Z9 rfl (Z9 rfl (Z9 rfl (Z9 rfl (Z9 rfl ⟨Y5 (by omega),Xy rfl rfl (Z9 rfl ⟨t,rfl,Y5 (by omega),Z9 rfl ⟨rfl,Z9 rfl (?_)⟩⟩)⟩))))))
   have hend:(i:Int)+((sub t pp.1 pp.2).length:Int)=((i+(pp.2-pp.1):Nat):Int):=by rw[hs1];omega
   have hs2:Txt.slice t (some (i:Int)) (some ((i:Int)+((sub t pp.1 pp.2).length:Int)))=sub t i (i+(pp.2-pp.1)):=by
    rw[hend,Vq (by omega) (by omega)]
    rfl
   show if decide (V.str (Txt.slice t (some (i:Int)) (some ((i:Int)+((sub t pp.1 pp.2).length:Int))))=V.str (sub t pp.1 pp.2))=true then _ else _
   rw[hs2]
   have hag:Zk3 t i g x=if sub t i (i+(pp.2-pp.1))=sub t pp.1 pp.2 then[(i+(pp.2-pp.1),g)] else[]:=by unfold Zk3;rw[he]
   by_cases hz:sub t i (i+(pp.2-pp.1))=sub t pp.1 pp.2
   ·rw[if_pos hz]at hag
    refine Zp (decide_eq_true (by rw[hz])) ?_
    refine(Z9 rfl (Z9 rfl (Z9 rfl ⟨Y5 (by omega),Xy rfl rfl (Z9 rfl ⟨sz,fun t1 ht1=>⟨sz,fun r hr=>?_⟩⟩)⟩)))
    have gw:=Wy.good (t:=t) (n:=n) (d+1) (.node (.again x) ks) i g _ 1 hnm hi1 hgo ⟨rfl,rfl⟩
    have e1:V.int ((i:Int)+((sub t pp.1 pp.2).length:Int))=V.int ((i+(pp.2-pp.1):Nat):Int):=by rw[hend]
    have:=q.one (N:=1) (i:=i+(pp.2-pp.1)) (gs:=g) (t:=t1) (r:=r) (gv:=.ref ga) ht1 (by rw[← e1];exact hr) Gro.refl hlf1 (Nat.le_refl _) (by omega) hgs (gw.all _ (by rw[hag];simp)) (wy _ hag)
    rw[← e1]at this
    exact this
   ·rw[if_neg hz]at hag
    refine Zf (fun z=>hz ?_) ⟨sz,fun r hr=>q.nil hr Gro.refl hlf1 (wy [] hag)⟩
    have z':=of_decide_eq_true z
    injection z'
 |hav x =>
  obtain⟨hx,y,z,rfl,ea'⟩:=lay
  obtain⟨hx1,hx2⟩:1<=x/\x<=n:=hnm'.1
  obtain⟨ga,es,en,rfl,hge,hel,hat,hen⟩:=hgs.ent hx1 (by rw[hgo.len];exact hx2)
  cases hk with
  |cons hp1 hk2 =>
  cases hk2 with
  |cons hp2 hk3 =>
  cases hk3
  rename_i p1 p2
  refine(Z9 rfl ⟨rfl,Z9 rfl (Zf (show ¬Xx "have" "again" = true by decide +kernel) ?_)⟩)
  refine(Z9 rfl ⟨rfl,Z9 rfl (Zp (show Xx "have" "have" = true by decide +kernel) ?_)⟩)
  refine(Z9 rfl (Z9 rfl (Ys ea' rfl ⟨_,_,rfl,rfl,ga,es,_,_,rfl,rfl,SqT.of hge,hat,.inr (Z9 rfl (Xy rfl rfl (?_)))⟩)))
  have fin:∀(pp:Pat),pp=(if(ent g x).isSome=true then p1 else p2)->WX lf (Gd t n i) (Wy t d pp i g) f0 Q H:=fun pp hpp r vs ws N H' h1 h2 h3 h4 h5 h6 h7 =>
   q r vs ws (N+1) H' h1 h2 h3 (fun h0=>⟨p1,p2,N,rfl,by rw[← hpp];exact h4 (by omega),rfl⟩) (by rw[h5,show f0-(N:Int)=f0+1-((N+1:Nat):Int) by omega]) (by omega) h7
  cases he:ent g x with
  |none =>
   rw[he]at hen
   have hen':en=.non:=hen
   rw[decide_eq_true hen']
   exact⟨a0,_,_,_,rfl,rfl,SqT.of ea',rfl,Z9 rfl (Z9 rfl (Z9 rfl (Z9 rfl ⟨z,_,p2,t,i,n,g,f0,lf,rfl,hp2,hnm'.2 p2 (by simp),ht,hi1,hn,hgs,hgo,hlf,by omega,fin p2 (by rw[he];rfl)⟩)))⟩
  |some pp =>
   rw[he]at hen
   obtain⟨pa,rfl,hpa⟩:=hen
   rw[decide_eq_false (by intro z;cases z)]
   exact⟨a0,_,_,_,rfl,rfl,SqT.of ea',rfl,Z9 rfl (Z9 rfl (Z9 rfl (Z9 rfl ⟨y,_,p1,t,i,n,g,f0,lf,rfl,hp1,hnm'.2 p1 (by simp),ht,hi1,hn,hgs,hgo,hlf,by omega,fin p1 (by rw[he];rfl)⟩)))⟩
 |look lk =>
  obtain⟨k0,rfl,ea'⟩:=lay
  cases hk with
  |cons hp1 hk2 =>
  cases hk2
  rename_i p1
  have hnm1:=hnm'.2 p1 (by simp)
  have q0:∀(r:Addr) (vs:List V) (ws:List Yd) (N:Nat) (H':Hp),H' r=some (.lst vs)->Paired (WyA H') vs ws->(∀w∈ws,Gd t n i w)->(0<=f0-N->∃us,(∃p l,Hd.look lk=.look l/\[p1]=[p]/\(if l.leans=true then Bx (Wy t d) p i g i us N else Wy t d p i g us N))/\ws=Z7k lk i g us)->H' lf=some (.lst [.int (f0-N)])->ws.length+(f0-N).toNat<=f0.toNat+1->Gro [lf] H H'->Q (.ref r) H':=fun r vs ws N H' h1 h2 h3 h4 h5 h6 h7 =>
   q r vs ws (N+1) H' h1 h2 h3 (fun h0=>by
    obtain⟨us,⟨p,l,e1,e2,h⟩,e3⟩:=h4 (by omega)
    cases e1
    cases e2
    exact⟨p1,us,N,rfl,h,rfl,e3⟩) (by rw[h5,show f0-(N:Int)=f0+1-((N+1:Nat):Int) by omega]) (by omega) h7
  cases lk with
  |once =>
   refine(Z9 rfl ⟨rfl,Z9 rfl (Zf (show ¬Xx "once" "again" = true by decide +kernel) ?_)⟩)
   refine(Z9 rfl ⟨rfl,Z9 rfl (Zf (show ¬Xx "once" "have" = true by decide +kernel) ?_)⟩)
   refine(Z9 rfl ⟨rfl,Z9 rfl (Zp (show Xx "once" "once" = true by decide +kernel) ?_)⟩)
   refine Zac (Q:=Q) (fun D hD=>?_)
   subst hD
   refine(Ys ea' rfl ⟨_,rfl,_,rfl,_,rfl,_,rfl,k0,gv,p1,t,i,n,g,f0,lf,rfl,hp1,hnm1,ht,hi1,hn,hgs,hgo,hlf,by omega,fun r vs ws N H1 hr1 hv1 hs1 hR1 hl1 hlen1 g1=>?_⟩)
   refine(Z9 rfl ⟨r,vs,rfl,SqL.of hr1,fun c hc=>?_⟩)
   rw[Z5f]
   have g2:=Gro.new (S:=[lf]) hc (.lst (vs.take 1))
   exact q0 c (vs.take 1) (ws.take 1) N _ Z2 (Ye g2.tups (Xb 1 hv1)) (fun w hw=>hs1 w (List.mem_of_mem_take hw)) (fun h0=>⟨ws,⟨p1,.once,rfl,rfl,hR1 h0⟩,rfl⟩) (by rw[Zi (Z7 hl1 hc)];exact hl1) (by rw[List.length_take];omega) (g1.trans g2)
  |ahead =>
   refine(Z9 rfl ⟨rfl,Z9 rfl (Zf (show ¬Xx "ahead" "again" = true by decide +kernel) ?_)⟩)
   refine(Z9 rfl ⟨rfl,Z9 rfl (Zf (show ¬Xx "ahead" "have" = true by decide +kernel) ?_)⟩)
   refine(Z9 rfl ⟨rfl,Z9 rfl (Zf (show ¬Xx "ahead" "once" = true by decide +kernel) ?_)⟩)
   refine(Z9 rfl ⟨rfl,Z9 rfl (Zp (show Xx "ahead" "ahead" = true by decide +kernel) (Te ?_))⟩)
   exact(Ys ea' rfl ⟨_,rfl,_,rfl,_,rfl,_,rfl,k0,gv,p1,t,i,n,g,f0,lf,rfl,hp1,hnm1,ht,hi1,hn,hgs,hgo,hlf,by omega,fun r vs ws N H1 hr1 hv1 hs1 hR1 hl1 hlen1 g1=>⟨r,vs,ws,N,rfl,hr1,hv1,fun w hw=>⟨(hs1 w hw).hi,(hs1 w hw).g⟩,hl1,hlen1,g1,fun h0=>⟨p1,.ahead,rfl,rfl,hR1 h0⟩,.ahead,rfl,(by decide),q0⟩⟩)
  |notahead =>
   refine(Z9 rfl ⟨rfl,Z9 rfl (Zf (show ¬Xx "notahead" "again" = true by decide +kernel) ?_)⟩)
   refine(Z9 rfl ⟨rfl,Z9 rfl (Zf (show ¬Xx "notahead" "have" = true by decide +kernel) ?_)⟩)
   refine(Z9 rfl ⟨rfl,Z9 rfl (Zf (show ¬Xx "notahead" "once" = true by decide +kernel) ?_)⟩)
   refine(Z9 rfl ⟨rfl,Z9 rfl (Zf (show ¬Xx "notahead" "ahead" = true by decide +kernel) (Z9 rfl ⟨rfl,Z9 rfl (Zp (show Xx "notahead" "notahead" = true by decide +kernel) ?_)⟩))⟩)
   exact(Ys ea' rfl ⟨_,rfl,_,rfl,_,rfl,_,rfl,k0,gv,p1,t,i,n,g,f0,lf,rfl,hp1,hnm1,ht,hi1,hn,hgs,hgo,hlf,by omega,fun r vs ws N H1 hr1 hv1 hs1 hR1 hl1 hlen1 g1=>⟨r,vs,ws,N,rfl,hr1,hv1,fun w hw=>⟨(hs1 w hw).hi,(hs1 w hw).g⟩,hl1,hlen1,g1,fun h0=>⟨p1,.notahead,rfl,rfl,hR1 h0⟩,.notahead,rfl,(by decide),q0⟩⟩)
  |behind =>
   refine(Z9 rfl ⟨rfl,Z9 rfl (Zf (show ¬Xx "behind" "again" = true by decide +kernel) ?_)⟩)
   refine(Z9 rfl ⟨rfl,Z9 rfl (Zf (show ¬Xx "behind" "have" = true by decide +kernel) ?_)⟩)
   refine(Z9 rfl ⟨rfl,Z9 rfl (Zf (show ¬Xx "behind" "once" = true by decide +kernel) ?_)⟩)
   refine(Z9 rfl ⟨rfl,Z9 rfl (Zf (show ¬Xx "behind" "ahead" = true by decide +kernel) (Z9 rfl ⟨rfl,Z9 rfl (Zf (show ¬Xx "behind" "notahead" = true by decide +kernel) ?_)⟩))⟩)
   exact(Ys ea' rfl ⟨_,rfl,_,rfl,_,rfl,_,rfl,k0,gv,p1,t,i,n,g,f0,lf,rfl,hp1,hnm1,ht,hi1,hn,hgs,hgo,hlf,by omega,fun r vs ws N H1 hr1 hv1 hs1 hR1 hl1 hlen1 g1=>⟨r,vs,ws,N,rfl,hr1,hv1,fun w hw=>⟨(hs1 w hw).hi,(hs1 w hw).g⟩,hl1,hlen1,g1,fun h0=>⟨p1,.behind,rfl,rfl,hR1 h0⟩,.behind,rfl,(by decide),q0⟩⟩)
  |notbehind =>
   refine(Z9 rfl ⟨rfl,Z9 rfl (Zf (show ¬Xx "notbehind" "again" = true by decide +kernel) ?_)⟩)
   refine(Z9 rfl ⟨rfl,Z9 rfl (Zf (show ¬Xx "notbehind" "have" = true by decide +kernel) ?_)⟩)
   refine(Z9 rfl ⟨rfl,Z9 rfl (Zf (show ¬Xx "notbehind" "once" = true by decide +kernel) ?_)⟩)
   refine(Z9 rfl ⟨rfl,Z9 rfl (Zf (show ¬Xx "notbehind" "ahead" = true by decide +kernel) (Z9 rfl ⟨rfl,Z9 rfl (Zf (show ¬Xx "notbehind" "notahead" = true by decide +kernel) ?_)⟩))⟩)
   exact(Ys ea' rfl ⟨_,rfl,_,rfl,_,rfl,_,rfl,k0,gv,p1,t,i,n,g,f0,lf,rfl,hp1,hnm1,ht,hi1,hn,hgs,hgo,hlf,by omega,fun r vs ws N H1 hr1 hv1 hs1 hR1 hl1 hlen1 g1=>⟨r,vs,ws,N,rfl,hr1,hv1,fun w hw=>⟨(hs1 w hw).hi,(hs1 w hw).g⟩,hl1,hlen1,g1,fun h0=>⟨p1,.notbehind,rfl,rfl,hR1 h0⟩,.notbehind,rfl,(by decide),q0⟩⟩)
 |_=>cases hkd
end
theorem Zj8{h:Hd}(e:h.wd.kd=.one):h.one=true:=by
 cases h with
 |look lk=>cases lk <;> cases e
 |_=>first | cases e;done | rfl
theorem Zg4{h:Hd}(e:h.wd.kd=.edge):h=.beg∨h=.fin:=by
 cases h with
 |look lk=>cases lk <;> cases e
 |beg=>exact .inl rfl
 |fin=>exact .inr rfl
 |_=>cases e
theorem Zj7{h:Hd}(e:h.wd.kd=.row):h=.row:=by
 cases h with
 |look lk=>cases lk <;> cases e
 |row=>rfl
 |_=>cases e
theorem Zja{h:Hd}(e:h.wd.kd=.alt):h=.alt:=by
 cases h with
 |look lk=>cases lk <;> cases e
 |alt=>rfl
 |_=>cases e
theorem Zj9{h:Hd}(e:h.wd.kd=.grp):∃k,h=.grp k:=by
 cases h with
 |look lk=>cases lk <;> cases e
 |grp k=>exact⟨k,rfl⟩
 |_=>cases e
theorem Zcv{h:Hd}(e:h.wd.kd=.times):∃lo hi how,h=.times lo hi how:=by
 cases h with
 |look lk=>cases lk <;> cases e
 |times lo hi how=>exact⟨lo,hi,how,rfl⟩
 |_=>cases e
theorem Rx.snoc{W:Wk}:∀ {ks:List Pat} {p:Pat} {vs ws us:List Yd} {N N':Nat},Rx W ks vs ws N->Ew W p ws us N'->Rx W (ks++[p]) vs us (N+N')
 |_,_,_,_,_,_,_,.nil,h=>by
  have:=Rx.cons h (Rx.nil (W:=W))
  simpa using this
 |_,_,_,_,_,_,_,.cons h r,h'=>by
  have:=Rx.cons h (Rx.snoc r h')
  rw[Nat.add_assoc]
  exact this
theorem Ax.snoc{W:Wk}{i:Nat}{g:Gs}:∀ {ks:List Pat} {p:Pat} {ws us:List Yd} {N N':Nat},Ax W i g ks ws N->W p i g us N'->Ax W i g (ks++[p]) (ws++us) (N+N')
 |_,_,_,_,_,_,.nil,h=>by
  have:=Ax.cons h (Ax.nil (W:=W) (i:=i) (g:=g))
  rw[List.append_nil]at this
  simpa using this
 |_,_,_,_,_,_,.cons h r,h'=>by
  have:=Ax.cons h (Ax.snoc r h')
  rw[List.append_assoc,Nat.add_assoc]
  exact this
section
variable{P:Program}{w:World}{K:W.Frag}{mg:Str->Option Value}{base:Heap}{f:Addr}{fd:FuncData}
abbrev Uq:Stmt:=top 71
theorem sc_l_ways:FnScope ["_law_p","_law_text_here","_law_i","_law_g","_law_left","_law_word","_law_ways_here","_law_part"] ["_law_p","_law_text_here","_law_i","_law_g","_law_left"] (Za Uq):=V7
theorem Zfk{d k:Nat}(T:Blt mg)(O_l_takes:Own P w K mg base k "_law_takes" ["_law_p","_law_sign_here"] Zgp)(O_l_each:Own P w K mg base k "_law_each" ["_law_part","_law_text_here","_law_ways_here","_law_left"] (Z8t d))(O_l_turns:Own P w K mg base k "_law_turns" ["_law_p","_law_text_here","_law_n","_law_j","_law_g","_law_left"] (Z1v d 29))(O_l_memory:Own P w K mg base k "_law_memory" ["_law_p","_law_text_here","_law_i","_law_g","_law_left"] (Zed d))(O_l_ways:Own P w K mg base k "_law_ways" ["_law_p","_law_text_here","_law_i","_law_g","_law_left"] (U0 d))(F:Fun K "_law_ways" "_law_ways" Uq f fd) :
  FnOk P w K mg base W3 (k+1) f fd ["_law_p","_law_text_here","_law_i","_law_g","_law_left"] (U0 (d+1)):=by
 refine F.ok sc_l_ways (fun vs H Q E h=>?_) (fun cdv A outer s H vs Q E hr h=>?_)
 ·obtain⟨v0,gv,p,t,i,n,g,f,lf,rfl,_⟩:=h
  rfl
 obtain⟨v0,gv,p,t,i,n,g,f0,lf,rfl,hp,hnm,ht,hi1,hn,hgs,hgo,hlf,hf,q⟩:=h
 refine V6 ?_
 intro Xz
 refine⟨_,(Z1 (U1 (Zx X3 (Zd Y1 (pv 4) Z4 (fun _ _=>rfl)) Z4) (U2 (pv 4) Z4 Xp))
  (Z1 (Zs (Zb Vc (Zd Y1 (pv 4) Z4 (fun _ _=>rfl)) Z4 (Ze _)) (Z5 (Zl (Y4 Z3))) Zk)
  (Z1 (pS 5 sc_l_ways.nd (Zd Zc (pv 0) Z4 (fun _ _=>rfl)))
  (Z1 (Zs (Zb Uo (pv 5) (Zr (Z0 Zg (Z0 Zg (Z0 Zg (Z0 Zg Z3))))) (by with_unfolding_all rfl)) (Z1 (Zs (PW.pt (Vj (Zb Vc (pv 2) (Zy Yh rfl T.b_len PyProof.Rows.Boot.«len» (Z0 (pv 1) Z3)) (Ze _)) (Wl (Wo (Zj (O_l_takes.mono (by omega)) hr rfl (Z0 (pv 0) (Z0 (Zd Jj (pv 1) (pv 2) (fun _ _=>rfl)) Z3))))))) (Z5 (Zl (Y4 (Z0 (Zr (Z0 (Zx Yn (pv 2) Z4) (Z0 (pv 3) Z3))) Z3)))) Zk)
  (Z5 (Zl (Y4 Z3)))) Zk)
  (Z1 (Zs (PW.pt (T7 (Zb Zv (pv 5) Zg (Ze _)) (Vi (Zb Zv (pv 5) Zg (Ze _))))) (Z1 (Zs (Zb Zv (pv 2) (Zd Y1 (Y4 (Z0 Z4 (Z0 (Zy Yh rfl T.b_len PyProof.Rows.Boot.«len» (Z0 (pv 1) Z3)) Z3))) (Yu Jf rfl T.b_int PyProof.Rows.Boot.«int» (Z0 (X7 Zv (pv 5) Zg (Ze _)) Z3)) (fun _ _=>rfl)) (Ze _)) (Z5 (Zl (Y4 (Z0 (Zr (Z0 (pv 2) (Z0 (pv 3) Z3))) Z3)))) Zk)
  (Z5 (Zl (Y4 Z3)))) Zk)
  (Z1 (Zs (Zb Zv (pv 5) Zg (Ze _)) (Z1 (pS 6 sc_l_ways.nd (Y4 (Z0 (Zr (Z0 (pv 2) (Z0 (pv 3) Z3))) Z3)))
  (Z1 (Xr PassesOwn.never rfl (Jh (Zd Zc (pv 0) Z4 (fun _ _=>rfl))) (pN 7 sc_l_ways.nd) (Z5 (pS 6 sc_l_ways.nd (Zj (O_l_each.mono (by omega)) hr rfl (Z0 (pv 7) (Z0 (pv 1) (Z0 (pv 6) (Z0 (pv 4) Z3))))))))
  (Z5 (Zl (pv 6))))) Zk)
  (Z1 (Zs (Zb Zv (pv 5) Zg (Ze _)) (Z1 (pS 6 sc_l_ways.nd (Y4 Z3))
  (Z1 (Xr PassesOwn.never rfl (Jh (Zd Zc (pv 0) Z4 (fun _ _=>rfl))) (pN 7 sc_l_ways.nd) (Z5 (pS 6 sc_l_ways.nd (Zx Z38 (pv 6) (Zj (O_l_ways.mono (by omega)) hr rfl (Z0 (pv 7) (Z0 (pv 1) (Z0 (pv 2) (Z0 (pv 3) (Z0 (pv 4) Z3))))))))))
  (Z5 (Zl (pv 6))))) Zk)
  (Z1 (Zs (Zb Zv (pv 5) Zg (Ze _)) (Z1 (pS 6 sc_l_ways.nd (Zj (O_l_turns.mono (by omega)) hr rfl (Z0 (pv 0) (Z0 (pv 1) (Z0 Z4 (Z0 (pv 2) (Z0 (pv 3) (Z0 (pv 4) Z3))))))))
  (Z1 (Zs (Zb Zv (Zd Zc (pv 0) Z4 (fun _ _=>rfl)) Zg (Ze _)) (Z5 (Zl (Y9 Z1z (pv 6) Xs (Y2 Z4)))) Zk)
  (Z5 (Zl (pv 6))))) Zk)
  (Z1 (Zs (Zb Zv (pv 5) Zg (Ze _)) (Z1 (pS 6 sc_l_ways.nd (Zj (O_l_ways.mono (by omega)) hr rfl (Z0 (Zd Zc (pv 0) Z4 (fun _ _=>rfl)) (Z0 (pv 1) (Z0 (pv 2) (Z0 (pv 3) (Z0 (pv 4) Z3)))))))
  (Z5 (Zl (Vb rfl (show CScope _ ["_law_p","_law_text_here","_law_i","_law_g","_law_left","_law_word","_law_ways_here","_law_part"] (Za Uq) _ from⟨rfl,by decide +kernel,rfl,by decide +kernel,by decide +kernel,by decide +kernel,by decide +kernel⟩) (Vn (pv 6)) (fun _ _ _ _=>Ta) (fun _ _ _ _=>(Zr (Z0 (Zd (r:=Uu K) Zc (pv 0) Z4 (fun _ _=>rfl)) (Z0 (Zx (r:=Zae K) Z24 (Zx (r:=Zae K) Z24 (Y9 (r:=Zaa K) Jz (Zd (r:=Uu K) Zc (pv 0) Z4 (fun _ _=>rfl)) Xs (Y2 (Zx X3 (Zd (r:=Uu K) Zc (pv 1) Z4 (fun _ _=>rfl)) Z4))) (Zr (Z0 (Zr (Z0 (pv 3) (Z0 (Zd (r:=Uu K) Zc (pv 0) Z4 (fun _ _=>rfl)) Z3))) Z3))) (Y9 (r:=Zaa K) Jz (Zd (r:=Uu K) Zc (pv 0) Z4 (fun _ _=>rfl)) (Y2 (Zd (r:=Uu K) Zc (pv 1) Z4 (fun _ _=>rfl))) Xs)) Z3)))))))) Zk)
  (Z5 (Zl (Zj (O_l_memory.mono (by omega)) hr rfl (Z0 (pv 0) (Z0 (pv 1) (Z0 (pv 2) (Z0 (pv 3) (Z0 (pv 4) Z3))))))))))))))))),?_⟩
 refine Zho ?_
 intro Ez Az1 Az2 Az3 Az4 Az5 Az6 Az7 Az8 Az9 Az10 Az11 Az12 Az13 Az14 Az15 Az16 Az17 Az18 Az19 Az20 Az21 Az22 Az23 Az24 Az25 Az26 Az27 Az28 Az29 Az30
 refine(Z7l hlf rfl (Xy rfl rfl (Z9 rfl ⟨lf,_,_,0,rfl,rfl,hlf,rfl,?_⟩)))
 have g1:Gro [lf] H (Zq H lf (.lst [.int (f0-1)])):=Gro.set (by simp) hlf _
 have hl1:(Zq H lf (.lst [.int (f0-1)])) lf=some (.lst [.int (f0-((1:Nat):Int))]):=Z2
 refine(Z7l hl1 rfl (Xy rfl rfl (Z9 rfl (Ym (fun z=>?_) (fun z=>?_)))))
 ·have hz:f0-1<0:=of_decide_eq_true z
  exact⟨sz,fun r hr=>q.nil hr g1 hl1 (fun h0=>by exfalso;have:f0-((1:Nat):Int)=f0-1:=rfl;omega)⟩
 have hf0:0<=f0-1:=by
  have:¬f0-1<0:=fun z'=>z (decide_eq_true z')
  omega
 obtain⟨h,ks⟩:=p
 obtain⟨a0,kv,rfl,lay,hk⟩:=id hp
 obtain⟨r0,ea⟩:=lay.head
 refine(Ys (g1.tups _ _ ea) Vw (?_))
 refine(Z9 rfl ⟨sz,fun tp htp=>?_⟩)
 have g2:Gro [lf] H (Zq (Zq H lf (.lst [.int (f0-1)])) tp (.tup Xt)):=g1.trans (Gro.new htp _)
 have hl2:(Zq (Zq H lf (.lst [.int (f0-1)])) tp (.tup Xt)) lf=some (.lst [.int (f0-((1:Nat):Int))]):=by rw[Zi (Z7 hl1 htp)];exact hl1
 refine⟨tp,Xt,rfl,.inr (SqT.of Z2),rfl,rfl,Z9 rfl (?_)⟩
 show if Zgm (.str h.word) Xt=true then _ else _
 rw[Zkr]
 have hp2:=hp.mono g2.tups
 have lay2:=lay.mono g2.tups
 have hk2:Paired (PatAt (Zq (Zq H lf (.lst [.int (f0-1)])) tp (.tup Xt)) d) kv ks:=Paired.mapP hk fun _ _ h=>h.mono g2.tups
 have hg2:=hgs.mono g2.tups
 have hnm':=nm_node.mp hnm
 have me:Gd t n i (i,g):=⟨Nat.le_refl _,hi1,hgo⟩
 have q2:WX lf (Gd t n i) (Wy t (d+1) (.node h ks) i g) f0 Q (Zq (Zq H lf (.lst [.int (f0-1)])) tp (.tup Xt)):=fun r vs ws N H' h1 h2 h3 h4 h5 h6 h7=>q r vs ws N H' h1 h2 h3 h4 h5 h6 (g2.trans h7)
 have no_:∀ {A B:Prop} (x:Kd),h.wd.kd≠x->B->if decide (h.wd.kd=x)=true then A else B:=fun x hx b=>Zf (fun z=>hx (of_decide_eq_true z)) b
 have yes_:∀ {A B:Prop} (x:Kd),h.wd.kd=x->A->if decide (h.wd.kd=x)=true then A else B:=fun x hx a=>Zp (decide_eq_true hx) a
 have hl2':(Zq (Zq H lf (.lst [.int (f0-1)])) tp (.tup Xt)) lf=some (.lst [.int (f0-1)]):=hl2
 have sub1:∀N:Nat,f0-1-(N:Int)=f0-((N+1:Nat):Int):=fun N=>by omega
 by_cases c1:h.wd.kd=.one
 ·refine yes_ _ c1 ?_
  refine Zac (Q:=Q) (fun D hD=>?_)
  subst hD
  have hone:=Zj8 c1
  have hsg:∀ws,ws=(if W7 h t i=true then[(i+1,g)] else[])->Wy t (d+1) (.node h ks) i g ws 1:=fun ws hws=>by
   cases h <;> first | exact⟨hws,rfl⟩ | cases hone
  have htk:W7 h t i=if(i:Int)<t.length then h.eats (Z4w t (i:Int).toNat) else false:=rfl
  refine(Z9 rfl (Z9 rfl ⟨t,rfl,Y5 (by omega),Xy rfl rfl (Z9 rfl (?_))⟩))
  by_cases hlt:(i:Int)<t.length
  ·rw[if_pos hlt]at htk
   refine Zp (decide_eq_true hlt) ?_
   refine(Z9 rfl (Z9 rfl (Z9 rfl ⟨t,i,Z9 rfl ⟨rfl,Y5 (by omega),Z5x (by omega) hlt,d+1,_,h,ks,_,rfl,hp2,hone,rfl,fun H3 g3=>(Z9 rfl (?_))⟩⟩)))
   have hl3:=g3.keep _ _ hl2 (by simp)
   show if h.eats (Z4w t (i:Int).toNat)=true then _ else _
   rw[← htk]
   by_cases htr:W7 h t i=true
   ·refine Zp htr ?_
    refine(Z9 rfl (Xy rfl rfl (Z9 rfl ⟨sz,fun t1 ht1=>⟨sz,fun r hr=>?_⟩⟩)))
    have e1:V.int ((i:Int)+1)=V.int ((i+1:Nat):Int):=rfl
    exact q2.one (N:=1) (i:=i+1) (gs:=g) ht1 hr (g3.mono (by simp)) hl3 (Nat.le_refl _) (by omega) (hg2.mono g3.tups) ⟨by show i<=i+1;omega,by show i+1<=_;omega,hgo⟩ (fun _=>hsg _ (by rw[if_pos htr]))
   ·exact Zf htr ⟨sz,fun r hr=>q2.nil hr (g3.mono (by simp)) hl3 (fun _=>hsg _ (by rw[if_neg htr]))⟩
  ·rw[if_neg hlt]at htk
   exact Zf (fun z=>hlt (of_decide_eq_true z)) (Ju ⟨sz,fun r hr=>q2.nil hr Gro.refl hl2 (fun _=>hsg _ (by rw[htk];rfl))⟩)
 refine no_ _ c1 ?_
 by_cases c2:h.wd.kd=.edge
 ·have hor:Xx h.word "begin" = true∨Xx h.word "end" = true:=by
   have:=Zdy h
   rw[decide_eq_true c2]at this
   simpa using this
  obtain⟨b,hw,hwy⟩:∃b:Bool,decide (V.str h.word=V.str "end")=b/\∀ws,ws=(if i=(if b=true then t.length else 0) then[(i,g)] else[])->Wy t (d+1) (.node h ks) i g ws 1:=by
   rcases Zg4 c2 with rfl | rfl
   ·exact⟨false,by decide +kernel,fun ws h=>⟨h,rfl⟩⟩
   ·exact⟨true,by decide +kernel,fun ws h=>⟨h,rfl⟩⟩
  refine(Z9 rfl ⟨rfl,Z9 rfl (?_)⟩)
  refine(fun key=>Ym (fun z=>Te key) (fun z=>⟨_,rfl,rfl,_,rfl,Zp (by rcases hor with hor | hor <;> first | exact hor | exact absurd hor z) key⟩)) ?_
  refine(Z9 rfl (Z9 rfl ⟨t,rfl,Y5 (by omega),sz,fun l hl=>?_⟩))
  refine(Z9 rfl ⟨rfl,.inr (Z9 rfl (?_))⟩)
  have g3:=Gro.new (S:=[lf]) hl (.lst [.int 0,.int t.length])
  have hl3:=(Gro.new (S:=[]) hl (.lst [.int 0,.int t.length])).keep _ _ hl2 (by simp)
  rw[hw]
  cases b
  all_goals
   refine⟨l,_,_,_,rfl,rfl,SqL.of Z2,rfl,rfl,Z9 rfl (Ym (fun z=>?_) (fun z=>⟨sz,fun r hr=>q2.nil hr g3 hl3 (fun _=>hwy _ ?_)⟩))⟩
   ·refine(Z9 rfl (Z9 rfl ⟨sz,fun t1 ht1=>⟨sz,fun r hr=>q2.one ht1 hr g3 hl3 (Nat.le_refl _) (by omega) (hg2.mono g3.tups) me (fun _=>hwy _ ?_)⟩⟩))
    have z':=of_decide_eq_true z
    injection z' with z'
    first | rw[if_pos (by simp;omega)] | rw[if_pos (by simpa using z')]
   ·rw[if_neg ?_]
    intro e
    refine z (decide_eq_true ?_)
    simp at e
    rw[e]
    try rfl
 have hno:Xx h.word "begin" = false/\Xx h.word "end" = false:=by
  have:=Zdy h
  rw[decide_eq_false c2]at this
  exact Bool.or_eq_false_iff.mp this
 refine(Z9 rfl ⟨rfl,Z9 rfl (Zf (fun z=>by rw[show Xx h.word "begin" = true from z]at hno;cases hno.1) (Z9 rfl ⟨rfl,Z9 rfl (Zf (fun z=>by rw[show Xx h.word "end" = true from z]at hno;cases hno.2) ?_)⟩))⟩)
 refine(Z9 rfl ⟨rfl,Z9 rfl (?_)⟩)
 show if Xx h.word "row" = true then _ else _
 rw[Zkq]
 by_cases c3:h.wd.kd=.row
 ·refine yes_ _ c3 ?_
  refine Zac (Q:=Q) (fun D hD=>?_)
  subst hD
  obtain rfl:=Zj7 c3
  obtain⟨hkv,r,ea',er⟩:=lay2
  refine(Z9 rfl (Z9 rfl ⟨sz,fun t1 ht1=>⟨sz,fun l1 hl1'=>?_⟩⟩))
  have g3:Gro [] (Zq (Zq H lf (.lst [.int (f0-1)])) tp (.tup Xt)) (Zq (Zq (Zq (Zq H lf (.lst [.int (f0-1)])) tp (.tup Xt)) t1 (.tup [.int i,gv])) l1 (.lst [.ref t1])):=(Gro.new ht1 _).tup hl1'
  have et:(Zq (Zq (Zq (Zq H lf (.lst [.int (f0-1)])) tp (.tup Xt)) t1 (.tup [.int i,gv])) l1 (.lst [.ref t1])) t1=some (.tup [.int i,gv]):=by rw[Zi (Z7 Z2 hl1')];exact Z2
  refine(Ys (g3.tups _ _ ea') rfl ⟨r,rfl,⟨kv,SqT.of (g3.tups _ _ er)⟩,?_⟩)
  have hkl:=Paired.length hk
  refine Z0m (xs:=kv) (fun x σ H'=>∃(wr:Addr) (vs:List V) (ws:List Yd) (N:Nat) (pt:Option V),σ=[some (.ref a0),some (.str t),some (.int i),some gv,some (.ref lf),some (.str (Hd.word .row)),some (.ref wr),pt]/\H' wr=some (.lst vs)/\Paired (WyA H') vs ws/\(∀w∈ws,Gd t n i w)/\(0<=f0-1-N->Rx (Wy t d) (ks.take x) [(i,g)] ws N)/\H' lf=some (.lst [.int (f0-1-N)])/\ws.length+(f0-1-N).toNat<=f0.toNat/\Gro [lf] (Zq (Zq H lf (.lst [.int (f0-1)])) tp (.tup Xt)) H')
   ⟨l1,[.ref t1],[(i,g)],0,none,rfl,Z2,.cons ⟨t1,gv,rfl,et,hg2.mono g3.tups⟩ .nil,(fun w hw=>by rw[List.mem_singleton.mp hw];exact me),(fun _=>.nil),by have:=g3.keep _ _ hl2' (by simp);simpa using this,by show 1+(f0-1-((0:Nat):Int)).toNat<=f0.toNat;omega,g3.mono (by simp)⟩ (fun x σ H' _ hh=>by obtain⟨_,_,_,_,_,_,_,_,_,_,_,_,g⟩:=hh;exact SqT.of (g.tups _ _ er)) ?_ ?_
  ·rintro x v σ H4 hv ⟨wr,vs,ws,N,pt,rfl,hwr,hvs,hws,hR,hl4,hlen4,g4⟩
   obtain⟨pp,hpp,hpv⟩:=Y0 hk2 hv
   have hmem:=List.mem_of_getElem? hpp
   refine(Z9 rfl (Z9 rfl (Z9 rfl (Z9 rfl ⟨v,pp,t,i,n,f0-1-N,wr,lf,vs,ws,rfl,hpv.mono g4.tups,hnm'.2 pp hmem,ht,hn,hwr,hvs,by rw[Paired.length hvs];omega,hws,hl4,by omega,fun r5 vs5 ws5 N5 H5 hr5 hv5 hs5 hR5 hl5 hlen5 g5=>?_⟩))))
   have hN:f0-1-(N:Int)-(N5:Int)=f0-1-((N+N5:Nat):Int):=by omega
   refine⟨r5,vs5,ws5,N+N5,Z9 rfl ⟨hr5,hv5,hs5,fun h0=>?_,by rw[hl5,hN],by omega,g4.trans g5⟩⟩
   rw[Yf hpp]
   exact(hR (by omega)).snoc (hR5 (by omega))
  ·rintro σ H4 ⟨wr,vs,ws,N,pt,rfl,hwr,hvs,hws,hR,hl4,hlen4,g4⟩
   rw[List.take_of_length_le (by omega)]at hR
   exact(Z9 rfl (q2 wr vs ws (N+1) H4 hwr hvs hws (fun h0=>⟨N,hR (by omega),rfl⟩) (by rw[hl4,sub1]) (by rw[← sub1];exact hlen4) g4))
 refine no_ _ c3 ?_
 refine(Z9 rfl ⟨rfl,Z9 rfl (?_)⟩)
 show if Xx h.word "or" = true then _ else _
 rw[Zkt]
 by_cases c4:h.wd.kd=.alt
 ·refine yes_ _ c4 ?_
  refine Zac (Q:=Q) (fun D hD=>?_)
  subst hD
  obtain rfl:=Zja c4
  obtain⟨hkv1,hkv,r,ea',er⟩:=lay2
  have hkl:=Paired.length hk
  refine⟨sz,fun l1 hl1'=>?_⟩
  have g3:=Gro.new (S:=[]) hl1' (.lst [])
  refine(Ys (g3.tups _ _ ea') rfl ⟨r,rfl,⟨kv,SqT.of (g3.tups _ _ er)⟩,?_⟩)
  refine Z0m (xs:=kv) (fun x σ H'=>∃(wr:Addr) (vs:List V) (ws:List Yd) (N:Nat) (pt:Option V),σ=[some (.ref a0),some (.str t),some (.int i),some gv,some (.ref lf),some (.str (Hd.word .alt)),some (.ref wr),pt]/\H' wr=some (.lst vs)/\Paired (WyA H') vs ws/\(∀w∈ws,Gd t n i w)/\(0<=f0-1-N->Ax (Wy t d) i g (ks.take x) ws N)/\H' lf=some (.lst [.int (f0-1-N)])/\ws.length+(f0-1-N).toNat<=f0.toNat/\Gro [lf] (Zq (Zq H lf (.lst [.int (f0-1)])) tp (.tup Xt)) H')
   ⟨l1,[],[],0,none,rfl,Z2,.nil,(fun w hw=>by simp at hw),(fun _=>.nil),by have:=g3.keep _ _ hl2' (by simp);simpa using this,by show 0+(f0-1-((0:Nat):Int)).toNat<=f0.toNat;omega,g3.mono (by simp)⟩ (fun x σ H' _ hh=>by obtain⟨_,_,_,_,_,_,_,_,_,_,_,_,g⟩:=hh;exact SqT.of (g.tups _ _ er)) ?_ ?_
  ·rintro x v σ H4 hv ⟨wr,vs,ws,N,pt,rfl,hwr,hvs,hws,hR,hl4,hlen4,g4⟩
   obtain⟨pp,hpp,hpv⟩:=Y0 hk2 hv
   have hmem:=List.mem_of_getElem? hpp
   have nwr:=T9 hvs hwr hl4
   refine(Z9 rfl (Z9 rfl (Z9 rfl (Z9 rfl (Z9 rfl (Z9 rfl ⟨v,gv,pp,t,i,n,g,f0-1-N,lf,rfl,hpv.mono g4.tups,hnm'.2 pp hmem,ht,hi1,hn,hg2.mono g4.tups,hgo,hl4,by omega,fun r5 vs5 ws5 N5 H5 hr5 hv5 hs5 hR5 hl5 hlen5 g5=>?_⟩))))))
   have e4:=Paired.length hvs
   have e5:=Paired.length hv5
   refine⟨wr,r5,vs,vs5,rfl,rfl,g5.keep _ _ hwr (by simpa using nwr),hr5,Nat.le_of_lt (Z5z (n:=vs.length+vs5.length) (by omega)),fun c hc=>?_⟩
   have g6:=Gro.new (S:=[lf]) hc (.lst (vs++vs5))
   have hN:f0-1-(N:Int)-(N5:Int)=f0-1-((N+N5:Nat):Int):=by omega
   refine⟨c,vs++vs5,ws++ws5,N+N5,Z9 rfl ⟨Z2,Zw (Ye (fun b xs h=>g6.tups _ _ (g5.tups _ _ h)) hvs) (Ye g6.tups hv5),fun y hy=>?_,fun h0=>?_,by rw[Zi (Z7 hl5 hc),hl5,hN],by rw[List.length_append];omega,(g4.trans g5).trans g6⟩⟩
   ·rcases List.mem_append.mp hy with hy | hy
    ·exact hws y hy
    ·exact hs5 y hy
   ·rw[Yf hpp]
    exact(hR (by omega)).snoc (hR5 (by omega))
  ·rintro σ H4 ⟨wr,vs,ws,N,pt,rfl,hwr,hvs,hws,hR,hl4,hlen4,g4⟩
   rw[List.take_of_length_le (by omega)]at hR
   exact(Z9 rfl (q2 wr vs ws (N+1) H4 hwr hvs hws (fun h0=>⟨by intro e;rw[e]at hkl;rw[hkl]at hkv1;simp at hkv1,N,hR (by omega),rfl⟩) (by rw[hl4,sub1]) (by rw[← sub1];exact hlen4) g4))
 refine no_ _ c4 ?_
 refine(Z9 rfl ⟨rfl,Z9 rfl (?_)⟩)
 show if Xx h.word "times" = true then _ else _
 rw[Zg5]
 by_cases c5:h.wd.kd=.times
 ·refine yes_ _ c5 ?_
  refine Zac (Q:=Q) (fun D hD=>?_)
  subst hD
  obtain⟨lo,hi,how,rfl⟩:=Zcv c5
  obtain⟨⟨hlo0,hlo1,hhi⟩,k0,rfl,ea'⟩:=lay2
  cases hk2 with
  |cons hp1 hk3 =>
  cases hk3
  rename_i p1
  refine(Z9 rfl (Z9 rfl (Z9 rfl (Z9 rfl (Z9 rfl ⟨.ref a0,gv,p1,lo,hi,how,t,0,i,n,g,f0-1,lf,rfl,hp2,hnm'.2 p1 (by simp),ht,hi1,hn,hg2,hgo,hl2',by omega,by omega,fun r vs us N H3 hr1 hv1 hs1 hR1 hl3 hlen1 g3=>?_⟩)))))
  have wy:∀ws,ws=(if how=.keep then us.take 1 else us)->0<=f0-((N+1:Nat):Int)->Wy t (d+1) (.node (.times lo hi how) [p1]) i g ws (N+1):=fun ws hws h0=>⟨p1,29,us,N,rfl,hR1 (by omega),rfl,hws⟩
  refine(Ys (g3.tups _ _ ea') rfl ⟨rfl,Z9 rfl (?_)⟩)
  by_cases hkeep:how=.keep
  ·refine Zp (show Xx how.text "keep" = true by rw[hkeep];decide +kernel) ?_
   refine(Z9 rfl (Z9 rfl ⟨r,vs,rfl,SqL.of hr1,fun c hc=>?_⟩))
   rw[Z5f]
   have g4:=Gro.new (S:=[lf]) hc (.lst (vs.take 1))
   exact q2 c (vs.take 1) (us.take 1) (N+1) _ Z2 (Ye g4.tups (Xb 1 hv1)) (fun w hw=>hs1 w (List.mem_of_mem_take hw)) (wy _ (by rw[if_pos hkeep])) (by rw[Zi (Z7 hl3 hc),hl3,sub1]) (by rw[List.length_take];omega) (g3.trans g4)
  ·have hn':¬Xx how.text "keep" = true:=by
    cases how with
    |keep=>exact absurd rfl hkeep
    |much=>decide +kernel
    |little=>decide +kernel
   exact Zf hn' (Z9 rfl (q2 r vs us (N+1) H3 hr1 hv1 hs1 (wy _ (by rw[if_neg hkeep])) (by rw[hl3,sub1]) (by omega) g3))
 refine no_ _ c5 ?_
 refine(Z9 rfl ⟨rfl,Z9 rfl (?_)⟩)
 show if Xx h.word "group" = true then _ else _
 rw[Zks]
 by_cases c6:h.wd.kd=.grp
 ·refine yes_ _ c6 ?_
  refine Zac (Q:=Q) (fun D hD=>?_)
  subst hD
  obtain⟨x,rfl⟩:=Zj9 c6
  obtain⟨_,k0,rfl,ea'⟩:=lay2
  obtain⟨hx1,hx2⟩:1<=x/\x<=n:=hnm'.1
  cases hk2 with
  |cons hp1 hk3 =>
  cases hk3
  rename_i p1
  refine(Ys ea' rfl (Z9 rfl (Z9 rfl (Z9 rfl (Z9 rfl ⟨k0,gv,p1,t,i,n,g,f0-1,lf,rfl,hp1,hnm'.2 p1 (by simp),ht,hi1,hn,hg2,hgo,hl2',by omega,fun r vs us N H3 hr1 hv1 hs1 hR1 hl3 hlen1 g3=>?_⟩)))))
  have el:=Paired.length hv1
  refine(Z9 rfl ⟨r,rfl,⟨vs,SqL.of hr1⟩,?_⟩)
  refine Z5c (xs:=vs) (fun y ys H'=>Paired (WyA H') ys ((us.take y).map fun w=>(w.1,put w.2 x i w.1))/\ys.length=y/\Gro [] H3 H') ⟨.nil,rfl,Gro.refl⟩ (Z5z (by omega)) (fun y ys H' ⟨_,e,_⟩=>by omega) (fun y ys H' ⟨_,_,g⟩=>SqL.of (g.keep _ _ hr1 (by simp))) ?_ ?_
  ·rintro y ys H4 v hv ⟨hys,hyl,g4⟩
   obtain⟨w0,hj,hw⟩:=Y0 hv1 hv
   have gd:=hs1 w0 (List.mem_of_getElem? hj)
   obtain⟨b,gv2,rfl,hb,hga⟩:=hw.mono g4.tups
   obtain⟨ga,es,rfl,hge,hel,hen⟩:=hga.len
   have hgl:=gd.g.len
   obtain⟨m,rfl⟩:∃m:Nat,x=((m+1:Nat):Int):=⟨(x-1).toNat,by omega⟩
   have ea4:=g4.tups _ _ (g3.tups _ _ ea')
   refine(Ys hb Vw (?_))
   refine(Ys hb rfl (Ys ea4 rfl (Xy rfl rfl (Z9 rfl ⟨ga,es,rfl,SqT.of hge,?nw1,fun p1' hp1'=>?_⟩))))
   case nw1 =>
    rw[show((m+1:Nat):Int)-1=(m:Nat) by omega,HT.sIx_nat]
    omega
   rw[show((m+1:Nat):Int)-1=(m:Nat) by omega,Ze7 (by omega)]
   have g5:=Gro.new (S:=[]) hp1' (.tup (es.take m))
   have e5:(Zq H4 p1' (.tup (es.take m))) p1'=some (.tup (es.take m)):=Z2
   generalize Zq H4 p1' (.tup (es.take m))=H5 at *
   refine(Z9 rfl (Ys (g5.tups _ _ hb) Vw ⟨sz,fun p2 hp2'=>⟨sz,fun p3 hp3=>?_⟩⟩))
   have g6:Gro [] H5 (Zq (Zq H5 p2 (.tup [.int i,.int w0.1])) p3 (.tup [.ref p2])):=(Gro.new hp2' _).tup hp3
   have e6:(Zq (Zq H5 p2 (.tup [.int i,.int w0.1])) p3 (.tup [.ref p2])) p3=some (.tup [.ref p2]):=Z2
   have e7:(Zq (Zq H5 p2 (.tup [.int i,.int w0.1])) p3 (.tup [.ref p2])) p2=some (.tup [.int i,.int w0.1]):=by rw[Zi (Z7 Z2 hp3)];exact Z2
   generalize Zq (Zq H5 p2 (.tup [.int i,.int w0.1])) p3 (.tup [.ref p2])=H6 at *
   refine Z29 (g6.tups _ _ e5) e6 (by rw[List.length_take,List.length_singleton];omega) fun r7 H7 hr7 g7=>?_
   have t47:∀b xs,H4 b=some (.tup xs)->H7 b=some (.tup xs):=fun b xs h=>g7.tups _ _ (g6.tups _ _ (g5.tups _ _ h))
   refine(Ys (t47 _ _ hb) rfl (Ys (t47 _ _ ea4) rfl (Z9 rfl ⟨ga,es,rfl,SqT.of (t47 _ _ hge),?nw2,fun p8 hp8=>?_⟩)))
   case nw2 =>
    rw[HT.sIx_nat]
    omega
   rw[Z78 (by omega)]
   have g8:=Gro.new (S:=[]) hp8 (.tup (es.drop (m+1)))
   refine Z29 (g8.tups _ _ hr7) Z2 (by simp only[List.length_append,List.length_take,List.length_drop,List.length_singleton];omega) fun r9 H9 hr9 g9=>⟨sz,fun t1 ht1=>?_⟩
   have g10:=Gro.new (S:=[]) ht1 (.tup [.int w0.1,.ref r9])
   have gg:Gro [] H4 (Zq H9 t1 (.tup [.int w0.1,.ref r9])):=((((g5.trans g6).trans g7).trans g8).trans g9).trans g10
   refine⟨?_,by simp[hyl],g4.trans gg⟩
   rw[Yf hj,List.map_append]
   refine(Ye gg.tups hys).snoc ⟨t1,.ref r9,rfl,Z2,?_⟩
   refine GsAt.put (k:=((m+1:Nat):Int)) (Paired.mapP hen fun _ _ h=>h.mono gg.tups) (g10.tups _ _ (g9.tups _ _ (g8.tups _ _ (g7.tups _ _ e7)))) ?_
   rw[show(((m+1:Nat):Int)-1).toNat=m by omega,show((m+1:Nat):Int).toNat=m+1 from rfl]
   exact g10.tups _ _ hr9
  ·rintro ys H4 ⟨hys,hyl,g4⟩ c hc
   rw[List.take_of_length_le (by omega)]at hys
   have g5:=Gro.new (S:=[]) hc (.lst ys)
   refine q2 c ys _ (N+1) _ Z2 (Ye g5.tups hys) (fun w hw=>?_) (fun h0=>⟨p1,us,N,rfl,hR1 (by omega),rfl,rfl⟩) (by rw[(g4.trans g5).keep _ _ hl3 (by simp),sub1]) (by rw[List.length_map];omega) (g3.trans ((g4.trans g5).mono (by simp)))
   obtain⟨v,hv,rfl⟩:=List.mem_map.mp hw
   have gd:=hs1 v hv
   exact⟨gd.lo,gd.hi,Zdj gd.g hx1 hx2 gd.lo gd.hi⟩
 refine no_ _ c6 ?_
 have hkd:h.wd.kd=.mem:=by
  cases hh:h.wd.kd <;> first | rfl | exact absurd hh c1 | exact absurd hh c2 | exact absurd hh c3 | exact absurd hh c4 | exact absurd hh c5 | exact absurd hh c6
 exact(Z9 rfl (Z9 rfl (Z9 rfl (Z9 rfl (Z9 rfl ⟨.ref a0,gv,h,ks,t,i,n,g,f0-1,lf,rfl,hp2,hkd,hnm,ht,hi1,hn,hg2,hgo,hl2',hf0,by omega,by rw[show f0-1+1=f0 by omega];exact q2⟩)))))
theorem Z6r(T:Blt mg)(O_l_takes:Own P w K mg base 1 "_law_takes" ["_law_p","_law_sign_here"] Zgp)(D1:Def K mg "_law_each" Tv ["_law_part","_law_text_here","_law_ways_here","_law_left"])(D2:Def K mg "_law_turns" Vr ["_law_p","_law_text_here","_law_n","_law_j","_law_g","_law_left"])(D3:Def K mg "_law_behind" Ws ["_law_p","_law_text_here","_law_i","_law_g","_law_left"])(D4:Def K mg "_law_memory" Wr ["_law_p","_law_text_here","_law_i","_law_g","_law_left"])(D5:Def K mg "_law_ways" Uq ["_law_p","_law_text_here","_law_i","_law_g","_law_left"]) :
  ∀d,Own P w K mg base (2+30*d) "_law_ways" ["_law_p","_law_text_here","_law_i","_law_g","_law_left"] (U0 d)
 |0=>D5.own fun f fd F=>FnOk.never fun vs H Q E h=>by
  obtain⟨_,_,_,_,_,_,_,_,_,_,h,_⟩:=h
  exact h.elim
 |d+1=>by
  have ih:=Z6r T O_l_takes D1 D2 D3 D4 D5 d
  have ea:Own P w K mg base (2+30*d+1) "_law_each" ["_law_part","_law_text_here","_law_ways_here","_law_left"] (Z8t d):=D1.own fun f fd F=>Zfx ih F
  have be:Own P w K mg base (2+30*d+1) "_law_behind" ["_law_p","_law_text_here","_law_i","_law_g","_law_left"] (Zeg d):=D3.own fun f fd F=>Ziv T ih F
  have me:Own P w K mg base (2+30*d+1+1) "_law_memory" ["_law_p","_law_text_here","_law_i","_law_g","_law_left"] (Zed d):=D4.own fun f fd F=>Zir T (ih.mono (by omega)) be F
  have tu:=Z45 ih D2 29
  have:=D5.own (P:=P) (w:=w) (base:=base) (sp:=U0 (d+1)) fun f fd F=>Zfk (k:=2+30*d+29) T (O_l_takes.mono (by omega)) (ea.mono (by omega)) tu (me.mono (by omega)) (ih.mono (by omega)) F
  exact this
end
theorem Hd.nm_le{n m:Int}(h:n<=m):∀ {x:Hd},x.nm n->x.nm m
 |.grp k,q=>⟨q.1,Int.le_trans q.2 h⟩ | .again k,q=>⟨q.1,Int.le_trans q.2 h⟩ | .hav k,q=>⟨q.1,Int.le_trans q.2 h⟩
 |.sign _,_=>trivial | .any,_=>trivial | .inn _,_=>trivial | .out _,_=>trivial | .beg,_=>trivial | .fin,_=>trivial | .row,_=>trivial | .alt,_=>trivial | .times _ _ _,_=>trivial | .look _,_=>trivial
mutual
theorem Pat.nm_le{n m:Int}(h:n<=m):∀(p:Pat),p.nm n->p.nm m
 |.node x ks,q=>by
  rw[Pat.nm]at q ⊢
  exact⟨Hd.nm_le h q.1,Zds h ks q.2⟩
theorem Zds{n m:Int}(h:n<=m):∀(ks:List Pat),Zjj n ks->Zjj m ks
 | [],_=>by rw[Zjj];trivial
 |k::ks,q=>by
  rw[Zjj]at q ⊢
  exact⟨Pat.nm_le h k q.1,Zds h ks q.2⟩
end
theorem Zgu{n:Int}{h:Hd}(e:h.nm n):(Pat.node h []).nm n:=nm_node.mpr ⟨e,fun k hk=>by simp at hk⟩
theorem Zlf{n:Int}{h:Hd}{p:Pat}(e:h.nm n)(q:p.nm n):(Pat.node h [p]).nm n:=nm_node.mpr ⟨e,fun k hk=>by rw[List.mem_singleton.mp hk];exact q⟩
theorem Zmw{n:Int}{h:Hd}{p p':Pat}(e:h.nm n)(q:p.nm n)(q':p'.nm n):(Pat.node h [p,p']).nm n:=nm_node.mpr ⟨e,fun k hk=>by
 rcases List.mem_cons.mp hk with rfl | hk
 ·exact q
 ·rw[List.mem_singleton.mp hk];exact q'⟩
def CntN(H:Hp)(c:Addr)(n:Int):Prop:=∃p:Int,H c=some (.lst [.int n,.int p])/\0<=n/\n<=9
theorem CntN.at_{H:Hp}{c:Addr}{n:Int}(h:CntN H c n):CntAt H c:=by
 obtain⟨p,e,r⟩:=h
 exact⟨n,p,e,r⟩
theorem CntN.ne_let{H:Hp}{b l:Addr}{n:Int}(h:CntN H b n)(h':LetAt H l):b≠l:=h.at_.ne_let h'
theorem CntN.gro{S:List Addr}{H H':Hp}{l:Addr}{n:Int}(h:CntN H l n)(g:Gro S H H')(hl:l∉S):CntN H' l n:=by
 obtain⟨y,e,r⟩:=h
 exact⟨y,g.keep _ _ e hl,r⟩
theorem CntN.new{H:Hp}{l p:Addr}{o:HO}{n:Int}(h:CntN H l n)(hp:H p=none):CntN (Zq H p o) l n:=h.gro (S:=[]) (Gro.new hp o) (by simp)
theorem Z4s(ps:List Pat)(p:Pat):Y3 (ps++[p])=Y3 ps+p.groups:=by
 induction ps with
 |nil=>simp[Y3]
 |cons q ps ih =>
  rw[List.cons_append,Y3,Y3,ih]
  omega
section
variable{P:Program}{w:World}{K:W.Frag}{mg:Str->Option Value}{base:Heap}{f:Addr}{fd:FuncData}
inductive spRunsI(vs:List V)(H:Hp)(Q:VK):Prop
 |mk (b l:Addr) (_:vs=[.ref b,.ref l]) (_:BoxAt H b) (_:LetAt H l) (_:∀(r:Addr) (rs:List (Str×Str)) (H':Hp),BoxAt H' b->RunsAt H' r rs->1<=rs.length->rs.length<=2->Gro [b] H H'->Q (.ref r) H')
def Z33:Sp:=fun vs H Q _=>spRunsI vs H Q
abbrev Z07:Stmt:=top 60
theorem sc_l_runs:FnScope ["_law_box","_law_letters_here","_law_runs_here","_law_k","_law_one","_law_two"] ["_law_box","_law_letters_here"] (Za Z07):=V7
theorem Zfn(T:Blt mg)(O_l_take:Own P w K mg base 1 "_law_take" ["_law_box","_law_many"] W4)(F:Fun K "_law_runs" "_law_runs" Z07 f fd) :
  FnOk P w K mg base W3 2 f fd ["_law_box","_law_letters_here"] Z33:=by
 refine F.ok sc_l_runs (fun vs H Q E h=>?_) (fun cdv A outer s H vs Q E hr h=>?_)
 ·obtain⟨b,l,rfl,_⟩:=h
  rfl
 obtain⟨b,l,rfl,hb,hl,q⟩:=h
 refine V6 ?_
 intro Xz
 refine⟨_,(Z1 (pS 2 sc_l_runs.nd (Y4 Z3))
  (Z1 (Xr PassesOwn.never rfl (Wu rfl T.b_range (Z0 (Zx Yn Z4 (Zj (O_l_take.mono (by omega)) hr rfl (Z0 (pv 0) (Z0 Z4 Z3)))) Z3)) (pN 3 sc_l_runs.nd) (Z1 (pS 4 sc_l_runs.nd (Zd Y1 (pv 1) (Zj (O_l_take.mono (by omega)) hr rfl (Z0 (pv 0) (Z0 Z4 Z3))) (fun _ _=>rfl)))
  (Z1 (pS 5 sc_l_runs.nd (Zd Y1 (pv 1) (Zj (O_l_take.mono (by omega)) hr rfl (Z0 (pv 0) (Z0 Z4 Z3))) (fun _ _=>rfl)))
  (Z5 (Zs (Zb Z3d (Zy Us rfl T.b_ord PyProof.Rows.Boot.«ord» (Z0 (pv 4) Z3)) (Zy Us rfl T.b_ord PyProof.Rows.Boot.«ord» (Z0 (pv 5) Z3)) (Ze _)) (Z5 (Zn (Yw PySem.F.plainAttrs_list PySem.F.slot_list_append PySem.F.type_list_append Zz (pv 2) (Z0 (Zr (Z0 (pv 5) (Z0 (pv 4) Z3))) Z3)))) (Z5 (Zn (Yw PySem.F.plainAttrs_list PySem.F.slot_list_append PySem.F.type_list_append Zz (pv 2) (Z0 (Zr (Z0 (pv 4) (Z0 (pv 5) Z3))) Z3)))))))))
  (Z5 (Zl (Yu V0 rfl T.b_tuple PyProof.Rows.Boot.«tuple» (Z0 (pv 2) Z3)))))),?_⟩
 refine Zhy ?_
 intro Ez Az1 Az2 Az3 Az4 Az5 Az6 Az7
 have bl:b≠l:=hb.ne_let hl
 refine⟨sz,fun a ha=>?_⟩
 refine(Z9 rfl ⟨b,2,rfl,hb.new ha,by decide,by decide,fun r H1 h0 h1 hb1 g1=>?_⟩)
 refine(Xy rfl rfl (Z9 rfl ⟨by omega,by omega,?_⟩))
 have g1':Gro [b] H H1:=(Gro.new ha _).trans g1
 have ha1:H1 a=some (.lst []):=g1.keep a _ Z2 (by rw[List.mem_singleton];exact Ne.symm (Z7 hb.choose_spec.1 ha))
 refine Vu (fun i σ H'=>∃(vs:List V) (rs:List (Str×Str)) (k o t:Option V),σ=[some (.ref b),some (.ref l),some (.ref a),k,o,t]/\H' a=some (.lst vs)/\Paired (RunP H') vs rs/\rs.length=i/\BoxAt H' b/\Gro [b] H H')
  ⟨[],[],none,none,none,rfl,ha1,.nil,rfl,hb1,g1'⟩ ?_ ?_
 ·rintro i σ H2 hi ⟨vs,rs,k,o,t,rfl,ha2,hp2,hl2,hb2,g2⟩
  have ba:b≠a:=Z7 hb.choose_spec.1 ha
  have l2:LetAt H2 l:=hl.gro g2 (by simpa using Ne.symm bl)
  refine(Z9 rfl (Z9 rfl ⟨b,3,rfl,hb2,by decide,by decide,fun r3 H3 h30 h31 hb3 g3=>?_⟩))
  have l3:LetAt H3 l:=l2.gro g3 (by simpa using Ne.symm bl)
  refine Zbn l3 h30 h31 fun s1 hs1=>?_
  refine(Z9 rfl (Z9 rfl ⟨b,3,rfl,hb3,by decide,by decide,fun r4 H4 h40 h41 hb4 g4=>?_⟩))
  have l4:LetAt H4 l:=l3.gro g4 (by simpa using Ne.symm bl)
  refine Zbn l4 h40 h41 fun s2 hs2=>?_
  have g24:=g3.trans g4
  have ha4:H4 a=some (.lst vs):=g24.keep a _ ha2 (by simpa using Ne.symm ba)
  have hp4:Paired (RunP H4) vs rs:=Tp g24.tups hp2
  have hvl:vs.length<=2:=by have:=Paired.length hp2;omega
  refine(Z9 rfl ⟨s1,rfl,hs1,Z9 rfl ⟨s2,rfl,hs2,Xy rfl rfl (Z9 rfl (?_))⟩⟩)
  have fin:∀(x y:Str),x.length=1->y.length=1->∀p,H4 p=none->∃(vs':List V) (rs':List (Str×Str)) (k o t:Option V),
    [some (V.ref b),some (.ref l),some (.ref a),some (.int (0+(i:Int))),some (.str s1),some (.str s2)]=[some (.ref b),some (.ref l),some (.ref a),k,o,t]/\(Zq (Zq H4 p (.tup [.str x,.str y])) a (.lst (vs++[.ref p]))) a=some (.lst vs') /\
    Paired (RunP (Zq (Zq H4 p (.tup [.str x,.str y])) a (.lst (vs++[.ref p])))) vs' rs'/\rs'.length=i+1/\BoxAt (Zq (Zq H4 p (.tup [.str x,.str y])) a (.lst (vs++[.ref p]))) b/\Gro [b] H (Zq (Zq H4 p (.tup [.str x,.str y])) a (.lst (vs++[.ref p]))):=by
   intro x y hx hy p hp
   have hpa:p≠a:=Ne.symm (Z7 ha4 hp)
   have ha5:(Zq H4 p (.tup [.str x,.str y])) a=some (.lst vs):=by rw[Zi (Ne.symm hpa)];exact ha4
   have t5:Gro [a] H4 (Zq (Zq H4 p (.tup [.str x,.str y])) a (.lst (vs++[.ref p]))):=(Gro.new hp _).trans (Gro.set (by simp) ha5 _)
   refine⟨vs++[.ref p],rs++[(x,y)],_,_,_,rfl,Z2,?_,by simp[hl2],?_,?_⟩
   ·exact(Tp t5.tups hp4).snoc ⟨hx,hy,p,rfl,by rw[Zi hpa];exact Z2⟩
   ·exact(hb4.new hp).gro (S:=[a]) (Gro.set (by simp) ha5 _) (by simpa using ba)
   ·exact((g2.trans g24).tup hp).fresh ha _
  refine Ym (fun c=>?_) (fun c=>?_)
  ·refine(Z9 rfl ⟨.inl ⟨rfl,_,SqL.of ha4⟩,Z9 rfl (Z9 rfl ⟨sz,fun p hp=>?_⟩)⟩)
   refine⟨a,vs,Z9 rfl ⟨rfl,by rw[Zi (Z7 ha4 hp)];exact ha4,Yj (by omega),?_⟩⟩
   exact fin s2 s1 hs2 hs1 p hp
  ·refine(Z9 rfl ⟨.inl ⟨rfl,_,SqL.of ha4⟩,Z9 rfl (Z9 rfl ⟨sz,fun p hp=>?_⟩)⟩)
   refine⟨a,vs,Z9 rfl ⟨rfl,by rw[Zi (Z7 ha4 hp)];exact ha4,Yj (by omega),?_⟩⟩
   exact fin s1 s2 hs1 hs2 p hp
 ·rintro σ H2 ⟨vs,rs,k,o,t,rfl,ha2,hp2,hl2,hb2,g2⟩
  refine(Z9 rfl ⟨a,Z9 rfl (.inl ⟨SqL.of ha2,fun r hr=>?_⟩)⟩)
  exact q r rs _ (hb2.new hr) ⟨vs,Z2,Tp (Gro.new (S:=[]) hr _).tups hp2,by omega⟩ (by omega) (by omega) (g2.tup hr)
inductive spLeafI(vs:List V)(H:Hp)(Q:VK):Prop
 |mk (b l c:Addr) (cn:Int) (_:vs=[.ref b,.ref l,.ref c]) (_:BoxAt H b) (_:LetAt H l) (_:CntN H c cn) (_:b≠c) (_:∀(v:V) (p:Pat) (H':Hp),BoxAt H' b->PatAt H' 1 v p->p.nm cn->p.groups=0->Gro [b] H H'->Q v H')
def Z34:Sp:=fun vs H Q _=>spLeafI vs H Q
abbrev Z08:Stmt:=top 61
theorem sc_l_leaf:FnScope ["_law_box","_law_letters_here","_law_count","_law_kind"] ["_law_box","_law_letters_here","_law_count"] (Za Z08):=V7
theorem Zfq(T:Blt mg)(O_l_take:Own P w K mg base 1 "_law_take" ["_law_box","_law_many"] W4)(O_l_runs:Own P w K mg base 2 "_law_runs" ["_law_box","_law_letters_here"] Z33)(F:Fun K "_law_leaf" "_law_leaf" Z08 f fd) :
  FnOk P w K mg base W3 3 f fd ["_law_box","_law_letters_here","_law_count"] Z34:=by
 refine F.ok sc_l_leaf (fun vs H Q E h=>?_) (fun cdv A outer s H vs Q E hr h=>?_)
 ·obtain⟨b,l,c,cn,rfl,_⟩:=h
  rfl
 obtain⟨b,l,c,cn,rfl,hb,hl,hc,bc,q⟩:=h
 refine V6 ?_
 intro Xz
 refine⟨_,(Z1 (pS 3 sc_l_leaf.nd (Zj (O_l_take.mono (by omega)) hr rfl (Z0 (pv 0) (Z0 Z4 Z3))))
  (Z1 (Zs (Zb Vc (pv 3) Z4 (Ze _)) (Z5 (Zl (Zr (Z0 Zg (Z0 (Zd Y1 (pv 1) (Zj (O_l_take.mono (by omega)) hr rfl (Z0 (pv 0) (Z0 Z4 Z3))) (fun _ _=>rfl)) Z3))))) Zk)
  (Z1 (Zs (Zb Zv (pv 3) Z4 (Ze _)) (Z5 (Zl (Zr (Z0 Zg Z3)))) Zk)
  (Z1 (Zs (Zb Vc (pv 3) Z4 (Ze _)) (Z5 (Zl (Zr (Z0 (Zd Y1 (Y4 (Z0 Zg (Z0 Zg Z3))) (Zx X3 (pv 3) Z4) (fun _ _=>rfl)) (Z0 (Zj (O_l_runs.mono (by omega)) hr rfl (Z0 (pv 0) (Z0 (pv 1) Z3))) Z3))))) Zk)
  (Z1 (Zs (PW.pt (T7 (Zb Zv (pv 3) Z4 (Ze _)) (T7 (Zb Zv (Zd Y1 (pv 2) Z4 (fun _ _=>rfl)) Z4 (Ze _)) (Vi (Zb Zv (Zd Y1 (pv 2) Z4 (fun _ _=>rfl)) Z4 (Ze _)))))) (Z5 (Zl (Zr (Z0 (Zd Y1 (Y4 (Z0 Zg (Z0 Zg Z3))) (Zj (O_l_take.mono (by omega)) hr rfl (Z0 (pv 0) (Z0 Z4 Z3))) (fun _ _=>rfl)) Z3)))) Zk)
  (Z5 (Zl (Zr (Z0 Zg (Z0 (Zx Yn Z4 (Zj (O_l_take.mono (by omega)) hr rfl (Z0 (pv 0) (Z0 (Zd Y1 (pv 2) Z4 (fun _ _=>rfl)) Z3)))) Z3)))))))))),?_⟩
 refine Zhp ?_
 intro Ez Az1 Az2 Az3 Az4 Az5 Az6 Az7 Az8 Az9
 have bl:b≠l:=hb.ne_let hl
 have lS:l∉[b]:=by simpa using Ne.symm bl
 have cS:c∉[b]:=by simpa using Ne.symm bc
 refine(Z9 rfl ⟨b,8,rfl,hb,by decide,by decide,fun k H1 h0 h1 hb1 g1=>?_⟩)
 have l1:=hl.gro g1 lS
 have c1:=hc.gro g1 cS
 refine(Z9 rfl (Xy rfl rfl (Z9 rfl (Ym (fun _=>?_) (fun k3=>?_)))))
 ·refine(Z9 rfl (Z9 rfl ⟨b,3,rfl,hb1,by decide,by decide,fun r H2 h20 h21 hb2 g2=>?_⟩))
  refine Zbn (l1.gro g2 lS) h20 h21 fun s hs=>⟨sz,fun p hp=>?_⟩
  exact q _ (.node (.sign s) []) _ (hb2.new hp) ⟨p,[],rfl,⟨rfl,hs,Z2⟩,.nil⟩ (Zgu trivial) (by simp[Pat.groups,Y3]) ((g1.trans g2).tup hp)
 refine(Z9 rfl ⟨rfl,Z9 rfl (Ym (fun _=>?_) (fun k4=>?_))⟩)
 ·exact⟨sz,fun p hp=>q _ (.node .any []) _ (hb1.new hp) ⟨p,[],rfl,⟨rfl,Z2⟩,.nil⟩ (Zgu trivial) (by simp[Pat.groups,Y3]) (g1.tup hp)⟩
 refine(Z9 rfl (Xy rfl rfl (Z9 rfl (Ym (fun k6=>?_) (fun k6=>?_)))))
 ·refine⟨sz,fun a ha=>(Z9 rfl (Xy rfl rfl (?_)))⟩
  have hk3:¬k<3:=fun z=>k3 (decide_eq_true z)
  have hk4:¬k=3:=fun z=>k4 (decide_eq_true (by rw[z]))
  have hk6:k<6:=of_decide_eq_true k6
  have e45:k=4∨k=5:=by omega
  have run:∀(word:Str) (hd:List (Str×Str)->Hd),(∀rs,(hd rs).nm cn)->(∀rs,(Pat.node (hd rs) []).groups=0)->(∀H' p r rs,H' p=some (.tup [.str word,.ref r])->RunsAt H' r rs->Lay H' p (hd rs) [])->∀H2:Hp,H2=Zq H1 a (.lst [.str "in",.str "out"]) ->
    (Z1r Z33 [] E0 (Yy (Xc 0) (Yy (Xc 1) Ub))) [some (.ref b),some (.ref l),some (.ref c),some (.int k)] H2 (fun x H3=>(Ub) [some (.ref b),some (.ref l),some (.ref c),some (.int k)] H3 fun xs H4=>(V.str word::x::xs).length<=sizeLine/\∀p,H4 p=none->Q (.ref p) (Zq H4 p (.tup (V.str word::x::xs)))):=by
   rintro word hd hnm hgr lay H2 rfl
   refine(Z9 rfl (Z9 rfl ⟨b,l,rfl,hb1.new ha,l1.new ha,fun r rs H3 hb3 hr3 _ _ g3=>⟨sz,fun p hp=>?_⟩⟩))
   exact q _ (.node (hd rs) []) _ (hb3.new hp) ⟨p,[],rfl,lay _ _ _ _ Z2 (hr3.mono (Gro.new (S:=[]) hp _).tups),.nil⟩ (Zgu (hnm rs)) (hgr rs) (((g1.tup ha).trans g3).tup hp)
  rcases e45 with rfl | rfl
  ·exact⟨a,_,_,_,rfl,rfl,SqL.of Z2,rfl,run "in" .inn (fun _=>trivial) (fun _=>by simp[Pat.groups,Y3]) (fun H' p r rs e h=>⟨rfl,r,e,h⟩) _ rfl⟩
  ·exact⟨a,_,_,_,rfl,rfl,SqL.of Z2,rfl,run "out" .out (fun _=>trivial) (fun _=>by simp[Pat.groups,Y3]) (fun H' p r rs e h=>⟨rfl,r,e,h⟩) _ rfl⟩
 obtain⟨cp,hcl,hcn⟩:=c1
 have bare:(Za9 (Yy (Z3l (Zbl K) (Zgo (Yy (tC (.str "begin")) (Yy (tC (.str "end")) Ub))) (Z1r W4 [] E0 (Yy (Xc 0) (Yy (tC (.int 2)) Ub)))) Ub)) [some (.ref b),some (.ref l),some (.ref c),some (.int k)] H1 Q:=by
  refine⟨sz,fun a ha=>(Z9 rfl ⟨b,2,rfl,hb1.new ha,by decide,by decide,fun r H2 h20 h21 hb2 g2=>?_⟩)⟩
  have ha2:H2 a=some (.lst [.str "begin",.str "end"]):=g2.keep a _ Z2 (by simpa using Ne.symm (Z7 hb1.choose_spec.1 ha))
  have e01:r=0∨r=1:=by omega
  rcases e01 with rfl | rfl
  ·exact⟨a,_,_,_,rfl,rfl,SqL.of ha2,rfl,sz,fun p hp=>q _ (.node .beg []) _ (hb2.new hp) ⟨p,[],rfl,⟨rfl,Z2⟩,.nil⟩ (Zgu trivial) (by simp[Pat.groups,Y3]) (((g1.tup ha).trans g2).tup hp)⟩
  ·exact⟨a,_,_,_,rfl,rfl,SqL.of ha2,rfl,sz,fun p hp=>q _ (.node .fin []) _ (hb2.new hp) ⟨p,[],rfl,⟨rfl,Z2⟩,.nil⟩ (Zgu trivial) (by simp[Pat.groups,Y3]) (((g1.tup ha).trans g2).tup hp)⟩
 refine(Z9 rfl ⟨rfl,Z9 rfl (Ym (fun _=>Te bare) (fun _=>?_))⟩)
 refine(Z7l hcl rfl ⟨rfl,_,rfl,Ym (fun _=>Te bare) (fun c0=>?_)⟩)
 refine(Z7l hcl rfl ⟨rfl,_,rfl,Ym (fun _=>bare) (fun _=>?_)⟩)
 have cn0:¬cn=0:=fun z=>c0 (decide_eq_true (by rw[z]))
 refine(Z9 rfl (Z7l hcl rfl ⟨b,cn,rfl,hb1,by omega,by omega,fun r H2 h20 h21 hb2 g2=>?_⟩))
 refine(Xy rfl rfl ⟨sz,fun p hp=>?_⟩)
 exact q _ (.node (.again (1+r)) []) _ (hb2.new hp) ⟨p,[],rfl,⟨⟨by omega,by omega⟩,rfl,Z2⟩,.nil⟩ (Zgu ⟨by omega,by omega⟩) (by simp[Pat.groups,Y3]) ((g1.trans g2).tup hp)
inductive spPatI(n:Nat)(vs:List V)(H:Hp)(Q:VK):Prop
 |mk (b l c:Addr) (cn:Int) (d:Nat) (_:d<n) (_:vs=[.ref b,.ref l,.ref c,.int d]) (_:BoxAt H b) (_:LetAt H l) (_:CntN H c cn) (_:b≠c) (_:∀(v:V) (p:Pat) (H':Hp) (cm:Int),BoxAt H' b->CntN H' c cm->cn<=cm->p.nm cm->(cm=cn∨p.has cm)->cm=cn+p.groups->PatS H' (2*d+1) v p->Gro [b,c] H H'->Q v H')
def Z3c(n:Nat):Sp:=fun vs H Q _=>spPatI n vs H Q
inductive spPartsI(n:Nat)(vs:List V)(H:Hp)(Q:VK):Prop
 |mk (b l c:Addr) (cn:Int) (d:Nat) (wd:Str) (_:d<n) (_:vs=[.ref b,.ref l,.ref c,.int ((d:Int)+1),.str wd]) (_:(wd="row" ∨ wd="or")) (_:BoxAt H b) (_:LetAt H l) (_:CntN H c cn) (_:b≠c) (_:∀(v:V) (p:Pat) (H':Hp) (cm:Int),BoxAt H' b->CntN H' c cm->cn<=cm->p.nm cm->(cm=cn∨p.has cm)->cm=cn+p.groups->PatS H' (2*d+3) v p->Gro [b,c] H H'->Q v H')
def Z52(n:Nat):Sp:=fun vs H Q _=>spPartsI n vs H Q
inductive spTimesI(n:Nat)(vs:List V)(H:Hp)(Q:VK):Prop
 |mk (b l c:Addr) (cn:Int) (d:Nat) (_:d<n) (_:vs=[.ref b,.ref l,.ref c,.int ((d:Int)+1)]) (_:BoxAt H b) (_:LetAt H l) (_:CntN H c cn) (_:b≠c) (_:∀(v:V) (p:Pat) (H':Hp) (cm:Int),BoxAt H' b->CntN H' c cm->cn<=cm->p.nm cm->(cm=cn∨p.has cm)->cm=cn+p.groups->PatS H' (2*d+3) v p->Gro [b,c] H H'->Q v H')
def Z95(n:Nat):Sp:=fun vs H Q _=>spTimesI n vs H Q
abbrev Ul:Stmt:=top 62
theorem sc_l_parts:FnScope ["_law_box","_law_letters_here","_law_count","_law_deep","_law_word","_law_parts_here","_law_k","_law_part"] ["_law_box","_law_letters_here","_law_count","_law_deep","_law_word"] (Za Ul):=V7
theorem Zcb{n:Nat}(T:Blt mg)(O_l_take:Own P w K mg base 1 "_law_take" ["_law_box","_law_many"] W4)(O_l_pattern:Own P w K mg base (4+2*n) "_law_pattern" ["_law_box","_law_letters_here","_law_count","_law_deep"] (Z3c n))(F:Fun K "_law_parts" "_law_parts" Ul f fd) :
  FnOk P w K mg base W3 (4+2*n+1) f fd ["_law_box","_law_letters_here","_law_count","_law_deep","_law_word"] (Z52 n):=by
 refine F.ok sc_l_parts (fun vs H Q E h=>?_) (fun cdv A outer s H vs Q E hr h=>?_)
 ·obtain⟨b,l,c,cn,d,wd,_,rfl,_⟩:=h
  rfl
 obtain⟨b,l,c,cn,d,wd,hd,rfl,hwd,hb,hl,hc,bc,q⟩:=h
 refine V6 ?_
 intro Xz
 refine⟨_,(Z1 (pS 5 sc_l_parts.nd (Y4 Z3))
  (Z1 (Xr PassesOwn.never rfl (Wu rfl T.b_range (Z0 (Zx Yn Z4 (Zx Zin (Yu Jf rfl T.b_int PyProof.Rows.Boot.«int» (Z0 (X7 Z3d (pv 3) Z4 (Ze _)) Z3)) (Zj (O_l_take.mono (by omega)) hr rfl (Z0 (pv 0) (Z0 Z4 Z3))))) Z3)) (pN 6 sc_l_parts.nd) (Z1 (pS 7 sc_l_parts.nd (Zj (O_l_pattern.mono (by omega)) hr rfl (Z0 (pv 0) (Z0 (pv 1) (Z0 (pv 2) (Z0 (Zx X3 (pv 3) Z4) Z3))))))
  (Z1 (Zs (Zb Zv (Zd Zc (pv 7) Z4 (fun _ _=>rfl)) (pv 4) (Ze _)) (Z5 (pS 7 sc_l_parts.nd (Zr (Z0 Zg (Z0 Z4 (Z0 Z4 (Z0 Zg (Z0 (pv 7) Z3)))))))) Zk)
  (Z5 (Zn (Yw PySem.F.plainAttrs_list PySem.F.slot_list_append PySem.F.type_list_append Zz (pv 5) (Z0 (pv 7) Z3)))))))
  (Z5 (Zl (Zr (Z0 (pv 4) (Z0 (Yu V0 rfl T.b_tuple PyProof.Rows.Boot.«tuple» (Z0 (pv 5) Z3)) Z3))))))),?_⟩
 refine Zi2 ?_
 intro Ez Az1 Az2 Az3 Az4 Az5 Az6
 have bl:b≠l:=hb.ne_let hl
 have cl:c≠l:=hc.ne_let hl
 have lS:l∉[b,c]:=by simp only[List.mem_cons,List.not_mem_nil,or_false,not_or];exact⟨Ne.symm bl,Ne.symm cl⟩
 have hd1:(d:Int)+1-1=d:=by omega
 refine⟨sz,fun a ha=>?_⟩
 have ba:b≠a:=Z7 hb.choose_spec.1 ha
 have ca:c≠a:=by obtain⟨_,e,_⟩:=hc;exact Z7 e ha
 have aS:a∉[b,c]:=by simp only[List.mem_cons,List.not_mem_nil,or_false,not_or];exact⟨Ne.symm ba,Ne.symm ca⟩
 refine(Z9 rfl (Xy rfl rfl (.inr (Z9 rfl (Z9 rfl ⟨b,2,rfl,hb.new ha,by decide,by decide,fun r H1 h0 h1 hb1 g1=>?_⟩)))))
 have g1':Gro [b,c] H H1:=(Gro.new ha _).trans (g1.mono (by simp))
 have ha1:H1 a=some (.lst []):=g1.keep a _ Z2 (by simpa using Ne.symm ba)
 have hc1:CntN H1 c cn:=(hc.new ha).gro g1 (by simpa using Ne.symm bc)
 generalize hj:(if decide ((2:Int)<(d:Int)+1)=true then(1:Int) else 0)=jj
 have hjj:jj=0∨jj=1:=by rw[← hj];split <;> simp
 refine(Xy rfl rfl ⟨.inl (by rcases hjj with z | z <;> rw[z] <;> constructor <;> decide),Xy rfl rfl (?_)⟩)
 have hm:0<=jj*r/\jj*r<=1:=by rcases hjj with z | z <;> rw[z] <;> omega
 generalize hmm:jj*r=mm at hm
 refine(Z9 rfl ⟨by omega,by omega,?_⟩)
 refine Vu (fun i σ H'=>∃(vs:List V) (ps:List Pat) (cx:Int) (k pt:Option V),σ=[some (.ref b),some (.ref l),some (.ref c),some (.int ((d:Int)+1)),some (.str wd),some (.ref a),k,pt]/\H' a=some (.lst vs) /\
   Paired (PatAt H' (2*d+2)) vs ps/\Ya ps<=i*(B (2*d+1)+1)/\vs.length=i/\BoxAt H' b/\CntN H' c cx/\cn<=cx/\(∀z∈ps,z.nm cx)/\(cx=cn∨∃z∈ps,z.has cx)/\cx=cn+Y3 ps/\Gro [b,c] H H')
  ⟨[],[],cn,none,none,rfl,ha1,.nil,by simp[Ya],rfl,hb1,hc1,Int.le_refl _,(fun z hz=>by simp at hz),.inl rfl,by simp[Y3],g1'⟩ ?_ ?_
 ·rintro i σ H2 hi ⟨vs,ps,cx,k,pt,rfl,ha2,hp2,hsz,hl2,hb2,hc2,hcx,hnx,hhx,hgx,g2⟩
  have l2:LetAt H2 l:=hl.gro g2 lS
  refine(Z9 rfl (Z9 rfl (Z9 rfl (Z9 rfl (Xy rfl rfl ⟨b,l,c,_,d,hd,congrArg (fun z=>[V.ref b,V.ref l,V.ref c,V.int z]) hd1,hb2,l2,hc2,bc,fun v p H3 cm hb3 hc3 hcm hnm hhas hgr hp3 g3=>?_⟩)))))
  have g23:=g2.trans g3
  have ha3:H3 a=some (.lst vs):=g3.keep a _ ha2 aS
  have hps3:=Vt g3.tups hp2
  obtain⟨hp3,hs3⟩:=hp3
  obtain⟨av,x,r',rfl,hv⟩:=hp3.head
  have fin:∀(v':V) (p':Pat) (H4:Hp),p'.nm cm->(cm=cx∨p'.has cm)->cm=cx+p'.groups->H4 a=some (.lst vs)->Gro [b,c] H H4->BoxAt H4 b->CntN H4 c cm->(∀b xs,H3 b=some (.tup xs)->H4 b=some (.tup xs))->PatAt H4 (2*d+2) v' p'->p'.size<=B (2*d+1)+1 ->
    ∃(vs':List V) (ps':List Pat) (cx':Int) (k' pt':Option V),[some (V.ref b),some (.ref l),some (.ref c),some (.int ((d:Int)+1)),some (.str wd),some (.ref a),some (.int (0+(i:Int))),some v']=[some (V.ref b),some (.ref l),some (.ref c),some (.int ((d:Int)+1)),some (.str wd),some (.ref a),k',pt'] /\
     (Zq H4 a (.lst (vs++[v']))) a=some (.lst vs')/\Paired (PatAt (Zq H4 a (.lst (vs++[v']))) (2*d+2)) vs' ps'/\Ya ps'<=(i+1)*(B (2*d+1)+1)/\vs'.length=i+1/\BoxAt (Zq H4 a (.lst (vs++[v']))) b/\CntN (Zq H4 a (.lst (vs++[v']))) c cx'/\cn<=cx'/\(∀z∈ps',z.nm cx')/\(cx'=cn∨∃z∈ps',z.has cx')/\cx'=cn+Y3 ps'/\Gro [b,c] H (Zq H4 a (.lst (vs++[v']))):=by
   intro v' p' H4 hn4 hh4 hg4 ha4 g4 hb4 hc4 t4 hp4 hs4
   have t5:Gro [a] H4 (Zq H4 a (.lst (vs++[v']))):=Gro.set (by simp) ha4 _
   refine⟨vs++[v'],ps++[p'],cm,_,_,rfl,Z2,(Vt t5.tups (Vt t4 hps3)).snoc (hp4.mono t5.tups),by rw[Uv,Xq,Nat.add_mul];omega,by simp[hl2],hb4.gro t5 (by simpa using ba),hc4.gro t5 (by simpa using ca),by omega,?_,?_,by rw[Z4s];omega,g4.fresh ha _⟩
   ·intro z hz
    rcases List.mem_append.mp hz with hz | hz
    ·exact Pat.nm_le hcm z (hnx z hz)
    ·rw[List.mem_singleton.mp hz];exact hn4
   ·rcases hh4 with e | e
    ·rcases hhx with e' | ⟨z,hz,hz'⟩
     ·exact .inl (by omega)
     ·exact .inr ⟨z,by simp[hz],by rw[e];exact hz'⟩
    ·exact .inr ⟨p',by simp,e⟩
  refine(Ys hv Vw ⟨_,rfl,rfl,_,rfl,Ym (fun _=>?_) (fun _=>?_)⟩)
  ·refine(Z9 rfl ⟨sz,fun p1 hp1=>?_⟩)
   have ha4:(Zq H3 p1 (.tup [.str "times",.int 1,.int 1,.str "much",.ref av])) a=some (.lst vs):=by rw[Zi (Z7 ha3 hp1)];exact ha3
   refine(Z9 rfl ⟨.inl ⟨rfl,_,SqL.of ha4⟩,Z9 rfl ⟨a,vs,Z9 rfl ⟨rfl,ha4,Yj (by omega),?_⟩⟩⟩)
   refine fin _ (.node (.times 1 (some 1) .much) [p]) _ (Zlf trivial hnm) (hhas.imp id fun h=>has_node.mpr (.inr ⟨p,by simp,h⟩)) (by simp[Pat.groups,Y3];omega) ha4 (g23.tup hp1) (hb3.new hp1) (hc3.new hp1) (Gro.new (S:=[]) hp1 _).tups ⟨p1,[.ref av],rfl,⟨⟨by decide,by decide,fun h e=>by cases e;decide⟩,Z9 rfl Z2⟩,.cons (hp3.mono (Gro.new (S:=[]) hp1 _).tups) .nil⟩ (by rw[Xf,Xq];omega)
  ·refine(Z9 rfl ⟨.inl ⟨rfl,_,SqL.of ha3⟩,Z9 rfl ⟨a,vs,Z9 rfl ⟨rfl,ha3,Yj (by omega),?_⟩⟩⟩)
   exact fin _ p _ hnm hhas hgr ha3 g23 hb3 hc3 (fun _ _ e=>e) (hp3.deep (by omega)) (by omega)
 ·rintro σ H2 ⟨vs,ps,cx,k,pt,rfl,ha2,hp2,hsz,hl2,hb2,hc2,hcx,hnx,hhx,hgx,g2⟩
  refine(Z9 rfl (Z9 rfl ⟨a,Z9 rfl (.inl ⟨SqL.of ha2,fun r2 hr2=>⟨sz,fun p1 hp1=>?_⟩⟩)⟩))
  have g3:Gro [] H2 (Zq (Zq H2 r2 (.tup vs)) p1 (.tup [.str wd,.ref r2])):=(Gro.new hr2 _).tup hp1
  have e1:(Zq (Zq H2 r2 (.tup vs)) p1 (.tup [.str wd,.ref r2])) r2=some (.tup vs):=by rw[Zi (Z7 Z2 hp1)];exact Z2
  have hps:1+Ya ps<=B (2*d+3):=by
   have h1:=Zal (2*d+1)
   rw[show 2*d+3=2*d+1+1+1 from rfl,Z1l,Z1l]
   have h3:Ya ps<=3*(B (2*d+1)+1):=Nat.le_trans hsz (Nat.mul_le_mul_right _ (by omega))
   omega
  rcases hwd with rfl | rfl
  ·exact q _ (.node .row ps) _ cx (hb2.gro g3 (by simp)) (hc2.gro g3 (by simp)) hcx (nm_node.mpr ⟨trivial,hnx⟩) (hhx.imp id fun⟨z,hz,h⟩=>has_node.mpr (.inr ⟨z,hz,h⟩)) (by simp[Pat.groups];exact hgx) ⟨⟨p1,vs,rfl,⟨by omega,r2,Z2,e1⟩,Vt g3.tups hp2⟩,by rw[Xf];exact hps⟩ ((g2.tup hr2).tup hp1)
  ·exact q _ (.node .alt ps) _ cx (hb2.gro g3 (by simp)) (hc2.gro g3 (by simp)) hcx (nm_node.mpr ⟨trivial,hnx⟩) (hhx.imp id fun⟨z,hz,h⟩=>has_node.mpr (.inr ⟨z,hz,h⟩)) (by simp[Pat.groups];exact hgx) ⟨⟨p1,vs,rfl,⟨by omega,by omega,r2,Z2,e1⟩,Vt g3.tups hp2⟩,by rw[Xf];exact hps⟩ ((g2.tup hr2).tup hp1)
def Zd3(b l c:Addr)(cn:Int)(d:Nat)(H:Hp):TS:=fun D σ H1=>∃(lo:Int) (hi:Option Int) (how:How),σ=[some (.ref b),some (.ref l),some (.ref c),some (.int ((d:Int)+1)),some (.int lo),some (Z5i hi),some (.str how.text)] /\
 0<=lo/\lo<=2/\(∀h,hi=some h->1<=h/\h<=4)/\BoxAt H1 b/\LetAt H1 l/\CntN H1 c cn/\Gro [b] H H1/\∀(v:V) (p:Pat) (H':Hp) (cm:Int),BoxAt H' b->CntN H' c cm->cn<=cm->p.nm cm->(cm=cn∨p.has cm)->cm=cn+p.groups->PatS H' (2*d+3) v p->Gro [b,c] H H'->D.rt v H'
abbrev Uj:Stmt:=top 63
theorem sc_l_times:FnScope ["_law_box","_law_letters_here","_law_count","_law_deep","_law_low","_law_high","_law_how"] ["_law_box","_law_letters_here","_law_count","_law_deep"] (Za Uj):=V7
theorem Zc9{n:Nat}(T:Blt mg)(O_l_take:Own P w K mg base 1 "_law_take" ["_law_box","_law_many"] W4)(O_l_pattern:Own P w K mg base (4+2*n) "_law_pattern" ["_law_box","_law_letters_here","_law_count","_law_deep"] (Z3c n))(F:Fun K "_law_times" "_law_times" Uj f fd) :
  FnOk P w K mg base W3 (4+2*n+1) f fd ["_law_box","_law_letters_here","_law_count","_law_deep"] (Z95 n):=by
 refine F.ok sc_l_times (fun vs H Q E h=>?_) (fun cdv A outer s H vs Q E hr h=>?_)
 ·obtain⟨b,l,c,cn,d,_,rfl,_⟩:=h
  rfl
 obtain⟨b,l,c,cn,d,hd,rfl,hb,hl,hc,bc,q⟩:=h
 have bl:b≠l:=hb.ne_let hl
 have lS:l∉[b]:=by simpa using Ne.symm bl
 have cS:c∉[b]:=by simpa using Ne.symm bc
 have hd1:(d:Int)+1-1=d:=by omega
 refine V6 ?_
 intro Xz
 refine⟨_,(Z1 (pS 4 sc_l_times.nd (Zj (O_l_take.mono (by omega)) hr rfl (Z0 (pv 0) (Z0 Z4 Z3))))
  (Z1 (pS 5 sc_l_times.nd (Zd Y1 (Y4 (Z0 Uh (Z0 (Zx Yn (pv 4) Z4) (Z0 (Zx Yn (pv 4) Z4) (Z0 (Zy (Zbi rfl) rfl T.b_max PyProof.Rows.Boot.«max» (Z0 (pv 4) (Z0 Z4 Z3))) Z3))))) (Zj (O_l_take.mono (by omega)) hr rfl (Z0 (pv 0) (Z0 Z4 Z3))) (fun _ _=>rfl)))
  (Z1 (pS 6 sc_l_times.nd (Zd Y1 (Y4 (Z0 Zg (Z0 Zg (Z0 Zg Z3)))) (Zj (O_l_take.mono (by omega)) hr rfl (Z0 (pv 0) (Z0 Z4 Z3))) (fun _ _=>rfl)))
  (Z1 (Zs (PW.pt (Vj (Zb Zv (pv 6) Zg (Ze _)) (Wl (Zb Zv (Zd Y1 (pv 2) Z4 (fun _ _=>rfl)) Z4 (Ze _))))) (Z5 (pS 6 sc_l_times.nd Zg)) Zk)
  (Va (Zd3 b l c cn d H) (Z5 (Zl (Zr (Z0 Zg (Z0 (pv 4) (Z0 (pv 5) (Z0 (pv 6) (Z0 (Zj (O_l_pattern.mono (by omega)) hr rfl (Z0 (pv 0) (Z0 (pv 1) (Z0 (pv 2) (Z0 (Zx X3 (pv 3) Z4) Z3))))) Z3)))))))) (fun D1 σ1 H1 hcut=>?cut4)))))),?_⟩
 case cut4 =>
  obtain⟨lo,hi,how,rfl,h0,h1,hh,hb1,hl1,hc1,g1,q⟩:=hcut
  refine(Z9 rfl (Z9 rfl (Z9 rfl (Z9 rfl (Z9 rfl (Z9 rfl (Z9 rfl (Xy rfl rfl ⟨b,l,c,_,d,hd,congrArg (fun z=>[V.ref b,V.ref l,V.ref c,V.int z]) hd1,hb1,hl1,hc1,bc,fun v p H3 cm hb3 hc3 hcm hnm hhas hgr hp3 g3=>⟨sz,fun p1 hp1=>?_⟩⟩))))))))
  refine q _ (.node (.times lo hi how) [p]) _ cm (hb3.new hp1) (hc3.new hp1) hcm (Zlf trivial hnm) (hhas.imp id fun h=>has_node.mpr (.inr ⟨p,by simp,h⟩)) (by simp[Pat.groups,Y3];omega) ⟨⟨p1,[v],rfl,⟨⟨h0,by omega,fun h e=>by have:=hh h e;omega⟩,v,rfl,Z2⟩,.cons ((hp3.1.mono (Gro.new (S:=[]) hp1 _).tups).deep (by omega)) .nil⟩,Z2v hp3.2 (by omega)⟩ (((g1.mono (by simp)).trans g3).tup hp1)
 refine Zi1 ?_
 intro Ez Az1 Az2 Az3 Az4 Az5
 refine(Z9 rfl ⟨b,3,rfl,hb,by decide,by decide,fun lo H1 h0 h1 hb1 g1=>?_⟩)
 refine(Z9 rfl (Xy rfl rfl (Z9 rfl (Xy rfl rfl (Z9 rfl ⟨_,_,rfl,sz,fun a ha=>?_⟩)))))
 have ba:b≠a:=Z7 hb1.choose_spec.1 ha
 refine(Z9 rfl ⟨b,4,rfl,hb1.new ha,by decide,by decide,fun r H2 h20 h21 hb2 g2=>?_⟩)
 have ha2:=g2.keep a _ (Z2 (H:=H1)) (by simpa using Ne.symm ba)
 have high:∃hi:Option Int,(∀h,hi=some h->1<=h/\h<=4)/\Z3o [V.non,V.int (lo+1),V.int (lo+2),V.int (if(1:Int)>lo then 1 else lo)] r=some (Z5i hi):=by
  have:r=0∨r=1∨r=2∨r=3:=by omega
  rcases this with rfl | rfl | rfl | rfl
  ·exact⟨none,(fun h e=>by cases e),rfl⟩
  ·exact⟨some (lo+1),(fun h e=>by cases e;omega),rfl⟩
  ·exact⟨some (lo+2),(fun h e=>by cases e;omega),rfl⟩
  ·exact⟨some (if(1:Int)>lo then 1 else lo),(fun h e=>by cases e;split <;> omega),rfl⟩
 obtain⟨hi,hhi,ehi⟩:=high
 refine⟨a,_,_,_,rfl,rfl,SqL.of ha2,ehi,sz,fun a2 ha2n=>?_⟩
 have ba2:b≠a2:=Z7 hb2.choose_spec.1 ha2n
 refine(Z9 rfl ⟨b,3,rfl,hb2.new ha2n,by decide,by decide,fun r2 H3 h30 h31 hb3 g3=>?_⟩)
 have ha3:=g3.keep a2 _ (Z2 (H:=H2)) (by simpa using Ne.symm ba2)
 have g13:Gro [b] H H3:=((g1.tup ha).trans (g2.tup ha2n)).trans g3
 have hl3:=hl.gro g13 lS
 have hc3:=hc.gro g13 cS
 obtain⟨cp,hcl,hcn⟩:=id hc3
 have howE:∃how:How,Z3o [V.str "much",V.str "little",V.str "keep"] r2=some (.str how.text):=by
  have:r2=0∨r2=1∨r2=2:=by omega
  rcases this with rfl | rfl | rfl
  ·exact⟨.much,rfl⟩
  ·exact⟨.little,rfl⟩
  ·exact⟨.keep,rfl⟩
 obtain⟨how,ehow⟩:=howE
 refine⟨a2,_,_,_,rfl,rfl,SqL.of ha3,ehow,?_⟩
 have q':∀(v:V) (p:Pat) (H':Hp) (cm:Int),BoxAt H' b->CntN H' c cm->cn<=cm->p.nm cm->(cm=cn∨p.has cm)->cm=cn+p.groups->PatS H' (2*d+3) v p->Gro [b,c] H H'->Q v H':=q
 refine(Z9 rfl ⟨rfl,Z9 rfl (Ym (fun _=>?_) (fun _=>Ju ⟨lo,hi,how,rfl,h0,by omega,hhi,hb3,hl3,hc3,g13,q'⟩))⟩)
 refine(Z7l hcl rfl ⟨rfl,_,rfl,Ym (fun _=>?_) (fun _=>⟨lo,hi,how,rfl,h0,by omega,hhi,hb3,hl3,hc3,g13,q'⟩)⟩)
 exact⟨lo,hi,.much,rfl,h0,by omega,hhi,hb3,hl3,hc3,g13,q'⟩
def Zje(b l c:Addr)(cn:Int)(d:Nat)(H:Hp):TS:=fun D σ H1=>∃k:Int,σ=[some (.ref b),some (.ref l),some (.ref c),some (.int d),some (.int k),none,none,none]/\2<=k/\k<12/\1<=d/\BoxAt H1 b/\LetAt H1 l/\CntN H1 c cn/\Gro [b] H H1 /\
 ∀(v:V) (p:Pat) (H':Hp) (cm:Int),BoxAt H' b->CntN H' c cm->cn<=cm->p.nm cm->(cm=cn∨p.has cm)->cm=cn+p.groups->PatS H' (2*d+1) v p->Gro [b,c] H H'->D.rt v H'
abbrev V3:Stmt:=top 64
theorem sc_l_pattern:FnScope ["_law_box","_law_letters_here","_law_count","_law_deep","_law_kind","_law_number","_law_yes","_law_word"] ["_law_box","_law_letters_here","_law_count","_law_deep"] (Za V3):=V7
theorem Z7y{n:Nat}(T:Blt mg)(O_l_take:Own P w K mg base 1 "_law_take" ["_law_box","_law_many"] W4)(O_l_leaf:Own P w K mg base 3 "_law_leaf" ["_law_box","_law_letters_here","_law_count"] Z34)(O_l_parts:Own P w K mg base (4+2*n+1) "_law_parts" ["_law_box","_law_letters_here","_law_count","_law_deep","_law_word"] (Z52 n))
  (O_l_times:Own P w K mg base (4+2*n+1) "_law_times" ["_law_box","_law_letters_here","_law_count","_law_deep"] (Z95 n)) (O_l_pattern:Own P w K mg base (4+2*n) "_law_pattern" ["_law_box","_law_letters_here","_law_count","_law_deep"] (Z3c n)) (F:Fun K "_law_pattern" "_law_pattern" V3 f fd) :
  FnOk P w K mg base W3 (4+2*n+1+1) f fd ["_law_box","_law_letters_here","_law_count","_law_deep"] (Z3c (n+1)):=by
 refine F.ok sc_l_pattern (fun vs H Q E h=>?_) (fun cdv A outer s H vs Q E hr h=>?_)
 ·obtain⟨b,l,c,cn,d,_,rfl,_⟩:=h
  rfl
 obtain⟨b,l,c,cn,d,hd,rfl,hb,hl,hc,bc,q⟩:=h
 have bl:b≠l:=hb.ne_let hl
 have cl:c≠l:=hc.ne_let hl
 have lS:l∉[b]:=by simpa using Ne.symm bl
 have cS:c∉[b]:=by simpa using Ne.symm bc
 have lS2:l∉[b,c]:=by simp only[List.mem_cons,List.not_mem_nil,or_false,not_or];exact⟨Ne.symm bl,Ne.symm cl⟩
 refine V6 ?_
 intro Xz
 refine⟨_,(Z1 (pS 4 sc_l_pattern.nd (Zj (O_l_take.mono (by omega)) hr rfl (Z0 (pv 0) (Z0 Z4 Z3))))
  (Z1 (Zs (PW.pt (T7 (Zb Zv (pv 3) Z4 (Ze _)) (Vi (Zb Vc (pv 4) Z4 (Ze _))))) (Z5 (Zl (Zj (O_l_leaf.mono (by omega)) hr rfl (Z0 (pv 0) (Z0 (pv 1) (Z0 (pv 2) Z3)))))) Zk)
  (Z1 (Zs (PW.pt (Vj (Zb Zv (pv 4) Z4 (Ze _)) (Wl (Zb Zv (Zj (O_l_take.mono (by omega)) hr rfl (Z0 (pv 0) (Z0 Z4 Z3))) Z4 (Ze _))))) (Z5 (Zl (Zr (Z0 Zg (Z0 (Zr Z3) Z3))))) Zk)
  (Va (Zje b l c cn d H) (Z1 (Zs (Zb Vc (pv 4) Z4 (Ze _)) (Z5 (Zl (Zj (O_l_parts.mono (by omega)) hr rfl (Z0 (pv 0) (Z0 (pv 1) (Z0 (pv 2) (Z0 (pv 3) (Z0 (Zd Y1 (Y4 (Z0 Zg (Z0 Zg Z3))) (Zx Z9l (pv 4) Z4) (fun _ _=>rfl)) Z3)))))))) Zk)
  (Z1 (Zs (Zb Vc (pv 4) Z4 (Ze _)) (Z5 (Zl (Zj (O_l_times.mono (by omega)) hr rfl (Z0 (pv 0) (Z0 (pv 1) (Z0 (pv 2) (Z0 (pv 3) Z3))))))) Zk)
  (Z1 (Zs (PW.pt (T7 (Zb Zv (pv 4) Z4 (Ze _)) (Vi (Zb Zv (Zd Y1 (pv 2) Z4 (fun _ _=>rfl)) Z4 (Ze _))))) (Z1 (Zs (Zb Zv (Zd Y1 (pv 2) Z4 (fun _ _=>rfl)) Z4 (Ze _)) (Z5 (Zl (Zr (Z0 Zg Z3)))) Zk)
  (Z1 (U1 (Zx Yn (Zd Y1 (pv 2) Z4 (fun _ _=>rfl)) Z4) (U2 (pv 2) Z4 Xp))
  (Z1 (pS 5 sc_l_pattern.nd (Zd Y1 (pv 2) Z4 (fun _ _=>rfl)))
  (Z5 (Zl (Zr (Z0 Zg (Z0 (pv 5) (Z0 (Zj (O_l_pattern.mono (by omega)) hr rfl (Z0 (pv 0) (Z0 (pv 1) (Z0 (pv 2) (Z0 (Zx X3 (pv 3) Z4) Z3))))) Z3))))))))) Zk)
  (Z1 (Zs (PW.pt (Vj (Zb Zv (pv 4) Z4 (Ze _)) (Wl (Zb Z3d (Zd Y1 (pv 2) Z4 (fun _ _=>rfl)) Z4 (Ze _))))) (Z1 (pS 5 sc_l_pattern.nd (Zx Yn Z4 (Zj (O_l_take.mono (by omega)) hr rfl (Z0 (pv 0) (Z0 (Zd Y1 (pv 2) Z4 (fun _ _=>rfl)) Z3)))))
  (Z1 (pS 6 sc_l_pattern.nd (Zj (O_l_pattern.mono (by omega)) hr rfl (Z0 (pv 0) (Z0 (pv 1) (Z0 (pv 2) (Z0 (Zx X3 (pv 3) Z4) Z3))))))
  (Z5 (Zl (Zr (Z0 Zg (Z0 (pv 5) (Z0 (pv 6) (Z0 (Zj (O_l_pattern.mono (by omega)) hr rfl (Z0 (pv 0) (Z0 (pv 1) (Z0 (pv 2) (Z0 (Zx X3 (pv 3) Z4) Z3))))) Z3))))))))) Zk)
  (Z1 (pS 7 sc_l_pattern.nd (Zd Y1 (Y4 (Z0 Zg (Z0 Zg (Z0 Zg (Z0 Zg (Z0 Zg Z3)))))) (Zj (O_l_take.mono (by omega)) hr rfl (Z0 (pv 0) (Z0 Z4 Z3))) (fun _ _=>rfl)))
  (Z5 (Zl (Zr (Z0 (pv 7) (Z0 (Zj (O_l_pattern.mono (by omega)) hr rfl (Z0 (pv 0) (Z0 (pv 1) (Z0 (pv 2) (Z0 (Zx X3 (pv 3) Z4) Z3))))) Z3)))))))))) (fun D1 σ1 H1 hcut=>?cut3))))),?_⟩
 case cut3 =>
  refine Zhf ?_
  intro Ez Az1 Az2 Az3 Az4 Az5 Az6 Az7 Az8 Az9 Az10 Az11 Az12 Az13 Az14 Az15
  obtain⟨k,rfl,hk2,hk12,hd1,hb1,hl1,hc1,g1,q⟩:=hcut
  obtain⟨e,rfl⟩:∃e,d=e+1:=⟨d-1,by omega⟩
  have he:e<n:=by omega
  have ea:((e+1:Nat):Int)-1=e:=by omega
  have g1c:Gro [b,c] H H1:=g1.mono (by simp)
  obtain⟨cp,hcl,hcn⟩:=id hc1
  refine(Z9 rfl (Xy rfl rfl (Z9 rfl (Ym (fun k6=>?_) (fun k6=>?_)))))
  ·have hk6:k<6:=of_decide_eq_true k6
   refine(Z9 rfl (Z9 rfl (Z9 rfl (Z9 rfl ⟨sz,fun a ha=>(Z9 rfl (Xy rfl rfl ⟨⟨by decide,by decide⟩,?_⟩))⟩))))
   have e01:k / 4=0∨k / 4=1:=by omega
   have go:∀wd:Str,(wd="row" ∨ wd="or")->Z52 n ([V.ref b,V.ref l,V.ref c,V.int ((e+1:Nat):Int),V.str wd]++[]) (Zq H1 a (.lst [.str "row",.str "or"])) D1.rt E0:=fun wd hwd =>
    ⟨b,l,c,cn,e,wd,he,rfl,hwd,hb1.new ha,hl1.new ha,hc1.new ha,bc,fun v p H' cm hb' hc' hcm hnm hhas hgr hp' g'=>q v p H' cm hb' hc' hcm hnm hhas hgr (hp'.deep (by omega)) ((g1c.tup ha).trans g')⟩
   rcases e01 with z | z
   ·exact⟨a,_,_,_,rfl,rfl,SqL.of Z2,(by rw[z];rfl),go "row" (.inl rfl)⟩
   ·exact⟨a,_,_,_,rfl,rfl,SqL.of Z2,(by rw[z];rfl),go "or" (.inr rfl)⟩
  refine(Z9 rfl (Xy rfl rfl (Z9 rfl (Ym (fun _=>?_) (fun _=>?_)))))
  ·exact(Z9 rfl (Z9 rfl (Z9 rfl (Z9 rfl ⟨b,l,c,cn,e,he,rfl,hb1,hl1,hc1,bc,fun v p H' cm hb' hc' hcm hnm hhas hgr hp' g'=>q v p H' cm hb' hc' hcm hnm hhas hgr (hp'.deep (by omega)) (g1c.trans g')⟩))))
  dsimp only[Zh,Z8,Zo]
  refine Zim (fun R h1 h2=>(Z9 rfl ⟨rfl,Z9 rfl (Zh2 h1 h2)⟩)) (fun R h1 h2=>(Z7l hcl rfl ⟨rfl,_,rfl,Zh2 h1 h2⟩)) (Te ?_) (Ju ?_)
  ·refine(Z7l hcl rfl ⟨rfl,_,rfl,Ym (fun _=>?_) (fun c9=>?_)⟩)
   ·exact⟨sz,fun p hp=>q _ (.node .any []) _ cn (hb1.new hp) (hc1.new hp) (Int.le_refl _) (Zgu trivial) (.inl rfl) (by simp[Pat.groups,Y3]) ⟨⟨p,[],rfl,⟨rfl,Z2⟩,.nil⟩,Z6z⟩ (g1c.tup hp)⟩
   have hcn9:¬cn=9:=fun z=>c9 (decide_eq_true (by rw[z]))
   refine(Z7l hcl rfl ⟨_,_,rfl,rfl,_,rfl,c,_,_,0,rfl,rfl,hcl,rfl,?_⟩)
   have gs:Gro [c] H1 (Zq H1 c (.lst [.int (cn+1),.int cp])):=Gro.set (by simp) hcl _
   have hc2:CntN (Zq H1 c (.lst [.int (cn+1),.int cp])) c (cn+1):=⟨cp,Z2,by omega,by omega⟩
   have hb2:BoxAt (Zq H1 c (.lst [.int (cn+1),.int cp])) b:=hb1.gro gs (by simpa using bc)
   have hl2:LetAt (Zq H1 c (.lst [.int (cn+1),.int cp])) l:=hl1.gro gs (by simpa using Ne.symm cl)
   refine(Z7l Z2 rfl (?_))
   refine(Z9 rfl (Z9 rfl (Z9 rfl (Z9 rfl (Z9 rfl (Xy rfl rfl ⟨b,l,c,_,e,he,congrArg (fun z=>[V.ref b,V.ref l,V.ref c,V.int z]) ea,hb2,hl2,hc2,bc,fun v p H' cm hb' hc' hcm hnm hhas hgr hp' g'=>⟨sz,fun p1 hp1=>?_⟩⟩))))))
   exact q _ (.node (.grp (cn+1)) [p]) _ cm (hb'.new hp1) (hc'.new hp1) (by omega) (Zlf ⟨by omega,hcm⟩ hnm) (.inr (hhas.elim (fun e=>has_node.mpr (.inl (by rw[e]))) fun h=>has_node.mpr (.inr ⟨p,by simp,h⟩))) (by simp[Pat.groups,Y3];omega) ⟨⟨p1,[v],rfl,⟨⟨by omega,by omega⟩,v,rfl,Z2⟩,.cons ((hp'.1.mono (Gro.new (S:=[]) hp1 _).tups).deep (by omega)) .nil⟩,Z2v hp'.2 (by omega)⟩ (((g1c.trans (gs.mono (by simp))).trans g').tup hp1)
  have looks:∀(H2:Hp),BoxAt H2 b->LetAt H2 l->CntN H2 c cn->Gro [b] H H2->∀kk:Option V,(Z8 (Z8i (Z3l (Zbl K) (Zgo (Yy (tC (.str "once")) (Yy (tC (.str "ahead")) (Yy (tC (.str "notahead")) (Yy (tC (.str "behind")) (Yy (tC (.str "notbehind")) Ub)))))) (Z1r W4 [] E0 (Yy (Xc 0) (Yy (tC (.int 5)) Ub)))) (Z0t 7))
    (Z3q (Za9 (Yy (Xc 7) (Yy (Z1r (Z3c n) [] E0 (Yy (Xc 0) (Yy (Xc 1) (Yy (Xc 2) (Yy (Z3l (Zgk fun i j=>.int (i-j)) (Xc 3) (tC (.int 1))) Ub))))) Ub))))) D1 [some (.ref b),some (.ref l),some (.ref c),some (.int ((e+1:Nat):Int)),kk,none,none,none] H2:=by
   intro H2 hb2 hl2 hc2 g2 kk
   refine⟨sz,fun a ha=>(Z9 rfl ⟨b,5,rfl,hb2.new ha,by decide,by decide,fun r H3 h30 h31 hb3 g3=>?_⟩)⟩
   have ba:b≠a:=Z7 hb2.choose_spec.1 ha
   have ha3:=g3.keep a _ (Z2 (H:=H2)) (by simpa using Ne.symm ba)
   have lw:∃lk:Lk,Z3o [V.str "once",V.str "ahead",V.str "notahead",V.str "behind",V.str "notbehind"] r=some (.str lk.text):=by
    have:r=0∨r=1∨r=2∨r=3∨r=4:=by omega
    rcases this with rfl | rfl | rfl | rfl | rfl
    ·exact⟨.once,rfl⟩
    ·exact⟨.ahead,rfl⟩
    ·exact⟨.notahead,rfl⟩
    ·exact⟨.behind,rfl⟩
    ·exact⟨.notbehind,rfl⟩
   obtain⟨lk,elk⟩:=lw
   have g23:Gro [b] H H3:=(g2.tup ha).trans g3
   refine⟨a,_,_,_,rfl,rfl,SqL.of ha3,elk,Z9 rfl (Z9 rfl (Z9 rfl (Z9 rfl (Z9 rfl (Xy rfl rfl ⟨b,l,c,_,e,he,congrArg (fun z=>[V.ref b,V.ref l,V.ref c,V.int z]) ea,hb3,hl.gro g23 lS,hc.gro g23 cS,bc,fun v p H' cm hb' hc' hcm hnm hhas hgr hp' g'=>⟨sz,fun p1 hp1=>?_⟩⟩)))))⟩
   exact q _ (.node (.look lk) [p]) _ cm (hb'.new hp1) (hc'.new hp1) hcm (Zlf trivial hnm) (hhas.imp id fun h=>has_node.mpr (.inr ⟨p,by simp,h⟩)) (by simp[Pat.groups,Y3];omega) ⟨⟨p1,[v],rfl,⟨v,rfl,Z2⟩,.cons ((hp'.1.mono (Gro.new (S:=[]) hp1 _).tups).deep (by omega)) .nil⟩,Z2v hp'.2 (by omega)⟩ (((g23.mono (by simp)).trans g').tup hp1)
  refine(Z9 rfl ⟨rfl,Z9 rfl (Ym (fun _=>?_) (fun _=>Ju (looks H1 hb1 hl1 hc1 g1 _)))⟩)
  refine(Z7l hcl rfl ⟨_,_,rfl,rfl,_,rfl,Ym (fun c0=>?_) (fun _=>looks H1 hb1 hl1 hc1 g1 _)⟩)
  have hc0:0<cn:=of_decide_eq_true c0
  refine(Z9 rfl (Z7l hcl rfl ⟨b,cn,rfl,hb1,hc0,by omega,fun r H2 h20 h21 hb2 g2=>(Xy rfl rfl (?_))⟩))
  have g12:=g1.trans g2
  refine(Z9 rfl (Z9 rfl (Z9 rfl (Z9 rfl (Xy rfl rfl ⟨b,l,c,_,e,he,congrArg (fun z=>[V.ref b,V.ref l,V.ref c,V.int z]) ea,hb2,hl.gro g12 lS,hc.gro g12 cS,bc,fun v1 p1 H3 cm3 hb3 hc3 hcm3 hnm3 hhas3 hgr3 hp3 g3=>?_⟩)))))
  have g13:Gro [b,c] H H3:=(g12.mono (by simp)).trans g3
  refine(Z9 rfl (Z9 rfl (Z9 rfl (Z9 rfl (Z9 rfl (Z9 rfl (Xy rfl rfl ⟨b,l,c,_,e,he,congrArg (fun z=>[V.ref b,V.ref l,V.ref c,V.int z]) ea,hb3,hl.gro g13 lS2,hc3,bc,fun v2 p2 H4 cm4 hb4 hc4 hcm4 hnm4 hhas4 hgr4 hp4 g4=>⟨sz,fun p5 hp5=>?_⟩⟩)))))))
  have t5:=(Gro.new (S:=[]) hp5 (.tup [.str "have",.int (1+r),v1,v2])).tups
  exact q _ (.node (.hav (1+r)) [p1,p2]) _ cm4 (hb4.new hp5) (hc4.new hp5) (by omega) (Zmw ⟨by omega,by omega⟩ (Pat.nm_le hcm4 _ hnm3) hnm4) (hhas4.elim (fun e=>hhas3.elim (fun e3=>.inl (by omega)) fun h=>.inr (has_node.mpr (.inr ⟨p1,by simp,by rw[e];exact h⟩))) fun h=>.inr (has_node.mpr (.inr ⟨p2,by simp,h⟩))) (by simp[Pat.groups,Y3];omega) ⟨⟨p5,[v1,v2],rfl,⟨⟨by omega,by omega⟩,v1,v2,rfl,Z2⟩,.cons (((hp3.1.mono g4.tups).mono t5).deep (by omega)) (.cons ((hp4.1.mono t5).deep (by omega)) .nil)⟩,Zbu hp3.2 hp4.2 (by omega)⟩ ((g13.trans g4).tup hp5)
 refine Zi8 ?_
 intro Ez Az1 Az2 Az3 Az4 Az5
 refine(Z9 rfl ⟨b,12,rfl,hb,by decide,by decide,fun k H1 h0 h1 hb1 g1=>?_⟩)
 have l1:=hl.gro g1 lS
 have c1:=hc.gro g1 cS
 have lf:(Z1r Z34 [] E0 (Yy (Xc 0) (Yy (Xc 1) (Yy (Xc 2) Ub)))) [some (.ref b),some (.ref l),some (.ref c),some (.int d),some (.int k),none,none,none] H1 Q :=
  (Z9 rfl (Z9 rfl (Z9 rfl ⟨b,l,c,cn,rfl,hb1,l1,c1,bc,fun v p H' hb' hp hnm hgr g=>q v p H' cn hb' (c1.gro g cS) (Int.le_refl _) hnm (.inl rfl) (by omega) (hp.leafS.deep (by omega)) ((g1.trans g).mono (by simp))⟩)))
 refine(Z9 rfl ⟨rfl,Z9 rfl (Ym (fun _=>Te lf) (fun d0=>(Z9 rfl (Xy rfl rfl (Z9 rfl (Ym (fun _=>lf) (fun k2=>?_)))))))⟩)
 have hd1:1<=d:=by
  cases d with
  |zero=>exact absurd (decide_eq_true rfl) d0
  |succ e=>omega
 have hk2:2<=k:=by
  have:¬k<2:=fun z=>k2 (decide_eq_true z)
  omega
 refine(Z9 rfl ⟨rfl,Z9 rfl (Ym (fun _=>?_) (fun _=>Ju ⟨k,rfl,hk2,h1,hd1,hb1,l1,c1,g1,q⟩))⟩)
 refine(Z9 rfl ⟨b,5,rfl,hb1,by decide,by decide,fun r H2 h20 h21 hb2 g2=>⟨rfl,Z9 rfl (Ym (fun _=>?_) (fun _=>⟨k,rfl,hk2,h1,hd1,hb2,l1.gro g2 lS,c1.gro g2 cS,g1.trans g2,q⟩))⟩⟩)
 refine⟨sz,fun r1 hr1=>⟨sz,fun p1 hp1=>?_⟩⟩
 have g3:Gro [b,c] H2 (Zq (Zq H2 r1 (.tup [])) p1 (.tup [.str "row",.ref r1])):=(Gro.new hr1 _).tup hp1
 refine q _ (.node .row []) _ cn ((hb2.new hr1).new hp1) (((c1.gro g2 cS).new hr1).new hp1) (Int.le_refl _) (Zgu trivial) (.inl rfl) (by simp[Pat.groups,Y3]) ⟨⟨p1,[],rfl,⟨by simp,r1,Z2,by rw[Zi (Z7 Z2 hp1)];exact Z2⟩,.nil⟩,Z6z⟩ (((g1.trans g2).mono (by simp)).trans g3)
theorem Z17(T:Blt mg)(O_l_take:Own P w K mg base 1 "_law_take" ["_law_box","_law_many"] W4)(O_l_leaf:Own P w K mg base 3 "_law_leaf" ["_law_box","_law_letters_here","_law_count"] Z34)(D1:Def K mg "_law_parts" Ul ["_law_box","_law_letters_here","_law_count","_law_deep","_law_word"])(D2:Def K mg "_law_times" Uj ["_law_box","_law_letters_here","_law_count","_law_deep"])(D3:Def K mg "_law_pattern" V3 ["_law_box","_law_letters_here","_law_count","_law_deep"]) :
  ∀n,Own P w K mg base (4+2*n) "_law_pattern" ["_law_box","_law_letters_here","_law_count","_law_deep"] (Z3c n)
 |0=>D3.own fun f fd F=>FnOk.never fun vs H Q E h=>by
  obtain⟨_,_,_,_,d,hd,_⟩:=h
  omega
 |n+1=>by
  have ih:=Z17 T O_l_take O_l_leaf D1 D2 D3 n
  exact D3.own fun f fd F=>Z7y T O_l_take O_l_leaf (D1.own fun f fd F=>Zcb T O_l_take ih F) (D2.own fun f fd F=>Zc9 T O_l_take ih F) ih F
inductive spDrawnI(vs:List V)(H:Hp)(Q:VK):Prop
 |mk (b l:Addr) (pl:Int) (_:vs=[.ref b,.ref l,.int pl]) (_:BoxAt H b) (_:LetAt H l) (_:∀(t g:Addr) (v:V) (p:Pat) (n:Nat) (H':Hp),BoxAt H' b->H' t=some (.tup [v,.ref g])->H' g=some (.tup (List.replicate n .non))->n<=9->p.nm n->(n=0∨p.has n)->p.groups=n->PatS H' 7 v p->Gro [b] H H'->Q (.ref t) H')
def Z1x:Sp:=fun vs H Q _=>spDrawnI vs H Q
def Z79(b l c:Addr)(pl:Int)(H:Hp):TS:=fun D σ H1=>∃(v:V) (p:Pat) (cn:Int) (one two:Option V),σ=[some (.ref b),some (.ref l),some (.int pl),some (.ref c),some v,one,two]/\PatS H1 7 v p/\p.nm cn/\(cn=0∨p.has cn)/\p.groups=cn/\BoxAt H1 b/\CntN H1 c cn/\Gro [b] H H1 /\
 ∀(t g:Addr) (v:V) (p:Pat) (n:Nat) (H':Hp),BoxAt H' b->H' t=some (.tup [v,.ref g])->H' g=some (.tup (List.replicate n .non))->n<=9->p.nm n->(n=0∨p.has n)->p.groups=n->PatS H' 7 v p->Gro [b] H H'->D.rt (.ref t) H'
abbrev Um:Stmt:=top 65
theorem sc_l_drawn:FnScope ["_law_box","_law_letters_here","_law_plain","_law_count","_law_p","_law_one","_law_two"] ["_law_box","_law_letters_here","_law_plain"] (Za Um):=V7
theorem Zcf(T:Blt mg)(O_l_take:Own P w K mg base 1 "_law_take" ["_law_box","_law_many"] W4)(O_l_runs:Own P w K mg base 2 "_law_runs" ["_law_box","_law_letters_here"] Z33)(O_l_pattern:Own P w K mg base 12 "_law_pattern" ["_law_box","_law_letters_here","_law_count","_law_deep"] (Z3c 4))(F:Fun K "_law_drawn" "_law_drawn" Um f fd) :
  FnOk P w K mg base W3 13 f fd ["_law_box","_law_letters_here","_law_plain"] Z1x:=by
 refine F.ok sc_l_drawn (fun vs H Q E h=>?_) (fun cdv A outer s H vs Q E hr h=>?_)
 ·obtain⟨b,l,pl,rfl,_⟩:=h
  rfl
 obtain⟨b,l,pl,rfl,hb,hl,q⟩:=h
 have bl:b≠l:=hb.ne_let hl
 have lS:l∉[b]:=by simpa using Ne.symm bl
 refine V6 ?_
 intro Xz
 refine⟨_,(Z1 (pS 3 sc_l_drawn.nd (Y4 (Z0 Z4 (Z0 (pv 2) Z3))))
  (Z1 (pS 4 sc_l_drawn.nd (Zj (O_l_pattern.mono (by omega)) hr rfl (Z0 (pv 0) (Z0 (pv 1) (Z0 (pv 3) (Z0 Z4 Z3))))))
  (Z1 (Zs (PW.pt (Vj (Zb Zv (Zj (O_l_take.mono (by omega)) hr rfl (Z0 (pv 0) (Z0 Z4 Z3))) Z4 (Ze _)) (Wl (Zb Zv (pv 2) Z4 (Ze _))))) (Z1 (pS 5 sc_l_drawn.nd (Zr (Z0 Zg (Z0 (Zr (Z0 (Zr (Z0 Zg (Z0 Z4 Z3))) (Z0 (Zr (Z0 Zg (Z0 (Zd Y1 (pv 1) (Zj (O_l_take.mono (by omega)) hr rfl (Z0 (pv 0) (Z0 Z4 Z3))) (fun _ _=>rfl)) Z3))) Z3))) Z3))))
  (Z1 (pS 6 sc_l_drawn.nd (Zr (Z0 Zg (Z0 Z4 (Z0 (Zr (Z0 Zg (Z0 (Zj (O_l_runs.mono (by omega)) hr rfl (Z0 (pv 0) (Z0 (pv 1) Z3))) Z3))) Z3)))))
  (Z1 (pS 4 sc_l_drawn.nd (Zr (Z0 Zg (Z0 Z4 (Z0 Uh (Z0 (Zd Y1 (Y4 (Z0 Zg (Z0 Zg Z3))) (Zj (O_l_take.mono (by omega)) hr rfl (Z0 (pv 0) (Z0 Z4 Z3))) (fun _ _=>rfl)) (Z0 (Zr (Z0 Zg (Z0 (Zr (Z0 (pv 5) (Z0 (pv 6) Z3))) Z3))) Z3)))))))
  (Z5 (U1 Z4 (U2 (pv 3) Z4 Xp)))))) Zk)
  (Va (fun D σ H1=>∃c,Z79 b l c pl H D σ H1) (Z5 (Zl (Zr (Z0 (pv 4) (Z0 (Yu V0 rfl T.b_tuple PyProof.Rows.Boot.«tuple» (Z0 (Vb rfl (show CScope _ ["_law_box","_law_letters_here","_law_plain","_law_count","_law_p","_law_one","_law_two"] (Za Um) _ from⟨rfl,by decide +kernel,rfl,by decide +kernel,by decide +kernel,by decide +kernel,by decide +kernel⟩) (Wu rfl T.b_range (Z0 (Zd Y1 (pv 3) Z4 (fun _ _=>rfl)) Z3)) (fun _ _ _ _=>Ta) (fun _ _ _ _=>Uh)) Z3)) Z3))))) (fun D1 σ1 H1 hcut=>?cut3))))),?_⟩
 case cut3 =>
  obtain⟨c,v,p,cn,one,two,rfl,hp,hnm,hhas,hgr,hb1,⟨cp,hcl,hcn⟩,g1,q⟩:=hcut
  refine⟨_,rfl,_,rfl,c,_,_,_,rfl,rfl,SqL.of hcl,rfl,_,rfl,by omega,by omega,?_⟩
  refine Z2y (n:=cn.toNat) (fun i ys H'=>ys=List.replicate i V.non/\H'=H1) ⟨rfl,rfl⟩ (Yj (by omega)) (fun i ys H' ⟨e,_⟩=>by rw[e,List.length_replicate];exact Nat.le_refl _) ?_ ?_
  ·rintro i ys H2 hi ⟨rfl,rfl⟩
   exact⟨by rw[List.replicate_succ'],rfl⟩
  ·rintro ys H2 ⟨rfl,rfl⟩ a ha
   refine⟨a,_,rfl,.inl ⟨SqL.of Z2,fun g hg=>⟨sz,fun t ht=>?_⟩⟩⟩
   have gg:Gro [b] H2 (Zq (Zq (Zq H2 a (.lst (List.replicate cn.toNat .non))) g (.tup (List.replicate cn.toNat .non))) t (.tup [v,.ref g])):=((Gro.new ha _).tup hg).tup ht
   exact q t g v p cn.toNat _ (((hb1.new ha).new hg).new ht) Z2 (by rw[Zi (Z7 Z2 ht)];exact Z2) (by omega) (by rw[show((cn.toNat:Nat):Int)=cn by omega];exact hnm) (hhas.imp (fun e=>by omega) fun h=>by rw[show((cn.toNat:Nat):Int)=cn by omega];exact h) (by omega) (hp.mono gg.tups) (g1.trans gg)
 refine Zhn ?_
 intro Ez Az1 Az2 Az3 Az4 Az5 Az6 Az7
 refine⟨_,rfl,sz,fun c hc=>?_⟩
 have bc:b≠c:=Z7 hb.choose_spec.1 hc
 have cS:c∉[b]:=by simpa using Ne.symm bc
 refine⟨_,rfl,_,rfl,_,rfl,b,l,c,0,3,by decide,rfl,hb.new hc,hl.new hc,⟨pl,Z2,by decide,by decide⟩,bc,fun v p H1 cm hb1 hc1 hcm hnm hhas hgr hp1 g1=>?_⟩
 have g1':Gro [b] H H1:=g1.drop hc
 refine⟨_,rfl,b,8,rfl,hb1,by decide,by decide,fun r H2 h20 h21 hb2 g2=>⟨rfl,_,rfl,?_⟩⟩
 have base2:Z79 b l c pl H { nx:=fun _ H'=>Q .non H',rt:=Q } [some (.ref b),some (.ref l),some (.int pl),some (.ref c),some v,none,none] H2:=⟨v,p,cm,none,none,rfl,hp1.mono g2.tups,hnm,hhas,by omega,hb2,hc1.gro g2 cS,g1'.trans g2,q⟩
 refine Ym (fun _=>⟨_,rfl,rfl,_,rfl,Ym (fun _=>?_) (fun _=>⟨c,base2⟩)⟩) (fun _=>Ju ⟨c,base2⟩)
 have l2:LetAt H2 l:=(hl.gro g1' lS).gro g2 lS
 refine⟨sz,fun p1 hp1n=>⟨_,rfl,_,rfl,b,3,rfl,hb2.new hp1n,by decide,by decide,fun r3 H3 h30 h31 hb3 g3=>?_⟩⟩
 refine Zbn ((l2.new hp1n).gro g3 lS) h30 h31 fun s hs=>⟨sz,fun p2 hp2=>⟨sz,fun p3 hp3=>⟨sz,fun p4 hp4=>?_⟩⟩⟩
 have e1:H3 p1=some (.tup [.str "again",.int 1]):=g3.tups _ _ Z2
 generalize hH4:Zq (Zq (Zq H3 p2 (.tup [.str "sign",.str s])) p3 (.tup [.ref p1,.ref p2])) p4 (.tup [.str "row",.ref p3])=H4
 have g34:Gro [b] H3 H4:=by rw[← hH4];exact((Gro.new hp2 _).tup hp3).tup hp4
 have e4:H4 p4=some (.tup [.str "row",.ref p3]):=by rw[← hH4];exact Z2
 have e3:H4 p3=some (.tup [.ref p1,.ref p2]):=by rw[← hH4,Zi (Z7 Z2 hp4)];exact Z2
 have e2:H4 p2=some (.tup [.str "sign",.str s]):=by rw[← hH4,Zi (Z7 (by rw[Zi (Z7 Z2 hp3)];exact Z2) hp4),Zi (Z7 Z2 hp3)];exact Z2
 have g24:Gro [b] H2 H4:=((Gro.new hp1n _).trans g3).trans g34
 have hb4:BoxAt H4 b:=by rw[← hH4];exact((hb3.new hp2).new hp3).new hp4
 have l4:=l2.gro g24 lS
 have P1:PatAt H4 4 (.ref p4) (.node .row [.node (.again 1) [],.node (.sign s) []]) :=
  ⟨p4,[.ref p1,.ref p2],rfl,⟨by simp,p3,e4,e3⟩,.cons ⟨p1,[],rfl,⟨⟨by decide,by decide⟩,rfl,g34.tups _ _ e1⟩,.nil⟩ (.cons ⟨p2,[],rfl,⟨rfl,hs,e2⟩,.nil⟩ .nil)⟩
 refine⟨_,rfl,_,rfl,b,l,rfl,hb4,l4,fun rr rs H5 hb5 hr5 _ _ g5=>⟨sz,fun p5 hp5=>⟨sz,fun p6 hp6=>?_⟩⟩⟩
 generalize hH6:Zq (Zq H5 p5 (.tup [.str "in",.ref rr])) p6 (.tup [.str "group",.int 1,.ref p5])=H6
 have g56:Gro [b] H5 H6:=by rw[← hH6];exact(Gro.new hp5 _).tup hp6
 have e6:H6 p6=some (.tup [.str "group",.int 1,.ref p5]):=by rw[← hH6];exact Z2
 have e5:H6 p5=some (.tup [.str "in",.ref rr]):=by rw[← hH6,Zi (Z7 Z2 hp6)];exact Z2
 have hb6:BoxAt H6 b:=by rw[← hH6];exact(hb5.new hp5).new hp6
 have P2:PatAt H6 4 (.ref p6) (.node (.grp 1) [.node (.inn rs) []]):=⟨p6,[.ref p5],rfl,⟨⟨by decide,by decide⟩,_,rfl,e6⟩,.cons ⟨p5,[],rfl,⟨rfl,rr,e5,hr5.mono g56.tups⟩,.nil⟩ .nil⟩
 refine⟨sz,fun a ha=>⟨_,rfl,b,2,rfl,hb6.new ha,by decide,by decide,fun r7 H7 h70 h71 hb7 g7=>?_⟩⟩
 have ba:b≠a:=Z7 hb6.choose_spec.1 ha
 have ha7:=g7.keep a _ (Z2 (H:=H6)) (by simpa using Ne.symm ba)
 have howE:∃how:How,Z3o [V.str "much",V.str "little"] r7=some (.str how.text):=by
  have:r7=0∨r7=1:=by omega
  rcases this with rfl | rfl
  ·exact⟨.much,rfl⟩
  ·exact⟨.little,rfl⟩
 obtain⟨how,ehow⟩:=howE
 refine⟨a,_,_,_,rfl,rfl,SqL.of ha7,ehow,_,rfl,_,rfl,sz,fun p8 hp8=>⟨sz,fun p9 hp9=>⟨sz,fun p10 hp10=>?_⟩⟩⟩
 generalize hH10:Zq (Zq (Zq H7 p8 (.tup [.ref p4,.ref p6])) p9 (.tup [.str "or",.ref p8])) p10 (.tup [.str "times",.int 0,.non,.str how.text,.ref p9])=H10
 have g710:Gro [b] H7 H10:=by rw[← hH10];exact((Gro.new hp8 _).tup hp9).tup hp10
 have e10:H10 p10=some (.tup [.str "times",.int 0,.non,.str how.text,.ref p9]):=by rw[← hH10];exact Z2
 have e9:H10 p9=some (.tup [.str "or",.ref p8]):=by rw[← hH10,Zi (Z7 Z2 hp10)];exact Z2
 have e8:H10 p8=some (.tup [.ref p4,.ref p6]):=by rw[← hH10,Zi (Z7 (by rw[Zi (Z7 Z2 hp9)];exact Z2) hp10),Zi (Z7 Z2 hp9)];exact Z2
 have g67:Gro [b] H6 H7:=(Gro.new ha _).trans g7
 have g410:Gro [b] H4 H10:=((g5.trans g56).trans g67).trans g710
 have g610:Gro [b] H6 H10:=g67.trans g710
 have hb10:BoxAt H10 b:=by rw[← hH10];exact((hb7.new hp8).new hp9).new hp10
 have P3:PatAt H10 7 (.ref p10) (.node (.times 0 none how) [.node .alt [.node .row [.node (.again 1) [],.node (.sign s) []],.node (.grp 1) [.node (.inn rs) []]]]) :=
  ⟨p10,[.ref p9],rfl,⟨⟨by decide,by decide,fun h e=>by cases e⟩,_,rfl,e10⟩,.cons ⟨p9,[.ref p4,.ref p6],rfl,⟨by simp,by simp,p8,e9,e8⟩,.cons ((P1.mono g410.tups).deep (by decide)) (.cons ((P2.mono g610.tups).deep (by decide)) .nil)⟩ .nil⟩
 have hc10:CntN H10 c cm:=hc1.gro ((g2.trans g24).trans g410) cS
 obtain⟨cp,hcl,hcn⟩:=id hc10
 refine⟨_,rfl,c,_,_,0,rfl,rfl,hcl,rfl,?_⟩
 have gs:Gro [c] H10 (Zq H10 c (.lst [.int 1,.int cp])):=Gro.set (by simp) hcl _
 refine⟨c,_,_,1,_,_,rfl,⟨P3.mono gs.tups,by simp[Xf,Ya,B]⟩,Zlf trivial (Zmw trivial (Zmw trivial (Zgu ⟨by decide,by decide⟩) (Zgu trivial)) (Zlf ⟨by decide,by decide⟩ (Zgu trivial))),.inr (has_node.mpr (.inr ⟨_,List.mem_singleton.mpr rfl,has_node.mpr (.inr ⟨_,List.mem_cons_of_mem _ (List.mem_singleton.mpr rfl),has_node.mpr (.inl rfl)⟩)⟩)),by simp[Pat.groups,Y3],hb10.gro gs (by simpa using bc),⟨cp,Z2,by decide,by decide⟩,?_,q⟩
 exact(((g1'.trans g2).trans g24).trans g410).fresh hc _
end
theorem close_rw{o:Op}{k:Int}:(o.rw).close=some k↔o=.close k:=by
 cases o with
 |close j =>
  constructor
  ·intro h
   have h':(if("close":Str)="close" then some j else none)=some k:=h
   rw[if_pos rfl]at h'
   injection h' with h'
   rw[h']
  ·intro h
   cases h
   show(if("close":Str)="close" then some k else none)=some k
   rw[if_pos rfl]
 |try_ z =>
  refine⟨fun h=>?_,fun h=>by cases h⟩
  have h':(if("try":Str)="close" then some (z:Int) else none)=some k:=h
  rw[if_neg (by decide +kernel)]at h'
  cases h'
 |go z =>
  refine⟨fun h=>?_,fun h=>by cases h⟩
  have h':(if("go":Str)="close" then some (z:Int) else none)=some k:=h
  rw[if_neg (by decide +kernel)]at h'
  cases h'
 |bar z =>
  refine⟨fun h=>?_,fun h=>by cases h⟩
  have h':(if("bar":Str)="close" then some (z:Int) else none)=some k:=h
  rw[if_neg (by decide +kernel)]at h'
  cases h'
 |_=>exact⟨fun h=>(by cases h),fun h=>(by cases h)⟩
theorem Zez(o:Op):(o.rw).tame:=by
 cases o with
 |pat h=>trivial
 |close k=>exact⟨_,_,rfl,fun _=>⟨k,rfl⟩⟩
 |_=>exact⟨_,_,rfl,fun z=>absurd z (by decide +kernel)⟩
theorem mem_closes{es:List Op}{k:Int}:k∈Xk (es.map Op.rw)↔Op.close k∈es:=by
 unfold Xk
 rw[List.mem_filterMap]
 constructor
 ·rintro⟨r,hr,h⟩
  obtain⟨o,ho,rfl⟩:=List.mem_map.mp hr
  rw[close_rw.mp h]at ho
  exact ho
 ·intro h
  exact⟨_,List.mem_map.mpr ⟨_,h,rfl⟩,close_rw.mpr rfl⟩
theorem Ziz{ns:List Int}(h:ns≠[]):Zk2 ns∈ns:=by
 unfold Zk2
 have:=(argBest_gt (fun i=>ns.getD i 0) (ns.length-1)).1
 have hl:0<ns.length:=List.length_pos_iff.mpr h
 rw[List.getD_eq_getElem?_getD]
 have hlt:argBest (fun i j=>decide (ns.getD i 0>ns.getD j 0)) (ns.length-1)<ns.length:=by omega
 rw[List.getElem?_eq_getElem hlt]
 exact List.getElem_mem hlt
theorem Zkp{ns:List Int}{x:Int}(h:x∈ns):x<=Zk2 ns:=by
 obtain⟨j,hj,e⟩:=List.mem_iff_getElem.mp h
 have h1:=(argBest_gt (fun i=>ns.getD i 0) (ns.length-1)).2 j (by omega)
 have h2:ns.getD j 0=x:=by rw[List.getD_eq_getElem?_getD,List.getElem?_eq_getElem hj,e];rfl
 rw[← h2]
 exact h1
def Yp(p:Pat):List Op:=p.ops 0++[.found]
theorem Z3x(p:Pat):(Yp p).map Op.rw=p.code 0++[.tup [.str "found"]]:=by
 unfold Yp
 rw[List.map_append,Pat.ops_rw p 0]
 rfl
theorem Zat(p:Pat):∀o∈Yp p,o.ok:=fun o ho=>by
 rcases List.mem_append.mp ho with ho | ho
 ·exact Zdp p 0 o ho
 ·rw[List.mem_singleton.mp ho];trivial
theorem Zd4{p:Pat}{n:Nat}(hw:p.wf)(hn:p.nm n)(hh:n=0∨p.has n):Z1n ((Yp p).map Op.rw)=n:=by
 have bd:∀k∈Xk ((Yp p).map Op.rw),1<=k/\k<=n:=fun k hk=>by
  rcases List.mem_append.mp (mem_closes.mp hk) with h | h
  ·exact Ze2 p hn (Z46 p 0 _ h k rfl)
  ·cases List.mem_singleton.mp h
 unfold Z1n
 by_cases e:Xk ((Yp p).map Op.rw)=[]
 ·rw[if_pos e]
  rcases hh with h | h
  ·rw[h];rfl
  ·have:(n:Int)∈Xk ((Yp p).map Op.rw):=mem_closes.mpr (List.mem_append.mpr (.inl (Z5e p hw h 0)))
   rw[e]at this
   simp at this
 ·rw[if_neg e]
  have h1:=bd _ (Ziz e)
  rcases hh with h | h
  ·omega
  ·have:=Zkp (mem_closes.mpr (List.mem_append.mpr (.inl (Z5e p hw h 0))):(n:Int)∈Xk ((Yp p).map Op.rw))
   omega
theorem T4{H:Hp}:∀n,Paired (EnA H) (List.replicate n V.non) (List.replicate n (none:En))
 |0=>.nil
 |n+1=>.cons rfl (T4 n)
theorem Z9y(t:Str)(n:Nat):GOk t n (List.replicate n none):=⟨List.length_replicate,fun x y h=>by have:=List.eq_of_mem_replicate h;cases this⟩
structure MSt(C m ra ch:Addr)(t:Str)(n:Nat)(es:List Op)(H:Hp)(M:MM)(cf:Cf):Prop where
 at_:MAt C H m M
 am:AM H ra t ch M cf
 cs:M.cs.length<=40000
 ro:∃ys,H ra=some (.tup ys)/\Paired (RowAt H) ys (es.map Op.rw)
 ok:∀o∈es,o.ok
 en:es[es.length-1]? = some .found
 tx:t.length<=1000
 nn:n<=900
structure PDefs(K:W.Frag)(mg:Str->Option Value):Prop where
 coded:Def K mg "coded" Z21 ["pattern"]
 put:Def K mg "put" Z7h ["rows","pattern"]
 hold_place:Def K mg "hold_place" Wh ["rows"]
 put_or:Def K mg "put_or" Tt ["rows","branches"]
 put_times:Def K mg "put_times" V2 ["rows","low","high","how","part"]
 put_have:Def K mg "put_have" Vy ["rows","number","yes","no"]
 put_look:Def K mg "put_look" Vx ["rows","kind","part"]
 takes_sign:Def K mg "takes_sign" Xe ["row","text","at"]
 lies_in:Def K mg "lies_in" Wt ["runs","sign"]
 with_entry:Def K mg "with_entry" Xd ["groups","number","begin","end"]
structure QDefs(K:W.Frag)(mg:Str->Option Value):Prop where
 l_take:Def K mg "_law_take" Z05 ["_law_box","_law_many"]
 l_sign:Def K mg "_law_sign" Z06 ["_law_cell"]
 l_letters:Def K mg "_law_letters" V4 ["_law_box"]
 l_runs:Def K mg "_law_runs" Z07 ["_law_box","_law_letters_here"]
 l_leaf:Def K mg "_law_leaf" Z08 ["_law_box","_law_letters_here","_law_count"]
 l_parts:Def K mg "_law_parts" Ul ["_law_box","_law_letters_here","_law_count","_law_deep","_law_word"]
 l_times:Def K mg "_law_times" Uj ["_law_box","_law_letters_here","_law_count","_law_deep"]
 l_pattern:Def K mg "_law_pattern" V3 ["_law_box","_law_letters_here","_law_count","_law_deep"]
 l_drawn:Def K mg "_law_drawn" Um ["_law_box","_law_letters_here","_law_plain"]
 l_text:Def K mg "_law_text" Tu ["_law_box","_law_letters_here","_law_size"]
 l_takes:Def K mg "_law_takes" Uk ["_law_p","_law_sign_here"]
 l_each:Def K mg "_law_each" Tv ["_law_part","_law_text_here","_law_ways_here","_law_left"]
 l_turns:Def K mg "_law_turns" Vr ["_law_p","_law_text_here","_law_n","_law_j","_law_g","_law_left"]
 l_behind:Def K mg "_law_behind" Ws ["_law_p","_law_text_here","_law_i","_law_g","_law_left"]
 l_memory:Def K mg "_law_memory" Wr ["_law_p","_law_text_here","_law_i","_law_g","_law_left"]
 l_ways:Def K mg "_law_ways" Uq ["_law_p","_law_text_here","_law_i","_law_g","_law_left"]
structure Fx(P:Program)(w:World)(K:W.Frag)(mg:Str->Option Value)(base:Heap)(C:Addr):Prop where
 letters:Own P w K mg base 2 "_law_letters" ["_law_box"] J3
 take:Own P w K mg base 1 "_law_take" ["_law_box","_law_many"] W4
 text:Own P w K mg base 2 "_law_text" ["_law_box","_law_letters_here","_law_size"] Z5m
 drawn:Own P w K mg base 13 "_law_drawn" ["_law_box","_law_letters_here","_law_plain"] Z1x
 ways:Own P w K mg base 212 "_law_ways" ["_law_p","_law_text_here","_law_i","_law_g","_law_left"] (U0 7)
 coded:Own P w K mg base 27 "coded" ["pattern"] Z1y
 init:OwnC P w K mg base 1 C "Machine" ["self","rows","text","at"] (Z5o C)
 way:OwnM P w K mg base 6 C "way" ["self","most"] (Z8m C)
 moves:OwnM P w K mg base 1 C "moves" ["self"] (Z1w C)
section
variable{K:W.Frag}{mg:Str->Option Value}{P:Program}{w:World}{base:Heap}{C:Addr}
theorem Z9h{P:Program}{w:World}{base:Heap}{x:Str}{st:Stmt}{ps:List Str}{sp:Nat->Sp}(D:Def K mg x st ps)(no:∀vs H Q E,¬sp 0 vs H Q E)(step:∀n f fd,Own P w K mg base (2+n) x ps (sp n)->Fun K x x st f fd->FnOk P w K mg base W3 (2+n+1) f fd ps (sp (n+1))) :
  ∀n,Own P w K mg base (2+n) x ps (sp n)
 |0=>D.own fun f fd F=>FnOk.never no
 |n+1=>D.own fun f fd F=>step n f fd (Z9h D no step n) F
theorem Zkz{P:Program}{w:World}{base:Heap}{it le ls dn C:Addr}{ds:List (Ti×V)}(T:Blt mg)(Ut:mg "ITSELF" = some (.ref it))(hIT:∀H,SqT K H it Z01)(Ww:mg "LEANING" = some (.ref le))(hLE:∀H,SqT K H le Vp)(Xm:mg "LAST_ROWS" = some (.ref ls))(hLS:Zen K w ls Vz)
  (Wj:mg "DOINGS" = some (.ref dn)) (hDN:Zen K w dn ds) (DD:DoingsA K ds) (MA:MachDefsA K mg C) (PD:PDefs K mg) (QD:QDefs K mg):Fx P w K mg base C:=by
 have pu:=Z9i (P:=P) (w:=w) (base:=base) T Ut hIT Ww hLE Xm hLS PD.put PD.hold_place PD.put_or PD.put_times PD.put_have PD.put_look 8
 have co:Own P w K mg base 27 "coded" ["pattern"] Z1y:=PD.coded.own fun _ _ F=>Zch T pu F
 have ta:Own P w K mg base 1 "_law_take" ["_law_box","_law_many"] W4:=QD.l_take.own fun _ _ F=>Zfm F
 have si:Own P w K mg base 1 "_law_sign" ["_law_cell"] Z32:=QD.l_sign.own fun _ _ F=>Z9n F
 have le:Own P w K mg base 2 "_law_letters" ["_law_box"] J3:=QD.l_letters.own fun _ _ F=>Z80 T ta si F
 have ru:Own P w K mg base 2 "_law_runs" ["_law_box","_law_letters_here"] Z33:=QD.l_runs.own fun _ _ F=>Zfn T ta F
 have lf:Own P w K mg base 3 "_law_leaf" ["_law_box","_law_letters_here","_law_count"] Z34:=QD.l_leaf.own fun _ _ F=>Zfq T ta ru F
 have pa:=Z17 (P:=P) (w:=w) (base:=base) T ta lf QD.l_parts QD.l_times QD.l_pattern 4
 have dr:Own P w K mg base 13 "_law_drawn" ["_law_box","_law_letters_here","_law_plain"] Z1x:=QD.l_drawn.own fun _ _ F=>Zcf T ta ru pa F
 have tx:Own P w K mg base 2 "_law_text" ["_law_box","_law_letters_here","_law_size"] Z5m:=QD.l_text.own fun _ _ F=>Zfl T ta F
 have tk:Own P w K mg base 1 "_law_takes" ["_law_p","_law_sign_here"] Zgp:=QD.l_takes.own fun _ _ F=>Zkl T F
 have wy:=Z6r (P:=P) (w:=w) (base:=base) T tk QD.l_each QD.l_turns QD.l_behind QD.l_memory QD.l_ways 7
 exact⟨le,ta,tx,dr,wy,co,Zc6 T MA.base_,Zc5 T MA Wj hDN DD PD.takes_sign PD.lies_in PD.with_entry,Zay MA.base_⟩
def Zlb(C:Addr)(Q:VK)(H:Hp)(m ra ch:Addr)(t:Str)(n:Nat)(es:List Op)(most:Int)(cf:Cf)(made:Int):Prop :=
 (∃(k:Nat) (c:Cg),Rc es t n cf k (.run c)/\es[c.r]? = some .found/\c.i<=t.length/\GOk t n c.g/\(k:Int)<most/\cf.csl+k<=999999 /\
  ∀(H':Hp) (tt:Addr) (gv:V) (M':MM),MAt C H' m M'->AM H' ra t ch M' (bk c.cs)->M'.cs.length=c.cs.length->M'.s.made=made+k+1->H' tt=some (.tup [.str "way",.int c.i,gv])->GsAt H' gv c.g->Gro [m,ch] H H'->Q (.ref tt) H') ∨
 (∃k:Nat,Rc es t n cf k .ended/\(k:Int)<=most/\cf.csl+k<=999999 /\
  ∀(H':Hp) (tt:Addr) (M':MM),MAt C H' m M'->AM H' ra t ch M' .ended->M'.cs.length=0->M'.s.made=made+k->H' tt=some (.tup [.str "none"])->Gro [m,ch] H H'->Q (.ref tt) H') ∨
 (∃(k:Nat) (c:Cg),Rc es t n cf k (.run c)/\(k:Int)=most/\cf.csl+k<=999999 /\
  ∀(H':Hp) (tt:Addr) (M':MM),MAt C H' m M'->AM H' ra t ch M' (.run c)->M'.cs.length=c.cs.length->M'.s.made=made+k->H' tt=some (.tup [.str "over"])->Gro [m,ch] H H'->Q (.ref tt) H')
inductive spWayCI(C:Addr)(vs:List V)(H:Hp)(Q:VK):Prop
 |mk (m ra ch:Addr) (most:Int) (t:Str) (n:Nat) (es:List Op) (ys:List V) (M:MM) (cf:Cf) (_:vs=[.ref m,.int most]) (_:1<=most) (_:MAt C H m M) (_:AM H ra t ch M cf) (_:M.cs.length<=1000000) (_:H ra=some (.tup ys)) (_:Paired (RowAt H) ys (es.map Op.rw)) (_:(∀o∈es,o.ok)) (_:t.length<=1000) (_:n<=900) (_:Zlb C Q H m ra ch t n es most cf M.s.made)
def Z5l(C:Addr):Sp:=fun vs H Q _=>spWayCI C vs H Q
theorem Zk9{kk:Nat}{ds:List (Ti×V)}(D:DoesA P w K mg base kk ds C):∀vs H Q E,Z5l C vs H Q E->Zeb P w K mg base kk ds C vs H Q E:=by
 rintro vs H Q E ⟨m,ra,ch,most,t,n,es,ys,M,cf,rfl,h1,hM,hAM,hz,hra,hp,hok,ht,hn,hw⟩
 obtain⟨hF,hff,hfm,hch⟩:=hAM.fresh
 subst hch
 have mv:∀(j:Nat) (M':MM) (H':Hp) (c:Cg) (o:Op),es[c.r]? = some o->MAt C H' m M'->Ab H' ra t M.s.choices M' c->c.i<=t.length->GOk t n c.g->(o.need n { c with r:=c.r+1 }∨o=.found)->c.cs.length<=1000000->Gro [m,M.s.choices] H H'->∀Q':VK,
   (∀(H2:Hp) (M2:MM),MAt C H2 m M2->AbF H2 ra t M.s.choices M2 (o.act t { c with r:=c.r+1 })->M2.s.made=M'.s.made+1->M2.s.found=o.fd M'.s.found->Gro [m,M.s.choices] H H2->Q' .non H2)->Jx P w K mg base kk ds C [.ref m] H' Q' E0:=by
  intro j M' H' c o ho hM' hA' hi hg Xi hcs g Q' hQ
  have hge:(es.map Op.rw)[c.r]? = some o.rw:=by rw[List.getElem?_map,ho];rfl
  obtain⟨v,hv,hrow⟩:=Tq hp hge
  have hrow':=hrow.mono g.tups
  obtain⟨a,rfl⟩:=Z3z hrow
  obtain⟨r,ha⟩:=Z6k hrow'
  have hat:Z3o ys M'.s.row=some (.ref a):=by rw[hA'.row];exact Ue hv
  refine⟨m,ra,a,ys,_,r,M',Jm C o,rfl,hM',hA'.rows,g.tups _ _ hra,hat,ha,D.all o (hok o (List.mem_of_getElem? ho)),fun H1 hM1 g1=>?_⟩
  have hA1:=hA'.mono g1.tups
  refine⟨m,a,ra,M.s.choices,t,n,M'.next,{ c with r:=c.r+1 },rfl,hM1,⟨hA1.rows,hA1.text,hA1.chs,hA1.en,by show M'.s.row+1=((c.r+1:Nat):Int);rw[hA'.row];omega,hA1.pl,hA1.gs,hA1.hl,hA1.cs⟩,hrow'.mono g1.tups,ht,hi,hg,hn,Xi,⟨hcs,Nat.le_add_left 1 _⟩,fun H2 M2 hM2 hA2 hm2 hf2 g2=>?_⟩
  exact hQ H2 M2 hM2 hA2 hm2 hf2 (g.trans ((g1.mono (by simp)).trans g2))
 have getD_of:∀(r:Nat),r<es.length->es[r]? = some (es.getD r .found):=fun r h=>by rw[List.getD_eq_getElem?_getD,List.getElem?_eq_getElem h];rfl
 have noF:∀(o:Op) (c:Cg),o.need n c->∀b,o.fd b=b:=fun o c h b=>by cases o <;> first | rfl | exact h.elim
 rcases hw with⟨k,c0,rc,hfd,hi0,hg0,hkm,hcsb,fin⟩ | ⟨k,rc,hkm,hcsb,fin⟩ | ⟨k,c0,rc,hkm,hcsb,fin⟩
 ·refine⟨m,most,M,fun j M' H'=>j<=k/\MAt C H' m M'/\AbF H' ra t M.s.choices M' (run es t j cf)/\M'.s.made=M.s.made+j/\M'.s.found=false/\Gro [m,M.s.choices] H H',rfl,hM,h1,hz,⟨?_,?_,?_,?_,?_⟩⟩
  ·exact fun H' hM' g=>⟨Nat.zero_le _,hM',hF.mono g.tups,by rw[hfm];simp,hff,g⟩
  ·rintro j M' H' ⟨hj,hM',_,hm,hf,_⟩
   exact⟨hM',hm,hf,by omega⟩
  ·rintro j M' H' ⟨hj,hM',hA',hm,hf,g⟩ he
   exfalso
   have:∃c,run es t j cf=.run c:=by
    by_cases hlt:j<k
    ·obtain⟨c,h,_⟩:=rc.live j hlt
     exact⟨c,h⟩
    ·rw[show j=k by omega]
     exact⟨c0,rc.eq⟩
   obtain⟨c,h⟩:=this
   rw[h]at hA'
   have:=Ab.en hA'
   rw[he]at this
   cases this
  ·rintro j M' H' ⟨hj,_⟩ _ hjm
   omega
  ·rintro j M' H' ⟨hj,hM',hA',hm,hf,g⟩ he hjm Q' hQ
   have hcl:=Vm es t cf j
   by_cases hlt:j<k
   ·obtain⟨c,h,lv⟩:=rc.live j hlt
    rw[h]at hA' hcl
    have ho:=getD_of c.r lv.r
    have hcl':c.cs.length<=cf.csl+j:=hcl
    refine mv j M' H' c _ ho hM' hA' lv.i lv.g (.inl lv.op) (by omega) g Q' fun H2 M2 hM2 hA2 hm2 hf2 g2=>hQ _ H2 M2 hM2 (.inr ⟨?_,by omega,hM2,?_,by rw[hm2,hm];omega,?_,g2⟩)
    ·rw[hf2,noF _ _ lv.op,hf]
    ·show AbF H2 ra t M.s.choices M2 (step es t (run es t j cf))
     rw[h]
     exact hA2
    ·rw[hf2,noF _ _ lv.op,hf]
   ·have hjk:j=k:=by omega
    subst hjk
    rw[rc.eq]at hA' hcl
    have hcl':c0.cs.length<=cf.csl+j:=hcl
    refine mv j M' H' c0 _ hfd hM' hA' hi0 hg0 (.inr rfl) (by omega) g Q' fun H2 M2 hM2 hA2 hm2 hf2 g2=>hQ _ H2 M2 hM2 (.inl ⟨hf2,fun tt htt=>?_⟩)
    have hA3:Ab H2 ra t M.s.choices M2 { c0 with r:=c0.r+1 }:=hA2
    have g3:=Gro.new (S:=[]) htt (.tup [.str "way",.int M2.s.place,M2.s.groups])
    have hA4:=hA3.mono g3.tups
    exact fin _ tt M2.s.groups M2 (hM2.new htt) (.inr ⟨hf2,_,hA4,rfl⟩) hA4.cslen (by omega) (by rw[Z2,hA3.pl]) hA4.gs (g2.trans (g3.mono (by simp)))
 ·refine⟨m,most,M,fun j M' H'=>j<=k/\MAt C H' m M'/\AbF H' ra t M.s.choices M' (run es t j cf)/\M'.s.made=M.s.made+j/\M'.s.found=false/\Gro [m,M.s.choices] H H',rfl,hM,h1,hz,⟨?_,?_,?_,?_,?_⟩⟩
  ·exact fun H' hM' g=>⟨Nat.zero_le _,hM',hF.mono g.tups,by rw[hfm];simp,hff,g⟩
  ·rintro j M' H' ⟨hj,hM',_,hm,hf,_⟩
   exact⟨hM',hm,hf,by omega⟩
  ·rintro j M' H' ⟨hj,hM',hA',hm,hf,g⟩ he tt htt
   have hjk:j=k:=by
    by_cases hlt:j<k
    ·obtain⟨c,h,_⟩:=rc.live j hlt
     rw[h]at hA'
     have:=Ab.en hA'
     rw[he]at this
     cases this
    ·omega
   subst hjk
   rw[rc.eq]at hA'
   have g3:=Gro.new (S:=[]) htt (.tup [.str "none"])
   have hE:AbE ra t M.s.choices M':=hA'
   exact fin _ tt M' (hM'.new htt) (.inl ⟨hf,hE⟩) (by rw[hE.cs];rfl) hm Z2 (g.trans (g3.mono (by simp)))
  ·rintro j M' H' ⟨hj,hM',hA',hm,hf,g⟩ he hjm
   exfalso
   have hjk:j=k:=by omega
   subst hjk
   rw[rc.eq]at hA'
   have hE:AbE ra t M.s.choices M':=hA'
   rw[hE.en]at he
   cases he
  ·rintro j M' H' ⟨hj,hM',hA',hm,hf,g⟩ he hjm Q' hQ
   have hcl:=Vm es t cf j
   have hlt:j<k:=by
    by_cases hlt:j<k
    ·exact hlt
    ·exfalso
     have hjk:j=k:=by omega
     subst hjk
     rw[rc.eq]at hA'
     have hE:AbE ra t M.s.choices M':=hA'
     rw[hE.en]at he
     cases he
   obtain⟨c,h,lv⟩:=rc.live j hlt
   rw[h]at hA' hcl
   have ho:=getD_of c.r lv.r
   have hcl':c.cs.length<=cf.csl+j:=hcl
   refine mv j M' H' c _ ho hM' hA' lv.i lv.g (.inl lv.op) (by omega) g Q' fun H2 M2 hM2 hA2 hm2 hf2 g2=>hQ _ H2 M2 hM2 (.inr ⟨?_,by omega,hM2,?_,by rw[hm2,hm];omega,?_,g2⟩)
   ·rw[hf2,noF _ _ lv.op,hf]
   ·show AbF H2 ra t M.s.choices M2 (step es t (run es t j cf))
    rw[h]
    exact hA2
   ·rw[hf2,noF _ _ lv.op,hf]
 ·have lives:∀j,j<=k->∃c,run es t j cf=.run c:=fun j hj=>by
   by_cases hlt:j<k
   ·obtain⟨c,h,_⟩:=rc.live j hlt
    exact⟨c,h⟩
   ·rw[show j=k by omega]
    exact⟨c0,rc.eq⟩
  refine⟨m,most,M,fun j M' H'=>j<=k/\MAt C H' m M'/\AbF H' ra t M.s.choices M' (run es t j cf)/\M'.s.made=M.s.made+j/\M'.s.found=false/\Gro [m,M.s.choices] H H',rfl,hM,h1,hz,⟨?_,?_,?_,?_,?_⟩⟩
  ·exact fun H' hM' g=>⟨Nat.zero_le _,hM',hF.mono g.tups,by rw[hfm];simp,hff,g⟩
  ·rintro j M' H' ⟨hj,hM',_,hm,hf,_⟩
   exact⟨hM',hm,hf,by omega⟩
  ·rintro j M' H' ⟨hj,hM',hA',hm,hf,g⟩ he
   exfalso
   obtain⟨c,h⟩:=lives j hj
   rw[h]at hA'
   have:=Ab.en hA'
   rw[he]at this
   cases this
  ·rintro j M' H' ⟨hj,hM',hA',hm,hf,g⟩ he hjm tt htt
   have hjk:j=k:=by omega
   subst hjk
   rw[rc.eq]at hA'
   have hA3:Ab H' ra t M.s.choices M' c0:=hA'
   have g3:=Gro.new (S:=[]) htt (.tup [.str "over"])
   exact fin _ tt M' (hM'.new htt) (.inl ⟨hf,hA3.mono g3.tups⟩) hA3.cslen hm Z2 (g.trans (g3.mono (by simp)))
  ·rintro j M' H' ⟨hj,hM',hA',hm,hf,g⟩ he hjm Q' hQ
   have hcl:=Vm es t cf j
   have hlt:j<k:=by omega
   obtain⟨c,h,lv⟩:=rc.live j hlt
   rw[h]at hA' hcl
   have ho:=getD_of c.r lv.r
   have hcl':c.cs.length<=cf.csl+j:=hcl
   refine mv j M' H' c _ ho hM' hA' lv.i lv.g (.inl lv.op) (by omega) g Q' fun H2 M2 hM2 hA2 hm2 hf2 g2=>hQ _ H2 M2 hM2 (.inr ⟨?_,by omega,hM2,?_,by rw[hm2,hm];omega,?_,g2⟩)
   ·rw[hf2,noF _ _ lv.op,hf]
   ·show AbF H2 ra t M.s.choices M2 (step es t (run es t j cf))
    rw[h]
    exact hA2
   ·rw[hf2,noF _ _ lv.op,hf]
theorem Zc4{dn:Addr}{ds:List (Ti×V)}(T:Blt mg)(MA:MachDefsA K mg C)(Wj:mg "DOINGS" = some (.ref dn))(hDN:Zen K w dn ds)(DD:DoingsA K ds)(p1:Def K mg "takes_sign" Xe ["row","text","at"])(p2:Def K mg "lies_in" Wt ["runs","sign"])(p3:Def K mg "with_entry" Xd ["groups","number","begin","end"]):OwnM P w K mg base 6 C "way" ["self","most"] (Z5l C):=by
 have MD:=MA.base_
 have en:OwnM P w K mg base 1 C "enter" ["self","state"] (Uc C):=MD.enter.own fun _ _ F=>Z2w MD.tx F
 have gb:OwnM P w K mg base 2 C "go_back" ["self"] (Wn C):=MD.go_back.own fun _ _ F=>Jr T MD.tx en F
 have mv:OwnM P w K mg base (3+1) C "move" ["self"] (Jx P w K mg base 3 ds C):=MD.move.own fun _ _ F=>Z9o MD.tx Wj hDN F
 exact MD.way.own fun _ _ F=>(Zdr (kk:=3) MD.tx mv gb F).imp (Zk9 (Z77 T MA DD p1 p2 p3))
end
def MK(C m ra ch:Addr)(t:Str)(n:Nat)(es:List Op)(H:Hp)(cf:Cf)(made:Int):Prop:=∃M:MM,MSt C m ra ch t n es H M cf/\M.s.made=made
theorem MK.ob{C m ra ch:Addr}{t:Str}{n:Nat}{es:List Op}{H:Hp}{cf:Cf}{made:Int}(h:MK C m ra ch t n es H cf made):(∃dx s,H m=some (.ins C dx (MS.fs s)))/\∃l,H ch=some (.lst l):=by
 obtain⟨M,h3,_⟩:=h
 have e0:=h3.am.fresh.2.2.2
 obtain⟨⟨dx,e⟩,l,e',_⟩:=id h3.at_
 rw[e0]at e'
 exact⟨⟨dx,_,e⟩,l,e'⟩
def Tl(es:List Op)(t:Str)(n:Nat)(cf:Cf):Option Yd->Nat->Cf->Prop
 |some w,j,cf'=>∃xs,Rc es t n cf j (.run ⟨es.length-1,w.1,w.2,[],xs⟩)/\cf'=bk xs
 |none,j,cf'=>Rc es t n cf j .ended/\cf'=.ended
def AnsAt(H:Hp)(tt:Addr):Option Yd->Prop
 |some w=>∃gv,H tt=some (.tup [.str "way",.int w.1,gv])/\GsAt H gv w.2
 |none=>H tt=some (.tup [.str "none"])
theorem AnsAt.mono{H H':Hp}(tm:Tm H H'){tt:Addr}:∀ {w:Option Yd},AnsAt H tt w->AnsAt H' tt w
 |some _,⟨gv,h1,h2⟩=>⟨gv,tm _ _ h1,h2.mono tm⟩
 |none,h=>tm _ _ h
def Z1m:Option Yd->Nat->Nat
 |some _,j=>j+1
 |none,j=>j
theorem Zdc{es:List Op}{t:Str}{n:Nat}{cf cf':Cf}{j k:Nat}(r:Rc es t n cf j cf')(h:k<=j):Rc es t n cf k (run es t k cf)/\Rc es t n (run es t k cf) (j-k) cf':=by
 refine⟨⟨fun i hi=>r.live i (by omega),rfl⟩,fun i hi=>?_,?_⟩
 ·have:=r.live (k+i) (by omega)
  rw[Z0j]at this
  exact this
 ·rw[← Z0j,show k+(j-k)=j by omega]
  exact r.eq
theorem Znb{C m ra ch:Addr}{t:Str}{n:Nat}{es:List Op}{H:Hp}{cf cf':Cf}{made most:Int}{w:Option Yd}{j:Nat}{Q:VK}{E:XK}(h:MK C m ra ch t n es H cf made)(hT:Tl es t n cf w j cf')(hw:∀x,w=some x->x.1<=t.length/\GOk t n x.2)(hB:cf.csl+j<=40000)(hm:1<=most)
  (q1:(Z1m w j:Int)<=most->∀(H':Hp) (tt:Addr),MK C m ra ch t n es H' cf' (made+Z1m w j)->AnsAt H' tt w->Gro [m,ch] H H'->Q (.ref tt) H')
  (q2:most<(Z1m w j:Int)->∀(H':Hp) (tt:Addr) (cf2:Cf) (j2:Nat),(j2:Int)+most=j->MK C m ra ch t n es H' cf2 (made+most)->Tl es t n cf2 w j2 cf'->cf2.csl+j2<=40000->H' tt=some (.tup [.str "over"])->Gro [m,ch] H H'->Q (.ref tt) H'):Z5l C [.ref m,.int most] H Q E:=by
 obtain⟨M,st,hmd⟩:=h
 obtain⟨ys,hra,hys⟩:=id st.ro
 have hcs:=st.cs
 have mk:∀(H':Hp) (M':MM) (cf2:Cf),MAt C H' m M'->AM H' ra t ch M' cf2->M'.cs.length<=40000->Gro [m,ch] H H'->MSt C m ra ch t n es H' M' cf2:=fun H' M' cf2 h1 h2 h3 g=>⟨h1,h2,h3,⟨ys,g.tups _ _ hra,Y7 g.tups hys⟩,st.ok,st.en,st.tx,st.nn⟩
 refine⟨m,ra,ch,most,t,n,es,ys,M,cf,rfl,hm,st.at_,st.am,by omega,hra,hys,st.ok,st.tx,st.nn,?_⟩
 by_cases hc:(Z1m w j:Int)<=most
 ·cases w with
  |some x =>
   obtain⟨xs,r,rfl⟩:=hT
   have hx:=hw x rfl
   have hc':((j+1:Nat):Int)<=most:=hc
   refine .inl ⟨j,_,r,st.en,hx.1,hx.2,by omega,by omega,fun H' tt gv M' hM' hAM' hl' hmd' htt hgs g'=>?_⟩
   have hcl:=Vm es t cf j
   rw[r.eq]at hcl
   have hcl':xs.length<=cf.csl+j:=hcl
   have hl2:M'.cs.length=xs.length:=hl'
   exact q1 hc H' tt ⟨M',mk H' M' _ hM' hAM' (by omega) g',by rw[hmd',hmd];show made+j+1=made+((j+1:Nat):Int);omega⟩ ⟨gv,htt,hgs⟩ g'
  |none =>
   obtain⟨r,rfl⟩:=hT
   have hc':(j:Int)<=most:=hc
   exact .inr (.inl ⟨j,r,hc',by omega,fun H' tt M' hM' hAM' hl' hmd' htt g'=>q1 hc H' tt ⟨M',mk H' M' _ hM' hAM' (by omega) g',by rw[hmd',hmd];rfl⟩ htt g'⟩)
 ·have hc':most<(Z1m w j:Int):=by omega
  obtain⟨k,rfl⟩:∃k:Nat,most=k:=⟨most.toNat,by omega⟩
  have fin:∀c:Cg,Rc es t n cf k (.run c)->k<=j->Tl es t n (.run c) w (j-k) cf'->Zlb C Q H m ra ch t n es k cf M.s.made:=fun c r hkj hT2=>by
   have hcl:=Vm es t cf k
   rw[r.eq]at hcl
   have hcl':c.cs.length<=cf.csl+k:=hcl
   refine .inr (.inr ⟨k,c,r,rfl,by omega,fun H' tt M' hM' hAM' hl' hmd' htt g'=>?_⟩)
   exact q2 hc' H' tt (.run c) (j-k) (by omega) ⟨M',mk H' M' _ hM' hAM' (by omega) g',by rw[hmd',hmd]⟩ hT2 (by show c.cs.length+(j-k)<=_;omega) htt g'
  cases w with
  |some x =>
   obtain⟨xs,r,rfl⟩:=hT
   have hc2:(k:Int)<((j+1:Nat):Int):=hc'
   have hkj:k<=j:=by omega
   obtain⟨r1,r2⟩:=Zdc r hkj
   by_cases hlt:k<j
   ·obtain⟨c,e,_⟩:=r.live k hlt
    rw[e]at r1 r2
    exact fin c r1 hkj ⟨xs,r2,rfl⟩
   ·have ekj:k=j:=by omega
    subst ekj
    rw[r.eq]at r1 r2
    exact fin _ r1 hkj ⟨xs,r2,rfl⟩
  |none =>
   obtain⟨r,rfl⟩:=hT
   have hc2:(k:Int)<(j:Int):=hc'
   obtain⟨r1,r2⟩:=Zdc r (show k<=j by omega)
   obtain⟨c,e,_⟩:=r.live k (by omega)
   rw[e]at r1 r2
   exact fin c r1 (by omega) ⟨r2,rfl⟩
theorem Zcp{C m ra ch gd:Addr}{t:Str}{i n:Nat}{p:Pat}{H:Hp}{ys:List V}(hM:MAt C H m (Zlp ra t i (.ref gd) ch))(hg:H gd=some (.tup (List.replicate n .non)))(hra:H ra=some (.tup ys))(hys:Paired (RowAt H) ys ((Yp p).map Op.rw))
  (ht:t.length<=1000) (hn:n<=900):MK C m ra ch t n (Yp p) H (.run ⟨0,i,List.replicate n none,[],[]⟩) 0:=by
 have hl:(Yp p).length-1=(p.ops 0).length:=by unfold Yp;rw[List.length_append];rfl
 refine⟨Zlp ra t i (.ref gd) ch,⟨hM,.inl ⟨rfl,rfl,rfl,rfl,rfl,rfl,rfl,⟨gd,_,rfl,hg,T4 n⟩,rfl,.nil⟩,Nat.zero_le _,⟨ys,hra,hys⟩,Zat p,?_,ht,hn⟩,rfl⟩
 rw[hl]
 unfold Yp
 rw[List.getElem?_append_right (Nat.le_refl _),Nat.sub_self]
 rfl
theorem Zbp{t:Str}{i n d N:Nat}{p:Pat}{ws:List Yd}(hnm:p.nm n)(hi:i<=t.length)(hw:Wy t d p i (List.replicate n none) ws N)(hc:3*d*N<=40000):Yl (Yp p) t n ((Yp p).length-1) [] [] (.run ⟨0,i,List.replicate n none,[],[]⟩) ws 40000/\∀w∈ws,w.1<=t.length/\GOk t n w.2:=by
 have hgo:=Z9y t n
 have gd':=Wy.good (t:=t) (n:=n) d p i _ ws N hnm hi hgo hw
 have hl:(Yp p).length-1=(p.ops 0).length:=by unfold Yp;rw[List.length_append];rfl
 have hs:Sits (Yp p) 0 (p.ops 0):=⟨[.found],rfl⟩
 have y:=Wy.yl (es:=Yp p) (t:=t) (n:=n) d p i _ ws N hnm hi hgo hw 0 [] [] hs
 exact⟨(y.to (by rw[hl];omega)).mono hc,fun w hw'=>⟨(gd'.all w hw').hi,(gd'.all w hw').g⟩⟩
theorem Zev{es:List Op}{t:Str}{n B:Nat}{cf:Cf}{w:Yd}{ws:List Yd}(y:Yl es t n (es.length-1) [] [] cf (w::ws) B)(hB:cf.csl+B<=40000):∃(j:Nat) (cf':Cf) (B':Nat),Tl es t n cf (some w) j cf'/\cf.csl+j<=40000/\Yl es t n (es.length-1) [] [] cf' ws B'/\cf'.csl+B'<=40000:=by
 cases y with
 |cons r y hk =>
  rename_i j k' xs
  have hcl:=Vm es t cf j
  rw[r.eq]at hcl
  have hcl':([]++xs).length<=cf.csl+j:=hcl
  have hbl:=Z8z ([]++xs)
  exact⟨j,_,k',⟨_,r,rfl⟩,by omega,y,by omega⟩
theorem Zeu{es:List Op}{t:Str}{n B:Nat}{cf:Cf}(y:Yl es t n (es.length-1) [] [] cf [] B)(hB:cf.csl+B<=40000):∃j:Nat,Tl es t n cf none j .ended/\cf.csl+j<=40000:=by
 cases y with
 |nil r hk=>exact⟨_,⟨r,rfl⟩,by omega⟩
inductive Fd(t:Str)(n:Nat)(p:Pat):Nat->Option (Nat×Yd)->Nat->Prop
 |out {b:Nat}:t.length<b->Fd t n p b none 0
 |hit {b:Nat} {w:Yd} {ws:List Yd} {N:Nat}:b<=t.length->Wy t 7 p b (List.replicate n none) (w::ws) N->Fd t n p b (some (b,w)) N
 |go {b:Nat} {r:Option (Nat×Yd)} {N N':Nat}:b<=t.length->Wy t 7 p b (List.replicate n none) [] N->Fd t n p (b+1) r N'->Fd t n p b r (N+N')
def FnA(H:Hp)(v:V):Option (Nat×Yd)->Prop
 |none=>v=.non
 |some x=>∃(a:Addr) (gv:V),v=.ref a/\H a=some (.tup [.int x.1,.int x.2.1,gv])/\GsAt H gv x.2.2
theorem FnA.mono{H H':Hp}(tm:Tm H H'){v:V}:∀ {r:Option (Nat×Yd)},FnA H v r->FnA H' v r
 |none,h=>h
 |some _,⟨a,gv,e1,e2,e3⟩=>⟨a,gv,e1,tm _ _ e2,e3.mono tm⟩
section
variable{P:Program}{w:World}{K:W.Frag}{mg:Str->Option Value}{base:Heap}{f C:Addr}{fd:FuncData}
inductive spFindI(vs:List V)(H:Hp)(Q:VK):Prop
 |mk (v0 gv:V) (p:Pat) (t:Str) (s n:Nat) (f:Int) (lf:Addr) (_:vs=[v0,.str t,gv,.ref lf,.int s]) (_:PatAt H 7 v0 p) (_:p.nm n) (_:t.length<=8) (_:s<=t.length+1) (_:n<=900) (_:GsAt H gv (List.replicate n none)) (_:H lf=some (.lst [.int f])) (_:f<=1500) (_:∀(v:V) (r:Option (Nat×Yd)) (N:Nat) (H':Hp),FnA H' v r->(∀x,r=some x->s<=x.1/\x.1<=x.2.1/\x.2.1<=t.length/\x.2.2.length=n)->(0<=f-N->Fd t n p s r N)->H' lf=some (.lst [.int (f-N)])->Gro [lf] H H'->Q v H')
def Z8r:Sp:=fun vs H Q _=>spFindI vs H Q
abbrev Z0a:Stmt:=top 72
theorem sc_l_find:FnScope ["_law_p","_law_text_here","_law_g","_law_left","_law_start","_law_b","_law_ways_here"] ["_law_p","_law_text_here","_law_g","_law_left","_law_start"] (Za Z0a):=V7
theorem Zfv(T:Blt mg)(O_l_ways:Own P w K mg base 212 "_law_ways" ["_law_p","_law_text_here","_law_i","_law_g","_law_left"] (U0 7))(F:Fun K "_law_find" "_law_find" Z0a f fd):FnOk P w K mg base W3 213 f fd ["_law_p","_law_text_here","_law_g","_law_left","_law_start"] Z8r:=by
 refine F.ok sc_l_find (fun vs H Q E h=>?_) (fun cdv A outer s H vs Q E hr h=>?_)
 ·obtain⟨v0,gv,p,t,s0,n,f0,lf,rfl,_⟩:=h
  rfl
 obtain⟨v0,gv,p,t,s0,n,f0,lf,rfl,hp,hnm,ht,hs,hn,hg,hlf,hf,q⟩:=h
 refine V6 ?_
 intro Xz
 refine⟨_,(Z1 (Xr PassesOwn.never rfl (Z42 rfl T.b_range (Z0 (pv 4) (Z0 (Zx Yn (Zy Yh rfl T.b_len PyProof.Rows.Boot.«len» (Z0 (pv 1) Z3)) Z4) Z3))) (pN 5 sc_l_find.nd) (Z1 (pS 6 sc_l_find.nd (Zj (O_l_ways.mono (by omega)) hr rfl (Z0 (pv 0) (Z0 (pv 1) (Z0 (pv 5) (Z0 (pv 2) (Z0 (pv 3) Z3)))))))
  (Z5 (Zs (Zb (Z2u hr.units0) (pv 6) (Y4 Z3) (Ze _)) (Z5 (Zl (Zr (Z0 (pv 5) (Z0 (Zd Zc (Zd Y1 (pv 6) Z4 (fun _ _=>rfl)) Z4 (fun _ _=>rfl)) (Z0 (Zd Zc (Zd Y1 (pv 6) Z4 (fun _ _=>rfl)) Z4 (fun _ _=>rfl)) Z3)))))) Zk))))
  (Z5 (Zl Uh))),?_⟩
 refine Zdf ?_
 intro Ez Az1 Az2 Az3 Az4
 refine(Z9 rfl (Z9 rfl (Z9 rfl ⟨Y5 (by omega),Xy rfl rfl ⟨_,_,rfl,⟨by omega,by omega,by omega,by omega⟩,?_⟩⟩)))
 refine Vu (fun k σ H'=>∃(u v:Option V) (N:Nat),σ=[some v0,some (.str t),some gv,some (.ref lf),some (.int s0),u,v]/\H' lf=some (.lst [.int (f0-N)])/\(0<=f0-N->∀r N',Fd t n p (s0+k) r N'->Fd t n p s0 r (N+N'))/\Gro [lf] H H')
  ⟨none,none,0,rfl,by rw[hlf];simp,fun _ r N' h=>by simpa using h,Gro.refl⟩ ?_ ?_
 ·rintro k σ H1 hk ⟨u,v,N,rfl,hl1,hR,g1⟩
  have hb:s0+k<=t.length:=by omega
  have eb:(s0:Int)+(k:Int)=((s0+k:Nat):Int):=by omega
  rw[eb]
  refine(Z9 rfl (Z9 rfl (Z9 rfl (Z9 rfl (Z9 rfl ⟨v0,gv,p,t,s0+k,n,List.replicate n none,f0-N,lf,rfl,hp.mono g1.tups,hnm,ht,hb,hn,hg.mono g1.tups,Z9y t n,hl1,by omega,fun r vs ws N1 H2 hr2 hv2 hs2 hR2 hl2 hlen2 g2=>?_⟩)))))
  have el:f0-(N:Int)-(N1:Int)=f0-((N+N1:Nat):Int):=by omega
  rw[el]at hl2 hR2
  refine(Z9 rfl ⟨sz,fun z hz=>?_⟩)
  have g3:=Gro.new (S:=[]) hz (.lst [])
  have hl3:=g3.keep _ _ hl2 (by simp)
  have hr3:=g3.keep _ _ hr2 (by simp)
  have g13:Gro [lf] H _:=(g1.trans g2).trans (g3.mono (by simp))
  refine⟨r,z,vs,rfl,rfl,SqL.of hr3,SqL.of Z2,Z9 rfl ?_⟩
  cases hv2 with
  |nil =>
   refine Zf (by decide) ?_
   exact⟨_,_,N+N1,rfl,hl3,fun h0 r N' hF=>by rw[Nat.add_assoc];exact hR (by omega) _ _ (.go hb (hR2 h0) hF),g13⟩
  |cons hw hws =>
   rename_i v1 w0 vs1 ws0
   obtain⟨a9,gv9,rfl,hb9,hg9⟩:=hw.mono g3.tups
   refine Zp rfl ?_
   refine(Z9 rfl (Z7l hr3 Vw ⟨a9,_,_,_,rfl,rfl,SqT.of hb9,Vw,Z7l hr3 Vw ⟨a9,_,_,_,rfl,rfl,SqT.of hb9,rfl,sz,fun o ho=>?_⟩⟩))
   have g4:=Gro.new (S:=[]) ho (.tup [.int ((s0+k:Nat):Int),.int w0.1,gv9])
   exact q _ (some (s0+k,w0)) (N+N1) _ ⟨o,gv9,rfl,Z2,hg9.mono g4.tups⟩ (fun x e=>by cases e;have hw0:=hs2 w0 (by simp);exact⟨by omega,hw0.lo,hw0.hi,hw0.g.len⟩) (fun h0=>hR (by omega) _ _ (.hit hb (hR2 h0))) (g4.keep _ _ hl3 (by simp)) (g13.trans (g4.mono (by simp)))
 ·rintro σ H1 ⟨u,v,N,rfl,hl1,hR,g1⟩
  exact q .non none N H1 rfl (fun x e=>by cases e) (fun h0=>by have:=hR h0 none 0 (.out (by omega));simpa using this) hl1 g1
end
def Z60(ra:Addr)(t:Str)(L:Int):List (Str×V):=[("rows",.ref ra),("text",.str t),("left",.int L)]
theorem Zf3{ra:Addr}{t:Str}{L:Int}:(Z60 ra t L).lookup ("rows":Str)=some (.ref ra):=V9
theorem Z97{ra:Addr}{t:Str}{L:Int}:(Z60 ra t L).lookup ("text":Str)=some (.str t):=by unfold Z60;rw[Zu (by decide +kernel),V9]
theorem Z54{ra:Addr}{t:Str}{L:Int}:(Z60 ra t L).lookup ("left":Str)=some (.int L):=by unfold Z60;rw[Zu (by decide +kernel),Zu (by decide +kernel),V9]
theorem Zf2{ra:Addr}{t:Str}{L L':Int}:Yg "left" (.int L') (Z60 ra t L)=Z60 ra t L':=by unfold Z60;rw[Zm (by decide +kernel),Zm (by decide +kernel),Ji]
theorem Zgx{m:Str}{ra:Addr}{t:Str}{L:Int}(h:(m=="rows")=false/\(m=="text")=false/\(m=="left")=false):(Z60 ra t L).lookup m=none:=by
 unfold Z60
 rw[Zu h.1,Zu h.2.1,Zu h.2.2]
 rfl
structure TxtS(K:W.Frag)(CS:Addr):Prop where
 cl:Cls K CS
 a1:NoAttr K CS "rows"
 a2:NoAttr K CS "text"
 a3:NoAttr K CS "left"
structure RsAt(H:Hp)(ra:Addr)(p:Pat):Prop where
 ex:∃ys,H ra=some (.tup ys)/\Paired (RowAt H) ys ((Yp p).map Op.rw)/\ys.length<=1000000
theorem RsAt.mono{H H':Hp}{ra:Addr}{p:Pat}(h:RsAt H ra p)(tm:Tm H H'):RsAt H' ra p:=by
 obtain⟨ys,h1,h2,h3⟩:=h.ex
 exact⟨ys,tm _ _ h1,Y7 tm h2,h3⟩
section
variable{P:Program}{w:World}{K:W.Frag}{mg:Str->Option Value}{base:Heap}{f C CS:Addr}{fd:FuncData}
inductive spSInitI(CS:Addr)(vs:List V)(H:Hp)(Q:VK):Prop
 |mk (m dx:Addr) (v:V) (t:Str) (L:Int) (p:Pat) (_:vs=[.ref m,v,.str t,.int L]) (_:H m=some (.ins CS dx [])) (_:PatAt H 8 v p) (_:p.size<=20000) (_:∀(ra:Addr) (H':Hp),H' m=some (.ins CS dx (Z60 ra t L))->RsAt H' ra p->Gro [m] H H'->Q .non H')
def Z51(CS:Addr):Sp:=fun vs H Q _=>spSInitI CS vs H Q
abbrev Xg:Stmt:=Xv (top 53) 0
theorem Jo:FnScope ["self","pattern","text","most"] ["self","pattern","text","most"] (Za Xg):=V7
theorem Zca(MTS:TxtS K CS)(O_coded:Own P w K mg base 27 "coded" ["pattern"] Z1y)(F:Fun K "__init__" "Seeker.__init__" Xg f fd):FnOk P w K mg base W3 28 f fd ["self","pattern","text","most"] (Z51 CS):=by
 refine F.ok Jo (fun vs H Q E h=>?_) (fun cdv A outer s H vs Q E hr h=>?_)
 ·obtain⟨m,dx,v,t,L,p,rfl,_⟩:=h
  rfl
 obtain⟨m,dx,v,t,L,p,rfl,h0,hp,hz,q⟩:=h
 refine V6 ?_
 intro Xz
 refine⟨_,(Z1 (Yk (pv 0) (Zj (O_coded.mono (by omega)) hr rfl (Z0 (pv 1) Z3)) rfl)
  (Z1 (Yk (pv 0) (pv 2) rfl)
  (Z5 (Yk (pv 0) (pv 3) rfl)))),?_⟩
 refine Z36 ?_
 intro Ez Az1 Az2
 refine(Z9 rfl ⟨v,p,rfl,hp,hz,fun ra ys H1 hra hys g1=>?_⟩)
 rw[← Z3x]at hys
 have hyl:ys.length<=1000000:=by
  have h1:=Pat.code_fits p 0
  rw[Paired.length hys,Z3x,List.length_append]
  show(p.code 0).length+1<=_
  omega
 have h1:=g1.keep _ _ h0 (by simp)
 refine(Z9 rfl ⟨m,CS,dx,Z9 rfl ⟨h1,MTS.cl,MTS.a1,by simp,?_⟩⟩)
 have g2:Gro [m] H1 (Zq H1 m (.ins CS dx (Yg "rows" (.ref ra) []))):=Gro.obj h1
 have e2:(Zq H1 m (.ins CS dx (Yg "rows" (.ref ra) []))) m=some (.ins CS dx [("rows",.ref ra)]):=Z2
 generalize Zq H1 m (.ins CS dx (Yg "rows" (.ref ra) []))=H2 at *
 refine(Z9 rfl (Z9 rfl ⟨m,CS,dx,Z9 rfl ⟨e2,MTS.cl,MTS.a2,by simp,?_⟩⟩))
 have g3:Gro [m] H2 (Zq H2 m (.ins CS dx (Yg "text" (.str t) [("rows",.ref ra)]))):=Gro.obj e2
 have e3:(Zq H2 m (.ins CS dx (Yg "text" (.str t) [("rows",.ref ra)]))) m=some (.ins CS dx [("rows",.ref ra),("text",.str t)]):=by rw[Z2,Zm (by decide +kernel),U3]
 generalize Zq H2 m (.ins CS dx (Yg "text" (.str t) [("rows",.ref ra)]))=H3 at *
 refine(Z9 rfl (Z9 rfl ⟨m,CS,dx,Z9 rfl ⟨e3,MTS.cl,MTS.a3,by simp,?_⟩⟩))
 have g4:Gro [m] H3 (Zq H3 m (.ins CS dx (Yg "left" (.int L) [("rows",.ref ra),("text",.str t)]))):=Gro.obj e3
 have e4:(Zq H3 m (.ins CS dx (Yg "left" (.int L) [("rows",.ref ra),("text",.str t)]))) m=some (.ins CS dx (Z60 ra t L)):=by rw[Z2,Zm (by decide +kernel),Zm (by decide +kernel),U3];rfl
 have g24:=(g2.trans g3).trans g4
 exact q ra _ e4 ⟨ys,g24.tups _ _ hra,Y7 g24.tups hys,hyl⟩ ((g1.mono (by simp)).trans g24)
inductive spFAtI(C CS:Addr)(vs:List V)(H:Hp)(Q:VK):Prop
 |mk (s dx ra:Addr) (t:Str) (b n N:Nat) (L:Int) (p:Pat) (ws:List Yd) (_:vs=[.ref s,.int b]) (_:H s=some (.ins CS dx (Z60 ra t L))) (_:RsAt H ra p) (_:p.nm n) (_:Z1n ((Yp p).map Op.rw)=n) (_:n<=9) (_:t.length<=8) (_:b<=t.length) (_:50000<=L) (_:Wy t 7 p b (List.replicate n none) ws N) (_:N<=1500) (_:∀(v:V) (H':Hp) (L':Int),FnA H' v (ws.head?.map fun w=>(b,w))->H' s=some (.ins CS dx (Z60 ra t L'))->L-40001<=L'->Gro [s] H H'->Q v H')
def Zef(C CS:Addr):Sp:=fun vs H Q _=>spFAtI C CS vs H Q
theorem Zg7{es:List Op}{t:Str}{n:Nat}{cf:Cf}:∀ {ws:List Yd},Yl es t n (es.length-1) [] [] cf ws 40000->cf.csl=0->∃(j:Nat) (cf':Cf),Tl es t n cf ws.head? j cf'/\cf.csl+j<=40000
 | [],y,h=>by
  obtain⟨j,h1,h2⟩:=Zeu y (by omega)
  exact⟨j,_,h1,h2⟩
 |w::ws,y,h=>by
  obtain⟨j,cf',_,h1,h2,_⟩:=Zev y (by omega)
  exact⟨j,cf',h1,h2⟩
abbrev Xn:Stmt:=Xv (top 53) 2
theorem sc_Seeker_find_at:FnScope ["self","begin","machine","answer"] ["self","begin"] (Za Xn):=V7
theorem Ziu(MT:Txt K mg C)(MTS:TxtS K CS)(O_Machine:OwnC P w K mg base 1 C "Machine" ["self","rows","text","at"] (Z5o C))(O_Machine_way:OwnM P w K mg base 6 C "way" ["self","most"] (Z5l C))(O_Machine_moves:OwnM P w K mg base 1 C "moves" ["self"] (Z1w C))
  (F:Fun K "find_at" "Seeker.find_at" Xn f fd):FnOk P w K mg base W3 7 f fd ["self","begin"] (Zef C CS):=by
 refine F.ok sc_Seeker_find_at (fun vs H Q E h=>?_) (fun cdv A outer s H vs Q E hr h=>?_)
 ·obtain⟨s,dx,ra,t,b,n,N,L,p,ws,rfl,_⟩:=h
  rfl
 obtain⟨s,dx,ra,t,b,n,N,L,p,ws,rfl,hs,hra,hnm,hcnt,hn,ht,hb,hL,hw,hN,q⟩:=h
 refine V6 ?_
 intro Xz
 refine⟨_,(Z1 (Zs (Zb Vc (Zt (pv 0) rfl) Z4 (Ze _)) (Z5 Z6o) Zk)
  (Z1 (pS 2 sc_Seeker_find_at.nd (Z9e (O_Machine.mono (by omega)) hr rfl (Z0 (Zt (pv 0) rfl) (Z0 (Zt (pv 0) rfl) (Z0 (pv 1) Z3)))))
  (Z1 (pS 3 sc_Seeker_find_at.nd (X6 (O_Machine_way.mono (by omega)) MT.cl hr (pv 2) (Z0 (Zt (pv 0) rfl) Z3)))
  (Z1 (Jd (pv 0) (Yo (O_Machine_moves.mono (by omega)) MT.cl hr (pv 2)) Zjb)
  (Z1 (Zs (Zb Zv (Zd Zc (pv 3) Z4 (fun _ _=>rfl)) Zg (Ze _)) (Z5 Z6o) Zk)
  (Z5 (Zl (W5 (Zb Zv (Zd Zc (pv 3) Z4 (fun _ _=>rfl)) Zg (Ze _)) (Zr (Z0 (pv 1) (Z0 (Zd Zc (pv 3) Z4 (fun _ _=>rfl)) (Z0 (Zd Zc (pv 3) Z4 (fun _ _=>rfl)) Z3)))) Uh)))))))),?_⟩
 refine Zht ?_
 intro Ez Az1 Az2 Az3 Az4 Az5 Az6 Az7
 refine(Z9 rfl ⟨s,CS,dx,_,_,rfl,hs,MTS.cl,MTS.a3,Z54,Xy rfl rfl (Z9 rfl (Zf (by rw[decide_eq_false (by omega)];decide) ?_))⟩)
 refine(Z9 rfl ⟨s,CS,dx,_,_,rfl,hs,MTS.cl,MTS.a1,Zf3,Z9 rfl ⟨s,CS,dx,_,_,rfl,hs,MTS.cl,MTS.a2,Z97,Z9 rfl (fun m dm hm hdm hne=>?_)⟩⟩)
 have g1:Gro [] H (Zq (Zq H dm (.own m)) m (.ins C dm [])):=(Gro.new hdm _).trans (Gro.new (by rw[Zi (Ne.symm hne)];exact hm) _)
 have e1:(Zq (Zq H dm (.own m)) m (.ins C dm [])) m=some (.ins C dm []):=Z2
 generalize Zq (Zq H dm (.own m)) m (.ins C dm [])=H1 at *
 obtain⟨ys,hya,hyp,hyl⟩:=hra.ex
 have tame:∀r∈(Yp p).map Op.rw,r.tame:=fun r hr=>by
  obtain⟨o,_,rfl⟩:=List.mem_map.mp hr
  exact Zez o
 refine⟨m,dm,ra,t,b,ys,_,rfl,e1,g1.tups _ _ hya,Y7 g1.tups hyp,hyl,tame,by rw[hcnt];omega,by rw[hcnt];omega,fun ch gd H2 hcn hM2 hg2 g2=>⟨rfl,?_⟩⟩
 rw[hcnt]at hg2
 have hg2':H2 gd=some (.tup (List.replicate n .non)):=hg2
 have g12:Gro [] H H2:=⟨fun b o h _=>g2.keep b o (g1.keep b o h (by simp)) (by simpa using Z7 h hm),fun b xs h=>g2.tups _ _ (g1.tups _ _ h)⟩
 have mk2:MK C m ra ch t n (Yp p) H2 (.run ⟨0,b,List.replicate n none,[],[]⟩) 0:=Zcp hM2 hg2' (g12.tups _ _ hya) (Y7 g12.tups hyp) (by omega) (by omega)
 have s2:=g12.keep _ _ hs (by simp)
 have n1:s≠m:=Z7 hs hm
 have n2:s≠ch:=Z7 (g1.keep _ _ hs (by simp)) hcn
 obtain⟨y0,hgood⟩:=Zbp (d:=7) (N:=N) hnm hb hw (by omega)
 obtain⟨j,cf',hT,hB⟩:=Zg7 y0 rfl
 have gw:∀x,ws.head? = some x->x.1<=t.length/\GOk t n x.2:=fun x e=>hgood x (List.mem_of_head? e)
 obtain⟨⟨d2,s2',e2⟩,_⟩:=mk2.ob
 refine(Z9 rfl ⟨m,d2,Z9 rfl ⟨e2,Ziy _,Z9 rfl ⟨s,CS,dx,_,_,rfl,s2,MTS.cl,MTS.a3,Z54,?_⟩⟩⟩)
 have hj:j<=40000:=by omega
 have hcost:Z1m ws.head? j<=40001:=by cases ws <;> (show _<=_;simp[Z1m];omega)
 refine Znb (E:=E0) mk2 hT gw hB (by omega) (fun hc H3 tt hK3 htt g3=>?_) (fun hc=>by exfalso;omega)
 obtain⟨M3,st3,hm3⟩:=id hK3
 obtain⟨⟨d3,e3⟩,_⟩:=id st3.at_
 have s3:=g3.keep _ _ s2 (by simp[n1,n2])
 refine(Z9 rfl ⟨s,CS,dx,_,_,rfl,s3,MTS.cl,MTS.a3,Z54,Z9 rfl ⟨m,d3,Z9 rfl ⟨e3,Zcj _,m,M3,rfl,st3.at_,Xy rfl rfl ⟨dx,_,s3,by show 3<1000;decide,?_⟩⟩⟩⟩)
 rw[Zf2,hm3]
 have g4:Gro [s] H3 (Zq H3 s (.ins CS dx (Z60 ra t (L-(0+(Z1m ws.head? j:Int)))))):=Gro.obj s3
 have s4:(Zq H3 s (.ins CS dx (Z60 ra t (L-(0+(Z1m ws.head? j:Int)))))) s=some (.ins CS dx (Z60 ra t (L-(0+(Z1m ws.head? j:Int))))):=Z2
 have htt4:=htt.mono g4.tups
 generalize Zq H3 s (.ins CS dx (Z60 ra t (L-(0+(Z1m ws.head? j:Int)))))=H4 at *
 have gg:Gro [s] H H4:=⟨fun a o h hx=>g4.keep a o (g3.keep a o (g12.keep a o h (by simp)) (by simp[Z7 h hm,Z7 (g1.keep a o h (by simp)) hcn])) hx,fun a xs h=>g4.tups _ _ (g3.tups _ _ (g12.tups _ _ h))⟩
 cases ws with
 |nil =>
  have ha:H4 tt=some (.tup [.str "none"]):=htt4
  refine(Ys ha Vw ⟨rfl,Z9 rfl (Zf (by decide +kernel) ?_)⟩)
  refine(Ys ha Vw ⟨rfl,Z9 rfl (Zf (by decide +kernel) ?_)⟩)
  exact q .non H4 _ rfl s4 (by omega) gg
 |cons x xs =>
  obtain⟨gv,ha,hgv⟩:=htt4
  refine(Ys ha Vw ⟨rfl,Z9 rfl (Zf (by decide +kernel) ?_)⟩)
  refine(Ys ha Vw ⟨rfl,Z9 rfl (Zp (by decide +kernel) ?_)⟩)
  refine(Z9 rfl (Ys ha rfl (Ys ha rfl ⟨sz,fun o ho=>?_⟩)))
  have g5:=Gro.new (S:=[]) ho (.tup [.int b,.int x.1,gv])
  exact q (.ref o) _ _ ⟨o,gv,rfl,Z2,hgv.mono g5.tups⟩ (g5.keep _ _ s4 (by simp)) (by omega) (gg.trans (g5.mono (by simp)))
inductive spFromI(C CS:Addr)(vs:List V)(H:Hp)(Q:VK):Prop
 |mk (s dx ra:Addr) (t:Str) (b n N:Nat) (L:Int) (p:Pat) (r:Option (Nat×Yd)) (_:vs=[.ref s,.int b]) (_:H s=some (.ins CS dx (Z60 ra t L))) (_:1000000-40001*b<=L) (_:RsAt H ra p) (_:p.nm n) (_:Z1n ((Yp p).map Op.rw)=n) (_:n<=9) (_:t.length<=8) (_:b<=t.length+1) (_:Fd t n p b r N) (_:N<=1500) (_:∀(v:V) (H':Hp) (L':Int),FnA H' v r->H' s=some (.ins CS dx (Z60 ra t L'))->(∀x,r=some x->1000000-40001*((x.1:Int)+1)<=L')->Gro [s] H H'->Q v H')
def Z8p(C CS:Addr):Sp:=fun vs H Q _=>spFromI C CS vs H Q
abbrev X2:Stmt:=Xv (top 53) 1
theorem sc_Seeker_first_from:FnScope ["self","start","begin","find"] ["self","start"] (Za X2):=V7
theorem Zft(T:Blt mg)(MTS:TxtS K CS)(O_Seeker_find_at:OwnM P w K mg base 7 CS "find_at" ["self","begin"] (Zef C CS))(F:Fun K "first_from" "Seeker.first_from" X2 f fd):FnOk P w K mg base W3 8 f fd ["self","start"] (Z8p C CS):=by
 refine F.ok sc_Seeker_first_from (fun vs H Q E h=>?_) (fun cdv A outer s H vs Q E hr h=>?_)
 ·obtain⟨s,dx,ra,t,b,n,N,L0,p,r,rfl,_⟩:=h
  rfl
 obtain⟨s,dx,ra,t,b,n,N,L0,p,r,rfl,hs,hL0,hra,hnm,hcnt,hn,ht,hb,hF,hN,q⟩:=h
 refine V6 ?_
 intro Xz
 refine⟨_,(Z1 (Xr PassesOwn.never rfl (Z42 rfl T.b_range (Z0 (pv 1) (Z0 (Zx Yn (Zy Yh rfl T.b_len PyProof.Rows.Boot.«len» (Z0 (Zt (pv 0) rfl) Z3)) Z4) Z3))) (pN 2 sc_Seeker_first_from.nd) (Z1 (pS 3 sc_Seeker_first_from.nd (X6 (O_Seeker_find_at.mono (by omega)) MTS.cl hr (pv 0) (Z0 (pv 2) Z3)))
  (Z5 (Zs (Ug (Z57 (pv 3))) (Z5 (Zl (pv 3))) Zk))))
  (Z5 (Zl Uh))),?_⟩
 refine Zdf ?_
 intro Ez Az1 Az2 Az3 Az4
 refine(Z9 rfl (Z9 rfl ⟨s,CS,dx,_,_,rfl,hs,MTS.cl,MTS.a2,Z97,Z9 rfl ⟨Y5 (by omega),Xy rfl rfl ⟨_,_,rfl,⟨by omega,by omega,by omega,by omega⟩,?_⟩⟩⟩))
 refine Vu (fun k σ H'=>∃(u v:Option V) (N':Nat) (L:Int),σ=[some (.ref s),some (.int b),u,v]/\H' s=some (.ins CS dx (Z60 ra t L))/\1000000-40001*((b:Int)+k)<=L/\Fd t n p (b+k) r N'/\N'<=1500/\Gro [s] H H')
  ⟨none,none,N,L0,rfl,hs,by omega,hF,hN,Gro.refl⟩ ?_ ?_
 ·rintro k σ H1 hk ⟨u,v,N1,L,rfl,hs1,hL,hF1,hN1,g1⟩
  have hbk:b+k<=t.length:=by omega
  have eb:(b:Int)+(k:Int)=((b+k:Nat):Int):=by omega
  rw[eb]
  have no1:(Z60 ra t L).lookup ("find_at":Str)=none:=Zgx (by decide +kernel)
  cases hF1 with
  |out h=>omega
  |hit _ hw =>
   refine(Z9 rfl ⟨s,dx,Z9 rfl ⟨hs1,no1,Z9 rfl ⟨s,dx,ra,t,b+k,n,N1,L,p,_,rfl,hs1,hra.mono g1.tups,hnm,hcnt,hn,ht,hbk,by omega,hw,hN1,fun v H2 L2 hv hs2 hL2 g2=>?_⟩⟩⟩)
   obtain⟨a,gv,rfl,ha,hg⟩:=id hv
   refine(Z9 rfl (Z9 rfl (Zp (by simp) ?_)))
   exact Z9 rfl (q _ H2 L2 hv hs2 (fun x e=>by cases e;show(1000000:Int)-40001*(((b+k:Nat):Int)+1)<=L2;omega) (g1.trans g2))
  | @go _ _ N2 N3 _ hw hF2 =>
   refine(Z9 rfl ⟨s,dx,Z9 rfl ⟨hs1,no1,Z9 rfl ⟨s,dx,ra,t,b+k,n,N2,L,p,_,rfl,hs1,hra.mono g1.tups,hnm,hcnt,hn,ht,hbk,by omega,hw,by omega,fun v H2 L2 hv hs2 hL2 g2=>?_⟩⟩⟩)
   obtain rfl:v=V.non:=hv
   refine(Z9 rfl (Z9 rfl (Zf (by decide) ?_)))
   exact⟨_,_,N3,L2,rfl,hs2,by omega,hF2,by omega,g1.trans g2⟩
 ·rintro σ H1 ⟨u,v,N1,L,rfl,hs1,hL,hF1,hN1,g1⟩
  cases hF1 with
  |out _=>exact q .non H1 L rfl hs1 (fun x e=>by cases e) g1
  |hit h _=>omega
  |go h _ _=>omega
end
def Z90(x:Nat×Yd):Nat:=x.2.1+if x.2.1=x.1 then 1 else 0
theorem Zg0(x:Nat×Yd):(x.2.1:Int)+(if decide ((x.2.1:Int)=x.1)=true then 1 else 0)=(Z90 x:Int):=by
 unfold Z90
 by_cases h:x.2.1=x.1
 ·rw[if_pos h,if_pos (decide_eq_true (by omega))];rfl
 ·rw[if_neg h,if_neg (by rw[decide_eq_false (by omega)];decide)];rfl
inductive Fds(t:Str)(n:Nat)(p:Pat):Nat->List (Nat×Yd)->Nat->Prop
 |out {s:Nat}:t.length<s->Fds t n p s [] 0
 |no {s N:Nat}:s<=t.length->Fd t n p s none N->Fds t n p s [] N
 |more {s:Nat} {x:Nat×Yd} {xs:List (Nat×Yd)} {N N':Nat}:s<=t.length->Fd t n p s (some x) N->s<=x.1->x.1<=x.2.1->x.2.1<=t.length->Fds t n p (Z90 x) xs N'->Fds t n p s (x::xs) (N+N')
def Zbo(H:Hp)(v:V)(x:Nat×Yd):Prop:=FnA H v (some x)
theorem X9{H H':Hp}(tm:Tm H H'){vs:List V}{xs:List (Nat×Yd)}(h:Paired (Zbo H) vs xs):Paired (Zbo H') vs xs:=Paired.mapP h fun _ _ q=>FnA.mono (r:=some _) tm q
theorem Paired.snoc{α β:Type}{F:α->β->Prop}{a:α}{b:β}(h:F a b):∀ {xs:List α} {ys:List β},Paired F xs ys->Paired F (xs++[a]) (ys++[b])
 | [],_,.nil=>.cons h .nil
 |_::_,_,.cons h' r=>.cons h' (Paired.snoc h r)
section
variable{P:Program}{w:World}{K:W.Frag}{mg:Str->Option Value}{base:Heap}{f C:Addr}{fd:FuncData}{CS:Addr}
inductive spFindsI(vs:List V)(H:Hp)(Q:VK):Prop
 |mk (v0 gv:V) (p:Pat) (t:Str) (n:Nat) (f:Int) (lf:Addr) (_:vs=[v0,.str t,gv,.ref lf]) (_:PatAt H 7 v0 p) (_:p.nm n) (_:t.length<=8) (_:n<=900) (_:GsAt H gv (List.replicate n none)) (_:H lf=some (.lst [.int f])) (_:f<=1500)
  (_:∀(l:Addr) (us:List V) (xs:List (Nat×Yd)) (N:Nat) (H':Hp),H' l=some (.lst us)->Paired (Zbo H') us xs->(∀x∈xs,x.1<=x.2.1/\x.2.1<=t.length/\x.2.2.length=n)->xs.length<=9->(0<=f-N->Fds t n p 0 xs N)->H' lf=some (.lst [.int (f-N)])->H l=none->Gro [lf] H H'->Q (.ref l) H')
def Z53:Sp:=fun vs H Q _=>spFindsI vs H Q
abbrev J4:Stmt:=top 73
theorem sc_l_finds:FnScope ["_law_p","_law_text_here","_law_g","_law_left","_law_finds_here","_law_start","_law_one"] ["_law_p","_law_text_here","_law_g","_law_left"] (Za J4):=V7
theorem Zcd(T:Blt mg)(O_l_find:Own P w K mg base 213 "_law_find" ["_law_p","_law_text_here","_law_g","_law_left","_law_start"] Z8r)(F:Fun K "_law_finds" "_law_finds" J4 f fd):FnOk P w K mg base W3 214 f fd ["_law_p","_law_text_here","_law_g","_law_left"] Z53:=by
 refine F.ok sc_l_finds (fun vs H Q E h=>?_) (fun cdv A outer s H vs Q E hr h=>?_)
 ·obtain⟨v0,gv,p,t,n,f0,lf,rfl,_⟩:=h
  rfl
 obtain⟨v0,gv,p,t,n,f0,lf,rfl,hp,hnm,ht,hn,hg,hlf,hf,q⟩:=h
 refine V6 ?_
 intro Xz
 refine⟨_,(Z1 (pS 4 sc_l_finds.nd (Y4 Z3))
  (Z1 (pS 5 sc_l_finds.nd Z4)
  (Z1 (Ur PassesOwn.never (Zb Zai (pv 5) (Zy Yh rfl T.b_len PyProof.Rows.Boot.«len» (Z0 (pv 1) Z3)) (Ze _)) (Z1 (pS 6 sc_l_finds.nd (Zj (O_l_find.mono (by omega)) hr rfl (Z0 (pv 0) (Z0 (pv 1) (Z0 (pv 2) (Z0 (pv 3) (Z0 (pv 5) Z3)))))))
  (Z1 (Zs (Ug (Th (pv 6))) (Z5 (Zl (pv 4))) Zk)
  (Z1 (Zn (Yw PySem.F.plainAttrs_list PySem.F.slot_list_append PySem.F.type_list_append Zz (pv 4) (Z0 (pv 6) Z3)))
  (Z5 (pS 5 sc_l_finds.nd (Zx Yn (Zd Zc (pv 6) Z4 (fun _ _=>rfl)) (Yu Jf rfl T.b_int PyProof.Rows.Boot.«int» (Z0 (X7 Zv (Zd Zc (pv 6) Z4 (fun _ _=>rfl)) (Zd Zc (pv 6) Z4 (fun _ _=>rfl)) (Ze _)) Z3)))))))))
  (Z5 (Zl (pv 4)))))),?_⟩
 refine Zhi ?_
 intro Ez Az1 Az2 Az3 Az4 Az5 Az6 Az7 Az8
 refine⟨sz,fun l hl=>?_⟩
 have gl:=Gro.new (S:=[]) hl (.lst [])
 have ll:lf≠l:=Z7 hlf hl
 have el:(Zq H l (.lst [])) l=some (.lst []):=Z2
 have hlf1:=gl.keep _ _ hlf (by simp)
 have gl':Gro [lf] H (Zq H l (.lst [])):=gl.mono (by simp)
 have new:∀a o,H a=some o->a≠l:=fun a o h=>Z7 h hl
 generalize Zq H l (.lst [])=H1 at *
 refine⟨fun μ σ H'=>∃(st N:Nat) (us:List V) (xs:List (Nat×Yd)) (u:Option V),σ=[some v0,some (.str t),some gv,some (.ref lf),some (.ref l),some (.int st),u]/\μ=9+1-st/\st<=t.length+1/\xs.length<=st/\H' l=some (.lst us)/\Paired (Zbo H') us xs/\(∀x∈xs,x.1<=x.2.1/\x.2.1<=t.length/\x.2.2.length=n)/\H' lf=some (.lst [.int (f0-N)]) /\
   (0<=f0-N->∀ys N',Fds t n p st ys N'->Fds t n p 0 (xs++ys) (N+N'))/\Gro [lf,l] H1 H',
  ⟨10,0,0,[],[],none,rfl,rfl,by omega,Nat.le_refl _,el,.nil,fun x h=>by simp at h,by rw[hlf1];simp,fun _ ys N' h=>by simpa using h,Gro.refl⟩,?_⟩
 rintro μ σ H2 ⟨st,N,us,xs,u,rfl,rfl,hst,hxl,hl2,hus,hgd,hf2,hR,g2⟩
 have gH:Gro [lf] H H2:=⟨fun a o h hx=>g2.keep a o (gl'.keep a o h hx) (by simp at hx;simp[hx,new a o h]),fun a ys h=>g2.tups _ _ (gl'.tups _ _ h)⟩
 refine(Z9 rfl (Z9 rfl ⟨t,rfl,Y5 (by omega),Xy rfl rfl (Z9 rfl ?_)⟩))
 by_cases hlt:st<=t.length
 ·rw[decide_eq_true (show(st:Int)<=t.length by omega)]
  refine Te ⟨fun σ' H'=>∃(st' N:Nat) (us:List V) (xs:List (Nat×Yd)) (u:Option V),st<st'/\σ'=[some v0,some (.str t),some gv,some (.ref lf),some (.ref l),some (.int st'),u]/\st'<=t.length+1/\xs.length<=st'/\H' l=some (.lst us)/\Paired (Zbo H') us xs/\(∀x∈xs,x.1<=x.2.1/\x.2.1<=t.length/\x.2.2.length=n)/\H' lf=some (.lst [.int (f0-N)]) /\
   (0<=f0-N->∀ys N',Fds t n p st' ys N'->Fds t n p 0 (xs++ys) (N+N'))/\Gro [lf,l] H1 H',fun σ' H' hh=>?_,?_⟩
  ·obtain⟨st',N,us,xs,u,h1,h2,h3,h4,h5⟩:=hh
   exact⟨9+1-st',by omega,st',N,us,xs,u,h2,rfl,h3,h4,h5⟩
  refine(Z9 rfl (Z9 rfl (Z9 rfl (Z9 rfl (Z9 rfl ⟨v0,gv,p,t,st,n,f0-N,lf,rfl,hp.mono gH.tups,hnm,ht,by omega,hn,hg.mono gH.tups,hf2,by omega,fun v r N1 H3 hv hgr hF hl3 g3=>?_⟩)))))
  have el3:f0-(N:Int)-(N1:Int)=f0-((N+N1:Nat):Int):=by omega
  rw[el3]at hl3 hF
  have hl3':=g3.keep _ _ hl2 (by simpa using Ne.symm ll)
  cases r with
  |none =>
   obtain rfl:v=V.non:=hv
   refine(Z9 rfl (Z9 rfl (Zp rfl ?_)))
   refine Z9 rfl (q l us xs (N+N1) H3 hl3' (X9 g3.tups hus) hgd (by omega) (fun h0=>?_) hl3 hl (gH.trans g3))
   have:=hR (by omega) [] N1 (.no hlt (hF h0))
   simpa using this
  |some x =>
   obtain⟨a,gv9,rfl,ha,hg9⟩:=id hv
   have hx:=hgr x rfl
   refine(Z9 rfl (Z9 rfl (Zf (by simp) ?_)))
   refine(Z9 rfl ⟨.inl ⟨rfl,us,SqL.of hl3'⟩,Z9 rfl ⟨l,us,_,rfl,rfl,hl3',Nat.lt_of_lt_of_le (by rw[Paired.length hus];omega) (Y5 (Nat.le_refl 1000)),?_⟩⟩)
   have g4:Gro [l] H3 (Zq H3 l (.lst (us++[.ref a]))):=Gro.set (by simp) hl3' _
   have ha4:=g4.tups _ _ ha
   have hl4:(Zq H3 l (.lst (us++[.ref a]))) l=some (.lst (us++[.ref a])):=Z2
   have hlf4:=g4.keep _ _ hl3 (by simpa using ll)
   generalize Zq H3 l (.lst (us++[.ref a]))=H4 at *
   refine(Ys ha4 rfl (Ys ha4 rfl (Ys ha4 Vw ⟨rfl,.inr (Z9 rfl (Xy rfl rfl ?_))⟩)))
   have hd:(if decide (V.int (x.2.1:Int)=V.int (x.1:Int))=true then(1:Int) else 0)=(if decide ((x.2.1:Int)=x.1)=true then 1 else 0):=by
    by_cases h:(x.2.1:Int)=x.1
    ·rw[if_pos (decide_eq_true (by rw[h])),if_pos (decide_eq_true h)]
    ·rw[if_neg (by rw[decide_eq_false (fun z=>h (by injection z))];decide),if_neg (by rw[decide_eq_false h];decide)]
   refine⟨Z90 x,N+N1,us++[.ref a],xs++[x],some (.ref a),?_,?_,?_,?_,hl4,Paired.snoc (F:=Zbo H4) (FnA.mono (r:=some x) g4.tups hv) (X9 g4.tups (X9 g3.tups hus)),?_,hlf4,fun h0 ys N' hys=>?_,g2.trans ((g3.mono (by simp)).trans (g4.mono (by simp)))⟩
   ·unfold Z90;split <;> omega
   ·rw[hd,← Zg0 x];rfl
   ·unfold Z90;split <;> omega
   ·have h9:st<Z90 x:=by unfold Z90;split <;> omega
    rw[List.length_append]
    show xs.length+1<=_
    omega
   ·intro y hy
    rcases List.mem_append.mp hy with hy | hy
    ·exact hgd y hy
    ·rw[List.mem_singleton.mp hy]
     exact⟨hx.2.1,hx.2.2.1,hx.2.2.2⟩
   ·rw[List.append_assoc,Nat.add_assoc]
    exact hR (by omega) _ _ (.more hlt (hF h0) hx.1 hx.2.1 hx.2.2.1 hys)
 ·rw[decide_eq_false (show ¬(st:Int)<=t.length by omega)]
  refine Ju ?_
  refine Z9 rfl (q l us xs N H2 hl2 hus hgd (by omega) (fun h0=>?_) hf2 hl gH)
  have:=hR h0 [] 0 (.out (by omega))
  simpa using this
inductive spAllI(vs:List V)(H:Hp)(Q:VK):Prop
 |mk (v:V) (t:Str) (n N:Nat) (p:Pat) (xs:List (Nat×Yd)) (_:vs=[v,.str t,.int 1000000]) (_:PatAt H 8 v p) (_:p.size<=20000) (_:p.nm n) (_:Z1n ((Yp p).map Op.rw)=n) (_:n<=9) (_:t.length<=8) (_:Fds t n p 0 xs N) (_:N<=1500)
  (_:∀(l:Addr) (us:List V) (H':Hp),H' l=some (.lst us)->Paired (Zbo H') us xs->H l=none->Gro [] H H'->Q (.ref l) H')
def Zeh:Sp:=fun vs H Q _=>spAllI vs H Q
def Nx(t:Str)(n:Nat)(p:Pat)(s:Nat)(r:Option (Nat×Yd))(xs:List (Nat×Yd)):Prop:=(r=none/\xs=[])∨∃(x:Nat×Yd) (ys:List (Nat×Yd)) (N:Nat),r=some x/\xs=x::ys/\s<=x.1/\x.1<=x.2.1/\x.2.1<=t.length/\Fds t n p (Z90 x) ys N/\N<=1500
theorem Fds.step{t:Str}{n:Nat}{p:Pat}{s N:Nat}{xs:List (Nat×Yd)}(h:Fds t n p s xs N)(hB:N<=1500):∃(r:Option (Nat×Yd)) (N1:Nat),Fd t n p s r N1/\N1<=1500/\Nx t n p s r xs:=by
 cases h with
 |out h=>exact⟨none,0,.out h,by omega,.inl ⟨rfl,rfl⟩⟩
 |no h hF=>exact⟨none,_,hF,hB,.inl ⟨rfl,rfl⟩⟩
 | @more _ x ys N1 N2 h hF h1 h2 h3 hr=>exact⟨some x,N1,hF,by omega,.inr ⟨x,ys,N2,rfl,rfl,h1,h2,h3,hr,by omega⟩⟩
theorem Zix(x:Nat×Yd)(h:x.1<=x.2.1):x.1+1<=Z90 x/\Z90 x<=x.2.1+1:=by
 unfold Z90
 split <;> omega
structure AllJ(CS s dx ra l:Addr)(t:Str)(n:Nat)(p:Pat)(xs:List (Nat×Yd))(H0:Hp)(st:Nat)(v:V)(r:Option (Nat×Yd))(ys:List (Nat×Yd))(H:Hp):Prop where
 dn:∃(zs:List (Nat×Yd)) (us:List V),xs=zs++ys/\zs.length<=st/\H l=some (.lst us)/\Paired (Zbo H) us zs
 nx:Nx t n p st r ys
 fn:FnA H v r
 ob:∃L,H s=some (.ins CS dx (Z60 ra t L))/\∀x,r=some x->1000000-40001*((x.1:Int)+1)<=L
 rs:RsAt H ra p
 gr:Gro [s,l] H0 H
abbrev U8:Stmt:=top 46
theorem sc_all_finds:FnScope ["pattern","text","most","seeker","finds","find","took_nothing"] ["pattern","text","most"] (Za U8):=V7
theorem Ziw(MTS:TxtS K CS)(O_Seeker:OwnC P w K mg base 28 CS "Seeker" ["self","pattern","text","most"] (Z51 CS))(O_Seeker_first_from:OwnM P w K mg base 8 CS "first_from" ["self","start"] (Z8p C CS))(F:Fun K "all_finds" "all_finds" U8 f fd):FnOk P w K mg base W3 30 f fd ["pattern","text","most"] Zeh:=by
 refine F.ok sc_all_finds (fun vs H Q E h=>?_) (fun cdv A outer s H vs Q E hr h=>?_)
 ·obtain⟨v,t,n,N,p,xs,rfl,_⟩:=h
  rfl
 obtain⟨v0,t,n,N,p,xs,rfl,hp,hz,hnm,hcnt,hn,ht,hF,hN,q⟩:=h
 refine V6 ?_
 intro Xz
 refine⟨_,(Z1 (pS 3 sc_all_finds.nd (Z9e (O_Seeker.mono (by omega)) hr rfl (Z0 (pv 0) (Z0 (pv 1) (Z0 (pv 2) Z3)))))
  (Z1 (pS 4 sc_all_finds.nd (Y4 Z3))
  (Z1 (pS 5 sc_all_finds.nd (X6 (O_Seeker_first_from.mono (by omega)) MTS.cl hr (pv 3) (Z0 Z4 Z3)))
  (Z1 (Ur PassesOwn.never (Ug (Z57 (pv 5))) (Z1 (Zn (Yw PySem.F.plainAttrs_list PySem.F.slot_list_append PySem.F.type_list_append Zz (pv 4) (Z0 (pv 5) Z3)))
  (Z1 (pS 6 sc_all_finds.nd (X7 Zv (Zd Zc (pv 5) Z4 (fun _ _=>rfl)) (Zd Zc (pv 5) Z4 (fun _ _=>rfl)) (Ze _)))
  (Z5 (pS 5 sc_all_finds.nd (X6 (O_Seeker_first_from.mono (by omega)) MTS.cl hr (pv 3) (Z0 (W5 (Wo (pv 6)) (Zx Yn (Zd Zc (pv 5) Z4 (fun _ _=>rfl)) Z4) (Zd Zc (pv 5) Z4 (fun _ _=>rfl))) Z3)))))))
  (Z5 (Zl (pv 4))))))),?_⟩
 refine Zhh ?_
 intro Ez Az1 Az2 Az3 Az4 Az5 Az6 Az7
 refine(Z9 rfl (Z9 rfl (Z9 rfl (fun m dx hm hdx hne=>?_))))
 have g1:Gro [] H (Zq (Zq H dx (.own m)) m (.ins CS dx [])):=(Gro.new hdx _).trans (Gro.new (by rw[Zi (Ne.symm hne)];exact hm) _)
 have e1:(Zq (Zq H dx (.own m)) m (.ins CS dx [])) m=some (.ins CS dx []):=Z2
 generalize Zq (Zq H dx (.own m)) m (.ins CS dx [])=H1 at *
 refine⟨m,dx,v0,t,_,p,rfl,e1,hp.mono g1.tups,hz,fun ra H2 hs2 hra2 g2=>⟨rfl,?_⟩⟩
 have g12:Gro [] H H2:=⟨fun a o h _=>g2.keep a o (g1.keep a o h (by simp)) (by simpa using Z7 h hm),fun a xs h=>g2.tups _ _ (g1.tups _ _ h)⟩
 refine⟨sz,fun l hl=>?_⟩
 have g3:=Gro.new (S:=[]) hl (.lst [])
 have hln:H l=none:=by
  cases h:H l with
  |none=>rfl
  |some o=>rw[g12.keep _ _ h (by simp)]at hl;cases hl
 have hl3:(Zq H2 l (.lst [])) l=some (.lst []):=Z2
 have hs3:=g3.keep _ _ hs2 (by simp)
 have hra3:=hra2.mono g3.tups
 have ml:m≠l:=Z7 hs2 hl
 have g13:Gro [] H (Zq H2 l (.lst [])):=g12.trans g3
 generalize Zq H2 l (.lst [])=H3 at *
 have no1:∀L:Int,(Z60 ra t L).lookup ("first_from":Str)=none:=fun L=>Zgx (by decide +kernel)
 obtain⟨r,N1,hF1,hN1,hr1⟩:=hF.step hN
 refine(Z9 rfl ⟨m,dx,Z9 rfl ⟨hs3,no1 _,m,dx,ra,t,0,n,N1,1000000,p,r,rfl,hs3,by omega,hra3,hnm,hcnt,hn,ht,by omega,hF1,by omega,fun v2 H4 L4 hv4 hs4 hL4 g4=>?_⟩⟩)
 have fin:∀(us:List V) (H':Hp),H' l=some (.lst us)->Paired (Zbo H') us xs->Gro [m,l] H3 H'->Q (.ref l) H':=fun us H' h1 h2 g=>q l us H' h1 h2 hln ⟨fun a o h _=>g.keep a o (g13.keep a o h (by simp)) (by
  have h3:a≠m:=Z7 h hm
  have h4:a≠l:=fun z=>by rw[z,hln]at h;cases h
  simp[h3,h4]),fun a ys h=>g.tups _ _ (g13.tups _ _ h)⟩
 refine⟨fun μ σ H'=>∃(st:Nat) (v:V) (r:Option (Nat×Yd)) (ys:List (Nat×Yd)) (u:Option V),σ=[some v0,some (.str t),some (.int 1000000),some (.ref m),some (.ref l),some v,u]/\μ=10-st/\AllJ CS m dx ra l t n p xs H3 st v r ys H',
  ⟨10,0,v2,r,xs,none,rfl,rfl,⟨⟨[],[],rfl,Nat.le_refl _,g4.keep _ _ hl3 (by simpa using Ne.symm ml),.nil⟩,hr1,hv4,⟨L4,hs4,hL4⟩,hra3.mono g4.tups,g4.mono (by simp)⟩⟩,?_⟩
 rintro μ σ H5 ⟨st,v,r,ys,u,rfl,rfl,⟨zs,us,hxs,hzl,hl5,hus⟩,hnx,hfn,⟨L,hs5,hL⟩,hrs,gr⟩
 rcases hnx with⟨rfl,rfl⟩ | ⟨x,ys',N2,rfl,rfl,h1,h2,h3,hF2,hN2⟩
 ·obtain rfl:v=V.non:=hfn
  refine(Z9 rfl (Z9 rfl (Zf (by decide) ?_)))
  exact Z9 rfl (fin us H5 hl5 (by rw[hxs,List.append_nil];exact hus) gr)
 obtain⟨a,gv9,rfl,ha,hg9⟩:=id hfn
 refine(Z9 rfl (Z9 rfl (Zp (by simp) ⟨fun σ' H'=>∃(st':Nat) (v:V) (r:Option (Nat×Yd)) (ys:List (Nat×Yd)) (u:Option V),st<st'/\σ'=[some v0,some (.str t),some (.int 1000000),some (.ref m),some (.ref l),some v,u]/\AllJ CS m dx ra l t n p xs H3 st' v r ys H',fun σ' H' hh=>?_,?_⟩)))
 ·obtain⟨st',v',r',ys2,u',k1,k2,k3⟩:=hh
  exact⟨10-st',by omega,st',v',r',ys2,u',k2,rfl,k3⟩
 have hul:us.length<=100:=by rw[Paired.length hus];omega
 refine(Z9 rfl ⟨.inl ⟨rfl,us,SqL.of hl5⟩,Z9 rfl ⟨l,us,_,rfl,rfl,hl5,Nat.lt_of_lt_of_le (by omega) (Y5 (Nat.le_refl 1000)),?_⟩⟩)
 have g6:Gro [l] H5 (Zq H5 l (.lst (us++[.ref a]))):=Gro.set (by simp) hl5 _
 have ha6:=g6.tups _ _ ha
 have hl6:(Zq H5 l (.lst (us++[.ref a]))) l=some (.lst (us++[.ref a])):=Z2
 have hs6:=g6.keep _ _ hs5 (by simpa using ml)
 have hus6:Paired (Zbo (Zq H5 l (.lst (us++[.ref a])))) (us++[.ref a]) (zs++[x]):=Paired.snoc (F:=Zbo _) (FnA.mono (r:=some x) g6.tups hfn) (X9 g6.tups hus)
 have hrs6:=hrs.mono g6.tups
 generalize Zq H5 l (.lst (us++[.ref a]))=H6 at *
 refine(Ys ha6 Vw (Ys ha6 rfl ⟨rfl,?_⟩))
 obtain⟨r2,N3,hF3,hN3,hnx3⟩:=hF2.step hN2
 have hgt:=Zix x h2
 have hLx:=hL x rfl
 have nl:l∉[m]:=by simpa using Ne.symm ml
 refine(Z9 rfl ⟨m,dx,Z9 rfl ⟨hs6,no1 _,?_⟩⟩)
 by_cases heq:x.1=x.2.1
 ·have e:(x.2.1:Int)+1=(Z90 x:Int):=by unfold Z90;rw[if_pos heq.symm];omega
  refine(Z9 rfl (Z9 rfl (Zp (decide_eq_true (by rw[heq])) (Ys ha6 rfl (Xy rfl rfl ⟨m,dx,ra,t,Z90 x,n,N3,L,p,r2,congrArg (fun z=>[V.ref m,V.int z]) e,hs6,by omega,hrs6,hnm,hcnt,hn,ht,by omega,hF3,hN3,fun v7 H7 L7 hv7 hs7 hL7 g7=>?_⟩)))))
  exact⟨Z90 x,v7,r2,ys',_,by omega,rfl,⟨zs++[x],us++[.ref a],by rw[hxs,List.append_assoc];rfl,by rw[List.length_append];show zs.length+1<=_;omega,g7.keep _ _ hl6 nl,X9 g7.tups hus6⟩,hnx3,hv7,⟨L7,hs7,hL7⟩,hrs6.mono g7.tups,gr.trans ((g6.mono (by simp)).trans (g7.mono (by simp)))⟩
 ·have e:(x.2.1:Int)=(Z90 x:Int):=by unfold Z90;rw[if_neg (fun z=>heq z.symm)];rfl
  refine(Z9 rfl (Z9 rfl (Zf (fun z=>heq (by have z':=of_decide_eq_true z;injection z' with z';omega)) (Ys ha6 rfl ⟨m,dx,ra,t,Z90 x,n,N3,L,p,r2,congrArg (fun z=>[V.ref m,V.int z]) e,hs6,by omega,hrs6,hnm,hcnt,hn,ht,by omega,hF3,hN3,fun v7 H7 L7 hv7 hs7 hL7 g7=>?_⟩))))
  exact⟨Z90 x,v7,r2,ys',_,by omega,rfl,⟨zs++[x],us++[.ref a],by rw[hxs,List.append_assoc];rfl,by rw[List.length_append];show zs.length+1<=_;omega,g7.keep _ _ hl6 nl,X9 g7.tups hus6⟩,hnx3,hv7,⟨L7,hs7,hL7⟩,hrs6.mono g7.tups,gr.trans ((g6.mono (by simp)).trans (g7.mono (by simp)))⟩
end
def tx(t:Str):Int->List (Nat×Yd)->List Str
 |e,[]=>[Txt.slice t (some e) none]
 |e,x::xs=>Txt.slice t (some e) (some x.1)::tx t x.2.1 xs
theorem Zda(t:Str):∀(xs:List (Nat×Yd)) (e:Int),(tx t e xs).length=xs.length+1
 | [],_=>rfl
 |_::xs,_=>congrArg (· + 1) (Zda t xs _)
theorem Zey{t:Str}{e:Int}{ys:List Str}{xs:List (Nat×Yd)}{k:Nat}{x:Nat×Yd}(h:tx t 0 xs=ys++tx t e (xs.drop k))(hx:xs[k]? = some x):tx t 0 xs=(ys++[Txt.slice t (some e) (some x.1)])++tx t x.2.1 (xs.drop (k+1)):=by
 rw[h,List.drop_eq_getElem_cons (List.getElem?_eq_some_iff.mp hx).1,(List.getElem?_eq_some_iff.mp hx).2,List.append_assoc]
 rfl
theorem Zh6{t:Str}{e:Int}{ys:List Str}{xs:List (Nat×Yd)}{k:Nat}(h:tx t 0 xs=ys++tx t e (xs.drop k))(hk:xs.length<=k):tx t 0 xs=ys++[Txt.slice t (some e) none]:=by
 rw[h,List.drop_of_length_le hk]
 rfl
theorem Z0f{ys:List Str}{y:Str}:ys.map V.str++[V.str y]=(ys++[y]).map V.str:=by simp
section
variable{P:Program}{w:World}{K:W.Frag}{mg:Str->Option Value}{base:Heap}{f C CS:Addr}{fd:FuncData}
inductive spAroundI(vs:List V)(H:Hp)(Q:VK):Prop
 |mk (t:Str) (l:Addr) (us:List V) (xs:List (Nat×Yd)) (_:vs=[.str t,.ref l]) (_:H l=some (.lst us)) (_:Paired (Zbo H) us xs) (_:t.length<=1000) (_:us.length<=100) (_:∀(r:Addr) (H':Hp),H' r=some (.lst ((tx t 0 xs).map V.str))->H r=none->Gro [] H H'->Q (.ref r) H')
def Z2s:Sp:=fun vs H Q _=>spAroundI vs H Q
abbrev Wb:Stmt:=top 48
theorem sc_texts_around:FnScope ["text","finds","texts","end","find"] ["text","finds"] (Za Wb):=V7
theorem Zb5(F:Fun K "texts_around" "texts_around" Wb f fd):FnOk P w K mg base W3 1 f fd ["text","finds"] Z2s:=by
 refine F.ok sc_texts_around (fun vs H Q E h=>?_) (fun cdv A outer s H vs Q E hr h=>?_)
 ·obtain⟨t,l,us,xs,rfl,_⟩:=h
  rfl
 obtain⟨t,l,us,xs,rfl,hl,hu,ht,hul,q⟩:=h
 refine V6 ?_
 intro Xz
 refine⟨_,(Z1 (pS 2 sc_texts_around.nd (Y4 Z3))
  (Z1 (pS 3 sc_texts_around.nd Z4)
  (Z1 (Xr PassesOwn.never rfl (Vn (pv 1)) (pN 4 sc_texts_around.nd) (Z1 (Zn (Yw PySem.F.plainAttrs_list PySem.F.slot_list_append PySem.F.type_list_append Zz (pv 2) (Z0 (Y9 V8 (pv 0) (Y2 (pv 3)) (Y2 (Zd Zc (pv 4) Z4 (fun _ _=>rfl)))) Z3)))
  (Z5 (pS 3 sc_texts_around.nd (Zd Zc (pv 4) Z4 (fun _ _=>rfl))))))
  (Z1 (Zn (Yw PySem.F.plainAttrs_list PySem.F.slot_list_append PySem.F.type_list_append Zz (pv 2) (Z0 (Y9 V8 (pv 0) (Y2 (pv 3)) Xs) Z3)))
  (Z5 (Zl (pv 2))))))),?_⟩
 refine Zhx ?_
 intro Ez Az1 Az2 Az3 Az4 Az5 Az6
 refine⟨sz,fun r hr0=>?_⟩
 have g1:=Gro.new (S:=[]) hr0 (.lst [])
 have hl1:=g1.keep _ _ hl (by simp)
 have hu1:=X9 g1.tups hu
 have hr1:(Zq H r (.lst [])) r=some (.lst []):=Z2
 have lr:l≠r:=Z7 hl hr0
 generalize Zq H r (.lst [])=H1 at *
 have hel:=Paired.length hu
 refine(Z9 rfl ⟨l,rfl,⟨us,SqL.of hl1⟩,?_⟩)
 refine J0 (xs:=us) (fun k σ H'=>∃(e:Int) (ys:List Str) (u:Option V),σ=[some (.str t),some (.ref l),some (.ref r),some (.int e),u]/\H' r=some (.lst (ys.map V.str))/\ys.length=k/\tx t 0 xs=ys++tx t e (xs.drop k)/\Gro [r] H1 H')
  ⟨0,[],none,rfl,hr1,rfl,rfl,Gro.refl⟩ (fun k σ H' _ hh=>by obtain⟨_,_,_,_,_,_,_,g⟩:=hh;exact SqL.of (g.keep _ _ hl1 (by simpa using lr))) ?_ ?_
 ·rintro k v σ H2 hv ⟨e,ys,u,rfl,hr2,hyl,htx,g2⟩
  obtain⟨x,hx,hF⟩:=Y0 (X9 g2.tups hu1) hv
  obtain⟨a,gv,rfl,ha,_⟩:=hF
  have hk:k<us.length:=(List.getElem?_eq_some_iff.mp hv).1
  refine(Z9 rfl ⟨.inl ⟨rfl,_,SqL.of hr2⟩,Z9 rfl (Z9 rfl (Z9 rfl (Ys ha Vw (Z9 rfl (Z9 rfl ⟨Y5 ht,r,_,_,rfl,rfl,hr2,Nat.lt_of_lt_of_le (by rw[List.length_map];omega) (Y5 (Nat.le_refl 1000)),?_⟩)))))⟩)
  have g3:Gro [r] H2 _:=Gro.set (by simp) hr2 (.lst (ys.map V.str++[.str (Txt.slice t (some e) (some (x.1:Int)))]))
  exact Ys (g3.tups _ _ ha) rfl ⟨_,ys++[Txt.slice t (some e) (some (x.1:Int))],_,rfl,by rw[Z2,Z0f],by rw[List.length_append,hyl];rfl,Zey htx hx,g2.trans g3⟩
 ·rintro σ H2 ⟨e,ys,u,rfl,hr2,hyl,htx,g2⟩
  refine(Z9 rfl ⟨.inl ⟨rfl,_,SqL.of hr2⟩,Z9 rfl (Z9 rfl (Z9 rfl (Z9 rfl ⟨Y5 ht,r,_,_,rfl,rfl,hr2,Nat.lt_of_lt_of_le (by rw[List.length_map];omega) (Y5 (Nat.le_refl 1000)),?_⟩)))⟩)
  have g3:Gro [r] H2 _:=Gro.set (by simp) hr2 (.lst (ys.map V.str++[.str (Txt.slice t (some e) none)]))
  have gg:=g2.trans g3
  refine Z9 rfl (q r _ ?_ hr0 ⟨fun a o h _=>gg.keep a o (g1.keep a o h (by simp)) (by simpa using Z7 h hr0),fun a zs h=>gg.tups _ _ (g1.tups _ _ h)⟩)
  rw[Z2,Z0f,← Zh6 htx (by omega)]
theorem Zcy{H H':Hp}{l:Addr}(g:Gro [] H H')(h:H' l=none):H l=none:=by
 cases e:H l with
 |none=>rfl
 |some o=>rw[g.keep _ _ e (by simp)]at h;cases h
abbrev Wv:List V:=[.str "times",.str "group",.str "once",.str "ahead",.str "notahead",.str "behind",.str "notbehind"]
def Z0u:Sp:=fun vs H Q _=>∃(d:Nat) (v:V) (h:Hd) (ks:List Pat),vs=[v]/\PatAt H (d+1) v (.node h ks)/\∀(r:Addr) (kv:List V) (H':Hp),H' r=some (.tup kv)->kv.length<=10->Paired (PatAt H' d) kv ks->Gro [] H H'->Q (.ref r) H'
abbrev Uy:Stmt:=top 42
theorem sc_parts_of:FnScope ["pattern","kind"] ["pattern"] (Za Uy):=V7
theorem Z66{pl:Addr}(Ts:mg "PART_LAST" = some (.ref pl))(hPL:∀H,SqT K H pl Wv)(F:Fun K "parts_of" "parts_of" Uy f fd):FnOk P w K mg base W3 1 f fd ["pattern"] Z0u:=by
 refine F.ok sc_parts_of (fun vs H Q E h=>?_) (fun cdv A outer s H vs Q E hr h=>?_)
 ·obtain⟨d,v,h,ks,rfl,_⟩:=h
  rfl
 obtain⟨d,v,h,ks,rfl,hp,q⟩:=h
 refine V6 ?_
 intro Xz
 refine⟨_,(Z1 (pS 1 sc_parts_of.nd (Zd Zc (pv 0) Z4 (fun _ _=>rfl)))
  (Z1 (Zs (PW.pt (T7 (Zb Zv (pv 1) Zg (Ze _)) (Vi (Zb Zv (pv 1) Zg (Ze _))))) (Z5 (Zl (Zd Zc (pv 0) Z4 (fun _ _=>rfl)))) Zk)
  (Z1 (Zs (Zb Zv (pv 1) Zg (Ze _)) (Z5 (Zl (Y9 Jz (pv 0) (Y2 Z4) Xs))) Zk)
  (Z1 (Zs (Zb Uo (pv 1) (Ud (v:=.ref _) rfl Ts rfl) (by with_unfolding_all rfl)) (Z5 (Zl (Y9 Jz (pv 0) (Y2 (Zah Z5k Z4)) Xs))) Zk)
  (Z5 (Zl (Zr Z3))))))),?_⟩
 refine Zid ?_
 intro Ez Az1 Az2 Az3 Az4 Az5 Az6 Az7
 obtain⟨a,kv,rfl,lay,hk⟩:=hp
 have q0:∀(r:Addr) (H':Hp),H' r=some (.tup kv)->kv.length<=10->Gro [] H H'->Q (.ref r) H':=fun r H' e z g=>q r kv H' e z (Vt g.tups hk) g
 have leaf:∀ {x:Str} {r:List V},kv=[]->H a=some (.tup (.str x::r))->decide (V.str x=V.str "row")=false->decide (V.str x=V.str "or")=false->decide (V.str x=V.str "have")=false->Zgm (.str x) Wv=false ->
   (Z8 (Z8i (Z3l (Uu K) (Xc 0) (tC (.int 0))) (Z0t 1)) (Z8 (Zo (Zln (Jk (Z3l Zk0 (Xc 1) (tC (.str "row")))) (Jk (Z3l Zk0 (Xc 1) (tC (.str "or"))))) (Z3q (Z3l (Uu K) (Xc 0) (tC (.int 1)))) Zh)
    (Z8 (Zo (Jk (Z3l Zk0 (Xc 1) (tC (.str "have")))) (Z3q (Zlh (Zaa K) (Xc 0) (Z7g (tC (.int 2))) Z0g)) Zh) (Z8 (Zo (Jk (Z3l (Zmt K false) (Xc 1) (tC (.ref pl)))) (Z3q (Zlh (Zaa K) (Xc 0) (Z7g (Zms (rU fun i=>.int (-i)) (tC (.int 1)))) Z0g)) Zh) (Z3q (Za9 Ub))))))
    { nx:=fun _ H'=>Q .non H',rt:=Q } [some (.ref a),none] H:=by
  intro x r e0 ea e1 e2 e3 e4
  refine⟨_,rfl,a,_,_,_,rfl,rfl,SqT.of ea,Vw,?_⟩
  refine⟨_,rfl,rfl,_,rfl,Zf (by rw[e1];decide) ⟨_,rfl,rfl,_,rfl,Zf (by rw[e2];decide) ?_⟩⟩
  refine⟨_,rfl,rfl,_,rfl,Zf (by rw[e3];decide) ?_⟩
  refine⟨_,rfl,pl,Wv,rfl,.inr (hPL _),rfl,rfl,_,rfl,Zf (by rw[e4];decide) ?_⟩
  exact⟨sz,fun p1 hp1=>q0 p1 _ (by rw[e0];exact Z2) (by simp[e0]) (Gro.new hp1 _)⟩
 have last:∀ {x:Str} {r:List V} {k:V},kv=[k]->H a=some (.tup (.str x::r))->Jv (.str x::r) (some (-1)) none=[k]->¬(HT.sIx (V.str x::r).length 0 (some (-1))=0/\HT.sIx (V.str x::r).length (V.str x::r).length none=(V.str x::r).length)->decide (V.str x=V.str "row")=false->decide (V.str x=V.str "or")=false->decide (V.str x=V.str "have")=false->Zgm (.str x) Wv=true ->
   (Z8 (Z8i (Z3l (Uu K) (Xc 0) (tC (.int 0))) (Z0t 1)) (Z8 (Zo (Zln (Jk (Z3l Zk0 (Xc 1) (tC (.str "row")))) (Jk (Z3l Zk0 (Xc 1) (tC (.str "or"))))) (Z3q (Z3l (Uu K) (Xc 0) (tC (.int 1)))) Zh)
    (Z8 (Zo (Jk (Z3l Zk0 (Xc 1) (tC (.str "have")))) (Z3q (Zlh (Zaa K) (Xc 0) (Z7g (tC (.int 2))) Z0g)) Zh) (Z8 (Zo (Jk (Z3l (Zmt K false) (Xc 1) (tC (.ref pl)))) (Z3q (Zlh (Zaa K) (Xc 0) (Z7g (Zms (rU fun i=>.int (-i)) (tC (.int 1)))) Z0g)) Zh) (Z3q (Za9 Ub))))))
    { nx:=fun _ H'=>Q .non H',rt:=Q } [some (.ref a),none] H:=by
  intro x r k e0 ea ec hw e1 e2 e3 e4
  refine⟨_,rfl,a,_,_,_,rfl,rfl,SqT.of ea,Vw,?_⟩
  refine⟨_,rfl,rfl,_,rfl,Zf (by rw[e1];decide) ⟨_,rfl,rfl,_,rfl,Zf (by rw[e2];decide) ?_⟩⟩
  refine⟨_,rfl,rfl,_,rfl,Zf (by rw[e3];decide) ?_⟩
  refine⟨_,rfl,pl,Wv,rfl,.inr (hPL _),rfl,rfl,_,rfl,Zp (by show Zgm _ _=true;exact e4) ?_⟩
  exact⟨_,rfl,_,rfl,_,rfl,a,_,rfl,SqT.of ea,hw,fun p1 hp1=>q0 p1 _ (by rw[e0,← ec];exact Z2) (by simp[e0]) (Gro.new hp1 _)⟩
 cases h with
 |sign s=>exact leaf lay.1 lay.2.2 (by decide +kernel) (by decide +kernel) (by decide +kernel) (by decide +kernel)
 |any=>exact leaf lay.1 lay.2 (by decide +kernel) (by decide +kernel) (by decide +kernel) (by decide +kernel)
 |inn rs =>
  obtain⟨e0,r,e,_⟩:=lay
  exact leaf e0 e (by decide +kernel) (by decide +kernel) (by decide +kernel) (by decide +kernel)
 |out rs =>
  obtain⟨e0,r,e,_⟩:=lay
  exact leaf e0 e (by decide +kernel) (by decide +kernel) (by decide +kernel) (by decide +kernel)
 |beg=>exact leaf lay.1 lay.2 (by decide +kernel) (by decide +kernel) (by decide +kernel) (by decide +kernel)
 |fin=>exact leaf lay.1 lay.2 (by decide +kernel) (by decide +kernel) (by decide +kernel) (by decide +kernel)
 |again n=>exact leaf lay.2.1 lay.2.2 (by decide +kernel) (by decide +kernel) (by decide +kernel) (by decide +kernel)
 |row =>
  obtain⟨z,r,e,er⟩:=lay
  refine⟨_,rfl,a,_,_,_,rfl,rfl,SqT.of e,Vw,?_⟩
  refine⟨_,rfl,rfl,_,rfl,Zp (by decide +kernel) (Te ?_)⟩
  exact⟨_,rfl,a,_,_,_,rfl,rfl,SqT.of e,rfl,q0 r H er z Gro.refl⟩
 |alt =>
  obtain⟨_,z,r,e,er⟩:=lay
  refine⟨_,rfl,a,_,_,_,rfl,rfl,SqT.of e,Vw,?_⟩
  refine⟨_,rfl,rfl,_,rfl,Zf (by decide +kernel) ⟨_,rfl,rfl,_,rfl,Zp (by decide +kernel) ?_⟩⟩
  exact⟨_,rfl,a,_,_,_,rfl,rfl,SqT.of e,rfl,q0 r H er z Gro.refl⟩
 |times lo hi how =>
  obtain⟨_,k,e0,e⟩:=lay
  exact last e0 e rfl (fun z=>absurd (show HT.sIx 5 0 (some (-1))=0 from z.1) (by decide +kernel)) (by decide +kernel) (by decide +kernel) (by decide +kernel) (by decide +kernel)
 |grp n =>
  obtain⟨_,k,e0,e⟩:=lay
  exact last e0 e rfl (fun z=>absurd (show HT.sIx 3 0 (some (-1))=0 from z.1) (by decide +kernel)) (by decide +kernel) (by decide +kernel) (by decide +kernel) (by decide +kernel)
 |hav n =>
  obtain⟨_,y,z,e0,e⟩:=lay
  refine⟨_,rfl,a,_,_,_,rfl,rfl,SqT.of e,Vw,?_⟩
  refine⟨_,rfl,rfl,_,rfl,Zf (by decide +kernel) ⟨_,rfl,rfl,_,rfl,Zf (by decide +kernel) ?_⟩⟩
  refine⟨_,rfl,rfl,_,rfl,Zp (by decide +kernel) ?_⟩
  exact⟨_,rfl,_,rfl,a,_,rfl,SqT.of e,fun z=>absurd (show HT.sIx 4 0 (some 2)=0 from z.1) (by decide +kernel),fun p1 hp1=>q0 p1 _ (by rw[e0];exact Z2) (by simp[e0]) (Gro.new hp1 _)⟩
 |look lk =>
  obtain⟨k,e0,e⟩:=lay
  cases lk <;> exact last e0 e rfl (fun z=>absurd (show HT.sIx 2 0 (some (-1))=0 from z.1) (by decide +kernel)) (by decide +kernel) (by decide +kernel) (by decide +kernel) (by decide +kernel)
def Zli(n:Nat):Sp:=fun vs H Q _=>∃(v:V) (p:Pat),vs=[v]/\PatAt H n v p/\∀H',Gro [] H H'->Q (.int p.groups) H'
def Hd.own:Hd->Int
 |.grp _=>1
 |_=>0
theorem Z6e(h:Hd)(ks:List Pat):(Pat.node h ks).groups=h.own+Y3 ks:=by cases h <;> simp[Pat.groups,Hd.own]
theorem Z6q(h:Hd):h.own=if decide (V.str h.word=V.str "group")=true then 1 else 0:=by
 cases h with
 |look lk=>cases lk <;> decide +kernel
 |sign s=>exact(if_neg (show ¬decide (V.str "sign" = V.str "group")=true by decide +kernel)).symm
 |inn s=>exact(if_neg (show ¬decide (V.str "in" = V.str "group")=true by decide +kernel)).symm
 |out s=>exact(if_neg (show ¬decide (V.str "out" = V.str "group")=true by decide +kernel)).symm
 |times a b c=>exact(if_neg (show ¬decide (V.str "times" = V.str "group")=true by decide +kernel)).symm
 |grp n=>exact(if_pos (show decide (V.str "group" = V.str "group")=true by decide +kernel)).symm
 |again n=>exact(if_neg (show ¬decide (V.str "again" = V.str "group")=true by decide +kernel)).symm
 |hav n=>exact(if_neg (show ¬decide (V.str "have" = V.str "group")=true by decide +kernel)).symm
 |_=>decide +kernel
def Zla(H:Hp)(n:Nat):TS:=fun D σ H1=>∃(v:V) (h:Hd) (ks:List Pat),H1=H/\σ=[some v,some (.int h.own)]/\PatAt H (n+1) v (.node h ks)/\∀H',Gro [] H H'->D.rt (.int (Pat.node h ks).groups) H'
abbrev V5:Stmt:=top 43
theorem sc_groups_in:FnScope ["pattern","own"] ["pattern"] (Za V5):=V7
theorem Z4p{n:Nat}(T:Blt mg)(O_parts_of:Own P w K mg base 1 "parts_of" ["pattern"] Z0u)(O_groups_in:Own P w K mg base (2+n) "groups_in" ["pattern"] (Zli n))(F:Fun K "groups_in" "groups_in" V5 f fd) :
  FnOk P w K mg base W3 (2+n+1) f fd ["pattern"] (Zli (n+1)):=by
 refine F.ok sc_groups_in (fun vs H Q E h=>?_) (fun cdv A outer s H vs Q E hr h=>?_)
 ·obtain⟨v,p,rfl,_⟩:=h
  rfl
 obtain⟨v,⟨h,ks⟩,rfl,hp,q⟩:=h
 refine V6 ?_
 intro Xz
 refine⟨_,(Z1 (pS 1 sc_groups_in.nd (W5 (Zb Zv (Zd Zc (pv 0) Z4 (fun _ _=>rfl)) Zg (Ze _)) Z4 Z4))
  (Va (Zla H n) (Z5 (Zl (Zx Yn (pv 1) (Zy (Zd6 rfl) rfl T.b_sum PyProof.Rows.Boot.«sum» (Z0 (Vb rfl (show CScope _ ["pattern","own"] (Za V5) _ from⟨rfl,by decide +kernel,rfl,by decide +kernel,by decide +kernel,by decide +kernel,by decide +kernel⟩) (Jh (Zj (O_parts_of.mono (by omega)) hr rfl (Z0 (pv 0) Z3))) (fun _ _ _ _=>Ta) (fun _ _ _ _=>(Zj (O_groups_in.mono (by omega)) hr rfl (Z0 (pv 0) Z3)))) Z3))))) (fun D1 σ1 H1 hcut=>?cut1))),?_⟩
 case cut1 =>
  obtain⟨v,h,ks,rfl,rfl,hp,q⟩:=hcut
  refine⟨_,rfl,_,rfl,n,v,h,ks,rfl,hp,fun r kv H2 hr hlen hk g1=>⟨r,rfl,⟨kv,SqT.of hr⟩,?_⟩⟩
  have hkl:=Paired.length hk
  refine Zj1 (xs:=kv) (fun i ys H'=>∃ns:List Int,ys=ns.map V.int/\ns.length=i/\ns.sum=Y3 (ks.take i)/\Gro [] H2 H') ⟨[],rfl,rfl,by simp[Y3],Gro.refl⟩ (Yj (by omega)) (fun i ys H' ⟨ns,e1,e2,_⟩=>by rw[e1,List.length_map,e2];exact Nat.le_refl _) (fun i ys H' ⟨_,_,_,_,g⟩=>SqT.of (g.tups _ _ hr)) ?_ ?_
  ·rintro i ys H3 x hx ⟨ns,rfl,e2,e3,g3⟩
   obtain⟨p,hpi,hpx⟩:=Y0 hk hx
   refine⟨_,rfl,x,p,rfl,hpx.mono g3.tups,fun H4 g4=>⟨ns++[p.groups],by simp,by simp[e2],?_,g3.trans g4⟩⟩
   rw[Yf hpi,Z2b,List.sum_append,e3]
   simp[Y3]
  ·rintro ys H3 ⟨ns,rfl,e2,e3,g3⟩ l hl
   refine⟨l,ns,rfl,SqL.of Z2,_,_,rfl,rfl,?_⟩
   rw[hkl,List.take_length]at e3
   have:=q _ ((g1.trans g3).tup (o:=.lst (ns.map V.int)) hl)
   rw[Z6e]at this
   show D1.rt (V.int (h.own+ns.sum)) _
   rw[e3]
   exact this
 refine Z1e ?_
 intro Ez Az1
 obtain⟨a,kv,rfl,lay,hk⟩:=id hp
 obtain⟨r,ea⟩:=lay.head
 have c:∀o:Int,o=h.own->Zla H n { nx:=fun _ H'=>Q .non H',rt:=Q } [some (.ref a),some (.int o)] H:=fun o e=>⟨.ref a,h,ks,rfl,by rw[e],hp,q⟩
 refine⟨_,rfl,a,_,_,_,rfl,rfl,SqT.of ea,Vw,rfl,_,rfl,Ym (fun z=>?_) (fun z=>?_)⟩
 ·exact c 1 (by rw[Z6q,if_pos z])
 ·exact c 0 (by rw[Z6q,if_neg z])
end
theorem Z5s{f:Str}{n:Nat}:∀(m p:Nat) (ps:List Pc),f.length-p<=m->pz f n p=some ps->ps.length<=f.length-p/\∀k,Pc.nm k∈ps->k<=n
 |m,p,ps,hm,h=>by
  by_cases hp:p<f.length
  ·cases hk:kd f n p with
   |sign =>
    rw[Z22 hp hk]at h
    obtain⟨qs,hq,rfl⟩:=Option.map_eq_some_iff.mp h
    match m,hm with
    |0,hm=>omega
    |m+1,hm =>
     obtain⟨h1,h2⟩:=Z5s m (p+1) qs (by omega) hq
     refine⟨by rw[List.length_cons];omega,fun k hk'=>?_⟩
     rcases List.mem_cons.mp hk' with e | e
     ·cases e
     ·exact h2 k e
   |dollar =>
    rw[Jc hp hk]at h
    obtain⟨qs,hq,rfl⟩:=Option.map_eq_some_iff.mp h
    match m,hm with
    |0,hm=>omega
    |m+1,hm =>
     obtain⟨h1,h2⟩:=Z5s m (p+2) qs (by omega) hq
     refine⟨by rw[List.length_cons];omega,fun k hk'=>?_⟩
     rcases List.mem_cons.mp hk' with e | e
     ·cases e
     ·exact h2 k e
   |num j =>
    have hj:j<=n:=by
     unfold kd at hk
     split at hk
     ·split at hk
      ·cases hk
      ·split at hk
       ·split at hk
        ·cases hk;assumption
        ·cases hk
       ·cases hk
     ·cases hk
    rw[Z5r hp hk]at h
    obtain⟨qs,hq,rfl⟩:=Option.map_eq_some_iff.mp h
    match m,hm with
    |0,hm=>omega
    |m+1,hm =>
     obtain⟨h1,h2⟩:=Z5s m (p+2) qs (by omega) hq
     refine⟨by rw[List.length_cons];omega,fun k hk'=>?_⟩
     rcases List.mem_cons.mp hk' with e | e
     ·cases e;exact hj
     ·exact h2 k e
   |bad=>rw[Z5u hp hk]at h;cases h
  ·rw[Z5t hp]at h
   cases h
   exact⟨Nat.zero_le _,fun k hk=>by simp at hk⟩
theorem Z2t{o:Option (List Pc)}{ps:List Pc}{c:Pc}:(o.map (c :: ·)).map (ps ++ ·)=o.map ((ps++[c]) ++ ·):=by cases o <;> simp
theorem Z0y(ps:List Pc)(c:Pc):ps.map Zk1++[Zk1 c]=(ps++[c]).map Zk1:=by rw[List.map_append];rfl
def Z7f(t:Str)(e:Int):List (Nat×Yd)->Str
 | []=>Txt.slice t (some e) none
 |x::_=>Txt.slice t (some e) (some x.1)
theorem Zgv(t:Str)(e:Int):∀xs,∃r,tx t e xs=Z7f t e xs::r
 | []=>⟨[],rfl⟩
 |_::_=>⟨_,rfl⟩
theorem Z6h(t:Str):∀(xs:List (Nat×Yd)) (e:Int),∀m∈tx t e xs,m.length<=t.length
 | [],e,m,h=>by
  rw[List.mem_singleton.mp h]
  exact Txt.slice_le t _ _
 |x::xs,e,m,h=>by
  rcases List.mem_cons.mp h with h | h
  ·rw[h]
   exact Txt.slice_le t _ _
  ·exact Z6h t xs _ m h
theorem Zea{t:Str}:∀ {xs:List (Nat×Yd)} {e:Int} {k:Nat} {x:Nat×Yd},xs[k]? = some x->(tx t e xs)[k+1]? = some (Z7f t x.2.1 (xs.drop (k+1)))
 |y::xs,e,0,x,h=>by
  have e1:y=x:=by simpa using h
  subst e1
  obtain⟨r,hr⟩:=Zgv t y.2.1 xs
  show(Txt.slice t (some e) (some y.1)::tx t y.2.1 xs)[1]? = _
  rw[hr]
  rfl
 |y::xs,e,k+1,x,h=>by
  have h':xs[k]? = some x:=by simpa using h
  have:=Zea (t:=t) (e:=y.2.1) h'
  show(Txt.slice t (some e) (some y.1)::tx t y.2.1 xs)[k+1+1]? = _
  rw[List.getElem?_cons_succ,this]
  rfl
def gF(t:Str)(ps:List Pc):List (Nat×Yd)->Str
 | []=>""
 |x::xs=>Z3n t x ps++(Z7f t x.2.1 xs++gF t ps xs)
theorem Zg9{t:Str}{ps:List Pc}{w:Str}{xs:List (Nat×Yd)}{k:Nat}{x:Nat×Yd}{z:Str}(h:w++gF t ps (xs.drop k)=z)(hx:xs[k]? = some x):((w++Z3n t x ps)++Z7f t x.2.1 (xs.drop (k+1)))++gF t ps (xs.drop (k+1))=z:=by
 rw[List.drop_eq_getElem_cons (List.getElem?_eq_some_iff.mp hx).1,(List.getElem?_eq_some_iff.mp hx).2]at h
 rw[← h,Vv,Vv]
 rfl
theorem Zjc{t:Str}{ps:List Pc}{w:Str}{xs:List (Nat×Yd)}{k:Nat}{z:Str}(h:w++gF t ps (xs.drop k)=z)(hk:xs.length<=k):w=z:=by
 rw[List.drop_of_length_le hk]at h
 rw[← h]
 exact(Z0n w).symm
theorem V1(t:Str)(a b:Option Int):(Txt.slice t a b).length<=t.length:=Txt.slice_le t _ _
theorem Zaf{f:Str}{n:Nat}:∀(m p:Nat) (ps:List Pc),f.length-p<=m->pz f n p=some ps->∀s,Pc.tx s∈ps->s.length<=1
 |m,p,ps,hm,h=>by
  by_cases hp:p<f.length
  ·match m,hm with
   |0,hm=>omega
   |m+1,hm =>
    cases hk:kd f n p with
    |sign =>
     rw[Z22 hp hk]at h
     obtain⟨qs,hq,rfl⟩:=Option.map_eq_some_iff.mp h
     intro s hs
     rcases List.mem_cons.mp hs with e | e
     ·cases e;exact Nat.le_refl 1
     ·exact Zaf m (p+1) qs (by omega) hq s e
    |dollar =>
     rw[Jc hp hk]at h
     obtain⟨qs,hq,rfl⟩:=Option.map_eq_some_iff.mp h
     intro s hs
     rcases List.mem_cons.mp hs with e | e
     ·cases e;decide +kernel
     ·exact Zaf m (p+2) qs (by omega) hq s e
    |num j =>
     rw[Z5r hp hk]at h
     obtain⟨qs,hq,rfl⟩:=Option.map_eq_some_iff.mp h
     intro s hs
     rcases List.mem_cons.mp hs with e | e
     ·cases e
     ·exact Zaf m (p+2) qs (by omega) hq s e
    |bad=>rw[Z5u hp hk]at h;cases h
  ·rw[Z5t hp]at h
   cases h
   intro s hs
   simp at hs
structure PcOk(n m:Nat)(ps:List Pc):Prop where
 len:ps.length<=m
 num:∀k,Pc.nm k∈ps->k<=n
 txt:∀s,Pc.tx s∈ps->s.length<=1
theorem Zgy{f:Str}{n:Nat}{ps:List Pc}(h:pz f n 0=some ps):PcOk n f.length ps:=by
 obtain⟨h1,h2⟩:=Z5s f.length 0 ps (by omega) h
 exact⟨by omega,h2,Zaf f.length 0 ps (by omega) h⟩
theorem Zfg{t:Str}{x:Nat×Yd}{c:Pc}(ht:t.length<=8)(hc:∀s,c=.tx s->s.length<=1):(Zgt t x c).length<=8:=by
 cases c with
 |tx s=>exact Nat.le_trans (hc s rfl) (by decide)
 |nm k =>
  cases k with
  |zero=>exact Nat.le_trans (V1 t _ _) ht
  |succ k =>
   show(Zlq t (x.2.2.getD k none)).length<=8
   cases x.2.2.getD k none with
   |none=>exact Nat.zero_le _
   |some q=>exact Nat.le_trans (V1 t _ _) ht
theorem Z4z:∀ {ms:List Str},(∀m∈ms,m.length<=8)->(ms.map (·.length)).sum<=8*ms.length
 | [],_=>Nat.le_refl _
 |m::ms,h=>by
  rw[List.map_cons,List.sum_cons,List.length_cons]
  have h1:=h m (by simp)
  have h2:=Z4z (ms:=ms) fun m' hm=>h m' (by simp[hm])
  omega
theorem Z44{t:Str}{x:Nat×Yd}{ps:List Pc}{n m:Nat}(ok:PcOk n m ps)(ht:t.length<=8):∀s∈ps.map (Zgt t x),s.length<=8:=fun s hs=>by
 obtain⟨c,hc,rfl⟩:=List.mem_map.mp hs
 exact Zfg ht fun s e=>ok.txt s (by rw[← e];exact hc)
theorem Za0{t:Str}{x:Nat×Yd}{ps:List Pc}{n m:Nat}(ok:PcOk n m ps)(ht:t.length<=8):(Z3n t x ps).length<=8*m:=by
 unfold Z3n
 rw[Z70]
 have h1:=Z4z (Z44 (x:=x) ok ht)
 rw[List.length_map]at h1
 have:=ok.len
 omega
section
variable{P:Program}{w:World}{K:W.Frag}{mg:Str->Option Value}{base:Heap}{f C CS CN CE:Addr}{fd:FuncData}
inductive spMarkI(CN:Addr)(vs:List V)(H:Hp)(Q:VK)(E:XK):Prop
 |mk (s:Str) (n:Nat) (_:vs=[.str s,.int n]) (_:s.length<=1) (_:s="$"->Q (.str "$") H) (_:∀k,¬s="$"->Zem s=some k->k<=n->Q (.int k) H) (_:¬s="$"->(∀k,Zem s=some k->¬k<=n)->E (.ref CN) none H)
def Z8n(CN:Addr):Sp:=fun vs H Q E=>spMarkI CN vs H Q E
abbrev Wc:Stmt:=top 50
theorem sc_marked_piece:FnScope ["sign","groups","number"] ["sign","groups"] (Za Wc):=V7
theorem Zfp{t1:Tok}(T:Blt mg)(Z30:mg "DIGITS" = some (.str digS t1))(XC_NoForm:XC K mg "NoForm" CN CE)(F:Fun K "marked_piece" "marked_piece" Wc f fd):FnOk P w K mg base (Zeo P w) 1 f fd ["sign","groups"] (Z8n CN):=by
 refine F.okX sc_marked_piece (fun vs H Q E h=>?_) (fun cdv A outer s H vs Q E hr h LX=>?_)
 ·obtain⟨s,n,rfl,_⟩:=h
  rfl
 obtain⟨s',n,rfl,hl,h1,h2,h3⟩:=h
 refine V6 ?_
 intro Xz
 refine⟨_,(Z1 (Zs (Zb Zv (pv 0) Zg (Ze _)) (Z5 (Zl (pv 0))) Zk)
  (Z1 (Zs (PW.pt (T7 (Zb Zv (pv 0) Zg (Ze _)) (Vi (Zb Z4o (pv 0) (Ud (v:=.str _) rfl Z30 ⟨_,rfl⟩) (by with_unfolding_all rfl))))) (Z5 (Z6n LX rfl XC_NoForm rfl (Z0 Zg Z3))) Zk)
  (Z1 (pS 2 sc_marked_piece.nd (Yu Uw rfl T.b_int PyProof.Rows.Boot.«int» (Z0 (pv 0) Z3)))
  (Z1 (Zs (Zb Z3d (pv 2) (pv 1) (Ze _)) (Z5 (Z6n LX rfl XC_NoForm rfl (Z0 Zg Z3))) Zk)
  (Z5 (Zl (pv 2))))))),?_⟩
 refine Zib ?_
 intro Ez Az1 Az2 Az3 Az4 Az5 Az6 Az7
 refine Z9 rfl ⟨rfl,Z9 rfl (Ym (fun c=>?_) (fun c=>?_))⟩
 ·have e:s'="$":=by have z:=of_decide_eq_true c;injection z
  subst e
  exact Z9 rfl (h1 rfl)
 have nd:¬s'="$":=fun e=>c (decide_eq_true (by rw[e]))
 refine Z9 rfl ⟨rfl,Z9 rfl (Ym (fun c1=>Te ?_) (fun c1=>?_))⟩
 ·have e:s'="":=by have z:=of_decide_eq_true c1;injection z
  refine⟨sz,h3 nd fun k hk=>?_⟩
  rw[e,show Zem ("":Str)=none by decide +kernel]at hk
  cases hk
 have h1l:s'.length=1:=by
  have:¬s'.length=0:=fun z=>c1 (decide_eq_true (by rw[Zjp z]))
  omega
 have hd:=Ze4 h1l
 refine Z9 rfl ⟨_,_,rfl,rfl,Z9 rfl (Ym (fun c2=>?_) (fun c2=>?_))⟩
 ·refine⟨sz,h3 nd fun k hk=>?_⟩
  rw[hd,hk]at c2
  cases c2
 rw[hd]at c2
 cases hk:Zem s' with
 |none=>rw[hk]at c2;exact absurd rfl c2
 |some k =>
  obtain⟨hi,_,hk9⟩:=Za1 hk
  refine Z9 rfl ⟨s',k,rfl,hi,by omega,?_⟩
  refine Z9 rfl (Z9 rfl (Xy rfl rfl (Z9 rfl (Ym (fun c3=>?_) (fun c3=>?_)))))
  ·have:(n:Int)<(k:Int):=of_decide_eq_true c3
   exact⟨sz,h3 nd fun j hj=>by rw[hk]at hj;cases hj;omega⟩
  ·have:¬(n:Int)<(k:Int):=fun z=>c3 (decide_eq_true z)
   exact Z9 rfl (h2 k nd hk (by omega))
inductive spFormI(CN:Addr)(vs:List V)(H:Hp)(Q:VK)(E:XK):Prop
 |mk (fm:Str) (n:Nat) (_:vs=[.str fm,.int n]) (_:fm.length<=100) (_:∀ps,pz fm n 0=some ps->∀(l:Addr) (H':Hp),H' l=some (.lst (ps.map Zk1))->H l=none->Gro [] H H'->Q (.ref l) H') (_:pz fm n 0=none->∀H',Gro [] H H'->E (.ref CN) none H')
def Z8q(CN:Addr):Sp:=fun vs H Q E=>spFormI CN vs H Q E
abbrev Wx:Stmt:=top 49
theorem sc_form_pieces:FnScope ["form","groups","pieces","place"] ["form","groups"] (Za Wx):=V7
theorem Zfu(T:Blt mg)(O_marked_piece:OwnX P w K mg base 1 "marked_piece" ["sign","groups"] (Z8n CN))(F:Fun K "form_pieces" "form_pieces" Wx f fd):FnOk P w K mg base (Zeo P w) 2 f fd ["form","groups"] (Z8q CN):=by
 refine F.okX sc_form_pieces (fun vs H Q E h=>?_) (fun cdv A outer s H vs Q E hr h LX=>?_)
 ·obtain⟨fm,n,rfl,_⟩:=h
  rfl
 obtain⟨fm,n,rfl,hf,q1,q2⟩:=h
 refine V6 ?_
 intro Xz
 refine⟨_,(Z1 (pS 2 sc_form_pieces.nd (Y4 Z3))
  (Z1 (pS 3 sc_form_pieces.nd Z4)
  (Z1 (Ur LeaveX.own (Zb Vc (pv 3) (Zy Yh rfl T.b_len PyProof.Rows.Boot.«len» (Z0 (pv 0) Z3)) (Ze _)) (Z5 (Zs (Zb Zv (Zd Jj (pv 0) (pv 3) (fun _ _=>rfl)) Zg (Ze _)) (Z1 (Zn (Yw PySem.F.plainAttrs_list PySem.F.slot_list_append PySem.F.type_list_append Zz (pv 2) (Z0 (Z23 LX.pass (O_marked_piece.mono (by omega)) hr rfl (Z0 (Y9 V8 (pv 0) (Y2 (Zx Yn (pv 3) Z4)) (Y2 (Zx Yn (pv 3) Z4))) (Z0 (pv 1) Z3))) Z3)))
  (Z5 (Zdk (i:=3) sc_form_pieces.nd rfl (by first | exact Or.inl rfl | exact Or.inr rfl) Z4 Ze0))) (Z1 (Zn (Yw PySem.F.plainAttrs_list PySem.F.slot_list_append PySem.F.type_list_append Zz (pv 2) (Z0 (Zd Jj (pv 0) (pv 3) (fun _ _=>rfl)) Z3)))
  (Z5 (Zdk (i:=3) sc_form_pieces.nd rfl (by first | exact Or.inl rfl | exact Or.inr rfl) Z4 Ze0))))))
  (Z5 (Zl (pv 2)))))),?_⟩
 refine Zia ?_
 intro Ez Az1 Az2 Az3 Az4 Az5 Az6 Az7 Az8
 refine⟨sz,fun l hl=>?_⟩
 have g1:=Gro.new (S:=[]) hl (.lst [])
 have hl1:(Zq H l (.lst [])) l=some (.lst []):=Z2
 generalize Zq H l (.lst [])=H1 at *
 have gro:∀H',Gro [l] H1 H'->Gro [] H H':=fun H' g2=>⟨fun a o h _=>g2.keep a o (g1.keep a o h (by simp)) (by simpa using Z7 h hl),fun a zs h=>g2.tups _ _ (g1.tups _ _ h)⟩
 refine⟨fun μ σ H'=>∃(p:Nat) (ps:List Pc),σ=[some (.str fm),some (.int n),some (.ref l),some (.int p)]/\H' l=some (.lst (ps.map Zk1))/\(pz fm n p).map (ps ++ ·)=pz fm n 0/\ps.length<=p/\p<=fm.length+1/\Gro [l] H1 H'/\μ=fm.length+2-p,⟨_,0,[],rfl,hl1,by simp,Nat.le_refl _,Nat.zero_le _,Gro.refl,rfl⟩,?_⟩
 rintro μ σ H' ⟨p,ps,rfl,hl',hpz,hpl,hple,g,rfl⟩
 refine Z9 rfl (Z9 rfl ⟨fm,rfl,Y5 (by omega),Xy rfl rfl (Z9 rfl (Ym (fun c=>?yes0) (fun c=>?no0)))⟩)
 case no0 =>
  have hc:¬p<fm.length:=fun z=>c (decide_eq_true (by omega))
  rw[Z5t hc]at hpz
  have e:pz fm n 0=some ps:=by rw[← hpz];simp
  exact Z9 rfl (q1 ps e l H' hl' hl (gro H' g))
 have hp:p<fm.length:=by have:=of_decide_eq_true c;omega
 have hch:=Z5x (t:=fm) (i:=(p:Int)) (by omega) (by omega)
 have ech:(⟨#[fm.cps.toList.getD (p:Int).toNat 0]⟩:Str)=Z4w fm p:=by rw[Int.toNat_natCast];rfl
 refine⟨_,fun _ _ q'=>q',?_⟩
 refine Z9 rfl (Z9 rfl ⟨fm,_,_,rfl,rfl,Y5 (by omega),hch,rfl,Z9 rfl (Ym (fun c1=>?_) (fun c1=>?_))⟩)
 ·have hd:Z4w fm p="$":=by have z:=of_decide_eq_true c1;injection z
  have hs:Txt.slice fm (some ((p:Int)+1)) (some ((p:Int)+2))=Z3a fm p:=by
   rw[show(p:Int)+1=((p+1:Nat):Int) by omega,show(p:Int)+2=((p+2:Nat):Int) by omega,Vq (by omega) (by omega)]
   rfl
  refine Z9 rfl ⟨.inl ⟨rfl,_,SqL.of hl'⟩,Z9 rfl (Z9 rfl (Xy rfl rfl ⟨_,rfl,Z9 rfl (Xy rfl rfl ⟨_,rfl,fm,rfl,Y5 (by omega),Z9 rfl ⟨Z3a fm p,n,congrArg (fun z=>[V.str z,V.int n]) hs,Z94 fm p,fun e=>?_,fun k e1 e2 e3=>?_,fun e1 e2=>?_⟩⟩)⟩))⟩
  ·refine⟨l,_,_,rfl,rfl,hl',Yj (by rw[List.length_map];omega),Z9 rfl (Xy rfl rfl ⟨_,?_,p+2,ps++[.tx "$"],rfl,by rw[Z2,← Z0y];rfl,?_,by simp;omega,by omega,g.trans (Gro.set (by simp) hl' _),rfl⟩)⟩
   ·omega
   ·rw[← hpz,Jc hp (Zdx hd e),Z2t]
  ·refine⟨l,_,_,rfl,rfl,hl',Yj (by rw[List.length_map];omega),Z9 rfl (Xy rfl rfl ⟨_,?_,p+2,ps++[.nm k],rfl,by rw[Z2,← Z0y];rfl,?_,by simp;omega,by omega,g.trans (Gro.set (by simp) hl' _),rfl⟩)⟩
   ·omega
   ·rw[← hpz,Z5r hp (Zdv hd e1 e2 e3),Z2t]
  ·have hb:kd fm n p=.bad:=by
    cases hk:Zem (Z3a fm p) with
    |none=>exact Z5d hd e1 hk
    |some k=>exact Z9u hd e1 hk (e2 k hk)
   rw[Z5u hp hb]at hpz
   exact q2 hpz.symm H' (gro H' g)
 ·have hd:¬Z4w fm p="$":=fun z=>c1 (decide_eq_true (by rw[ech,z]))
  refine Z9 rfl ⟨.inl ⟨rfl,_,SqL.of hl'⟩,Z9 rfl (Z9 rfl ⟨fm,_,_,rfl,rfl,Y5 (by omega),hch,?_⟩)⟩
  refine⟨l,_,_,rfl,rfl,hl',Yj (by rw[List.length_map];omega),Z9 rfl (Xy rfl rfl ⟨_,?_,p+1,ps++[.tx (Z4w fm p)],rfl,by rw[Z2,← Z0y];rfl,?_,by simp;omega,by omega,g.trans (Gro.set (by simp) hl' _),rfl⟩)⟩
  ·omega
  ·rw[← hpz,Z22 hp (Zdw hd),Z2t]
inductive spTknI(vs:List V)(H:Hp)(Q:VK):Prop
 |mk (t:Str) (a:Addr) (x:Nat×Yd) (k:Nat) (_:vs=[.int k,.str t,.ref a]) (_:Zbo H (.ref a) x) (_:t.length<=1000) (_:k<=x.2.2.length) (_:x.2.2.length<=900) (_:Q (.str (Zgt t x (.nm k))) H)
def Zec:Sp:=fun vs H Q _=>spTknI vs H Q
abbrev Vh:Stmt:=top 52
theorem sc_taken_text:FnScope ["number","text","find","entry"] ["number","text","find"] (Za Vh):=V7
theorem Zip(F:Fun K "taken_text" "taken_text" Vh f fd):FnOk P w K mg base W3 1 f fd ["number","text","find"] Zec:=by
 refine F.ok sc_taken_text (fun vs H Q E h=>?_) (fun cdv A outer s H vs Q E hr h=>?_)
 ·obtain⟨t,a,x,k,rfl,_⟩:=h
  rfl
 obtain⟨t,a,x,k,rfl,hx,ht,hk,hn,q⟩:=h
 obtain⟨a',gv,e,ha,ga,es,rfl,hga,hes⟩:=hx
 cases e
 refine V6 ?_
 intro Xz
 refine⟨_,(Z1 (Zs (Zb Zv (pv 0) Z4 (Ze _)) (Z5 (Zl (Y9 V8 (pv 1) (Y2 (Zd Zc (pv 2) Z4 (fun _ _=>rfl))) (Y2 (Zd Zc (pv 2) Z4 (fun _ _=>rfl)))))) Zk)
  (Z1 (pS 3 sc_taken_text.nd (Zd Zc (Zd Zc (pv 2) Z4 (fun _ _=>rfl)) (Zx X3 (pv 0) Z4) (fun _ _=>rfl)))
  (Z5 (Zl (W5 (Ug (Th (pv 3))) Zg (Y9 V8 (pv 1) (Y2 (Zd Zc (pv 3) Z4 (fun _ _=>rfl))) (Y2 (Zd Zc (pv 3) Z4 (fun _ _=>rfl))))))))),?_⟩
 refine Zdh ?_
 intro Ez Az1 Az2 Az3
 cases k with
 |zero =>
  refine(Z9 rfl ⟨rfl,Z9 rfl (Zp (by decide) ?_)⟩)
  exact Z9 rfl (Ys ha Vw (Z9 rfl (Ys ha rfl (Z9 rfl (Z9 rfl ⟨Y5 ht,q⟩)))))
 |succ j =>
  refine(Z9 rfl ⟨rfl,Z9 rfl (Zf (fun z=>by have z':=of_decide_eq_true z;injection z';omega) ?_)⟩)
  have hl:=Paired.length hes
  have hj:j<es.length:=by omega
  obtain⟨en,hen,hv⟩:=Y0 hes (List.getElem?_eq_getElem hj)
  have eix:Z3o es (((j+1:Nat):Int)-1)=some es[j]:=by
   rw[show((j+1:Nat):Int)-1=((j:Nat):Int) by omega]
   exact Ue (List.getElem?_eq_getElem hj)
  have ed:x.2.2.getD j none=en:=by rw[List.getD_eq_getElem?_getD,hen];rfl
  refine Ys ha rfl (Z9 rfl (Xy rfl rfl ⟨ga,es,_,_,rfl,rfl,SqT.of hga,eix,?_⟩))
  have q':Q (.str (Zlq t en)) H:=by
   rw[← ed]
   exact q
  cases en with
  |none =>
   have e0:es[j]=V.non:=hv
   rw[e0]
   exact Z9 rfl (Z9 rfl (Zp (by decide) q'))
  |some p =>
   obtain⟨pa,e0,hpa⟩:=hv
   rw[e0]
   exact Z9 rfl (Z9 rfl (Zf (by intro z;have z':=of_decide_eq_true z;cases z') (Z9 rfl (Ys hpa Vw (Z9 rfl (Ys hpa rfl (Z9 rfl (Z9 rfl ⟨Y5 ht,q'⟩))))))))
inductive spFillI(vs:List V)(H:Hp)(Q:VK):Prop
 |mk (ps:List Pc) (n:Nat) (t:Str) (l a:Addr) (x:Nat×Yd) (_:vs=[.ref l,.str t,.ref a]) (_:H l=some (.lst (ps.map Zk1))) (_:PcOk n 100 ps) (_:x.2.2.length=n) (_:n<=9) (_:Zbo H (.ref a) x) (_:t.length<=8) (_:∀H',Gro [] H H'->Q (.str (Z3n t x ps)) H')
def Z8s:Sp:=fun vs H Q _=>spFillI vs H Q
abbrev Tw:Stmt:=top 51
theorem Zap:FnScope ["pieces","text","find"] ["pieces","text","find"] (Za Tw):=V7
theorem Zfw(T:Blt mg)(O_taken_text:Own P w K mg base 1 "taken_text" ["number","text","find"] Zec)(F:Fun K "filled" "filled" Tw f fd):FnOk P w K mg base W3 2 f fd ["pieces","text","find"] Z8s:=by
 refine F.ok Zap (fun vs H Q E h=>?_) (fun cdv A outer s H vs Q E hr h=>?_)
 ·obtain⟨ps,n,t,l,a,x,rfl,_⟩:=h
  rfl
 obtain⟨ps,n,t,l,a,x,rfl,hl,ok,hxn,hn,hx,ht,q⟩:=h
 refine V6 ?_
 intro Xz
 refine⟨_,(Z5 (Zl (Yw PySem.F.plainAttrs_str PySem.F.slot_str_join PySem.F.type_str_join Z5b Zg (Z0 (Vb rfl (show CScope _ ["pieces","text","find"] (Za Tw) _ from⟨rfl,by decide +kernel,rfl,by decide +kernel,by decide +kernel,by decide +kernel,by decide +kernel⟩) (Vn (pv 0)) (fun _ _ _ _=>Ta) (fun _ _ _ _=>(W5 (Wo (Zy (Z1c (T:="str") (Zdz (by simp))) rfl T.b_isinstance PyProof.Rows.Boot.«isinstance» (Z0 (pv 0) (Z0 (Z9g (v:=.ty "str") rfl T.b_str PyProof.Rows.Boot.«str» rfl) Z3)))) (pv 0) (Zj (O_taken_text.mono (by omega)) hr rfl (Z0 (pv 0) (Z0 (pv 2) (Z0 (pv 3) Z3))))))) Z3)))),?_⟩
 have hpl:=ok.len
 refine⟨rfl,Z9 rfl ⟨l,rfl,⟨_,SqL.of hl⟩,?_⟩⟩
 have e0:("":Str).length=0:=rfl
 refine Z5c (xs:=ps.map Zk1) (fun i ys H'=>ys=((ps.take i).map (Zgt t x)).map V.str/\H'=H) ⟨rfl,rfl⟩ (Yj (by rw[List.length_map];omega)) (fun i ys H' ⟨e,_⟩=>by rw[e,List.length_map,List.length_map,List.length_take];exact Nat.min_le_left _ _) (fun i ys H' ⟨_,e⟩=>by rw[e];exact SqL.of hl) ?_ ?_
 ·rintro i ys H' v hv ⟨rfl,rfl⟩
  rw[List.getElem?_map]at hv
  obtain⟨c,hc,rfl⟩:=Option.map_eq_some_iff.mp hv
  rw[Yf hc,List.map_append,List.map_append]
  cases c with
  |tx s'=>exact Z9 rfl ⟨_,_,rfl,rfl,Z9 rfl (Zp (by decide) (Z9 rfl ⟨rfl,rfl⟩))⟩
  |nm k=>exact Z9 rfl ⟨_,_,rfl,rfl,Z9 rfl (Zf (by decide) (Z9 rfl (Z9 rfl (Z9 rfl ⟨t,a,x,k,rfl,hx,by omega,by rw[hxn];exact ok.num k (List.mem_of_getElem? hc),by omega,rfl,rfl⟩))))⟩
 ·rintro ys H' ⟨rfl,rfl⟩ l2 hl2
  rw[List.length_map,List.take_length]
  have hs:=Z4z (Z44 (x:=x) ok ht)
  rw[List.length_map]at hs
  exact⟨_,l2,ps.map (Zgt t x),rfl,rfl,SqL.of Z2,by rw[e0];exact Y5 (by omega),q _ (Gro.new hl2 _)⟩
inductive spReplI(CN:Addr)(vs:List V)(H:Hp)(Q:VK)(E:XK):Prop
 |mk (v:V) (t fm:Str) (n:Nat) (m:Int) (p:Pat) (_:vs=[v,.str t,.str fm,.int m]) (_:PatAt H 8 v p) (_:p.groups=n) (_:fm.length<=12) (_:pz fm n 0=none->∀H',Gro [] H H'->E (.ref CN) none H')
  (_:∀ps,pz fm n 0=some ps->∃(N:Nat) (xs:List (Nat×Yd)),m=1000000/\p.size<=20000/\p.nm n/\Z1n ((Yp p).map Op.rw)=n/\n<=9/\t.length<=8/\xs.length<=9/\(∀x∈xs,x.2.2.length=n)/\Fds t n p 0 xs N/\N<=1500/\∀(H':Hp),Gro [] H H'->Q (.str (Z7f t 0 xs++gF t ps xs)) H')
def Z5n(CN:Addr):Sp:=fun vs H Q E=>spReplI CN vs H Q E
theorem cut1{x:V}{r:List V}:Jv (x::r) (some 1) none=r:=by
 simp[Jv,HT.sIx]
theorem Zdb:∀ {ms:List Str},(∀m∈ms,m.length<=1000)->(ms.map (·.length)).sum<=1000*ms.length
 | [],_=>Nat.le_refl _
 |m::ms,h=>by
  rw[List.map_cons,List.sum_cons,List.length_cons]
  have h1:=h m (by simp)
  have h2:=Zdb (ms:=ms) fun m' hm=>h m' (by simp[hm])
  omega
abbrev Ux:Stmt:=top 47
theorem sc_replaced:FnScope ["pattern","text","form","most","pieces","finds","around","made","find","behind"] ["pattern","text","form","most"] (Za Ux):=V7
theorem Zfo(T:Blt mg)(Zek:mg "zip" = none)(O_form_pieces:OwnX P w K mg base 2 "form_pieces" ["form","groups"] (Z8q CN))(O_groups_in:Own P w K mg base 10 "groups_in" ["pattern"] (Zli 8))(O_all_finds:Own P w K mg base 30 "all_finds" ["pattern","text","most"] Zeh)(O_texts_around:Own P w K mg base 1 "texts_around" ["text","finds"] Z2s)(O_filled:Own P w K mg base 2 "filled" ["pieces","text","find"] Z8s)
  (F:Fun K "replaced" "replaced" Ux f fd):FnOk P w K mg base (Zeo P w) 31 f fd ["pattern","text","form","most"] (Z5n CN):=by
 refine F.okX sc_replaced (fun vs H Q E h=>?_) (fun cdv A outer s H vs Q E hr h LX=>?_)
 ·obtain⟨v,t,fm,n,m,p,rfl,_⟩:=h
  rfl
 obtain⟨v,t,fm,n,m,p,rfl,hp,hgr,hfm,q2,q1⟩:=h
 refine V6 ?_
 intro Xz
 refine⟨_,(Z1 (pS 4 sc_replaced.nd (Z23 LX.pass (O_form_pieces.mono (by omega)) hr rfl (Z0 (pv 2) (Z0 (Zj (O_groups_in.mono (by omega)) hr rfl (Z0 (pv 0) Z3)) Z3))))
  (Z1 (pS 5 sc_replaced.nd (Zj (O_all_finds.mono (by omega)) hr rfl (Z0 (pv 0) (Z0 (pv 1) (Z0 (pv 3) Z3)))))
  (Z1 (pS 6 sc_replaced.nd (Zj (O_texts_around.mono (by omega)) hr rfl (Z0 (pv 1) (Z0 (pv 5) Z3))))
  (Z1 (pS 7 sc_replaced.nd (Y4 (Z0 (Zd Y1 (pv 6) Z4 (fun _ _=>rfl)) Z3)))
  (Z1 (Xr LeaveX.own rfl (Zii rfl Zek (Z0 (pv 5) (Z0 (Y9 Z1z (pv 6) (Y2 Z4) Xs) Z3))) (Zdl rfl (Z0e (pN 8 sc_replaced.nd) (Z0e (pN 9 sc_replaced.nd) Z9c))) (Z1 (Zn (Yw PySem.F.plainAttrs_list PySem.F.slot_list_append PySem.F.type_list_append Zz (pv 7) (Z0 (Zj (O_filled.mono (by omega)) hr rfl (Z0 (pv 4) (Z0 (pv 1) (Z0 (pv 8) Z3)))) Z3)))
  (Z5 (Zn (Yw PySem.F.plainAttrs_list PySem.F.slot_list_append PySem.F.type_list_append Zz (pv 7) (Z0 (pv 9) Z3))))))
  (Z5 (Zl (Yw PySem.F.plainAttrs_str PySem.F.slot_str_join PySem.F.type_str_join Z5b Zg (Z0 (pv 7) Z3))))))))),?_⟩
 refine Zi6 ?_
 intro Ez Az1 Az2 Az3 Az4 Az5 Az6 Az7
 refine(Z9 rfl (Z9 rfl ⟨v,p,rfl,hp,fun H1 g1=>?_⟩))
 refine⟨fm,n,by rw[hgr];rfl,by omega,fun ps hps lp H2 hlp hn2 g2=>?_,fun hb H2 g2=>q2 hb H2 (g1.trans g2)⟩
 obtain⟨N,xs,rfl,hz,hnm,hcnt,hn,ht,hxl,hxn,hF,hN,q⟩:=q1 ps hps
 have ok:=Zgy hps
 have ok100:PcOk n 100 ps:=⟨Nat.le_trans ok.len (by omega),ok.num,ok.txt⟩
 have g12:=g1.trans g2
 refine(Z9 rfl (Z9 rfl (Z9 rfl ⟨v,t,n,N,p,xs,rfl,hp.mono g12.tups,hz,hnm,hcnt,hn,ht,hF,hN,fun l us H3 hl hu hln g3=>?_⟩)))
 have hlp3:=g3.keep _ _ hlp (by simp)
 have hel:=Paired.length hu
 refine(Z9 rfl (Z9 rfl ⟨t,l,us,xs,rfl,hl,hu,by omega,by omega,fun r H4 hr4 hrn g4=>?_⟩))
 have hlp4:=g4.keep _ _ hlp3 (by simp)
 have hl4:=g4.keep _ _ hl (by simp)
 have hu4:=X9 g4.tups hu
 obtain⟨r0,hr0⟩:=Zgv t 0 xs
 have hr4':H4 r=some (.lst (.str (Z7f t 0 xs)::r0.map V.str)):=by rw[hr4,hr0];rfl
 refine(Z7l hr4' Vw ⟨sz,fun md hmd=>?_⟩)
 have g5:=Gro.new (S:=[]) hmd (.lst [.str (Z7f t 0 xs)])
 have hmd5:(Zq H4 md (.lst [.str (Z7f t 0 xs)])) md=some (.lst ([Z7f t 0 xs].map V.str)):=Z2
 have hlp5:=g5.keep _ _ hlp4 (by simp)
 have hl5:=g5.keep _ _ hl4 (by simp)
 have hu5:=X9 g5.tups hu4
 have hr5:=g5.keep _ _ hr4' (by simp)
 have n1:lp≠md:=Z7 hlp4 hmd
 have n2:l≠md:=Z7 hl4 hmd
 have g15:Gro [] H (Zq H4 md (.lst [.str (Z7f t 0 xs)])):=((g12.trans g3).trans g4).trans g5
 have hmn:H md=none:=Zcy ((g12.trans g3).trans g4) hmd
 generalize Zq H4 md (.lst [.str (Z7f t 0 xs)])=H5 at *
 refine(Z9 rfl (Z9 rfl (Z9 rfl ⟨r,_,rfl,SqL.of hr5,fun sl hsl=>?_⟩)))
 rw[cut1]
 have g6:=Gro.new (S:=[]) hsl (.lst (r0.map V.str))
 have hs6:(Zq H5 sl (.lst (r0.map V.str))) sl=some (.lst (r0.map V.str)):=Z2
 have hlp6:=g6.keep _ _ hlp5 (by simp)
 have hl6:=g6.keep _ _ hl5 (by simp)
 have hu6:=X9 g6.tups hu5
 have hmd6:=g6.keep _ _ hmd5 (by simp)
 have n3:sl≠md:=Ne.symm (Z7 hmd5 hsl)
 have g16:=g15.trans g6
 generalize Zq H5 sl (.lst (r0.map V.str))=H6 at *
 have hr0l:r0.length=xs.length:=by
  have:=Zda t xs 0
  rw[hr0]at this
  simpa using this
 have hdl:∀m∈tx t 0 xs,m.length<=1000:=fun m hm=>Nat.le_trans (Z6h t xs 0 m hm) (by omega)
 refine⟨l,sl,rfl,⟨_,SqL.of hl6⟩,⟨_,SqL.of hs6⟩,?_⟩
 refine Zgb (xs:=us) (ys:=r0.map V.str) (fun k σ H'=>∃(ms:List Str) (u8 u9:Option V),σ=[some v,some (.str t),some (.str fm),some (.int 1000000),some (.ref lp),some (.ref l),some (.ref r),some (.ref md),u8,u9]/\H' md=some (.lst (ms.map V.str))/\ms.length=2*k+1/\(∀m∈ms,m.length<=1000)/\Txt.join "" ms++gF t ps (xs.drop k)=Z7f t 0 xs++gF t ps xs/\Gro [md] H6 H')
  ⟨[Z7f t 0 xs],none,none,rfl,hmd6,rfl,fun m hm=>hdl m (by rw[hr0];simp at hm;simp[hm]),?_,Gro.refl⟩ (fun k σ H' _ hh=>by obtain⟨_,_,_,_,_,_,_,_,g⟩:=hh;exact⟨SqL.of (g.keep _ _ hl6 (by simpa using n2)),SqL.of (g.keep _ _ hs6 (by simpa using n3))⟩) (by rw[List.length_map];omega) ?_ ?_
 ·rfl
 ·rintro k x y σ H7 pr hx hy ⟨ms,u8,u9,rfl,hm7,hml,hms,hMd,g7⟩ hpr
  obtain⟨x9,hx9,hF9⟩:=Y0 (X9 g7.tups hu6) hx
  have ey:y=.str (Z7f t x9.2.1 (xs.drop (k+1))):=by
   have h1:=Zea (t:=t) (e:=0) hx9
   rw[hr0,List.getElem?_cons_succ]at h1
   rw[List.getElem?_map,h1]at hy
   simpa using hy.symm
  subst ey
  have hk:k<us.length:=(List.getElem?_eq_some_iff.mp hx).1
  have g8:=Gro.new (S:=[]) hpr (.tup [x,.str (Z7f t x9.2.1 (xs.drop (k+1)))])
  have hm8:=g8.keep _ _ hm7 (by simp)
  have hlp8:=g8.keep _ _ (g7.keep _ _ hlp6 (by simpa using n1)) (by simp)
  have hF8:=FnA.mono (r:=some x9) g8.tups hF9
  obtain⟨a9,gv9,rfl,_⟩:=id hF9
  have hpr8:(Zq H7 pr (.tup [.ref a9,.str (Z7f t x9.2.1 (xs.drop (k+1)))])) pr=some (.tup [.ref a9,.str (Z7f t x9.2.1 (xs.drop (k+1)))]):=Z2
  generalize Zq H7 pr (.tup [.ref a9,.str (Z7f t x9.2.1 (xs.drop (k+1)))])=H8 at *
  refine⟨pr,_,rfl,SqT.of hpr8,rfl,_,_,rfl,_,_,rfl,rfl,?_⟩
  refine(Z9 rfl ⟨.inl ⟨rfl,_,SqL.of hm8⟩,Z9 rfl (Z9 rfl (Z9 rfl ⟨ps,n,t,lp,a9,x9,rfl,hlp8,ok100,hxn x9 (List.mem_of_getElem? hx9),hn,hF8,ht,fun H9 g9=>?_⟩))⟩)
  have hm9:=g9.keep _ _ hm8 (by simp)
  refine⟨md,_,_,rfl,rfl,hm9,Nat.lt_of_lt_of_le (by rw[List.length_map];omega) (Y5 (Nat.le_refl 1000)),?_⟩
  have gA:Gro [md] H9 _:=Gro.set (by simp) hm9 (.lst (ms.map V.str++[.str (Z3n t x9 ps)]))
  have hmA:(Zq H9 md (.lst (ms.map V.str++[.str (Z3n t x9 ps)]))) md=some (.lst ((ms++[Z3n t x9 ps]).map V.str)):=by rw[Z2,Z0f]
  generalize Zq H9 md (.lst (ms.map V.str++[.str (Z3n t x9 ps)]))=HA at *
  refine(Z9 rfl ⟨.inl ⟨rfl,_,SqL.of hmA⟩,Z9 rfl ⟨md,_,_,rfl,rfl,hmA,Nat.lt_of_lt_of_le (by rw[List.length_map,List.length_append];show ms.length+1<_;omega) (Y5 (Nat.le_refl 1000)),?_⟩⟩)
  have gB:Gro [md] HA _:=Gro.set (by simp) hmA (.lst ((ms++[Z3n t x9 ps]).map V.str++[.str (Z7f t x9.2.1 (xs.drop (k+1)))]))
  refine⟨(ms++[Z3n t x9 ps])++[Z7f t x9.2.1 (xs.drop (k+1))],_,_,rfl,by rw[Z2,Z0f],by rw[List.length_append,List.length_append];show ms.length+1+1=_;omega,fun m hm=>?_,by rw[Je,Je];exact Zg9 hMd hx9,g7.trans ((g8.mono (by simp)).trans ((g9.mono (by simp)).trans (gA.trans gB)))⟩
  rcases List.mem_append.mp hm with hm | hm
  ·rcases List.mem_append.mp hm with hm | hm
   ·exact hms m hm
   ·rw[List.mem_singleton.mp hm]
    exact Nat.le_trans (Za0 ok ht) (by omega)
  ·rw[List.mem_singleton.mp hm]
   exact hdl _ (List.mem_of_getElem? (Zea (t:=t) (e:=0) hx9))
 ·rintro σ H7 ⟨ms,u8,u9,rfl,hm7,hml,hms,hMd,g7⟩
  have e0:("":Str).length=0:=rfl
  have hsum:=Zdb hms
  rw[hel]at hMd
  refine⟨rfl,Z9 rfl ⟨_,md,ms,rfl,rfl,SqL.of hm7,by rw[e0];omega,?_⟩⟩
  rw[Zjc hMd (Nat.le_refl _)]
  exact q _ ⟨fun a o h _=>g7.keep a o (g16.keep a o h (by simp)) (by simpa using Z7 h hmn),fun a zs h=>g7.tups _ _ (g16.tups _ _ h)⟩
end
theorem Z2k(m:Str):∀(k:Nat) (ms:List Str),ms.length=k->Txt.join "" (m::ms)=m++Txt.join "" ms
 |0,ms,h=>by
  have:ms=[]:=List.eq_nil_of_length_eq_zero h
  subst this
  exact(Z0n m).symm
 |k+1,ms,h=>by
  rcases List.eq_nil_or_concat ms with e | ⟨ls,y,e⟩
  ·subst e;cases h
  ·subst e
   rw[List.concat_eq_append]at h ⊢
   rw[← List.cons_append,Je,Je,Z2k m k ls (by simpa using h),Vv]
theorem Zd1(t:Str)(x:Nat×Yd)(c:Pc)(ps:List Pc):Z3n t x (c::ps)=Zgt t x c++Z3n t x ps:=Z2k _ _ _ rfl
theorem Z8v{t:Str}{x:Nat×Yd}{o:Option (List Pc)}{c:Pc}{dn:Str}:(o.map (c :: ·)).map (fun qs=>dn++Z3n t x qs)=o.map (fun qs=>(dn++Zgt t x c)++Z3n t x qs):=by
 cases o with
 |none=>rfl
 |some qs =>
  show some (dn++Z3n t x (c::qs))=some ((dn++Zgt t x c)++Z3n t x qs)
  rw[Zd1,Vv]
section
variable{P:Program}{w:World}{K:W.Frag}{mg:Str->Option Value}{base:Heap}{f C CS CN CE:Addr}{fd:FuncData}{h:Heap}
inductive spFmdI(vs:List V)(H:Hp)(Q:VK):Prop
 |mk (fm t:Str) (a:Addr) (x:Nat×Yd) (n:Nat) (_:vs=[.str fm,.str t,.ref a]) (_:Zbo H (.ref a) x) (_:x.2.2.length=n) (_:n<=9) (_:fm.length<=12) (_:t.length<=8) (_:∀ps,pz fm n 0=some ps->∀H',Gro [] H H'->Q (.str (Z3n t x ps)) H') (_:pz fm n 0=none->∀H',Gro [] H H'->Q .non H')
def Zee:Sp:=fun vs H Q _=>spFmdI vs H Q
abbrev Uz:Stmt:=top 74
theorem sc_l_formed:FnScope ["_law_form_here","_law_text_here","_law_find_here","_law_done","_law_at","_law_pairs","_law_told","_law_pair"] ["_law_form_here","_law_text_here","_law_find_here"] (Za Uz):=V7
theorem Zit(T:Blt mg)(F:Fun K "_law_formed" "_law_formed" Uz f fd):FnOk P w K mg base W3 1 f fd ["_law_form_here","_law_text_here","_law_find_here"] Zee:=by
 refine F.ok sc_l_formed (fun vs H Q E h=>?_) (fun cdv A outer s H vs Q E hr h=>?_)
 ·obtain⟨fm,t,a,x,n,rfl,_⟩:=h
  rfl
 obtain⟨fm,t,a,x,n,rfl,hx,hn,hn9,hf,ht,q1,q2⟩:=h
 refine V6 ?_
 intro Xz
 refine⟨_,(Z1 (pS 3 sc_l_formed.nd Zg)
  (Z1 (pS 4 sc_l_formed.nd Z4)
  (Z1 (pS 5 sc_l_formed.nd (Zx Z9m (Zr (Z0 (Zr (Z0 (Zd Zc (pv 2) Z4 (fun _ _=>rfl)) (Z0 (Zd Zc (pv 2) Z4 (fun _ _=>rfl)) Z3))) Z3)) (Zd Zc (pv 2) Z4 (fun _ _=>rfl))))
  (Z1 (Ur PassesOwn.never (Zb Vc (pv 4) (Zy Yh rfl T.b_len PyProof.Rows.Boot.«len» (Z0 (pv 0) Z3)) (Ze _)) (Z1 (pS 6 sc_l_formed.nd (Y9 V8 (pv 0) (Y2 (Zx Yn (pv 4) Z4)) (Y2 (Zx Yn (pv 4) Z4))))
  (Z1 (Zs (Zb Z7j (Zd Jj (pv 0) (pv 4) (fun _ _=>rfl)) Zg (Ze _)) (Z1 (pS 3 sc_l_formed.nd (Zx Yi (pv 3) (Zd Jj (pv 0) (pv 4) (fun _ _=>rfl))))
  (Z5 (pS 4 sc_l_formed.nd (Zx X3 (pv 4) Z4)))) (Z5 (Zs (Zb Zv (pv 6) Zg (Ze _)) (Z5 (pS 3 sc_l_formed.nd (Zx Yi (pv 3) Zg))) (Z5 (Zs (PW.pt (Vj (Zb Z7j (pv 6) Zg (Ze _)) (Vj (Zb Zaz (pv 6) Zg (by with_unfolding_all rfl)) (Wl (Zb Vc (Yu Uw rfl T.b_int PyProof.Rows.Boot.«int» (Z0 (pv 6) Z3)) (Zy Y8 rfl T.b_len PyProof.Rows.Boot.«len» (Z0 (pv 5) Z3)) (Ze _)))))) (Z1 (pS 7 sc_l_formed.nd (Zd Zc (pv 5) (Yu Uw rfl T.b_int PyProof.Rows.Boot.«int» (Z0 (pv 6) Z3)) (fun _ _=>rfl)))
  (Z5 (Zs (Ug (Z57 (pv 7))) (Z5 (pS 3 sc_l_formed.nd (Zx Yi (pv 3) (Y9 V8 (pv 1) (Y2 (Zd Zc (pv 7) Z4 (fun _ _=>rfl))) (Y2 (Zd Zc (pv 7) Z4 (fun _ _=>rfl))))))) Zk))) (Z5 (Zl Uh)))))))
  (Z5 (pS 4 sc_l_formed.nd (Zx Yn (pv 4) Z4))))))
  (Z5 (Zl (pv 3))))))),?_⟩
 refine Zhk ?_
 intro Ez Az1 Az2 Az3 Az4 Az5 Az6 Az7 Az8 Az9 Az10 Az11 Az12 Az13 Az14 Az15 Az16
 obtain⟨a',gv,e,ha,ga,es,rfl,hga,hes⟩:=hx
 cases e
 have hl:=Paired.length hes
 have rest14:∀(H':Hp) (pp pr:Addr),H' pp=some (.tup [.int x.1,.int x.2.1])->H' pr=some (.tup (.ref pp::es))->Gro [] H H'->Az14 Ez [some (.str fm),some (.str t),some (.ref a),some (.str ""),some (.int 0),some (.ref pr),none,none] H':=by
  intro H' pp pr hpp hpr g
  have hes':=Paired.mapP hes fun v z h=>EnA.mono (x:=z) g.tups h
  have fin:∀dn:Str,(some (dn++Z3n t x [])=(pz fm n 0).map (Z3n t x))->Q (.str dn) H':=fun dn h=>by
   obtain⟨ps,h1,h2⟩:=Option.map_eq_some_iff.mp h.symm
   have e:Z3n t x ps=dn:=h2.trans (Z0n dn)
   rw[← e]
   exact q1 ps h1 H' g
  have none_:∀dn:Str,((none:Option (List Pc)).map (fun qs=>dn++Z3n t x qs)=(pz fm n 0).map (Z3n t x))->Q .non H':=fun dn h=>by
   refine q2 ?_ H' g
   cases hz:pz fm n 0 with
   |none=>rfl
   |some ps=>rw[hz]at h;cases h
  refine⟨fun μ σ H''=>∃(p:Nat) (at_:Int) (dn:Str) (s6 s7:Option V),σ=[some (.str fm),some (.str t),some (.ref a),some (.str dn),some (.int at_),some (.ref pr),s6,s7]/\at_=p/\(pz fm n p).map (fun qs=>dn++Z3n t x qs)=(pz fm n 0).map (Z3n t x)/\dn.length<=8*p/\p<=fm.length+1/\H''=H'/\μ=fm.length+2-p,⟨_,0,0,"",none,none,rfl,rfl,?_,Nat.zero_le _,Nat.zero_le _,rfl,rfl⟩,?_⟩
  ·cases pz fm n 0 with
   |none=>rfl
   |some ps=>show some (("":Str)++Z3n t x ps)=_;rw[Z5a];rfl
  rintro μ σ H'' ⟨p,at_,dn,s6,s7,rfl,rfl,hpz,hdn,hple,rfl,rfl⟩
  refine Z9 rfl (Z9 rfl ⟨fm,rfl,Y5 (by omega),Xy rfl rfl (Z9 rfl (Ym (fun c=>?yes0) (fun c=>?no0)))⟩)
  case no0 =>
   have hc:¬p<fm.length:=fun z=>c (decide_eq_true (by omega))
   rw[Z5t hc]at hpz
   exact Z9 rfl (fin dn hpz)
  have hp:p<fm.length:=by have:=of_decide_eq_true c;omega
  have hch:=Z5x (t:=fm) (i:=(p:Int)) (by omega) (by omega)
  have ech:(⟨#[fm.cps.toList.getD (p:Int).toNat 0]⟩:Str)=Z4w fm p:=by rw[Int.toNat_natCast];rfl
  have hs:Txt.slice fm (some ((p:Int)+1)) (some ((p:Int)+2))=Z3a fm p:=by
   rw[show(p:Int)+1=((p+1:Nat):Int) by omega,show(p:Int)+2=((p+2:Nat):Int) by omega,Vq (by omega) (by omega)]
   rfl
  refine⟨_,fun _ _ q'=>q',?_⟩
  refine Z9 rfl (Z9 rfl (Xy rfl rfl ⟨_,rfl,Z9 rfl (Xy rfl rfl ⟨_,rfl,fm,rfl,Y5 (by omega),?_⟩)⟩))
  rw[hs]
  refine Z9 rfl (Z9 rfl ⟨fm,_,_,rfl,rfl,Y5 (by omega),hch,rfl,Z9 rfl (Ym (fun c1=>?_) (fun c1=>?_))⟩)
  ·have hd:¬Z4w fm p="$":=fun z=>by
    have c1':(!decide (V.str (⟨#[fm.cps.toList.getD (p:Int).toNat 0]⟩:Str)=V.str "$"))=true:=c1
    rw[ech,z]at c1'
    exact absurd c1' (by decide)
   rw[Z22 hp (Zdw hd),Z8v]at hpz
   refine Z9 rfl (Z9 rfl (Z9 rfl ⟨fm,_,_,rfl,rfl,Y5 (by omega),hch,⟨_,_,rfl,rfl,Y5 (by show dn.length+1<=_;omega),Z9 rfl (Xy rfl rfl (Z9 rfl (Xy rfl rfl ⟨_,?_,p+1,_,dn++Z4w fm p,_,_,rfl,?_,hpz,?_,by omega,rfl,rfl⟩)))⟩⟩))
   ·omega
   ·omega
   ·rw[X8]
    show dn.length+1<=_
    omega
  have hd:Z4w fm p="$":=by
   have c1':¬(!decide (V.str (⟨#[fm.cps.toList.getD (p:Int).toNat 0]⟩:Str)=V.str "$"))=true:=c1
   rw[ech]at c1'
   by_cases z:V.str (Z4w fm p)=V.str "$"
   ·injection z
   ·rw[decide_eq_false z]at c1'
    exact absurd rfl c1'
  refine Z9 rfl ⟨rfl,Z9 rfl (Ym (fun c2=>?_) (fun c2=>?_))⟩
  ·have ht2:Z3a fm p="$":=by have z:=of_decide_eq_true c2;injection z
   rw[Jc hp (Zdx hd ht2),Z8v]at hpz
   refine Z9 rfl ⟨_,_,rfl,rfl,Y5 (by show dn.length+1<=_;omega),Z9 rfl (Xy rfl rfl ⟨_,?_,p+2,_,dn++"$",_,_,rfl,?_,hpz,?_,by omega,rfl,rfl⟩)⟩
   ·omega
   ·omega
   ·rw[X8]
    show dn.length+1<=_
    omega
  have ht2:¬Z3a fm p="$":=fun z=>c2 (decide_eq_true (by rw[z]))
  have bad:kd fm n p=.bad->Q .non H'':=fun hb=>by
   rw[Z5u hp hb]at hpz
   exact none_ dn hpz
  have htl:=Z94 fm p
  have dnone:(Z3a fm p).length=0->kd fm n p=.bad:=fun z=>Z5d hd ht2 (by rw[Zjp z];decide +kernel)
  refine Z9 rfl ⟨rfl,Z9 rfl (Ym (fun c3=>?y3) (fun c3=>Ju (bad ?n3)))⟩
  case n3 =>
   refine dnone ?_
   have c3':¬(!decide (V.str (Z3a fm p)=V.str ""))=true:=c3
   by_cases z:V.str (Z3a fm p)=V.str ""
   ·injection z with z
    rw[z]
    rfl
   ·rw[decide_eq_false z]at c3'
    exact absurd rfl c3'
  have h1l:(Z3a fm p).length=1:=by
   have:¬(Z3a fm p).length=0:=fun z=>by
    have c3':(!decide (V.str (Z3a fm p)=V.str ""))=true:=c3
    rw[Zjp z]at c3'
    exact absurd c3' (by decide)
   omega
  have hdi:=Ze4 h1l
  refine Z9 rfl ⟨_,_,rfl,rfl,Z9 rfl (Ym (fun c4=>?y4) (fun c4=>Ju (bad ?n4)))⟩
  case n4 =>
   have c4':¬(!(Builtin.Str.occurrences digS (Z3a fm p) 0 digS.length 1).isEmpty)=true:=c4
   rw[hdi]at c4'
   cases hk:Zem (Z3a fm p) with
   |none=>exact Z5d hd ht2 hk
   |some k=>rw[hk]at c4';exact absurd rfl c4'
  have c4':(!(Builtin.Str.occurrences digS (Z3a fm p) 0 digS.length 1).isEmpty)=true:=c4
  rw[hdi]at c4'
  cases hk:Zem (Z3a fm p) with
  |none=>rw[hk]at c4';cases c4'
  |some k =>
  obtain⟨hi,_,hk9⟩:=Za1 hk
  refine Z9 rfl ⟨Z3a fm p,k,rfl,hi,by omega,Z9 rfl ⟨pr,_,rfl,.inr (SqT.of hpr),Xy rfl rfl (Z9 rfl (Ym (fun c5=>?y5) (fun c5=>bad ?n5)))⟩⟩
  case n5 =>
   refine Z9u hd ht2 hk fun z=>c5 (decide_eq_true ?_)
   show(k:Int)<(((V.ref pp::es).length:Nat):Int)
   rw[List.length_cons]
   omega
  have hkn:k<=n:=by
   have:(k:Int)<(((V.ref pp::es).length:Nat):Int):=of_decide_eq_true c5
   rw[List.length_cons]at this
   omega
  rw[Z5r hp (Zdv hd ht2 hk hkn),Z8v]at hpz
  have done_:∀s7:Option V,∀dn':Str,dn'=dn++Zgt t x (.nm k)->dn'.length<=8*(p+2)->∃m',m'<fm.length+2-p/\∃(p':Nat) (at_:Int) (dn:Str) (s6 s7':Option V),[some (V.str fm),some (V.str t),some (V.ref a),some (V.str dn'),some (V.int ((p:Int)+2)),some (V.ref pr),some (V.str (Z3a fm p)),s7]=[some (.str fm),some (.str t),some (.ref a),some (.str dn),some (.int at_),some (.ref pr),s6,s7']/\at_=p'/\(pz fm n p').map (fun qs=>dn++Z3n t x qs)=(pz fm n 0).map (Z3n t x)/\dn.length<=8*p'/\p'<=fm.length+1/\H''=H''/\m'=fm.length+2-p':=fun s7 dn' e hl'=>by
   have hp2:p+2<=fm.length+1:=by omega
   exact⟨_,(by omega:fm.length+2-(p+2)<_),p+2,_,dn',_,_,rfl,by omega,by rw[e];exact hpz,hl',hp2,rfl,rfl⟩
  cases k with
  |zero =>
   refine Z9 rfl (Z9 rfl ⟨Z3a fm p,0,rfl,hi,by omega,pr,_,0,.ref pp,rfl,rfl,SqT.of hpr,Vw,?_⟩)
   have hlen:(Txt.slice t (some (x.1:Int)) (some (x.2.1:Int))).length<=8:=Nat.le_trans (V1 t _ _) ht
   refine Z9 rfl (Z9 rfl (Zp (by rw[decide_eq_false (by intro z;cases z)];rfl) (Z9 rfl (Z9 rfl (Ys hpp Vw ⟨_,rfl,Ys hpp rfl ⟨_,rfl,t,rfl,Y5 (by omega),⟨_,_,rfl,rfl,Y5 (by omega),Z9 rfl (Xy rfl rfl (done_ _ _ rfl ?_))⟩⟩⟩)))))
   rw[X8]
   omega
  |succ j =>
   have hj:j<es.length:=by omega
   obtain⟨en,hen,hv⟩:=Y0 hes' (List.getElem?_eq_getElem hj)
   have eix:Z3o (.ref pp::es) ((j+1:Nat):Int)=some es[j]:=Ue (by rw[List.getElem?_cons_succ];exact List.getElem?_eq_getElem hj)
   have ed:x.2.2.getD j none=en:=by rw[List.getD_eq_getElem?_getD,hen];rfl
   have ec:Zgt t x (.nm (j+1))=Zlq t en:=by rw[← ed];rfl
   refine Z9 rfl (Z9 rfl ⟨Z3a fm p,((j+1:Nat):Int),rfl,hi,by omega,pr,_,_,_,rfl,rfl,SqT.of hpr,eix,?_⟩)
   cases en with
   |none =>
    have e0:es[j]=V.non:=hv
    rw[e0]
    exact Z9 rfl (Z9 rfl (Zf (by decide) (Z9 rfl (Xy rfl rfl (done_ _ dn (by rw[ec];exact(Z0n dn).symm) (by omega))))))
   |some pq =>
    obtain⟨pa,e0,hpa⟩:=hv
    rw[e0]
    have hlen:(Txt.slice t (some (pq.1:Int)) (some (pq.2:Int))).length<=8:=Nat.le_trans (V1 t _ _) ht
    refine Z9 rfl (Z9 rfl (Zp (by rw[decide_eq_false (by intro z;cases z)];rfl) (Z9 rfl (Z9 rfl (Ys hpa Vw ⟨_,rfl,Ys hpa rfl ⟨_,rfl,t,rfl,Y5 (by omega),⟨_,_,rfl,rfl,Y5 (by omega),Z9 rfl (Xy rfl rfl (done_ _ _ (by rw[ec];rfl) ?_))⟩⟩⟩)))))
    rw[X8]
    omega
 have g1:∀pp,H pp=none->Gro [] H (Zq H pp (.tup [.int x.1,.int x.2.1])):=fun pp h=>Gro.new h _
 refine Ys ha Vw (Ys ha rfl ⟨sz,fun pp hpp=>⟨sz,fun p1 hp1=>?_⟩⟩)
 have g2:Gro [] H (Zq (Zq H pp (.tup [.int x.1,.int x.2.1])) p1 (.tup [.ref pp])):=(Gro.new hpp _).tup hp1
 have e1:(Zq (Zq H pp (.tup [.int x.1,.int x.2.1])) p1 (.tup [.ref pp])) pp=some (.tup [.int x.1,.int x.2.1]):=by rw[Zi (Z7 Z2 hp1)];exact Z2
 refine Ys (g2.tups _ _ ha) rfl ⟨p1,ga,_,es,rfl,rfl,SqT.of Z2,SqT.of (g2.tups _ _ hga),by simp,Y5 (by show 1+es.length<=_;omega),fun e=>?_,fun e pr hpr=>?_⟩
 ·subst e
  exact rest14 _ pp p1 e1 Z2 g2
 ·have g3:=Gro.new (S:=[]) hpr (.tup ([.ref pp]++es))
  exact rest14 _ pp pr (g3.tups _ _ e1) Z2 (g2.trans g3)
inductive spLfI(vs:List V)(H:Hp)(Q:VK):Prop
 |mk (b l:Addr) (n:Nat) (_:vs=[.ref b,.ref l,.int n]) (_:BoxAt H b) (_:LetAt H l) (_:n<=9) (_:∀(fm:Str) (H':Hp),fm.length<=12->BoxAt H' b->Gro [b] H H'->Q (.str fm) H')
def Zjn:Sp:=fun vs H Q _=>spLfI vs H Q
abbrev Z09:Stmt:=top 75
theorem sc_l_form:FnScope ["_law_box","_law_letters_here","_law_groups","_law_form_here","_law_k","_law_kind"] ["_law_box","_law_letters_here","_law_groups"] (Za Z09):=V7
theorem Zkn(T:Blt mg)(O_l_take:Own P w K mg base 1 "_law_take" ["_law_box","_law_many"] W4)(O_l_sign:Own P w K mg base 1 "_law_sign" ["_law_cell"] Z32)(F:Fun K "_law_form" "_law_form" Z09 f fd):FnOk P w K mg base W3 2 f fd ["_law_box","_law_letters_here","_law_groups"] Zjn:=by
 refine F.ok sc_l_form (fun vs H Q E h=>?_) (fun cdv A outer s H vs Q E hr h=>?_)
 ·obtain⟨b,l,n,rfl,_⟩:=h
  rfl
 obtain⟨b,l,n,rfl,hb,hl,hn,q⟩:=h
 refine V6 ?_
 intro Xz
 refine⟨_,(Z1 (pS 3 sc_l_form.nd Zg)
  (Z1 (Xr PassesOwn.never rfl (Wu rfl T.b_range (Z0 (Zj (O_l_take.mono (by omega)) hr rfl (Z0 (pv 0) (Z0 Z4 Z3))) Z3)) (pN 4 sc_l_form.nd) (Z1 (pS 5 sc_l_form.nd (Zj (O_l_take.mono (by omega)) hr rfl (Z0 (pv 0) (Z0 Z4 Z3))))
  (Z1 (Zs (Zb Zv (pv 5) Z4 (Ze _)) (Z5 (pS 3 sc_l_form.nd (Zx Yi (pv 3) (Zd Y1 (pv 1) (Zj (O_l_take.mono (by omega)) hr rfl (Z0 (pv 0) (Z0 Z4 Z3))) (fun _ _=>rfl))))) Zk)
  (Z1 (Zs (Zb Zv (pv 5) Z4 (Ze _)) (Z5 (pS 3 sc_l_form.nd (Zx Yi (Zx Yi (pv 3) Zg) (Yu Z4u rfl T.b_str PyProof.Rows.Boot.«str» (Z0 (Zj (O_l_take.mono (by omega)) hr rfl (Z0 (pv 0) (Z0 (Zx Yn (pv 2) Z4) Z3))) Z3))))) Zk)
  (Z1 (Zs (Zb Zv (pv 5) Z4 (Ze _)) (Z5 (pS 3 sc_l_form.nd (Zx Yi (pv 3) Zg))) Zk)
  (Z1 (Zs (Zb Zv (pv 5) Z4 (Ze _)) (Z5 (pS 3 sc_l_form.nd (Zx Yi (pv 3) (Zj (O_l_sign.mono (by omega)) hr rfl (Z0 (Zj (O_l_take.mono (by omega)) hr rfl (Z0 (pv 0) (Z0 Z4 Z3))) Z3))))) Zk)
  (Z5 (Zs (Zb Zv (pv 5) Z4 (Ze _)) (Z5 (pS 3 sc_l_form.nd (Zx Yi (Zx Yi (pv 3) Zg) (Zj (O_l_sign.mono (by omega)) hr rfl (Z0 (Zj (O_l_take.mono (by omega)) hr rfl (Z0 (pv 0) (Z0 Z4 Z3))) Z3))))) Zk))))))))
  (Z5 (Zl (pv 3))))),?_⟩
 refine Zi0 ?_
 intro Ez Az1 Az2 Az3 Az4 Az5 Az6 Az7 Az8 Az9 Az10 Az11 Az12 Az13
 have lS:l∉[b]:=by simpa using Ne.symm (hb.ne_let hl)
 refine Z9 rfl ⟨b,7,rfl,hb,by decide,by decide,fun r H1 r0 r1 hb1 g1=>Z9 rfl ⟨by omega,by omega,?_⟩⟩
 refine Vu (n:=r.toNat) (fun k σ H'=>∃(fm:Str) (k4 k5:Option V),σ=[some (.ref b),some (.ref l),some (.int n),some (.str fm),k4,k5]/\fm.length<=2*k/\BoxAt H' b/\Gro [b] H H') ⟨"",none,none,rfl,Nat.zero_le _,hb1,g1⟩ ?_ ?_
 ·rintro k σ H' hk ⟨fm,k4,k5,rfl,hfl,hb',g'⟩
  have l':=hl.gro g' lS
  refine Z9 rfl ⟨b,5,rfl,hb',by decide,by decide,fun kd H3 k0 k1 hb3 g3=>?_⟩
  have l3:=l'.gro g3 lS
  have hkd:kd=0∨kd=1∨kd=2∨kd=3∨kd=4:=by omega
  rcases hkd with rfl | rfl | rfl | rfl | rfl
  ·refine Z9 rfl ⟨rfl,_,rfl,Zp (by decide) (Z9 rfl (Z9 rfl (Z9 rfl ⟨b,3,rfl,hb3,by decide,by decide,fun r3 H4 h30 h31 hb4 g4=>?_⟩)))⟩
   refine Zbn (l3.gro g4 lS) h30 h31 fun s1 hs1=>⟨_,_,rfl,rfl,Y5 (by omega),?_⟩
   refine Z9 rfl ⟨rfl,_,rfl,Zf (by decide) (Z9 rfl ⟨rfl,_,rfl,Zf (by decide) (Z9 rfl ⟨rfl,_,rfl,Zf (by decide) (Z9 rfl ⟨rfl,_,rfl,Zf (by decide) ?_⟩)⟩)⟩)⟩
   exact⟨fm++s1,_,_,rfl,by rw[X8];omega,hb4,(g'.trans g3).trans g4⟩
  ·refine Z9 rfl ⟨rfl,_,rfl,Zf (by decide) (Z9 rfl ⟨rfl,_,rfl,Zp (by decide) (Z9 rfl ⟨_,_,rfl,rfl,Y5 (by show fm.length+1<=_;omega),Z9 rfl (Z9 rfl (Xy rfl rfl ⟨b,_,rfl,hb3,by omega,by omega,fun r3 H4 h30 h31 hb4 g4=>?_⟩))⟩)⟩)⟩
   have hr:(Str.ofString (toString r3)).length=1/\r3.natAbs.log2<1920:=by
    have:r3=0∨r3=1∨r3=2∨r3=3∨r3=4∨r3=5∨r3=6∨r3=7∨r3=8∨r3=9:=by omega
    rcases this with rfl | rfl | rfl | rfl | rfl | rfl | rfl | rfl | rfl | rfl <;> decide +kernel
   refine⟨r3,rfl,hr.2,_,_,rfl,rfl,Y5 (by rw[X8,hr.1];show fm.length+1+1<=_;omega),?_⟩
   refine Z9 rfl ⟨rfl,_,rfl,Zf (by decide) (Z9 rfl ⟨rfl,_,rfl,Zf (by decide) (Z9 rfl ⟨rfl,_,rfl,Zf (by decide) ?_⟩)⟩)⟩
   refine⟨_,_,_,rfl,?_,hb4,(g'.trans g3).trans g4⟩
   rw[X8,X8,hr.1]
   show fm.length+1+1<=_
   omega
  ·refine Z9 rfl ⟨rfl,_,rfl,Zf (by decide) (Z9 rfl ⟨rfl,_,rfl,Zf (by decide) (Z9 rfl ⟨rfl,_,rfl,Zp (by decide) (Z9 rfl ⟨_,_,rfl,rfl,Y5 (by show fm.length+2<=_;omega),?_⟩)⟩)⟩)⟩
   refine Z9 rfl ⟨rfl,_,rfl,Zf (by decide) (Z9 rfl ⟨rfl,_,rfl,Zf (by decide) ?_⟩)⟩
   refine⟨_,_,_,rfl,?_,hb3,g'.trans g3⟩
   rw[X8]
   show fm.length+2<=_
   omega
  ·refine Z9 rfl ⟨rfl,_,rfl,Zf (by decide) (Z9 rfl ⟨rfl,_,rfl,Zf (by decide) (Z9 rfl ⟨rfl,_,rfl,Zf (by decide) (Z9 rfl ⟨rfl,_,rfl,Zp (by decide) (Z9 rfl (Z9 rfl ⟨b,94,rfl,hb3,by decide,by decide,fun r3 H4 h30 h31 hb4 g4=>⟨r3,rfl,fun s1 hs1=>⟨_,_,rfl,rfl,Y5 (by omega),?_⟩⟩⟩))⟩)⟩)⟩)⟩
   refine Z9 rfl ⟨rfl,_,rfl,Zf (by decide) ?_⟩
   exact⟨fm++s1,_,_,rfl,by rw[X8];omega,hb4,(g'.trans g3).trans g4⟩
  ·refine Z9 rfl ⟨rfl,_,rfl,Zf (by decide) (Z9 rfl ⟨rfl,_,rfl,Zf (by decide) (Z9 rfl ⟨rfl,_,rfl,Zf (by decide) (Z9 rfl ⟨rfl,_,rfl,Zf (by decide) (Z9 rfl ⟨rfl,_,rfl,Zp (by decide) (Z9 rfl ⟨_,_,rfl,rfl,Y5 (by show fm.length+1<=_;omega),Z9 rfl ⟨b,94,rfl,hb3,by decide,by decide,fun r3 H4 h30 h31 hb4 g4=>⟨r3,rfl,fun s1 hs1=>⟨_,_,rfl,rfl,Y5 (by rw[X8];show fm.length+1+s1.length<=_;omega),?_⟩⟩⟩⟩)⟩)⟩)⟩)⟩)⟩
   refine⟨_,_,_,rfl,?_,hb4,(g'.trans g3).trans g4⟩
   rw[X8,X8,hs1]
   show fm.length+1+1<=_
   omega
 ·rintro σ H' ⟨fm,k4,k5,rfl,hfl,hb',g'⟩
  exact Z9 rfl (q fm H' (by omega) hb' g')
inductive spNfI(vs:List V)(H:Hp)(Q:VK):Prop
 |mk (v:V) (t fm:Str) (n:Nat) (m:Int) (p:Pat) (_:vs=[v,.str t,.str fm,.int m]) (_:PatAt H 8 v p) (_:p.groups=n) (_:fm.length<=12) (_:pz fm n 0=none) (_:∀H',Gro [] H H'->Q (.bl true) H')
def Zjm:Sp:=fun vs H Q _=>spNfI vs H Q
abbrev U5:Stmt:=top 76
theorem Z4l:FnScope ["_law_p","_law_text_here","_law_form_here","_law_most"] ["_law_p","_law_text_here","_law_form_here","_law_most"] (Za U5):=V7
theorem Zkm(XC_NoForm:XC K mg "NoForm" CN CE)(O_replaced:OwnX P w K mg base 31 "replaced" ["pattern","text","form","most"] (Z5n CN))(F:Fun K "_law_no_form" "_law_no_form" U5 f fd):FnOk P w K mg base W3 32 f fd ["_law_p","_law_text_here","_law_form_here","_law_most"] Zjm:=by
 refine F.ok Z4l (fun vs H Q E h=>?_) (fun cdv A outer s H vs Q E hr h=>?_)
 ·obtain⟨v,t,fm,n,m,p,rfl,_⟩:=h
  rfl
 obtain⟨v,t,fm,n,m,p,rfl,hp,hgr,hfm,hb,q⟩:=h
 refine V6 ?_
 intro Xz
 refine⟨_,(Z1 (Zif rfl rfl rfl XC_NoForm.mgx (fun _ _ _ hxb=>(Z5 (Zn (Z23 hxb (O_replaced.mono (by omega)) hr rfl (Z0 (pv 0) (Z0 (pv 1) (Z0 (pv 2) (Z0 (pv 3) Z3)))))))) (fun _=>(Z5 (Zl Tk))))
  (Z5 (Zl Tk))),?_⟩
 refine Z1e ?_
 intro Ez Az1
 refine Z9 rfl (Z9 rfl (Z9 rfl (Z9 rfl ⟨v,t,fm,n,m,p,rfl,hp,hgr,hfm,fun _ H' g=>⟨⟨CN,rfl,XC_NoForm.catch1⟩,q H' g⟩,fun ps hps=>?_⟩)))
 rw[hb]at hps
 cases hps
inductive spLawI(K:W.Frag)(vs:List V)(H:Hp)(Q:VK):Prop
 |mk (a:Addr) (ns:List Int) (_:vs=[.ref a]) (_:SqL K H a (ns.map V.int)) (_:ns.length<=63) (_:∀H',Q (.bl true) H')
def Z4x(K:W.Frag):Sp:=fun vs H Q _=>spLawI K vs H Q
abbrev Jl:Stmt:=top 77
theorem sc_law:FnScope ["_law_script","_law_box","_law_letters_here","_law_text_here","_law_drawn_here","_law_form_here","_law_left","_law_due","_law_begin","_law_one","_law_told"] ["_law_script"] (Za Jl):=V7
theorem Zis(T:Blt mg)(O_l_letters:Own P w K mg base 2 "_law_letters" ["_law_box"] J3)(O_l_take:Own P w K mg base 1 "_law_take" ["_law_box","_law_many"] W4)(O_l_text:Own P w K mg base 2 "_law_text" ["_law_box","_law_letters_here","_law_size"] Z5m)(O_l_drawn:Own P w K mg base 13 "_law_drawn" ["_law_box","_law_letters_here","_law_plain"] Z1x)
  (O_l_finds:Own P w K mg base 214 "_law_finds" ["_law_p","_law_text_here","_law_g","_law_left"] Z53) (O_l_formed:Own P w K mg base 1 "_law_formed" ["_law_form_here","_law_text_here","_law_find_here"] Zee) (O_l_form:Own P w K mg base 2 "_law_form" ["_law_box","_law_letters_here","_law_groups"] Zjn) (O_l_no_form:Own P w K mg base 32 "_law_no_form" ["_law_p","_law_text_here","_law_form_here","_law_most"] Zjm) (O_replaced:OwnX P w K mg base 31 "replaced" ["pattern","text","form","most"] (Z5n CN))
  (F:Fun K "law" "law" Jl f fd):FnOk P w K mg base W3 220 f fd ["_law_script"] (Z4x K):=by
 refine F.ok sc_law (fun vs H Q E h=>?_) (fun cdv A outer s H vs Q E hr h=>?_)
 ·obtain⟨a,ns,rfl,_⟩:=h
  rfl
 obtain⟨a,ns,rfl,hS,h63,q⟩:=h
 refine V6 ?_
 intro Xz
 refine⟨_,(Z1 (pS 1 sc_law.nd (Yu Z4v rfl T.b_list PyProof.Rows.Boot.«list» (Z0 (pv 0) Z3)))
  (Z1 (pS 2 sc_law.nd (Zj (O_l_letters.mono (by omega)) hr rfl (Z0 (pv 1) Z3)))
  (Z1 (pS 3 sc_law.nd (Zj (O_l_text.mono (by omega)) hr rfl (Z0 (pv 1) (Z0 (pv 2) (Z0 (Zj (O_l_take.mono (by omega)) hr rfl (Z0 (pv 1) (Z0 Z4 Z3))) Z3)))))
  (Z1 (pS 4 sc_law.nd (Zj (O_l_drawn.mono (by omega)) hr rfl (Z0 (pv 1) (Z0 (pv 2) (Z0 Z4 Z3)))))
  (Z1 (pS 5 sc_law.nd (Zj (O_l_form.mono (by omega)) hr rfl (Z0 (pv 1) (Z0 (pv 2) (Z0 (Zy Y8 rfl T.b_len PyProof.Rows.Boot.«len» (Z0 (Zd Zc (pv 4) Z4 (fun _ _=>rfl)) Z3)) Z3)))))
  (Z1 (Zs (Ug (Th (Zj (O_l_formed.mono (by omega)) hr rfl (Z0 (pv 5) (Z0 (pv 3) (Z0 (Zr (Z0 Z4 (Z0 Z4 (Z0 (Zd Zc (pv 4) Z4 (fun _ _=>rfl)) Z3)))) Z3)))))) (Z5 (Zl (Zdo (Zj (O_l_no_form.mono (by omega)) hr rfl (Z0 (Zd Zc (pv 4) Z4 (fun _ _=>rfl)) (Z0 (pv 3) (Z0 (pv 5) (Z0 Z4 Z3))))) (Z5v (Zj (O_l_no_form.mono (by omega)) hr rfl (Z0 (Zd Zc (pv 4) Z4 (fun _ _=>rfl)) (Z0 (pv 3) (Z0 (pv 5) (Z0 Z4 Z3))))))))) Zk)
  (Z1 (pS 6 sc_law.nd (Y4 (Z0 Z4 Z3)))
  (Z1 (pS 7 sc_law.nd Zg)
  (Z1 (pS 8 sc_law.nd Z4)
  (Z1 (Xr PassesOwn.never rfl (Vn (Zj (O_l_finds.mono (by omega)) hr rfl (Z0 (Zd Zc (pv 4) Z4 (fun _ _=>rfl)) (Z0 (pv 3) (Z0 (Zd Zc (pv 4) Z4 (fun _ _=>rfl)) (Z0 (pv 6) Z3)))))) (pN 9 sc_law.nd) (Z1 (pS 7 sc_law.nd (Zx Yi (Zx Yi (pv 7) (Y9 V8 (pv 3) (Y2 (pv 8)) (Y2 (Zd Zc (pv 9) Z4 (fun _ _=>rfl))))) (Zj (O_l_formed.mono (by omega)) hr rfl (Z0 (pv 5) (Z0 (pv 3) (Z0 (pv 9) Z3))))))
  (Z5 (pS 8 sc_law.nd (Zd Zc (pv 9) Z4 (fun _ _=>rfl))))))
  (Z1 (pS 7 sc_law.nd (Zx Yi (pv 7) (Y9 V8 (pv 3) (Y2 (pv 8)) Xs)))
  (Z1 (Zs (Zb Vc (Zd Y1 (pv 6) Z4 (fun _ _=>rfl)) Z4 (Ze _)) (Z5 (Zl Tk)) Zk)
  (Z1 (pS 10 sc_law.nd (Z23 Zil (O_replaced.mono (by omega)) hr rfl (Z0 (Zd Zc (pv 4) Z4 (fun _ _=>rfl)) (Z0 (pv 3) (Z0 (pv 5) (Z0 Z4 Z3))))))
  (Z5 (Zl (Zdo (Zy (Z1c (T:="str") (Zdz (by simp))) rfl T.b_isinstance PyProof.Rows.Boot.«isinstance» (Z0 (pv 10) (Z0 (Z9g (v:=.ty "str") rfl T.b_str PyProof.Rows.Boot.«str» rfl) Z3))) (Z5v (X7 Zv (pv 10) (pv 7) (Ze _))))))))))))))))))),?_⟩
 refine Zi7 ?_
 intro Ez Az1 Az2 Az3 Az4 Az5 Az6 Az7 Az8 Az9 Az10 Az11 Az12 Az13 Az14 Az15 Az16 Az17
 refine(Z9 rfl ⟨a,Z9 rfl ⟨.inl hS,fun b hb=>?_⟩⟩)
 refine(Z9 rfl ⟨b,rfl,⟨ns,Z2,h63⟩,fun l H1 hb1 hl1 g1=>?_⟩)
 have bl:b≠l:=hb1.ne_let hl1
 have lS:l∉[b]:=by simpa using Ne.symm bl
 refine(Z9 rfl (Z9 rfl (Z9 rfl ⟨b,9,rfl,hb1,by decide,by decide,fun x H2 hm0 hm1 hb2 g2=>?_⟩)))
 have l2:=hl1.gro g2 lS
 refine⟨b,l,x,rfl,hb2,l2,hm0,by omega,fun t H3 ht hb3 g3=>?_⟩
 have l3:=l2.gro g3 lS
 have ht8:t.length<=8:=by omega
 refine(Z9 rfl (Z9 rfl ⟨b,l,0,rfl,hb3,l3,fun tp gd v p n H5 hb5 ht5 hg5 hn5 hnm hhas hgr hp5 g5=>?_⟩))
 refine Z9 rfl (Z9 rfl (Ys ht5 rfl ⟨gd,_,rfl,.inr (SqT.of hg5),⟨b,l,n,by rw[List.length_replicate];rfl,hb5,l3.gro g5 lS,hn5,fun fm H6 hfm hb6 g6=>?_⟩⟩))
 have ht6:=g6.tups _ _ ht5
 have hg6:=g6.tups _ _ hg5
 have hp6:=hp5.1.mono g6.tups
 have hcnt:=Zd4 hp5.1.wf hnm hhas
 refine Z9 rfl (Z9 rfl (Ys ht6 rfl ⟨sz,fun fa hfa=>?_⟩))
 have g7:=Gro.new (S:=[]) hfa (.tup [.int 0,.int 0,.ref gd])
 have hfn:Zbo (Zq H6 fa (.tup [.int 0,.int 0,.ref gd])) (.ref fa) (0,(0,List.replicate n none)):=⟨fa,.ref gd,rfl,Z2,gd,_,rfl,g7.tups _ _ hg6,T4 n⟩
 have ht7:=g7.tups _ _ ht6
 have hg7:=g7.tups _ _ hg6
 have hp7:=hp6.mono g7.tups
 generalize Zq H6 fa (.tup [.int 0,.int 0,.ref gd])=H7 at *
 refine⟨fm,t,fa,(0,(0,List.replicate n none)),n,rfl,hfn,List.length_replicate,hn5,hfm,ht8,fun ps hps H8 g8=>?some_,fun hbad H8 g8=>?none_⟩
 case none_ =>
  have ht8':=g8.tups _ _ ht7
  refine Z9 rfl (Zp (by decide) (Ys ht8' Vw (Z9 rfl (Z9 rfl ⟨v,t,fm,n,1,p,rfl,(hp7.mono g8.tups).deep (by omega),hgr,hfm,hbad,fun H9 g9=>?_⟩))))
  have ht9:=g9.tups _ _ ht8'
  refine Z9 rfl (Te ?_)
  exact Ys ht9 Vw (Z9 rfl (Z9 rfl ⟨v,t,fm,n,1000,p,rfl,((hp7.mono g8.tups).mono g9.tups).deep (by omega),hgr,hfm,hbad,fun HA gA=>q HA⟩))
 have ok:=Zgy hps
 have hpl:ps.length<=12:=Nat.le_trans ok.len hfm
 refine Z9 rfl (Zf (by intro z;have z':=of_decide_eq_true z;cases z') ?_)
 refine⟨sz,fun lf hlf=>?_⟩
 have g9:=Gro.new (S:=[]) hlf (.lst [.int 1500])
 have hl9:(Zq H8 lf (.lst [.int 1500])) lf=some (.lst [.int 1500]):=Z2
 have ht9:=g9.tups _ _ (g8.tups _ _ ht7)
 have hg9:=g9.tups _ _ (g8.tups _ _ hg7)
 have hp9:=(hp7.mono g8.tups).mono g9.tups
 generalize Zq H8 lf (.lst [.int 1500])=H9 at *
 refine(Ys ht9 Vw (Z9 rfl (Ys ht9 rfl (Z9 rfl ⟨v,.ref gd,p,t,n,1500,lf,rfl,hp9,hnm,by omega,by omega,⟨gd,Z9 rfl ⟨hg9,T4 n⟩⟩,hl9,by decide,fun fl us xs N HA hfl hus hxs hxl hF hlA hne gA=>⟨fl,rfl,⟨_,SqL.of hfl⟩,?_⟩⟩))))
 have htA:=gA.tups _ _ ht9
 have hpA:=hp9.mono gA.tups
 have hel:=Paired.length hus
 have hsl:∀(e e':Option Int),(Txt.slice t e e').length<=8:=fun e e'=>Nat.le_trans (V1 t _ _) ht8
 have hfll:∀x9:Nat×Yd,(Z3n t x9 ps).length<=96:=fun x9=>Nat.le_trans (Za0 (x:=x9) ok ht8) (by omega)
 refine J0 (xs:=us) (fun k σ H'=>∃(due:Str) (bg:Int) (s9:Option V),σ=[some (.ref a),some (.ref b),some (.ref l),some (.str t),some (.ref tp),some (.str fm),some (.ref lf),some (.str due),some (.int bg),s9,none]/\0<=bg/\due++(Z7f t bg (xs.drop k)++gF t ps (xs.drop k))=Z7f t 0 xs++gF t ps xs/\due.length<=k*104/\Gro [] HA H')
  ⟨"",0,none,rfl,Int.le_refl _,Z5a _,Nat.zero_le _,Gro.refl⟩ (fun k σ H' _ ⟨_,_,_,_,_,_,_,g⟩=>SqL.of (g.keep _ _ hfl (by simp))) ?_ ?_
 ·rintro k y σ H' hy ⟨due,bg,s9,rfl,hbg,hdue,hdl,g⟩
  obtain⟨x9,hx9,hF9⟩:=Y0 (X9 g.tups hus) hy
  obtain⟨a9,gv9,rfl,ha9,_⟩:=id hF9
  have hk:k<us.length:=(List.getElem?_eq_some_iff.mp hy).1
  have hx7:=hxs x9 (List.mem_of_getElem? hx9)
  have h8:=hsl (some bg) (some (x9.1:Int))
  have h96:=hfll x9
  have hdl9:due.length<=936:=by omega
  refine Z9 rfl (Z9 rfl (Z9 rfl ⟨_,rfl,Ys ha9 Vw ⟨_,rfl,t,rfl,Y5 (by omega),⟨_,_,rfl,rfl,Y5 (by omega),Z9 rfl (Z9 rfl (Z9 rfl ⟨fm,t,a9,x9,n,rfl,hF9,hx7.2.2,hn5,hfm,ht8,fun ps' hps' H'' g''=>?_,fun hbad=>by rw[hps]at hbad;cases hbad⟩))⟩⟩⟩))
  rw[hps]at hps'
  cases hps'
  refine⟨_,_,rfl,rfl,Y5 (by rw[X8];omega),Ys (g''.tups _ _ ha9) rfl ⟨_,_,_,rfl,by omega,?_,?_,g.trans g''⟩⟩
  ·rw[List.drop_eq_getElem_cons (List.getElem?_eq_some_iff.mp hx9).1,(List.getElem?_eq_some_iff.mp hx9).2]at hdue
   rw[← hdue,Vv,Vv]
   rfl
  ·rw[X8,X8]
   omega
 ·rintro σ H' ⟨due,bg,s9,rfl,hbg,hdue,hdl,g⟩
  rw[List.drop_of_length_le (by omega)]at hdue
  have hw:due++Txt.slice t (some bg) none=Z7f t 0 xs++gF t ps xs:=by
   rw[← hdue]
   show _=due++(Txt.slice t (some bg) none++("":Str))
   rw[Z0n]
  have h8:=hsl (some bg) none
  refine Z9 rfl (Z9 rfl (Z9 rfl ⟨_,rfl,t,rfl,Y5 (by omega),⟨_,_,rfl,rfl,Y5 (by omega),?_⟩⟩))
  rw[hw]
  have hl':=g.keep _ _ hlA (by simp)
  refine(Z7l hl' rfl ⟨_,_,rfl,rfl,_,rfl,Ym (fun _=>q _) (fun z=>?_)⟩)
  have hN:0<=(1500:Int)-N:=by
   have:¬(1500:Int)-N<0:=fun z'=>z (decide_eq_true z')
   omega
  refine Ys (g.tups _ _ htA) Vw (Z9 rfl (Z9 rfl ⟨v,t,fm,n,1000000,p,rfl,(hpA.mono g.tups).deep (by omega),hgr,hfm,fun hbad=>(by rw[hps]at hbad;cases hbad),fun ps' hps'=>⟨N,xs,rfl,Nat.le_trans hp5.2 (by decide),hnm,hcnt,hn5,ht8,hxl,fun x9 h9=>(hxs x9 h9).2.2,hF hN,by omega,fun HB gB=>?_⟩⟩))
  rw[hps]at hps'
  cases hps'
  refine Z9 rfl ⟨_,_,rfl,rfl,Z9 rfl (Te (Z9 rfl (Z9 rfl ⟨rfl,?_⟩)))⟩
  rw[decide_eq_true (by rfl)]
  exact q _
theorem Y6{x:Str}{st:Stmt}{ps:List Str}{f:Addr}{oc:Value}{od an:Option Addr}{osl:Array (Option Value)}{kV doc pm cdv ct:Value}(X:K.In h)(G:h.Ns mainGlobals mg)(a:W.nsIn K mainGlobals x=some (some (.ref f)))
  (l:K.lookup f=some ⟨oc,od,.func (W.fnOf x x (W8 st) (Xj st) (Za st) .none kV doc pm an cdv ct),osl⟩) (c:W.codeIn K cdv x=true) (k:W.keepIn K (.ref f)=true)
  (hb:∀(kV doc pm:Value) (an:Option Addr) (cdv ct:Value) (us:List Value),us.length=ps.length->bindArgs (W.fnOf x x (W8 st) (Xj st) (Za st) .none kV doc pm an cdv ct) ⟨us,[]⟩=pure (ps.zip us)):Def K mg x st ps :=
 ⟨f,_,Z02 (st:=st) l c k,W.mg_of X G a,(Z02 (st:=st) l c k).binds hb⟩
theorem Z4d{x:Str}{pl:Addr}{od:Option Addr}{n:Nat}{sl:Array (Option Value)}{x1 x2 x3 x4 x5 x6 x7:Str}{t1 t2 t3 t4 t5 t6 t7:Tok}(X:K.In h)(G:h.Ns mainGlobals mg)(a:W.nsIn K mainGlobals x=some (some (.ref pl)))(l:K.lookup pl=some ⟨.type "tuple",od,.seq #[.str x1 t1,.str x2 t2,.str x3 t3,.str x4 t4,.str x5 t5,.str x6 t6,.str x7 t7] n,sl⟩) :
  ∃pl,mg x=some (.ref pl)/\∀H,SqT K H pl [.str x1,.str x2,.str x3,.str x4,.str x5,.str x6,.str x7]:=⟨pl,W.mg_of X G a,fun H=>.inr ⟨_,_,n,l,rfl,rfl,sz,(.cons ⟨_,rfl⟩ (.cons ⟨_,rfl⟩ (.cons ⟨_,rfl⟩ (.cons ⟨_,rfl⟩ (.cons ⟨_,rfl⟩ (.cons ⟨_,rfl⟩ (.cons ⟨_,rfl⟩ .nil)))))))⟩⟩
theorem Zh7{l:W.OpenLaw}{w:World}{fa f:Addr}{oc:Value}{od an:Option Addr}{osl:Array (Option Value)}{kV doc pm cdv ct:Value}(X:K.In h)(G:h.Ns mainGlobals mg)(hfa:mg "law" = some (.ref fa))(a:W.nsIn K mainGlobals "law" = some (some (.ref f)))
  (lk:K.lookup f=some ⟨oc,od,.func (W.fnOf "law" "law" (W8 Jl) (Xj Jl) (Za Jl) .none kV doc pm an cdv ct),osl⟩) (c:W.codeIn K cdv "law" = true) (k:W.keepIn K (.ref f)=true)
  (rest:∀(base:Heap) (f:Addr) (fd:FuncData),Fun K "law" "law" Jl f fd->FnOk l.prog w K mg base W3 220 f fd ["_law_script"] (Z4x K)) :
  ∃fd:FuncData,(∀(s:Shared) (v:Value),BindsTo s fd ⟨[v],[]⟩ [("_law_script",v)])/\∀base:Heap,K.In base->base.Ns mainGlobals mg->FnOk l.prog w K mg base W3 220 fa fd ["_law_script"] (Z4x K):=by
 have e:=hfa.symm.trans (W.mg_of X G a)
 cases e
 exact⟨W.fnOf "law" "law" (W8 Jl) (Xj Jl) (Za Jl) .none kV doc pm an cdv ct,fun s v=>.of_eq rfl,fun base _ _=>rest base _ _ (Z02 (st:=Jl) lk c k)⟩
theorem Z8e{w:World}{x:Str}{pl:Addr}{n:Nat}{h1 h2 h3 h4 h5:Int}{k1 k2 k3 k4 k5 v1 v2 v3 v4 v5:Str}{t1 t2 t3 t4 t5 u1 u2 u3 u4 u5:Tok}(X:K.In h)(G:h.Ns mainGlobals mg)(a:W.nsIn K mainGlobals x=some (some (.ref pl)))
  (l:K.lookup pl=some ⟨.type "dict",none,.dict #[⟨h1,.str k1 t1,.str v1 u1⟩,⟨h2,.str k2 t2,.str v2 u2⟩,⟨h3,.str k3 t3,.str v3 u3⟩,⟨h4,.str k4 t4,.str v4 u4⟩,⟨h5,.str k5 t5,.str v5 u5⟩] n,#[]⟩) (hd:(pl==sysModules)=false)
  (e:h1=PyData.keyHash w.params k1/\h2=PyData.keyHash w.params k2/\h3=PyData.keyHash w.params k3/\h4=PyData.keyHash w.params k4/\h5=PyData.keyHash w.params k5) (nd:([(.inr k1),(.inr k2),(.inr k3),(.inr k4),(.inr k5)]:List Ti).Nodup) :
  ∃pl,mg x=some (.ref pl)/\Zen K w pl [(.inr k1,.str v1),(.inr k2,.str v2),(.inr k3,.str v3),(.inr k4,.str v4),(.inr k5,.str v5)] :=
 ⟨pl,W.mg_of X G a,Ze6 l hd (.cons (J1 e.1) (.cons (J1 e.2.1) (.cons (J1 e.2.2.1) (.cons (J1 e.2.2.2.1) (.cons (J1 e.2.2.2.2) .nil))))) nd⟩
theorem Zbg{x:Str}{pl:Addr}{od:Option Addr}{n:Nat}{sl:Array (Option Value)}{x1 x2:Str}{t1 t2:Tok}(X:K.In h)(G:h.Ns mainGlobals mg)(a:W.nsIn K mainGlobals x=some (some (.ref pl)))(l:K.lookup pl=some ⟨.type "tuple",od,.seq #[.str x1 t1,.str x2 t2] n,sl⟩) :
  ∃pl,mg x=some (.ref pl)/\∀H,SqT K H pl [.str x1,.str x2]:=⟨pl,W.mg_of X G a,fun H=>.inr ⟨_,_,n,l,rfl,rfl,sz,(.cons ⟨_,rfl⟩ (.cons ⟨_,rfl⟩ .nil))⟩⟩
theorem Zbf{x y:Str}{t:Tok}(X:K.In h)(G:h.Ns mainGlobals mg)(a:W.nsIn K mainGlobals x=some (some (.str y t))):∃t,mg x=some (.str y t):=⟨t,W.mg_of X G a⟩
structure SeekDefs(K:W.Frag)(mg:Str->Option Value)(CS:Addr):Prop where
 mg_:mg "Seeker" = some (.ref CS)
 tx:TxtS K CS
 mks:W.makesIn K CS=true
 kc:W.keepIn K (.ref CS)=true
 init:MDef K CS "__init__" "Seeker.__init__" Xg ["self","pattern","text","most"]
 from_:MDef K CS "first_from" "Seeker.first_from" X2 ["self","start"]
 at_:MDef K CS "find_at" "Seeker.find_at" Xn ["self","begin"]
theorem Zex{C:Addr}(pg:W.plainGet K C Str.empty=true)(hd:W.hasDictIn K C=true)(po:W.plainOver K C=true)(sa:W.findIn K (.ref C) "__setattr__" = some (some (.builtin "object.__setattr__")))
  (a1:W.findIn K (.ref C) "rows" = some none) (a2:W.findIn K (.ref C) "text" = some none) (a3:W.findIn K (.ref C) "left" = some none):TxtS K C:=⟨⟨pg,hd,po,sa⟩,a1,a2,a3⟩
theorem Def.ownX{P:Program}{w:World}{base:Heap}{x:Str}{st:Stmt}{ps:List Str}{k:Nat}{sp:Sp}(D:Def K mg x st ps)(h:∀f fd,Fun K x x st f fd->FnOk P w K mg base (Zeo P w) k f fd ps sp):OwnX P w K mg base k x ps sp:=by
 obtain⟨f,fd,F,m,b⟩:=D.ex
 exact⟨f,fd,h f fd F,m,F.kp,b⟩
theorem Zh0{N:Addr}{oc:Value}{od:Option Addr}{es:Array DictEntry}{n:Nat}{osl:Array (Option Value)}(l:K.lookup N=some ⟨oc,od,.dict es n,osl⟩)(hs:(es.toList.all fun e=>match e.key with | .str _ _=>true | _=>false)=true):∀h,K.In h->h.Ns N (nsFind es):=fun h X=>by
 refine⟨_,es,n,X _ _ l,rfl,fun e he=>?_,fun _=>rfl⟩
 have:=List.all_eq_true.mp hs e (by simpa using he)
 cases hk:e.key with
 |str y t=>exact⟨y,t,rfl⟩
 |_=>rw[hk]at this;cases this
theorem Zk8{x:Str}{C C' N N':Addr}{nm q:Str}{bs:List Value}{hdct:Bool}{sn:List Str}{sub:List Value}{ab:Bool}{col:Option Bool}{dd:Option Addr}{k0 k1 k2 k3 k5:Option Value}{oc oc' c0':Value}{od od' dd':Option Addr}{es es':Array DictEntry}{n n':Nat}{osl osl' sl':Array (Option Value)}{nm' q':Str}{bs' mr':List Value}{hdct':Bool}{sn':List Str}{sub':List Value}{ab' hd':Bool}{col':Option Bool}
  (X:K.In h) (G:h.Ns mainGlobals mg) (a:W.nsIn K mainGlobals x=some (some (.ref C))) (l:K.lookup C=some ⟨.type "type",dd,.cls ⟨nm,bs,[.ref C,.ref C',.type "ValueError",.type "Exception",.type "BaseException",.type "object"],N,q,hdct,sn,sub,ab,col,false⟩,#[k0,k1,k2,k3,some (.builtin "ValueError.__new__"),k5]⟩) (ln:K.lookup N=some ⟨oc,od,.dict es n,osl⟩) (l':K.lookup C'=some ⟨c0',dd',.cls ⟨nm',bs',mr',N',q',hdct',sn',sub',ab',col',hd'⟩,sl'⟩) (ln':K.lookup N'=some ⟨oc',od',.dict es' n',osl'⟩)
  (s1:(es.toList.all fun e=>match e.key with | .str _ _=>true | _=>false)=true) (s2:(es'.toList.all fun e=>match e.key with | .str _ _=>true | _=>false)=true) (i1:nsFind es "__init__" = none) (i2:nsFind es' "__init__" = none):∃C C',XC K mg x C C' :=
 ⟨C,C',W.mg_of X G a,nm,q,N,bs,hdct,sn,sub,ab,col,dd,k0,k1,k2,k3,k5,es,l,Zh0 ln s1,i1,fun h' X'=>.own (X' _ _ l') (Zh0 ln' s2 h' X') i2 .base⟩
theorem Zj2{P:Program}{w:World}{C CS dn plA CN CE:Addr}{t1:Tok}{ds:List (Ti×V)}(T:Blt mg)(MA:MachDefsA K mg C)(SD:SeekDefs K mg CS)(X:∀base,Fx P w K mg base C)(Wj:mg "DOINGS" = some (.ref dn))(hDN:Zen K w dn ds)(DD:DoingsA K ds)(PD:PDefs K mg)(QD:QDefs K mg)(d1:Def K mg "_law_find" Z0a ["_law_p","_law_text_here","_law_g","_law_left","_law_start"])(d3:Def K mg "_law_finds" J4 ["_law_p","_law_text_here","_law_g","_law_left"])(d2:Def K mg "all_finds" U8 ["pattern","text","most"])(d4:Def K mg "texts_around" Wb ["text","finds"])
  (Zek:mg "zip" = none) (Z30:mg "DIGITS" = some (.str digS t1)) (Ts:mg "PART_LAST" = some (.ref plA)) (hPL:∀H,SqT K H plA Wv) (e1:Def K mg "parts_of" Uy ["pattern"]) (e2:Def K mg "groups_in" V5 ["pattern"]) (e3:Def K mg "replaced" Ux ["pattern","text","form","most"]) (e4:Def K mg "form_pieces" Wx ["form","groups"]) (e5:Def K mg "marked_piece" Wc ["sign","groups"]) (e6:Def K mg "filled" Tw ["pieces","text","find"]) (e7:Def K mg "taken_text" Vh ["number","text","find"])
  (e8:Def K mg "_law_formed" Uz ["_law_form_here","_law_text_here","_law_find_here"]) (e9:Def K mg "_law_form" Z09 ["_law_box","_law_letters_here","_law_groups"]) (e10:Def K mg "_law_no_form" U5 ["_law_p","_law_text_here","_law_form_here","_law_most"]) (xc:XC K mg "NoForm" CN CE) (base:Heap) (f:Addr) (fd:FuncData) (F:Fun K "law" "law" Jl f fd):FnOk P w K mg base W3 220 f fd ["_law_script"] (Z4x K):=by
 have wc:=Zc4 (P:=P) (w:=w) (base:=base) T MA Wj hDN DD PD.takes_sign PD.lies_in PD.with_entry
 have fn:Own P w K mg base 213 "_law_find" ["_law_p","_law_text_here","_law_g","_law_left","_law_start"] Z8r:=d1.own fun _ _ F=>Zfv T (X base).ways F
 have fs:Own P w K mg base 214 "_law_finds" ["_law_p","_law_text_here","_law_g","_law_left"] Z53:=d3.own fun _ _ F=>Zcd T fn F
 have fa:OwnM P w K mg base 7 CS "find_at" ["self","begin"] (Zef C CS):=SD.at_.own fun _ _ F=>Ziu MA.base_.tx SD.tx (X base).init wc (X base).moves F
 have fr:OwnM P w K mg base 8 CS "first_from" ["self","start"] (Z8p C CS):=SD.from_.own fun _ _ F=>Zft T SD.tx fa F
 obtain⟨fi,fdi,Fi,Mi,bi⟩:=SD.init
 have si:OwnC P w K mg base 28 CS "Seeker" ["self","pattern","text","most"] (Z51 CS):=⟨fi,fdi,Zca SD.tx (X base).coded Fi,⟨SD.mks,Mi.at_,Mi.fn,SD.kc⟩,SD.mg_,bi⟩
 have ff:Own P w K mg base 30 "all_finds" ["pattern","text","most"] Zeh:=d2.own fun _ _ F=>Ziw SD.tx si fr F
 have ar:Own P w K mg base 1 "texts_around" ["text","finds"] Z2s:=d4.own fun _ _ F=>Zb5 F
 have po:Own P w K mg base 1 "parts_of" ["pattern"] Z0u:=e1.own fun _ _ F=>Z66 Ts hPL F
 have noG:∀vs H Q E,¬Zli 0 vs H Q E:=fun vs H Q E h=>by obtain⟨v,p,_,hp,_⟩:=h;exact hp.elim
 have gi:=Z9h (P:=P) (w:=w) (base:=base) (sp:=Zli) e2 noG (fun n f fd O F=>Z4p T po O F)
 have mp:OwnX P w K mg base 1 "marked_piece" ["sign","groups"] (Z8n CN):=e5.ownX fun _ _ F=>Zfp T Z30 xc F
 have fp:OwnX P w K mg base 2 "form_pieces" ["form","groups"] (Z8q CN):=e4.ownX fun _ _ F=>Zfu T mp F
 have tk:Own P w K mg base 1 "taken_text" ["number","text","find"] Zec:=e7.own fun _ _ F=>Zip F
 have fl:Own P w K mg base 2 "filled" ["pieces","text","find"] Z8s:=e6.own fun _ _ F=>Zfw T tk F
 have rp:OwnX P w K mg base 31 "replaced" ["pattern","text","form","most"] (Z5n CN):=e3.ownX fun _ _ F=>Zfo T Zek fp (gi 8) ff ar fl F
 have sg:Own P w K mg base 1 "_law_sign" ["_law_cell"] Z32:=QD.l_sign.own fun _ _ F=>Z9n F
 have fm:Own P w K mg base 1 "_law_formed" ["_law_form_here","_law_text_here","_law_find_here"] Zee:=e8.own fun _ _ F=>Zit T F
 have lf:Own P w K mg base 2 "_law_form" ["_law_box","_law_letters_here","_law_groups"] Zjn:=e9.own fun _ _ F=>Zkn T (X base).take sg F
 have nf:Own P w K mg base 32 "_law_no_form" ["_law_p","_law_text_here","_law_form_here","_law_most"] Zjm:=e10.own fun _ _ F=>Zkm xc rp F
 exact Zis T (X base).letters (X base).take (X base).text (X base).drawn fs fm lf nf rp F
end
theorem Zlz{l:W.OpenLaw}{q:Program}{loose:List Str}{XP:(Str->Option Value)->Heap->Prop}{YP:World->Heap->Prop}{d:DefRec}{K:Params->W.Frag}(hn:l.most=some 63)(hdf:d.params.defaults=[])
  (hY:∀(w:World) (h:Heap),YP w h->(K w.params).In h)
  (F:∀(w:World) (mg:Str->Option Value) (fa:Addr) (h:Heap),(K w.params).In h->h.Ns mainGlobals mg->mg d.name=some (.ref fa) ->
   ∃fd:FuncData,(∀(s:Shared) (u:Value),BindsTo s fd ⟨[u],[]⟩ [("_law_script",u)])/\∀base:Heap,(K w.params).In base->base.Ns mainGlobals mg->FnOk l.prog w (K w.params) mg base W3 220 fa fd ["_law_script"] (Z4x (K w.params))) :
  W.WalkO q loose XP YP l.row.toRowW d [] (fun f vs=>PySem.call f vs) :=
 Zew (n:=63) (k:=220) (x:="_law_script") (CX:=fun _=>W3) (sp:=fun w=>Z4x (K w.params)) hn (by decide) hdf ⟨rfl,by decide,by decide⟩ hY F (fun _ _ a ns hl _ hS=>⟨a,ns,rfl,hS,hl,fun _=>rfl⟩) fun _ _ _ _ _ z=>z
end Seek
namespace PySem.W.Fast
def tw4362587537197738846:=0
def tw475652967337848870:=0
def tw17542361143815784636:=0
def tw17451379010847475241:=0
def tw11264774521148736683:=0
def tw9060406255763575203:=0
def tw6608301336263531979:=0
def tw766510883933331250:=0
def tw119963172711618751:=0
def tw6595940529117155178:=0
def tw2077373806461494452:=0
def tw4661448217910530590:=0
def tw6337073090711693975:=0
def tw16049875137907407671:=0
def tw7244683521531657826:=0
def tw4827186949257536268:=0
def tw4522371571715572839:=0
def tw17475752508745330389:=0
def tw12020654254885240737:=0
def tw8434520332362476182:=0
def tw478944173712176842:=0
def tw16881627027774319245:=0
def tw13276357854367917642:=0
def tw1817865542038031274:=0
def tw14036340724376663181:=0
def tw14182259369749042533:=0
def tw3923827150420593253:=0
def tw7025764268421789011:=0
def tw8271411191297775539:=0
def tw10636727732425647973:=0
def tw7520670962511259735:=0
def tw11244572255682508992:=0
def tw5748934096740092695:=0
def tw9487377552115776541:=0
def tw13744197607265825685:=0
def tw15594909688361100748:=0
def tw4847223436554326213:=0
def tw11039946823724648400:=0
def tw9135894032074480433:=0
def tw908775584527171385:=0
def tw1113104271349412579:=0
def tw7387965903893174751:=0
def tw18066184568938012035:=0
def tw12128180756896309507:=0
def tw14466387650549248306:=0
def tw5029333358871247823:=0
def tw922162033033635303:=0
def tw1766614967459981049:=0
def tw5291382753615394756:=0
def tw6865270351914248516:=0
def tw10708865729414204339:=0
def tw16684647333188709909:=0
def tw15553929501415881211:=0
def tw5488234631411177444:=0
def tw13972470298044709260:=0
def tw15670089922479098675:=0
def tw13595322892806804671:=0
def tw412357327166016402:=0
def tw11973900319420607603:=0
def tw18077028427720617697:=0
def tw5544814754605844663:=0
def tw7623469184369193474:=0
def tw1931410203485160110:=0
def tw3609506476547672843:=0
def tw4982430701253196316:=0
def tw10043574768117675605:=0
def tw2718893541127338570:=0
def tw16362287281516116493:=0
def tw15310510118955873119:=0
def tw683730677657258417:=0
def tw3455020891561300006:=0
def tw17905259195323147463:=0
def tw17548481613865614836:=0
def tw14385170233153382930:=0
def tw2187753761862217786:=0
def tw2405000174562957499:=0
def tw14880790847421818530:=0
def tw2772373801309240478:=0
def tw6295129357262647285:=0
def tw8463782424716742735:=0
def tw6435185105131858738:=0
def tw13028523441627768743:=0
def tw15280065665227103437:=0
def tw1720258661765681076:=0
def tw10125787301460617715:=0
def tw9111932604746697101:=0
def tw53001050915545693:=0
def tw13635295479339070516:=0
def tw460533593349960980:=0
def tw10746287001783166572:=0
def tw1798272777521700786:=0
def tw8730449113748025350:=0
def tw11003006831047250429:=0
def tw11259260502545592734:=0
def tw13609359103571590761:=0
def tw10077497737871486587:=0
def tw5031166374017982691:=0
def tw18420030157283127865:=0
def tw8301775109620661307:=0
def tw10243077184663394360:=0
def tw8769200634218265474:=0
def tw2640641927031197163:=0
def tw5352768756857412791:=0
def tw10911602471861877146:=0
def tw4361236542125193758:=0
def tw3181875495252661998:=0
def tw11932779387836964699:=0
def tw11528118552779872624:=0
def tw11151437944599255269:=0
def tw8917672459407627701:=0
def tw7133154033781970141:=0
def tw5918134162963619112:=0
def tw10491054418486346570:=0
def tw6758668215464568344:=0
def tw2076453850925047782:=0
def tw3654254400242406909:=0
def tw7048890079961535439:=0
def tw10512831929747284603:=0
def tw8068990682620111020:=0
def tw9280328254040102836:=0
def tw6312083283911416278:=0
def tw17613890805873211307:=0
def tw814342482701009924:=0
def tw9939846154860797574:=0
def tw952136284412044837:=0
def tw560556607060907430:=0
def tw7611743311302348097:=0
def tw2814165347801908023:=0
def tw1857250696421591288:=0
def tw7605704056196246249:=0
def tw4784556922413181582:=0
def tw3143735529281273224:=0
def tw8138470634000269874:=0
def tw7749776693086916423:=0
def tw3650549543496642721:=0
def tw12947653433847784336:=0
def tw6166998270114805256:=0
def tw14246458865895253949:=0
def tw1580899389454532465:=0
def tw3568577394260051094:=0
def tw3906060414186284687:=0
def tw15899598509850983975:=0
def tw4446817131853537227:=0
def tw2118900587509613693:=0
def tw2319688102568911929:=0
def tw2100305832059729696:=0
def tw7404463980863266024:=0
def tw11555223513280728813:=0
def tw17902545770438386930:=0
def tw14879581652870967848:=0
def tw17599018061360362323:=0
def tw8331553956550459590:=0
def tw15325571097336891434:=0
def tw9074481760913425469:=0
def tw12752685247225189286:=0
def tw45612998193539401:=0
def tw11034120447620339404:=0
def tw7606810907640049133:=0
def tw7250287477410592266:=0
def tw11177334469674436957:=0
def tw13135568663627702506:=0
def tw15550309048614244078:=0
def tw6545974406543966796:=0
def tw2238349369647753570:=0
def tw2406329779747183949:=0
def tw6197627958866551667:=0
def tw17815020081521350703:=0
def tw17752866011994647657:=0
def tw1495278594543383099:=0
def tw17019470846711716894:=0
def tw17382924881948521971:=0
def tw5331716147085173694:=0
def tw206872401825989692:=0
def tw15620346792745765415:=0
def tw779120624861645799:=0
def tw3173137047459059484:=0
def tw15768889009126823914:=0
def tw7357227526110449723:=0
def tw17297909601868166859:=0
def tw18340494362305907762:=0
def tw7450000373822986328:=0
def tw1923564922536850028:=0
def tw3864478587969904011:=0
def tw7781041042334047963:=0
def tw551722291612146716:=0
def tw10560227810226766252:=0
def tw6726202764747215369:=0
def tw953957995518703844:=0
def tw8748420836858895171:=0
def tw6425350874695966348:=0
def tw17174212413556052527:=0
def tw15863409269259297911:=0
def tw3862338119666278627:=0
def tw4516568033649597885:=0
def tw13618939743249267742:=0
def tw10860304457783471154:=0
def tw2981006312758299579:=0
def tw247972697970521043:=0
def tw16915268321378615819:=0
def tw15642296669992325497:=0
def tw17764831150742648674:=0
def tw6162977678257169365:=0
def tw3464907643949269890:=0
def tw5264927932353781583:=0
def tw2737003661739480419:=0
def tw9541536534390604186:=0
def tw14732925764885952073:=0
def tw8341475111376839774:=0
def tw8147618604157764984:=0
def tw17088631851798801423:=0
def tw7614889097218009834:=0
def tw9802735721790815416:=0
def tw3315420072130933277:=0
def tw13419620714052055102:=0
def tw7683149093190059598:=0
def tw7530935618862112016:=0
def tw16161015823058181610:=0
def tw8705989703232135079:=0
def tw6989517825671688734:=0
def tw14057352671522199579:=0
def tw9774916947135337663:=0
def tw10563755854629262491:=0
def tw5218627548277106590:=0
def tw7595944349168584335:=0
def tw7991659306906888294:=0
def tw18093459375227642867:=0
def tw9038049824667945537:=0
def tw11397019040946587624:=0
def tw1103444548380191630:=0
def tw9254163360145937838:=0
def tw3320707404038570844:=0
def tw18145893437554490706:=0
def tw5700639875942022006:=0
def tw2247706706185230418:=0
def tw1532319473228712063:=0
def tw11967025731127458969:=0
def tw7100002235832282909:=0
def tw5816924961417998514:=0
def tw10138467915842263942:=0
def tw17467552427178749192:=0
def tw17105940299215791745:=0
def tw15076427391198877499:=0
def tw5843947096393622626:=0
def tw16231892310083397323:=0
def tw9723792280050599549:=0
def tw8695095776846726116:=0
def tw9768840828320129036:=0
def tw4669659209711729421:=0
def tw16770479312875894214:=0
def tw13828516056407060780:=0
def tw13670060369842072973:=0
def tw9480921226107181308:=0
def tw13463525504642223193:=0
def tw7102268238864845489:=0
def tw17627841007631118882:=0
def tw8349243537795913528:=0
def tw3803198615113315342:=0
def tw13071768545406834143:=0
def tw14024942202993437392:=0
def tw6437943560972038323:=0
def tw18385874176778250193:=0
def tw16461801812232185089:=0
def tw14178318091932879051:=0
def tw1010637034564817385:=0
def tw17918714359976107706:=0
def tw9509543265610554399:=0
def tw7741116248857387913:=0
def tw4082103189816424169:=0
def tw2157434965494681254:=0
def tw14918621312393669949:=0
end PySem.W.Fast
open PySem PySem.W PyProof.Rows Seek L2
set_option maxRecDepth 100000 in
set_option maxHeartbeats 0 in
theorem PySem.Challenge.cw_seek_k24_whole_replaced_holds : PySem.Challenge.rw_seek_k24_whole_replaced.Holds := by
 w_on;o_law;k_head;(case hw=>w_witness2)
 k_fill
 refine Zlz (l:=PySem.Challenge.rw_seek_k24_whole_replaced) rfl rfl (fun w h Y=>W.kIn_of Y) ?F
 case F =>
  intro w mg fa h KX G hmg
  have z:∀ {x:Str} {K:W.Frag},K.In h->W.nsIn K mainGlobals x=some none->mg x=none:=fun X e=>W.mg_none_of X G e
  have T:Seek.Blt mg:=by
   refine'⟨z KX ?b1,z KX ?b2,z KX ?b3,z KX ?b4,z KX ?b5,z KX ?b6,z KX ?b7,z KX ?b8,z KX ?b9,z KX ?b10,z KX ?b11,z KX ?b12,z KX ?b13⟩
   (case b1=>k_is);(case b2=>k_is);(case b3=>k_is);(case b4=>k_is);(case b5=>k_is);(case b6=>k_is);(case b7=>k_is);(case b8=>k_is);(case b9=>k_is);(case b10=>k_is);(case b11=>k_is);(case b12=>k_is);(case b13=>k_is)
  have mc:∃C,Seek.MachDefsA (Za8 KX) mg C:=by
   dsimp only[Za8]
   exact(by
   refine'⟨_,⟨⟨W.mg_of KX G ?aC,Zh5 ?pg ?hd ?po ?sa ?na1 ?na2 ?na3 ?na4 ?na5 ?na6 ?na7 ?na8 ?na9 ?na10,?mk,?kc,Xu (m:="__init__") (qual:="Machine.__init__") (st:=Yt) (ps:=["self","rows","text","at"]) ?m0a ?m0i ?m0l ?m0c ?m0k (fun _ _ _ _ _ _ us hl=>match us,hl with | [_,_,_,_],_=>rfl),Xu (m:="way") (qual:="Machine.way") (st:=Wz) (ps:=["self","most"]) ?m1a ?m1i ?m1l ?m1c ?m1k (fun _ _ _ _ _ _ us hl=>match us,hl with | [_,_],_=>rfl),Xu (m:="moves") (qual:="Machine.moves") (st:=W0) (ps:=["self"]) ?m2a ?m2i ?m2l ?m2c ?m2k (fun _ _ _ _ _ _ us hl=>match us,hl with | [_],_=>rfl),Xu (m:="move") (qual:="Machine.move") (st:=We) (ps:=["self"]) ?m3a ?m3i ?m3l ?m3c ?m3k (fun _ _ _ _ _ _ us hl=>match us,hl with | [_],_=>rfl),Xu (m:="enter") (qual:="Machine.enter") (st:=W2) (ps:=["self","state"]) ?m4a ?m4i ?m4l ?m4c ?m4k (fun _ _ _ _ _ _ us hl=>match us,hl with | [_,_],_=>rfl),Xu (m:="go_back") (qual:="Machine.go_back") (st:=Xh) (ps:=["self"]) ?m5a ?m5i ?m5l ?m5c ?m5k (fun _ _ _ _ _ _ us hl=>match us,hl with | [_],_=>rfl)⟩,Xu (m:="hold") (qual:="Machine.hold") (st:=Wf) (ps:=["self","number"]) ?m10a ?m10i ?m10l ?m10c ?m10k (fun _ _ _ _ _ _ us hl=>match us,hl with | [_,_],_=>rfl),Xu (m:="let_go") (qual:="Machine.let_go") (st:=Xo) (ps:=["self"]) ?m11a ?m11i ?m11l ?m11c ?m11k (fun _ _ _ _ _ _ us hl=>match us,hl with | [_],_=>rfl),Xu (m:="drop_choices") (qual:="Machine.drop_choices") (st:=Yr) (ps:=["self","size"]) ?m12a ?m12i ?m12l ?m12c ?m12k (fun _ _ _ _ _ _ us hl=>match us,hl with | [_,_],_=>rfl),Xu (m:="entry") (qual:="Machine.entry") (st:=W1) (ps:=["self","number"]) ?m13a ?m13i ?m13l ?m13c ?m13k (fun _ _ _ _ _ _ us hl=>match us,hl with | [_,_],_=>rfl)⟩⟩
   (case aC=>k_is);(case pg=>k_is);(case hd=>k_is);(case po=>k_is);(case sa=>k_is);(case na1=>k_is);(case na2=>k_is);(case na3=>k_is);(case na4=>k_is);(case na5=>k_is);(case na6=>k_is);(case na7=>k_is);(case na8=>k_is);(case na9=>k_is);(case na10=>k_is);(case mk=>k_is);(case kc=>k_is);(case m0a=>k_is);(case m0i=>k_is);(case m0l=>k_is);(case m0c=>k_is);(case m0k=>k_is);(case m1a=>k_is);(case m1i=>k_is);(case m1l=>k_is);(case m1c=>k_is);(case m1k=>k_is);(case m2a=>k_is);(case m2i=>k_is);(case m2l=>k_is);(case m2c=>k_is);(case m2k=>k_is);(case m3a=>k_is);(case m3i=>k_is);(case m3l=>k_is);(case m3c=>k_is);(case m3k=>k_is);(case m4a=>k_is);(case m4i=>k_is);(case m4l=>k_is);(case m4c=>k_is);(case m4k=>k_is);(case m5a=>k_is);(case m5i=>k_is);(case m5l=>k_is);(case m5c=>k_is);(case m5k=>k_is);(case m10a=>k_is);(case m10i=>k_is);(case m10l=>k_is);(case m10c=>k_is);(case m10k=>k_is);(case m11a=>k_is);(case m11i=>k_is);(case m11l=>k_is);(case m11c=>k_is);(case m11k=>k_is);(case m12a=>k_is);(case m12i=>k_is);(case m12l=>k_is);(case m12c=>k_is);(case m12k=>k_is);(case m13a=>k_is);(case m13i=>k_is);(case m13l=>k_is);(case m13c=>k_is);(case m13k=>k_is))
  have dc:∃dn ds,mg "DOINGS" = some (.ref dn)/\Zen (Za8 KX) w dn ds/\Seek.DoingsA (Za8 KX) ds:=by
   dsimp only[Za8]
   exact(by
   refine'⟨_,_,W.mg_of KX G ?da,Ze6 ?dl ?dd ?dp ?dn,?dq⟩
   (case da=>k_is);(case dl=>k_is);(case dd=>decide);(case dp=>exact .cons (Yb rfl) (.cons (Yb rfl) (.cons (Yb rfl) (.cons (Yb rfl) (.cons (Yb rfl) (.cons (Yb rfl) (.cons (Yb rfl) (.cons (Yb rfl) (.cons (Yb rfl) (.cons (Yb rfl) (.cons (Yb rfl) (.cons (Yb rfl) (.cons (Yb rfl) (.cons (Yb rfl) (.cons (Yb rfl) (.cons (Yb rfl) (.cons (Yb rfl) (.cons (Yb rfl) (.cons (Yb rfl) (.cons (Yb rfl) (.cons (Yb rfl) (.cons (Yb rfl) (.cons (Yb rfl) (.nil))))))))))))))))))))))));(case dn=>decide +kernel)
   refine'⟨?w1,?w2,?w3,?w4,?w5,?w6,?w7,?w8,?w9,?w10,?w11,?w12,?w13,?w14,?w15,?w16,?w17,?w18,?w19,?w20,?w21,?w22,?w23⟩
   (case w1=>refine' Xw (x:="do_sign") (st:=X5) (ps:=["machine","row"]) ?v ?l ?c ?k (fun _ _ _ _ _ _ us hl=>match us,hl with | [_,_],_=>rfl);(case v=>with_unfolding_all rfl);(case l=>k_is);(case c=>k_is);(case k=>k_is))
   (case w2=>refine' Xw (x:="do_sign") (st:=X5) (ps:=["machine","row"]) ?v ?l ?c ?k (fun _ _ _ _ _ _ us hl=>match us,hl with | [_,_],_=>rfl);(case v=>with_unfolding_all rfl);(case l=>k_is);(case c=>k_is);(case k=>k_is))
   (case w3=>refine' Xw (x:="do_sign") (st:=X5) (ps:=["machine","row"]) ?v ?l ?c ?k (fun _ _ _ _ _ _ us hl=>match us,hl with | [_,_],_=>rfl);(case v=>with_unfolding_all rfl);(case l=>k_is);(case c=>k_is);(case k=>k_is))
   (case w4=>refine' Xw (x:="do_sign") (st:=X5) (ps:=["machine","row"]) ?v ?l ?c ?k (fun _ _ _ _ _ _ us hl=>match us,hl with | [_,_],_=>rfl);(case v=>with_unfolding_all rfl);(case l=>k_is);(case c=>k_is);(case k=>k_is))
   (case w5=>refine' Xw (x:="do_begin") (st:=T2) (ps:=["machine","row"]) ?v ?l ?c ?k (fun _ _ _ _ _ _ us hl=>match us,hl with | [_,_],_=>rfl);(case v=>with_unfolding_all rfl);(case l=>k_is);(case c=>k_is);(case k=>k_is))
   (case w6=>refine' Xw (x:="do_end") (st:=Z0c) (ps:=["machine","row"]) ?v ?l ?c ?k (fun _ _ _ _ _ _ us hl=>match us,hl with | [_,_],_=>rfl);(case v=>with_unfolding_all rfl);(case l=>k_is);(case c=>k_is);(case k=>k_is))
   (case w7=>refine' Xw (x:="do_again") (st:=T3) (ps:=["machine","row"]) ?v ?l ?c ?k (fun _ _ _ _ _ _ us hl=>match us,hl with | [_,_],_=>rfl);(case v=>with_unfolding_all rfl);(case l=>k_is);(case c=>k_is);(case k=>k_is))
   (case w8=>refine' Xw (x:="do_try") (st:=Z0b) (ps:=["machine","row"]) ?v ?l ?c ?k (fun _ _ _ _ _ _ us hl=>match us,hl with | [_,_],_=>rfl);(case v=>with_unfolding_all rfl);(case l=>k_is);(case c=>k_is);(case k=>k_is))
   (case w9=>refine' Xw (x:="do_go") (st:=Z20) (ps:=["machine","row"]) ?v ?l ?c ?k (fun _ _ _ _ _ _ us hl=>match us,hl with | [_,_],_=>rfl);(case v=>with_unfolding_all rfl);(case l=>k_is);(case c=>k_is);(case k=>k_is))
   (case w10=>refine' Xw (x:="do_have") (st:=Jb) (ps:=["machine","row"]) ?v ?l ?c ?k (fun _ _ _ _ _ _ us hl=>match us,hl with | [_,_],_=>rfl);(case v=>with_unfolding_all rfl);(case l=>k_is);(case c=>k_is);(case k=>k_is))
   (case w11=>refine' Xw (x:="do_hold") (st:=Vs) (ps:=["machine","row"]) ?v ?l ?c ?k (fun _ _ _ _ _ _ us hl=>match us,hl with | [_,_],_=>rfl);(case v=>with_unfolding_all rfl);(case l=>k_is);(case c=>k_is);(case k=>k_is))
   (case w12=>refine' Xw (x:="do_hold") (st:=Vs) (ps:=["machine","row"]) ?v ?l ?c ?k (fun _ _ _ _ _ _ us hl=>match us,hl with | [_,_],_=>rfl);(case v=>with_unfolding_all rfl);(case l=>k_is);(case c=>k_is);(case k=>k_is))
   (case w13=>refine' Xw (x:="do_close") (st:=T1) (ps:=["machine","row"]) ?v ?l ?c ?k (fun _ _ _ _ _ _ us hl=>match us,hl with | [_,_],_=>rfl);(case v=>with_unfolding_all rfl);(case l=>k_is);(case c=>k_is);(case k=>k_is))
   (case w14=>refine' Xw (x:="do_turn") (st:=J5) (ps:=["machine","row"]) ?v ?l ?c ?k (fun _ _ _ _ _ _ us hl=>match us,hl with | [_,_],_=>rfl);(case v=>with_unfolding_all rfl);(case l=>k_is);(case c=>k_is);(case k=>k_is))
   (case w15=>refine' Xw (x:="do_next") (st:=J7) (ps:=["machine","row"]) ?v ?l ?c ?k (fun _ _ _ _ _ _ us hl=>match us,hl with | [_,_],_=>rfl);(case v=>with_unfolding_all rfl);(case l=>k_is);(case c=>k_is);(case k=>k_is))
   (case w16=>refine' Xw (x:="do_once") (st:=J6) (ps:=["machine","row"]) ?v ?l ?c ?k (fun _ _ _ _ _ _ us hl=>match us,hl with | [_,_],_=>rfl);(case v=>with_unfolding_all rfl);(case l=>k_is);(case c=>k_is);(case k=>k_is))
   (case w17=>refine' Xw (x:="do_kept") (st:=J9) (ps:=["machine","row"]) ?v ?l ?c ?k (fun _ _ _ _ _ _ us hl=>match us,hl with | [_,_],_=>rfl);(case v=>with_unfolding_all rfl);(case l=>k_is);(case c=>k_is);(case k=>k_is))
   (case w18=>refine' Xw (x:="do_peeked") (st:=U6) (ps:=["machine","row"]) ?v ?l ?c ?k (fun _ _ _ _ _ _ us hl=>match us,hl with | [_,_],_=>rfl);(case v=>with_unfolding_all rfl);(case l=>k_is);(case c=>k_is);(case k=>k_is))
   (case w19=>refine' Xw (x:="do_bar") (st:=Z0d) (ps:=["machine","row"]) ?v ?l ?c ?k (fun _ _ _ _ _ _ us hl=>match us,hl with | [_,_],_=>rfl);(case v=>with_unfolding_all rfl);(case l=>k_is);(case c=>k_is);(case k=>k_is))
   (case w20=>refine' Xw (x:="do_barred") (st:=U7) (ps:=["machine","row"]) ?v ?l ?c ?k (fun _ _ _ _ _ _ us hl=>match us,hl with | [_,_],_=>rfl);(case v=>with_unfolding_all rfl);(case l=>k_is);(case c=>k_is);(case k=>k_is))
   (case w21=>refine' Xw (x:="do_lean") (st:=J8) (ps:=["machine","row"]) ?v ?l ?c ?k (fun _ _ _ _ _ _ us hl=>match us,hl with | [_,_],_=>rfl);(case v=>with_unfolding_all rfl);(case l=>k_is);(case c=>k_is);(case k=>k_is))
   (case w22=>refine' Xw (x:="do_here") (st:=Ja) (ps:=["machine","row"]) ?v ?l ?c ?k (fun _ _ _ _ _ _ us hl=>match us,hl with | [_,_],_=>rfl);(case v=>with_unfolding_all rfl);(case l=>k_is);(case c=>k_is);(case k=>k_is))
   (case w23=>refine' Xw (x:="do_found") (st:=T0) (ps:=["machine","row"]) ?v ?l ?c ?k (fun _ _ _ _ _ _ us hl=>match us,hl with | [_,_],_=>rfl);(case v=>with_unfolding_all rfl);(case l=>k_is);(case c=>k_is);(case k=>k_is)))
  have sk:∃CS,Seek.SeekDefs (Za8 KX) mg CS:=by
   dsimp only[Za8]
   exact(by
   refine'⟨_,⟨W.mg_of KX G ?aC,Zex ?pg ?hd ?po ?sa ?na1 ?na2 ?na3,?mk,?kc,Xu (m:="__init__") (qual:="Seeker.__init__") (st:=Xg) (ps:=["self","pattern","text","most"]) ?m0a ?m0i ?m0l ?m0c ?m0k (fun _ _ _ _ _ _ us hl=>match us,hl with | [_,_,_,_],_=>rfl),Xu (m:="first_from") (qual:="Seeker.first_from") (st:=X2) (ps:=["self","start"]) ?m1a ?m1i ?m1l ?m1c ?m1k (fun _ _ _ _ _ _ us hl=>match us,hl with | [_,_],_=>rfl),Xu (m:="find_at") (qual:="Seeker.find_at") (st:=Xn) (ps:=["self","begin"]) ?m2a ?m2i ?m2l ?m2c ?m2k (fun _ _ _ _ _ _ us hl=>match us,hl with | [_,_],_=>rfl)⟩⟩
   (case aC=>k_is);(case pg=>k_is);(case hd=>k_is);(case po=>k_is);(case sa=>k_is);(case na1=>k_is);(case na2=>k_is);(case na3=>k_is);(case mk=>k_is);(case kc=>k_is);(case m0a=>k_is);(case m0i=>k_is);(case m0l=>k_is);(case m0c=>k_is);(case m0k=>k_is);(case m1a=>k_is);(case m1i=>k_is);(case m1l=>k_is);(case m1c=>k_is);(case m1k=>k_is);(case m2a=>k_is);(case m2i=>k_is);(case m2l=>k_is);(case m2c=>k_is);(case m2k=>k_is))
  have p0:=(by
   refine' Y6 (x:="coded") (st:=Z21) (ps:=["pattern"]) KX G ?a ?l ?c ?k (fun _ _ _ _ _ _ us hl=>match us,hl with | [_],_=>rfl)
   (case a=>k_is);(case l=>k_is);(case c=>k_is);(case k=>k_is))
  have p1:=(by
   refine' Y6 (x:="put") (st:=Z7h) (ps:=["rows","pattern"]) KX G ?a ?l ?c ?k (fun _ _ _ _ _ _ us hl=>match us,hl with | [_,_],_=>rfl)
   (case a=>k_is);(case l=>k_is);(case c=>k_is);(case k=>k_is))
  have p2:=(by
   refine' Y6 (x:="hold_place") (st:=Wh) (ps:=["rows"]) KX G ?a ?l ?c ?k (fun _ _ _ _ _ _ us hl=>match us,hl with | [_],_=>rfl)
   (case a=>k_is);(case l=>k_is);(case c=>k_is);(case k=>k_is))
  have p3:=(by
   refine' Y6 (x:="put_or") (st:=Tt) (ps:=["rows","branches"]) KX G ?a ?l ?c ?k (fun _ _ _ _ _ _ us hl=>match us,hl with | [_,_],_=>rfl)
   (case a=>k_is);(case l=>k_is);(case c=>k_is);(case k=>k_is))
  have p4:=(by
   refine' Y6 (x:="put_times") (st:=V2) (ps:=["rows","low","high","how","part"]) KX G ?a ?l ?c ?k (fun _ _ _ _ _ _ us hl=>match us,hl with | [_,_,_,_,_],_=>rfl)
   (case a=>k_is);(case l=>k_is);(case c=>k_is);(case k=>k_is))
  have p5:=(by
   refine' Y6 (x:="put_have") (st:=Vy) (ps:=["rows","number","yes","no"]) KX G ?a ?l ?c ?k (fun _ _ _ _ _ _ us hl=>match us,hl with | [_,_,_,_],_=>rfl)
   (case a=>k_is);(case l=>k_is);(case c=>k_is);(case k=>k_is))
  have p6:=(by
   refine' Y6 (x:="put_look") (st:=Vx) (ps:=["rows","kind","part"]) KX G ?a ?l ?c ?k (fun _ _ _ _ _ _ us hl=>match us,hl with | [_,_,_],_=>rfl)
   (case a=>k_is);(case l=>k_is);(case c=>k_is);(case k=>k_is))
  have p7:=(by
   refine' Y6 (x:="takes_sign") (st:=Xe) (ps:=["row","text","at"]) KX G ?a ?l ?c ?k (fun _ _ _ _ _ _ us hl=>match us,hl with | [_,_,_],_=>rfl)
   (case a=>k_is);(case l=>k_is);(case c=>k_is);(case k=>k_is))
  have p8:=(by
   refine' Y6 (x:="lies_in") (st:=Wt) (ps:=["runs","sign"]) KX G ?a ?l ?c ?k (fun _ _ _ _ _ _ us hl=>match us,hl with | [_,_],_=>rfl)
   (case a=>k_is);(case l=>k_is);(case c=>k_is);(case k=>k_is))
  have p9:=(by
   refine' Y6 (x:="with_entry") (st:=Xd) (ps:=["groups","number","begin","end"]) KX G ?a ?l ?c ?k (fun _ _ _ _ _ _ us hl=>match us,hl with | [_,_,_,_],_=>rfl)
   (case a=>k_is);(case l=>k_is);(case c=>k_is);(case k=>k_is))
  have q0:=(by
   refine' Y6 (x:="_law_take") (st:=Z05) (ps:=["_law_box","_law_many"]) KX G ?a ?l ?c ?k (fun _ _ _ _ _ _ us hl=>match us,hl with | [_,_],_=>rfl)
   (case a=>k_is);(case l=>k_is);(case c=>k_is);(case k=>k_is))
  have q1:=(by
   refine' Y6 (x:="_law_sign") (st:=Z06) (ps:=["_law_cell"]) KX G ?a ?l ?c ?k (fun _ _ _ _ _ _ us hl=>match us,hl with | [_],_=>rfl)
   (case a=>k_is);(case l=>k_is);(case c=>k_is);(case k=>k_is))
  have q2:=(by
   refine' Y6 (x:="_law_letters") (st:=V4) (ps:=["_law_box"]) KX G ?a ?l ?c ?k (fun _ _ _ _ _ _ us hl=>match us,hl with | [_],_=>rfl)
   (case a=>k_is);(case l=>k_is);(case c=>k_is);(case k=>k_is))
  have q3:=(by
   refine' Y6 (x:="_law_runs") (st:=Z07) (ps:=["_law_box","_law_letters_here"]) KX G ?a ?l ?c ?k (fun _ _ _ _ _ _ us hl=>match us,hl with | [_,_],_=>rfl)
   (case a=>k_is);(case l=>k_is);(case c=>k_is);(case k=>k_is))
  have q4:=(by
   refine' Y6 (x:="_law_leaf") (st:=Z08) (ps:=["_law_box","_law_letters_here","_law_count"]) KX G ?a ?l ?c ?k (fun _ _ _ _ _ _ us hl=>match us,hl with | [_,_,_],_=>rfl)
   (case a=>k_is);(case l=>k_is);(case c=>k_is);(case k=>k_is))
  have q5:=(by
   refine' Y6 (x:="_law_parts") (st:=Ul) (ps:=["_law_box","_law_letters_here","_law_count","_law_deep","_law_word"]) KX G ?a ?l ?c ?k (fun _ _ _ _ _ _ us hl=>match us,hl with | [_,_,_,_,_],_=>rfl)
   (case a=>k_is);(case l=>k_is);(case c=>k_is);(case k=>k_is))
  have q6:=(by
   refine' Y6 (x:="_law_times") (st:=Uj) (ps:=["_law_box","_law_letters_here","_law_count","_law_deep"]) KX G ?a ?l ?c ?k (fun _ _ _ _ _ _ us hl=>match us,hl with | [_,_,_,_],_=>rfl)
   (case a=>k_is);(case l=>k_is);(case c=>k_is);(case k=>k_is))
  have q7:=(by
   refine' Y6 (x:="_law_pattern") (st:=V3) (ps:=["_law_box","_law_letters_here","_law_count","_law_deep"]) KX G ?a ?l ?c ?k (fun _ _ _ _ _ _ us hl=>match us,hl with | [_,_,_,_],_=>rfl)
   (case a=>k_is);(case l=>k_is);(case c=>k_is);(case k=>k_is))
  have q8:=(by
   refine' Y6 (x:="_law_drawn") (st:=Um) (ps:=["_law_box","_law_letters_here","_law_plain"]) KX G ?a ?l ?c ?k (fun _ _ _ _ _ _ us hl=>match us,hl with | [_,_,_],_=>rfl)
   (case a=>k_is);(case l=>k_is);(case c=>k_is);(case k=>k_is))
  have q9:=(by
   refine' Y6 (x:="_law_text") (st:=Tu) (ps:=["_law_box","_law_letters_here","_law_size"]) KX G ?a ?l ?c ?k (fun _ _ _ _ _ _ us hl=>match us,hl with | [_,_,_],_=>rfl)
   (case a=>k_is);(case l=>k_is);(case c=>k_is);(case k=>k_is))
  have q10:=(by
   refine' Y6 (x:="_law_takes") (st:=Uk) (ps:=["_law_p","_law_sign_here"]) KX G ?a ?l ?c ?k (fun _ _ _ _ _ _ us hl=>match us,hl with | [_,_],_=>rfl)
   (case a=>k_is);(case l=>k_is);(case c=>k_is);(case k=>k_is))
  have q11:=(by
   refine' Y6 (x:="_law_each") (st:=Tv) (ps:=["_law_part","_law_text_here","_law_ways_here","_law_left"]) KX G ?a ?l ?c ?k (fun _ _ _ _ _ _ us hl=>match us,hl with | [_,_,_,_],_=>rfl)
   (case a=>k_is);(case l=>k_is);(case c=>k_is);(case k=>k_is))
  have q12:=(by
   refine' Y6 (x:="_law_turns") (st:=Vr) (ps:=["_law_p","_law_text_here","_law_n","_law_j","_law_g","_law_left"]) KX G ?a ?l ?c ?k (fun _ _ _ _ _ _ us hl=>match us,hl with | [_,_,_,_,_,_],_=>rfl)
   (case a=>k_is);(case l=>k_is);(case c=>k_is);(case k=>k_is))
  have q13:=(by
   refine' Y6 (x:="_law_behind") (st:=Ws) (ps:=["_law_p","_law_text_here","_law_i","_law_g","_law_left"]) KX G ?a ?l ?c ?k (fun _ _ _ _ _ _ us hl=>match us,hl with | [_,_,_,_,_],_=>rfl)
   (case a=>k_is);(case l=>k_is);(case c=>k_is);(case k=>k_is))
  have q14:=(by
   refine' Y6 (x:="_law_memory") (st:=Wr) (ps:=["_law_p","_law_text_here","_law_i","_law_g","_law_left"]) KX G ?a ?l ?c ?k (fun _ _ _ _ _ _ us hl=>match us,hl with | [_,_,_,_,_],_=>rfl)
   (case a=>k_is);(case l=>k_is);(case c=>k_is);(case k=>k_is))
  have q15:=(by
   refine' Y6 (x:="_law_ways") (st:=Uq) (ps:=["_law_p","_law_text_here","_law_i","_law_g","_law_left"]) KX G ?a ?l ?c ?k (fun _ _ _ _ _ _ us hl=>match us,hl with | [_,_,_,_,_],_=>rfl)
   (case a=>k_is);(case l=>k_is);(case c=>k_is);(case k=>k_is))
  have q17:=(by
   refine' Y6 (x:="_law_find") (st:=Z0a) (ps:=["_law_p","_law_text_here","_law_g","_law_left","_law_start"]) KX G ?a ?l ?c ?k (fun _ _ _ _ _ _ us hl=>match us,hl with | [_,_,_,_,_],_=>rfl)
   (case a=>k_is);(case l=>k_is);(case c=>k_is);(case k=>k_is))
  have q18:=(by
   refine' Y6 (x:="all_finds") (st:=U8) (ps:=["pattern","text","most"]) KX G ?a ?l ?c ?k (fun _ _ _ _ _ _ us hl=>match us,hl with | [_,_,_],_=>rfl)
   (case a=>k_is);(case l=>k_is);(case c=>k_is);(case k=>k_is))
  have q19:=(by
   refine' Y6 (x:="_law_finds") (st:=J4) (ps:=["_law_p","_law_text_here","_law_g","_law_left"]) KX G ?a ?l ?c ?k (fun _ _ _ _ _ _ us hl=>match us,hl with | [_,_,_,_],_=>rfl)
   (case a=>k_is);(case l=>k_is);(case c=>k_is);(case k=>k_is))
  have q20:=(by
   refine' Y6 (x:="texts_around") (st:=Wb) (ps:=["text","finds"]) KX G ?a ?l ?c ?k (fun _ _ _ _ _ _ us hl=>match us,hl with | [_,_],_=>rfl)
   (case a=>k_is);(case l=>k_is);(case c=>k_is);(case k=>k_is))
  have r1:=(by
   refine' Y6 (x:="parts_of") (st:=Uy) (ps:=["pattern"]) KX G ?a ?l ?c ?k (fun _ _ _ _ _ _ us hl=>match us,hl with | [_],_=>rfl)
   (case a=>k_is);(case l=>k_is);(case c=>k_is);(case k=>k_is))
  have r2:=(by
   refine' Y6 (x:="groups_in") (st:=V5) (ps:=["pattern"]) KX G ?a ?l ?c ?k (fun _ _ _ _ _ _ us hl=>match us,hl with | [_],_=>rfl)
   (case a=>k_is);(case l=>k_is);(case c=>k_is);(case k=>k_is))
  have r3:=(by
   refine' Y6 (x:="replaced") (st:=Ux) (ps:=["pattern","text","form","most"]) KX G ?a ?l ?c ?k (fun _ _ _ _ _ _ us hl=>match us,hl with | [_,_,_,_],_=>rfl)
   (case a=>k_is);(case l=>k_is);(case c=>k_is);(case k=>k_is))
  have r4:=(by
   refine' Y6 (x:="form_pieces") (st:=Wx) (ps:=["form","groups"]) KX G ?a ?l ?c ?k (fun _ _ _ _ _ _ us hl=>match us,hl with | [_,_],_=>rfl)
   (case a=>k_is);(case l=>k_is);(case c=>k_is);(case k=>k_is))
  have r5:=(by
   refine' Y6 (x:="marked_piece") (st:=Wc) (ps:=["sign","groups"]) KX G ?a ?l ?c ?k (fun _ _ _ _ _ _ us hl=>match us,hl with | [_,_],_=>rfl)
   (case a=>k_is);(case l=>k_is);(case c=>k_is);(case k=>k_is))
  have r6:=(by
   refine' Y6 (x:="filled") (st:=Tw) (ps:=["pieces","text","find"]) KX G ?a ?l ?c ?k (fun _ _ _ _ _ _ us hl=>match us,hl with | [_,_,_],_=>rfl)
   (case a=>k_is);(case l=>k_is);(case c=>k_is);(case k=>k_is))
  have r7:=(by
   refine' Y6 (x:="taken_text") (st:=Vh) (ps:=["number","text","find"]) KX G ?a ?l ?c ?k (fun _ _ _ _ _ _ us hl=>match us,hl with | [_,_,_],_=>rfl)
   (case a=>k_is);(case l=>k_is);(case c=>k_is);(case k=>k_is))
  have r8:=(by
   refine' Y6 (x:="_law_formed") (st:=Uz) (ps:=["_law_form_here","_law_text_here","_law_find_here"]) KX G ?a ?l ?c ?k (fun _ _ _ _ _ _ us hl=>match us,hl with | [_,_,_],_=>rfl)
   (case a=>k_is);(case l=>k_is);(case c=>k_is);(case k=>k_is))
  have r9:=(by
   refine' Y6 (x:="_law_form") (st:=Z09) (ps:=["_law_box","_law_letters_here","_law_groups"]) KX G ?a ?l ?c ?k (fun _ _ _ _ _ _ us hl=>match us,hl with | [_,_,_],_=>rfl)
   (case a=>k_is);(case l=>k_is);(case c=>k_is);(case k=>k_is))
  have r10:=(by
   refine' Y6 (x:="_law_no_form") (st:=U5) (ps:=["_law_p","_law_text_here","_law_form_here","_law_most"]) KX G ?a ?l ?c ?k (fun _ _ _ _ _ _ us hl=>match us,hl with | [_,_,_,_],_=>rfl)
   (case a=>k_is);(case l=>k_is);(case c=>k_is);(case k=>k_is))
  have xc:∃CN CE,L2.XC (Za8 KX) mg "NoForm" CN CE:=by
   dsimp only[Za8]
   refine' Zk8 KX G ?a ?l ?ln ?l2 ?ln2 ?s1 ?s2 ?i1 ?i2
   (case a=>k_is);(case l=>k_is);(case ln=>k_is);(case l2=>k_is);(case ln2=>k_is);(case s1=>kernel_rfl);(case s2=>kernel_rfl);(case i1=>kernel_rfl);(case i2=>kernel_rfl)
  obtain⟨CN,CE,xc⟩:=xc
  have bz:mg "zip" = none:=by
   refine' z KX ?b
   (case b=>k_is)
  have c1:∃pl,mg "ITSELF" = some (.ref pl)/\∀H,L2.SqT (Za8 KX) H pl Z01:=by
   dsimp only[Za8]
   refine' Z4d KX G ?a ?l
   (case a=>k_is);(case l=>k_is)
  have c2:∃pl,mg "LEANING" = some (.ref pl)/\∀H,L2.SqT (Za8 KX) H pl Vp:=by
   dsimp only[Za8]
   refine' Zbg KX G ?a ?l
   (case a=>k_is);(case l=>k_is)
  have c3:∃pl,mg "LAST_ROWS" = some (.ref pl)/\Zen (Za8 KX) w pl Vz:=by
   dsimp only[Za8]
   refine' Z8e KX G ?a ?l ?d ?e ?n
   (case a=>k_is);(case l=>k_is);(case d=>decide);(case e=>exact⟨rfl,rfl,rfl,rfl,rfl⟩);(case n=>decide +kernel)
  have c4:∃pl,mg "PART_LAST" = some (.ref pl)/\∀H,L2.SqT (Za8 KX) H pl Wv:=by
   dsimp only[Za8]
   refine' Z4d KX G ?a ?l
   (case a=>k_is);(case l=>k_is)
  have c5:∃t1,mg "DIGITS" = some (.str Seek.digS t1):=by
   refine' Zbf KX G ?a
   (case a=>k_is)
  obtain⟨plA,hpa,hPL⟩:=c4
  obtain⟨t1,hdg⟩:=c5
  obtain⟨it,hit,hIT⟩:=c1
  obtain⟨le,hle,hLE⟩:=c2
  obtain⟨ls,hls,hLS⟩:=c3
  obtain⟨C,MA⟩:=mc
  obtain⟨CS,SD⟩:=sk
  obtain⟨dn,ds,hdn,hDN,DD⟩:=dc
  have PD:Seek.PDefs (Za8 KX) mg:=⟨p0,p1,p2,p3,p4,p5,p6,p7,p8,p9⟩
  have QD:Seek.QDefs (Za8 KX) mg:=⟨q0,q1,q2,q3,q4,q5,q6,q7,q8,q9,q10,q11,q12,q13,q14,q15⟩
  refine' Zh7 KX G hmg ?a ?l ?c ?k (Zj2 T MA SD (fun base=>Zkz T hit hIT hle hLE hls hLS hdn hDN DD MA PD QD) hdn hDN DD PD QD q17 q19 q18 q20 bz hdg hpa hPL r1 r2 r3 r4 r5 r6 r7 r8 r9 r10 xc)
  (case a=>k_is);(case l=>k_is);(case c=>k_is);(case k=>k_is)