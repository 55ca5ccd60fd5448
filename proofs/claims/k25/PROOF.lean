import PyProof.Rows.All
import Wide.All
import OpenK.AllK
import Wide.FinOn
import Lean
import PyProof.EqAt
import PyProof.EqKinds
import PyProof.TupleCall
import PyProof.StrLawsIdx
import PySem.Challenge.RW_seek_k25_over_refused
set_option Elab.async false
set_option linter.all false
set_option maxRecDepth 100000
set_option maxHeartbeats 4000000
namespace L2
open PySem PySem.Spec PyProof.Rows
abbrev Uh:=Sum Int Str
def Z23:Uh->Value->Bool
 |.inl k,v=>Value.isInt k v
 |.inr x,v=>Value.isStrOf x v
def Zic(w:World):Uh->Int
 |.inl k=>hashInt k
 |.inr x=>hashStr w x
theorem Ym:∀ {k:Uh} {v:Value},Z23 k v=true->(∃i t,k=Sum.inl i/\v=Value.int i t)∨(∃x t,k=Sum.inr x/\v=Value.str x t)
 |.inl i,v,h=>by
  obtain⟨t,e⟩:=Value.isInt_shape (k:=i) (v:=v) h
  exact .inl ⟨i,t,rfl,e⟩
 |.inr x,v,h=>by
  obtain⟨t,e⟩:=Value.isStrOf_shape (x:=x) (v:=v) h
  exact .inr ⟨x,t,rfl,e⟩
theorem Z9e(i:Int)(t:Tok):Z23 (.inl i) (.int i t)=true:=by simp[Z23,Value.isInt]
theorem Jr(x:Str)(t:Tok):Z23 (.inr x) (.str x t)=true:=by simp[Z23,Value.isStrOf]
theorem Zgj(a b:Int):decide ((Sum.inl a:Uh)=Sum.inl b)=(a==b):=by
 by_cases e:a=b
 ·subst e;simp
 ·have h:¬(Sum.inl a:Uh)=Sum.inl b:=fun q=>e (Sum.inl.inj q)
  rw[decide_eq_false h]
  exact(beq_eq_false_iff_ne.mpr e).symm
theorem Zgg(a b:Str):decide ((Sum.inr a:Uh)=Sum.inr b)=decide (a=b):=by
 by_cases e:a=b
 ·subst e;simp
 ·have h:¬(Sum.inr a:Uh)=Sum.inr b:=fun q=>e (Sum.inr.inj q)
  rw[decide_eq_false h,decide_eq_false e]
theorem Zgi(a:Int)(b:Str):decide ((Sum.inl a:Uh)=Sum.inr b)=false:=decide_eq_false (fun q=>nomatch q)
theorem Zgh(a:Str)(b:Int):decide ((Sum.inr a:Uh)=Sum.inl b)=false:=decide_eq_false (fun q=>nomatch q)
def Wz(prog:Program)(w:World):PySem.KeyKind prog w Uh where
 is:=Z23
 hash:=Zic w
 inj:=fun v a b ha hb=>by
  rcases Ym ha with⟨i,t,rfl,rfl⟩ | ⟨x,t,rfl,rfl⟩
  ·rcases Ym hb with⟨j,u,rfl,e⟩ | ⟨y,u,rfl,e⟩
   ·injection e with e1 _;rw[e1]
   ·exact nomatch e
  ·rcases Ym hb with⟨j,u,rfl,e⟩ | ⟨y,u,rfl,e⟩
   ·exact nomatch e
   ·injection e with e1 _;rw[e1]
 byValue:=fun k v h=>by
  rcases Ym h with⟨i,t,rfl,rfl⟩ | ⟨x,t,rfl,rfl⟩ <;> rfl
 pyHash:=fun hv h=>by
  rcases Ym hv with⟨i,t,rfl,rfl⟩ | ⟨x,t,rfl,rfl⟩
  ·exact wpAny_pyHash_int h
  ·exact wpAny_pyHash_str h
 eqBool:=fun hu hv h=>by
  rcases Ym hu with⟨i,t,rfl,rfl⟩ | ⟨x,t,rfl,rfl⟩
  ·rcases Ym hv with⟨j,u,rfl,rfl⟩ | ⟨y,u,rfl,rfl⟩
   ·rw[Zgj]at h;exact wpAny_eqBool_int h
   ·rw[Zgi]at h;exact SeqAt.EqAt.int_str i t y u _ _ _ _ h
  ·rcases Ym hv with⟨j,u,rfl,rfl⟩ | ⟨y,u,rfl,rfl⟩
   ·rw[Zgh]at h;exact SeqAt.EqAt.str_int x t j u _ _ _ _ h
   ·rw[Zgg]at h;exact wpAny_eqBool_str h
 «strs»:=fun k x t v h=>by
  rcases Ym h with⟨i,u,rfl,e⟩ | ⟨y,u,rfl,e⟩
  ·exact nomatch e
  ·injection e with e1 _
   subst e1
   cases v <;> rfl
theorem Z4u(prog:Program)(w:World)(i:Int)(t:Tok):(Wz prog w).is (.inl i) (.int i t)=true:=Z9e i t
theorem Z4t(prog:Program)(w:World)(x:Str)(t:Tok):(Wz prog w).is (.inr x) (.str x t)=true:=Jr x t
inductive V where
 |non | bl (b:Bool) | int (i:Int) | str (x:Str) | byt (b:Array UInt8) | flt (b:UInt64) | ref (a:Addr) | ty (n:String)
 deriving DecidableEq
def RelV:V->Value->Prop
 |.non,u=>u=Value.none
 |.bl b,u=>u=Value.bool b
 |.int i,u=>∃t,u=Value.int i t
 |.str x,u=>∃t,u=Value.str x t
 |.byt b,u=>∃t,u=Value.bytes b t
 |.flt b,u=>∃t,u=Value.float b t
 |.ref a,u=>u=Value.ref a
 |.ty n,u=>u=Value.type n
abbrev Vals:List V->List Value->Prop:=Paired RelV
theorem Vals.length{xs:List V}{us:List Value}(r:Vals xs us):xs.length=us.length:=Paired.length r
theorem Vals.get:∀ {xs:List V} {us:List Value} {i:Nat} {x:V},Vals xs us->xs[i]? = some x->∃u,us[i]? = some u/\RelV x u
 |_,_,_,_,.nil,e=>by simp at e
 |_,_,0,_,.cons r _,e=>by simp at e;subst e;exact⟨_,rfl,r⟩
 |_,_,i+1,x,.cons _ t,e=>by
  obtain⟨u,h1,h2⟩:=Vals.get (i:=i) (x:=x) t (by simpa using e)
  exact⟨u,by simpa using h1,h2⟩
theorem Vals.set{x:V}{u:Value}(r:RelV x u):∀ {xs:List V} {us:List Value} (i:Nat),Vals xs us->Vals (xs.set i x) (us.set i u)
 |_,_,_,.nil=>.nil
 |_,_,0,.cons _ t=>.cons r t
 |_,_,i+1,.cons q t=>.cons q (Vals.set r i t)
theorem Vals.append:∀ {xs ys:List V} {us ws:List Value},Vals xs us->Vals ys ws->Vals (xs++ys) (us++ws)
 |_,_,_,_,.nil,s=>s
 |_,_,_,_,.cons r t,s=>.cons r (Vals.append t s)
theorem Vals.take:∀ {xs:List V} {us:List Value} (n:Nat),Vals xs us->Vals (xs.take n) (us.take n)
 |_,_,0,_=>.nil
 |_,_,_+1,.nil=>.nil
 |_,_,n+1,.cons r t=>.cons r (Vals.take n t)
theorem Vals.drop:∀ {xs:List V} {us:List Value} (n:Nat),Vals xs us->Vals (xs.drop n) (us.drop n)
 |_,_,0,r=>r
 |_,_,_+1,.nil=>.nil
 |_,_,n+1,.cons _ t=>Vals.drop n t
def RelO:Option V->Option Value->Prop
 |some v,some u=>RelV v u
 |none,none=>True
 |_,_=>False
def KV{κ:Type}:List (κ×V)->List (κ×Value)->Prop:=Paired fun(p:κ×V) (q:κ×Value)=>p.1=q.1/\RelV p.2 q.2
def kV:Uh->V
 |.inl i=>.int i
 |.inr x=>.str x
inductive HO where
 /-- a list -/
 |lst (xs:List V)
 /-- a tuple (never changes) -/
 |tup (xs:List V)
 /-- a dict whose keys are ints and texts;one whose keys are tuples of ints and texts (the empty one is both) -/
 |dK (kvs:List (Uh×V)) | dT (kvs:List (List Uh×V))
 /-- a set of ints: its members,its size -/
 |set (S:Int->Bool) (n:Nat)
 /-- an instance of the class at C,its dict at dx,its attributes -/
 |ins (C dx:Addr) (fs:List (Str×V))
 /-- the dict of the instance at x -/
 |own (x:Addr)
 /-- the dict of an exception -/
 |xd (fs:List (Str×V))
 /-- a bound method,f of x -/
 |met (f x:Addr)
 /-- a range object lo,lo+1,.. below hi -/
 |rng (lo hi:Int)
 /-- a thing that is known to the object (the script;a dict while a loop walks it): read,never written while it is so -/
 |frz (o:Obj) (u:HO)
 /-- a code object's table -/
 |tbl (ps:Array Value)
 /-- any other thing,by what is true of its one object (a def of one's own: SetO a S n:=HO.ext fun h=>..) -/
 |ext (φ:Heap->Prop)
abbrev Hp:=Addr->Option HO
def Zr(H:Hp)(a:Addr)(o:HO):Hp:=fun b=>if b=a then some o else H b
theorem Z5{H:Hp}{a:Addr}{o:HO}:Zr H a o a=some o:=by unfold Zr;rw[if_pos rfl]
theorem Zo{H:Hp}{a b:Addr}{o:HO}(h:b≠a):Zr H a o b=H b:=by unfold Zr;rw[if_neg h]
theorem Z7h{H:Hp}{a:Addr}{o u:HO}:Zr (Zr H a o) a u=Zr H a u:=by
 funext b;unfold Zr;split <;> rfl
theorem Zcb{H:Hp}{a b:Addr}{o u:HO}(h:H a=some o)(h':H b=some u)(d:o≠u):a≠b:=by
 intro e;subst e;rw[h]at h';exact d (Option.some.inj h')
theorem Za{H:Hp}{a b:Addr}{o:HO}(h:H a=some o)(h':H b=none):a≠b:=by
 intro e;subst e;rw[h]at h';cases h'
section
variable(P:Program)(w:World)
def ObjOk(H:Hp)(h:Heap)(a:Addr):HO->Prop
 |.lst xs=>xs.length<=sizeLine/\∃(its:List Value) (n:Nat),Vals xs its/\h.get? a=some { cls:=.type "list",data:=.seq its.toArray n }
 |.tup xs=>xs.length<=sizeLine/\∃its:List Value,Vals xs its/\IsTup h a its.toArray
 |.dK kvs=>kvs.length<=sizeLine/\(a==sysModules)=false/\∃vs,KV kvs vs/\h.DictOf (Wz P w) a vs
 |.dT kvs=>kvs.length<=sizeLine/\(a==sysModules)=false/\∃xs:List (List Uh×Addr×Value),
   Paired (fun(p:List Uh×V) (q:List Uh×Addr×Value)=>p.1=q.1/\H q.2.1=some (.tup (p.1.map kV))/\RelV p.2 q.2.2) kvs xs /\
   ∃o es ep,h.get? a=some o/\o.ExactDict/\o.data=.dict es ep/\es.toList=xs.map (entryOfKey (tupleKind (Wz P w)))/\(xs.map (·.1)).Nodup
 |.set S n=>h.SetOf (intKind P w) a S n
 |.ins C dx fs=>H dx=some (.own a)/\fs.length<=1000/\dx≠a/\h.get? a=some (W.instObj C dx) /\
   ∃mA,h.Ns1 dx mA/\(∀f,RelO (fs.lookup f) (mA f))/\PySem.Within mA (fs.map (·.1))
 |.own _=>∃o,h.get? a=some o
 |.xd fs=>∃mA,h.Ns1 a mA/\∀f,RelO (fs.lookup f) (mA f)
 |.rng lo hi=>∃t u v,h.get? a=some { cls:=.type "range",data:=.fields #[.int lo t,.int hi u,.int 1 v] }
 |.frz o u=>h.get? a=some o/\ObjOk H h a u
 |.tbl ps=>h.get? a=some { cls:=.none,data:=.fields ps }
 |.met f x=>h.get? a=some (W.methodObj (.ref f) (.ref x))
 |.ext φ=>φ h/\(∃o,h.get? a=some o)/\∀h1 h2:Heap,φ h1->(∀o,h1.get? a=some o->h2.get? a=some o)->φ h2
def HOk(H:Hp)(h:Heap):Prop:=∀a o,H a=some o->ObjOk P w H h a o
end
section
variable{P:Program}{w:World}{H H':Hp}{h h':Heap}{a:Addr}{o:HO}
theorem ObjOk.lt(x:ObjOk P w H h a o):a<h.objs.size:=by
 cases o with
 |lst xs=>obtain⟨_,_,_,_,e⟩:=x;exact Heap.lt_size e
 |tup xs=>obtain⟨_,_,_,p⟩:=x;exact p.lt
 |dK kvs=>obtain⟨_,_,_,_,o,_,_,e,_⟩:=x;exact Heap.lt_size e
 |dT kvs=>obtain⟨_,_,_,_,o,_,_,e,_⟩:=x;exact Heap.lt_size e
 |set S n=>obtain⟨o,_,_,_,e,_⟩:=x;exact Heap.lt_size e
 |ins C dx fs=>obtain⟨_,_,_,e,_⟩:=x;exact Heap.lt_size e
 |own y=>obtain⟨_,e⟩:=x;exact Heap.lt_size e
 |xd fs=>obtain⟨_,⟨_,_,_,e,_⟩,_⟩:=x;exact Heap.lt_size e
 |rng lo hi=>obtain⟨_,_,_,e⟩:=x;exact Heap.lt_size e
 |frz ob u=>obtain⟨e,_⟩:=x;exact Heap.lt_size e
 |tbl ps=>exact Heap.lt_size (show h.get? a=some _ from x)
 |met f y=>exact Heap.lt_size (show h.get? a=some _ from x)
 |ext φ=>obtain⟨_,⟨_,e⟩,_⟩:=x;exact Heap.lt_size e
theorem Paired.mapP{α β:Type}{F G:α->β->Prop}:∀ {l₁:List α} {l₂:List β},Paired F l₁ l₂->(∀a b,F a b->G a b)->Paired G l₁ l₂
 |_,_,.nil,_=>.nil
 |_,_,.cons r t,f=>.cons (f _ _ r) (Paired.mapP t f)
theorem ObjOk.stay(x:ObjOk P w H h a o)(k:∀b u,(b=a∨H b=some (.own a))->h.get? b=some u->h'.get? b=some u)
  (ho:∀b,H b=some (.own a)->H' b=some (.own a)) (ht:∀b xs,H b=some (.tup xs)->H' b=some (.tup xs)):ObjOk P w H' h' a o:=by
 induction o with
 |lst xs=>obtain⟨z,its,n,r,e⟩:=x;exact⟨z,its,n,r,k _ _ (.inl rfl) e⟩
 |tup xs=>obtain⟨z,its,r,ob,e,c⟩:=x;exact⟨z,its,r,ob,k _ _ (.inl rfl) e,c⟩
 |dK kvs=>obtain⟨z,y,vs,r,ob,es,ep,e,c⟩:=x;exact⟨z,y,vs,r,ob,es,ep,k _ _ (.inl rfl) e,c⟩
 |dT kvs =>
  obtain⟨z,y,xs,r,ob,es,ep,e,c⟩:=x
  exact⟨z,y,xs,Paired.mapP r fun p q z=>⟨z.1,ht _ _ z.2.1,z.2.2⟩,ob,es,ep,k _ _ (.inl rfl) e,c⟩
 |set S n=>obtain⟨ob,es,ep,t,e,c⟩:=x;exact⟨ob,es,ep,t,k _ _ (.inl rfl) e,c⟩
 |ins C dx fs =>
  obtain⟨d,z,ne,e,mA,⟨od,es,ep,e2,c⟩,r⟩:=x
  exact⟨ho _ d,z,ne,k _ _ (.inl rfl) e,mA,⟨od,es,ep,k _ _ (.inr d) e2,c⟩,r⟩
 |own y=>obtain⟨ob,e⟩:=x;exact⟨ob,k _ _ (.inl rfl) e⟩
 |xd fs=>obtain⟨mA,⟨od,es,ep,e,c⟩,r⟩:=x;exact⟨mA,⟨od,es,ep,k _ _ (.inl rfl) e,c⟩,r⟩
 |rng lo hi=>obtain⟨t,u,v,e⟩:=x;exact⟨t,u,v,k _ _ (.inl rfl) e⟩
 |frz ob u ih=>obtain⟨e,q⟩:=x;exact⟨k _ _ (.inl rfl) e,ih q⟩
 |tbl ps =>
  have e:h.get? a=some { cls:=.none,data:=.fields ps }:=x
  show h'.get? a=some { cls:=.none,data:=.fields ps }
  exact k a _ (.inl rfl) e
 |met f y =>
  have e:h.get? a=some (W.methodObj (.ref f) (.ref y)):=x
  show h'.get? a=some (W.methodObj (.ref f) (.ref y))
  exact k a _ (.inl rfl) e
 |ext φ=>obtain⟨p,⟨o,e⟩,st⟩:=x;exact⟨st _ _ p fun o q=>k _ _ (.inl rfl) q,⟨o,k _ _ (.inl rfl) e⟩,st⟩
theorem HOk.lt(x:HOk P w H h)(e:H a=some o):a<h.objs.size:=(x a o e).lt
theorem HOk.fresh(x:HOk P w H h)(e:h.objs.size<=a):H a=none:=by
 cases q:H a with
 |none=>rfl
 |some u=>exact absurd (Nat.lt_of_lt_of_le (x.lt q) e) (Nat.lt_irrefl _)
theorem HOk.kept(x:HOk P w H h)(k:∀b u,h.get? b=some u->h'.get? b=some u):HOk P w H h':=fun a o e =>
 (x a o e).stay (fun b u _ q=>k b u q) (fun _ q=>q) fun _ _ q=>q
theorem HOk.laid(x:HOk P w H h)(k:∀b u,h.get? b=some u->h'.get? b=some u)(hp:h.objs.size<=a)(new:ObjOk P w (Zr H a o) h' a o):HOk P w (Zr H a o) h':=fun b u e=>by
 have hn:=x.fresh hp
 by_cases hb:b=a
 ·subst hb;rw[Z5]at e;cases e;exact new
 ·rw[Zo hb]at e
  exact(x b u e).stay (fun c v _ q=>k c v q) (fun c q=>by rw[Zo (Za q hn)];exact q) fun c xs q=>by rw[Zo (Za q hn)];exact q
end
def Rd(H:Hp)(a:Addr)(u:HO):Prop:=H a=some u∨∃o,H a=some (.frz o u)
theorem Rd.ok{P:Program}{w:World}{H:Hp}{h:Heap}{a:Addr}{u:HO}(r:Rd H a u)(x:HOk P w H h):ObjOk P w H h a u:=by
 rcases r with r | ⟨o,r⟩
 ·exact x a u r
 ·obtain⟨_,q⟩:=x a _ r
  exact q
def Zj5:Option HO->Prop
 |some (.lst _)=>True
 |some (.dK _)=>True
 |some (.dT _)=>True
 |some (.set _ _)=>True
 |some (.ins _ _ _)=>True
 |some (.ext _)=>True
 |_=>False
section
variable{P:Program}{w:World}{H:Hp}{h h':Heap}{x e:Addr}{o':HO}
theorem HOk.write(ok:HOk P w H h)(mu:Zj5 (H x))(he:e=x∨H e=some (.own x))(k:∀b u,b≠e->h.get? b=some u->h'.get? b=some u)(heo:∃u,h'.get? e=some u)
  (new:ObjOk P w (Zr H x o') h' x o'):HOk P w (Zr H x o') h':=fun b u q=>by
 have nown:∀c y,H c=some (.own y)->c≠x:=fun c y r z=>by subst z;rw[r]at mu;exact mu
 have ntup:∀c xs,H c=some (.tup xs)->c≠x:=fun c xs r z=>by subst z;rw[r]at mu;exact mu
 by_cases hb:b=x
 ·subst hb;rw[Z5]at q;cases q;exact new
 ·rw[Zo hb]at q
  by_cases hbe:b=e
  ·have q':H b=some (.own x):=by
    rcases he with z | z
    ·exact absurd (hbe.trans z) hb
    ·rw[hbe];exact z
   rw[q]at q';cases q'
   obtain⟨v,hv⟩:=heo
   exact⟨v,by rw[hbe];exact hv⟩
  ·refine(ok b u q).stay (fun c v hc r=>k c v ?_ r) (fun c r=>by rw[Zo (nown c b r)];exact r) fun c xs r=>by rw[Zo (ntup c xs r)];exact r
   rcases hc with rfl | hc
   ·exact hbe
   ·rintro rfl
    rcases he with z | z
    ·exact nown c b hc z
    ·rw[hc]at z;cases z;exact hb rfl
end
structure Un(fs ex:List Addr)(H H':Hp)(h h':Heap):Prop where
 keep:∀b o,h.get? b=some o->H b=none->b∉fs->b∉ex->h'.get? b=some o
 slot:∀b o,h.get? b=some o->H b=none->b∈fs->b∉ex->∃sl,h'.get? b=some { o with slots:=sl }
 free:∀b o,h.get? b=some o->H b=none->b∉ex->H' b=none
 there:∀b o,h.get? b=some o->b∉ex->∃o',h'.get? b=some o'
 tups:∀b xs,H b=some (.tup xs)->H' b=some (.tup xs)
 frzs:∀b o u,H b=some (.frz o u)->H' b=some (.frz o u)
 tbls:∀b ps,H b=some (.tbl ps)->∃more,H' b=some (.tbl (ps++more))
section
variable{fs fs' ex ex':List Addr}{H H1 H2:Hp}{h h1 h2 h':Heap}{a x e:Addr}{o:HO}
theorem Un.any(u:Un fs ex H H1 h h1){b:Addr}{ob:Obj}(q:h.get? b=some ob)(n:H b=none)(hx:b∉ex):∃sl,h1.get? b=some { ob with slots:=sl }:=by
 by_cases hb:b∈fs
 ·exact u.slot b ob q n hb hx
 ·exact⟨ob.slots,u.keep b ob q n hb hx⟩
theorem Un.trans(a:Un fs ex H H1 h h1)(b:Un fs ex H1 H2 h1 h2):Un fs ex H H2 h h2 where
 keep:=fun c ob q n hc hx=>b.keep c ob (a.keep c ob q n hc hx) (a.free c ob q n hx) hc hx
 slot:=fun c ob q n hc hx=>by
  obtain⟨sl,e1⟩:=a.slot c ob q n hc hx
  obtain⟨sl',e2⟩:=b.slot c _ e1 (a.free c ob q n hx) hc hx
  exact⟨sl',e2⟩
 free:=fun c ob q n hx=>by
  obtain⟨o',e1⟩:=a.there c ob q hx
  exact b.free c o' e1 (a.free c ob q n hx) hx
 there:=fun c ob q hx=>by
  obtain⟨o',e1⟩:=a.there c ob q hx
  exact b.there c o' e1 hx
 tups:=fun c xs q=>b.tups c xs (a.tups c xs q)
 frzs:=fun c ob xs q=>b.frzs c ob xs (a.frzs c ob xs q)
 tbls:=fun c ps q=>by
  obtain⟨m1,e1⟩:=a.tbls c ps q
  obtain⟨m2,e2⟩:=b.tbls c _ e1
  exact⟨m1++m2,by rw[e2,Array.append_assoc]⟩
theorem Un.kept(k:∀b u,h.get? b=some u->h'.get? b=some u):Un fs ex H H h h' :=
 ⟨fun b ob q _ _ _=>k b ob q,fun b ob q _ _ _=>⟨ob.slots,k b ob q⟩,fun _ _ _ n _=>n,fun b ob q _=>⟨ob,k b ob q⟩,fun _ _ q=>q,fun _ _ _ q=>q,fun _ ps q=>⟨#[],by rw[q];simp⟩⟩
theorem Un.refl:Un fs ex H H h h:=Un.kept fun _ _ q=>q
theorem Un.laid(k:∀b u,h.get? b=some u->h'.get? b=some u)(hp:h.objs.size<=a)(hn:H a=none):Un fs ex H (Zr H a o) h h' where
 keep:=fun b u q _ _ _=>k b u q
 slot:=fun b u q _ _ _=>⟨u.slots,k b u q⟩
 free:=fun b u q n _=>by rw[Zo (Nat.ne_of_lt (Nat.lt_of_lt_of_le (Heap.lt_size q) hp))];exact n
 there:=fun b u q _=>⟨u,k b u q⟩
 tups:=fun b xs q=>by rw[Zo (Za q hn)];exact q
 frzs:=fun b u xs q=>by rw[Zo (Za q hn)];exact q
 tbls:=fun b ps q=>⟨#[],by rw[Zo (Za q hn),q];simp⟩
theorem Un.write(mu:Zj5 (H x))(he:e=x∨H e=some (.own x))(k:∀b u,b≠e->h.get? b=some u->h'.get? b=some u)(heo:∃u,h'.get? e=some u):Un fs ex H (Zr H x o) h h':=by
 have hx:∀b,H b=none->b≠x:=fun b n z=>by subst z;rw[n]at mu;exact mu
 have hb:∀b,H b=none->b≠e:=fun b n z=>by
  subst z
  rcases he with r | r
  ·exact hx b n r
  ·rw[n]at r;cases r
 have hm:∀b u,H b=some u->¬Zj5 (some u)->b≠x:=fun b u q nm z=>by subst z;rw[q]at mu;exact nm mu
 refine⟨fun b u q n _ _=>k b u (hb b n) q,fun b u q n _ _=>⟨u.slots,k b u (hb b n) q⟩,fun b u q n _=>by rw[Zo (hx b n)];exact n,fun b u q _=>?_,
  fun b xs q=>by rw[Zo (hm b _ q fun z=>z)];exact q,fun b u xs q=>by rw[Zo (hm b _ q fun z=>z)];exact q,fun b ps q=>⟨#[],by rw[Zo (hm b _ q fun z=>z),q];simp⟩⟩
 by_cases hbe:b=e
 ·subst hbe;exact heo
 ·exact⟨u,k b u hbe q⟩
end
def Zix(h:Heap)(H:Hp):List Addr:=(List.range h.objs.size).filter fun a=>(H a).isSome
def Z5n(h:Heap)(H:Hp):Heap:=W.hideAll h (Zix h H)
theorem Z9h(h:Heap)(H:Hp):(Z5n h H).objs.size=h.objs.size:=W.hideAll_size _ _
theorem Zb3{h:Heap}{H:Hp}{b:Addr}{o:Obj}(e:h.get? b=some o)(n:H b=none):(Z5n h H).get? b=some o :=
 W.hideAll_get _ e fun hm=>by
  have q:(H b).isSome=true:=(List.mem_filter.mp hm).2
  rw[n]at q;simp at q
theorem Zdw{h:Heap}{H:Hp}{b:Addr}{o:Obj}(e:(Z5n h H).get? b=some o):h.get? b=some o/\H b=none:=by
 have e':h.get? b=some o:=W.of_hideAll (Zix h H) e
 refine⟨e',?_⟩
 cases q:H b with
 |none=>rfl
 |some x =>
  have hm:b∈Zix h H:=List.mem_filter.mpr ⟨List.mem_range.mpr (Heap.lt_size e'),by simp[q]⟩
  have z:(Z5n h H).get? b=none:=W.hideAll_none (Zix h H) hm
  rw[z]at e;cases e
def Zeg(g h:Heap)(L:Addr):List (Addr×Obj):=(List.range h.objs.size).filterMap fun a=>if a=L∨(g.get? a).isSome=true then none else(h.get? a).map fun o=>(a,o)
def rest(g h:Heap)(L d:Addr):List (Addr×Obj):=(Zeg g h L).filter fun p=>decide (p.1≠d)
structure Mod(K:W.Frag)(mg:Str->Option Value)(base:Heap):Prop where
 kin:K.In base
 glob:base.Ns mainGlobals mg
 blt:∃mb,base.Ns builtinsNs mb/\∀x:Str,x≠"__name__"->mb x=bootBuiltins x
 nolimit:base.NoLimit
structure Cx where
 prog:Program
 w:World
 K:W.Frag
 mg:Str->Option Value
 base:Heap
 A:Around
 N:List Str
 s₀:Shared
 H₀:Hp
 env:Env
 outer:List Env
 stack:List Env
 ex:List Addr
 fn:Str->Bool
 calm:Bool
 pn:List (Addr×Obj)
 xe:Value->Shared->Prop
def Z0o(l:List Env):List Addr:=l.filterMap (·.frame)
abbrev Cx.fs(X:Cx):List Addr:=Z0o X.outer
def Zj1(sc:Scope)(x:Str):Prop:=sc.names.lookup x=some .local∨sc.names.lookup x=some .cell∨sc.names.lookup x=some .free
def Zha(sc:Scope)(x:Str):Prop:=sc.names.lookup x=some .local∨sc.names.lookup x=some .cell
def Zjy(env:Env)(h:Heap)(m:Str->Option Value)(x:Str)(u:Value):Prop :=
 (env.kindOf x=some .local/\m x=some u)∨((env.kindOf x=some .cell∨env.kindOf x=some .free)/\∃c,env.cells.lookup x=some c/\h.IsCell c (some u))
structure Cx.Ok(X:Cx):Prop where
 mod:Mod X.K X.mg X.base
 kind:X.env.scope.kind=.function
 glob:X.env.globals=mainGlobals
 blt:X.env.builtins=builtinsNs
 above:X.s₀.heap.objs.size<=X.env.locals
 inj:∀x y c,X.env.cells.lookup x=some c->X.env.cells.lookup y=some c->x=y
 has:∀x,(X.env.kindOf x=some .cell∨X.env.kindOf x=some .free)->∃c,X.env.cells.lookup x=some c
 cab:∀x c,X.fn x=true->X.env.cells.lookup x=some c->X.s₀.heap.objs.size<=c
 hd:X.calm=true->X.A.handled=none
 frames:X.A.frames=some X.stack
 stk:X.stack=X.outer∨(X.stack=X.env::X.outer/\X.env.frame=some X.env.locals)
 exf:∀b∈X.ex,b≠X.env.locals/\∀x c,X.env.cells.lookup x=some c->c≠b
 bs:∀b o,X.base.get? b=some o->X.s₀.heap.get? b=some o/\X.H₀ b=none
 bsz:X.base.objs.size<=X.s₀.heap.objs.size
 noex:∀b o,X.base.get? b=some o->b∉X.ex
 exfs:∀b∈X.ex,b∉X.fs
 funs:X.s₀.heap.FunFrames X.base X.outer
 frf:∀b∈X.fs,X.H₀ b=none
structure Inv(X:Cx)(Z2:List (Addr×Obj))(σ:List (Option V))(H:Hp)(s:Shared):Prop where
 ok:X.Ok
 os:s.os=X.s₀.os
 bare:AllBare s.gens
 base:Un X.fs X.ex X.H₀ H X.s₀.heap s.heap
 loc:∃m,s.heap.Ns X.env.locals m/\∀(i:Nat) (x:Str) (v:V),X.N[i]? = some x->σ[i]? = some (some v)->Zj1 X.env.scope x->∃u,RelV v u/\Zjy X.env s.heap m x u
 cell:∀x c,X.env.cells.lookup x=some c->∃v,s.heap.IsCell c v
 free:H X.env.locals=none
 freeC:∀x c,X.env.cells.lookup x=some c->H c=none
 pin:∀p∈X.pn++Z2,s.heap.get? p.1=some p.2/\H p.1=none/\p.1≠X.env.locals/\p.1∉X.fs/\∀v,p.2.data≠.cell v
 hok:HOk X.prog X.w H s.heap
 len:σ.length=X.N.length
section
variable{X:Cx}{Z2:List (Addr×Obj)}{σ:List (Option V)}{H H':Hp}{s:Shared}{h':Heap}
theorem Cx.Ok.nofr(ok:X.Ok){b:Addr}{o:Obj}(e:X.base.get? b=some o):b∉X.fs:=fun hb=>by
 have:=(ok.funs.mem hb).1
 rw[e]at this;cases this
theorem Inv.bs(I:Inv X Z2 σ H s):∀b o,X.base.get? b=some o->s.heap.get? b=some o/\H b=none:=fun b o e =>
 ⟨I.base.keep b o (I.ok.bs b o e).1 (I.ok.bs b o e).2 (I.ok.nofr e) (I.ok.noex b o e),I.base.free b o (I.ok.bs b o e).1 (I.ok.bs b o e).2 (I.ok.noex b o e)⟩
theorem Inv.bk(I:Inv X Z2 σ H s):∀b o,X.base.get? b=some o->s.heap.get? b=some o:=fun b o e=>(I.bs b o e).1
theorem Inv.mod(I:Inv X Z2 σ H s):Mod X.K X.mg X.base:=I.ok.mod
theorem Inv.kIn(I:Inv X Z2 σ H s):X.K.In s.heap:=I.ok.mod.kin.keeps I.bk
theorem Inv.fr(I:Inv X Z2 σ H s):∃m,Fr X.base X.env.locals s.heap m :=
 let⟨m,hn,_⟩:=I.loc
 ⟨m,hn,I.bk,Nat.le_trans I.ok.bsz I.ok.above⟩
theorem Inv.lt(I:Inv X Z2 σ H s):X.env.locals<s.heap.objs.size:=let⟨_,hn,_⟩:=I.loc;hn.lt
theorem Inv.sz(I:Inv X Z2 σ H s):X.s₀.heap.objs.size<=s.heap.objs.size:=Nat.le_trans I.ok.above (Nat.le_of_lt I.lt)
theorem Inv.nofs(I:Inv X Z2 σ H s){a:Addr}(h:s.heap.objs.size<=a):a∉X.fs:=fun hb=>by
 obtain⟨_,o,ho,_⟩:=I.ok.funs.mem hb
 exact absurd (Nat.lt_of_lt_of_le (Heap.lt_size ho) (Nat.le_trans I.sz h)) (Nat.lt_irrefl _)
theorem Inv.cne(I:Inv X Z2 σ H s):∀x c,X.env.cells.lookup x=some c->c≠X.env.locals:=fun x c e z=>by
 obtain⟨v,o,ho,hd⟩:=I.cell x c e
 obtain⟨m,⟨o',es,ep,ho',hd',_⟩,_⟩:=I.loc
 rw[z,ho']at ho;cases ho;rw[hd']at hd;cases hd
theorem Inv.funs(I:Inv X Z2 σ H s):s.heap.FunFrames X.base X.outer:=by
 have all:∀(l:List Env),(∀b∈Z0o l,b∈X.fs)->X.s₀.heap.FunFrames X.base l->s.heap.FunFrames X.base l:=by
  intro l
  induction l with
  |nil=>intro _ _;trivial
  |cons env r ih =>
   intro hs hl
   obtain⟨hk,⟨L,o,hf,hn,ho,hd⟩,hr⟩:=hl
   have hL:L∈X.fs:=hs L (by unfold Z0o;rw[List.filterMap_cons,hf];exact List.mem_cons_self)
   obtain⟨sl,e⟩:=I.base.slot L o ho (I.ok.frf L hL) hL fun z=>I.ok.exfs L z hL
   exact⟨hk,⟨L,_,hf,hn,e,hd⟩,ih (fun b hb=>hs b (by unfold Z0o;rw[List.filterMap_cons,hf];exact List.mem_cons_of_mem _ hb)) hr⟩
 exact all X.outer (fun _ hb=>hb) I.ok.funs
theorem Inv.stack(I:Inv X Z2 σ H s):s.heap.FunFrames X.base X.stack:=by
 rcases I.ok.stk with e | ⟨e,hf⟩
 ·rw[e];exact I.funs
 ·rw[e]
  obtain⟨m,hn,_⟩:=I.loc
  refine .cons (by rw[I.ok.kind];decide) hf hn ?_ I.funs
  exact Heap.get?_none_of_le (Nat.le_trans I.ok.bsz I.ok.above)
theorem Inv.stkSub(I:Inv X Z2 σ H s):∀b∈Z0o X.stack,b∈X.env.locals::X.fs:=fun b hb=>by
 rcases I.ok.stk with e | ⟨e,hf⟩
 ·rw[e]at hb;exact List.mem_cons_of_mem _ hb
 ·rw[e]at hb
  unfold Z0o at hb
  rw[List.filterMap_cons,hf]at hb
  exact hb
theorem Inv.stkFree(I:Inv X Z2 σ H s):∀b∈Z0o X.stack,H b=none:=fun b hb=>by
 rcases List.mem_cons.mp (I.stkSub b hb) with e | hb
 ·rw[e];exact I.free
 ·obtain⟨_,o,ho,_⟩:=I.ok.funs.mem hb
  exact I.base.free b o ho (I.ok.frf b hb) fun z=>I.ok.exfs b z hb
theorem Inv.step{g':Array GenState}{t':Nat}{d':Drawn}{ch:List Addr}(I:Inv X Z2 σ H s)
  (hch:∀b∈ch,(b∈X.ex∨X.s₀.heap.objs.size<=b)/\b≠X.env.locals/\(∀x c,X.env.cells.lookup x=some c->c≠b)/\∀p∈X.pn++Z2,p.1≠b)
  (keep:∀b o,b≠X.env.locals->b∉X.fs->b∉ch->s.heap.get? b=some o->H b=none->h'.get? b=some o)
  (slot:∀b o,b≠X.env.locals->b∈X.fs->b∉ch->s.heap.get? b=some o->H b=none->∃sl,h'.get? b=some { o with slots:=sl }) (free:∀b o,b∉ch->s.heap.get? b=some o->H b=none->H' b=none)
  (there:∀b o,b∉ch->s.heap.get? b=some o->∃o',h'.get? b=some o')
  (tups:∀b xs,H b=some (.tup xs)->H' b=some (.tup xs)) (frzs:∀b o u,H b=some (.frz o u)->H' b=some (.frz o u)) (tbls:∀b ps,H b=some (.tbl ps)->∃more,H' b=some (.tbl (ps++more)))
  (ns:∀m,s.heap.Ns X.env.locals m->h'.Ns X.env.locals m) (hok:HOk X.prog X.w H' h') (hg:AllBare g') :
  Inv X Z2 σ H' { s with heap:=h',gens:=g',drawn:=d',toks:=t' }:=by
 have neL:∀b o,X.s₀.heap.get? b=some o->b≠X.env.locals:=fun b o e=>Nat.ne_of_lt (Nat.lt_of_lt_of_le (Heap.lt_size e) I.ok.above)
 have neC:∀b o,X.s₀.heap.get? b=some o->b∉X.ex->b∉ch:=fun b o e hx hb=>by
  rcases(hch b hb).1 with z | z
  ·exact hx z
  ·exact absurd (Nat.lt_of_lt_of_le (Heap.lt_size e) z) (Nat.lt_irrefl _)
 have cellK:∀x c,X.env.cells.lookup x=some c->∀v,s.heap.IsCell c v->h'.IsCell c v:=fun x c e v ⟨o,ho,hd⟩=>by
  have nch:c∉ch:=fun z=>(hch c z).2.2.1 x c e rfl
  by_cases hc:c∈X.fs
  ·obtain⟨sl,q⟩:=slot c o (I.cne x c e) hc nch ho (I.freeC x c e)
   exact⟨_,q,hd⟩
  ·exact⟨o,keep c o (I.cne x c e) hc nch ho (I.freeC x c e),hd⟩
 refine⟨I.ok,I.os,hg,⟨fun b o e n hb hx=>?_,fun b o e n hb hx=>?_,fun b o e n hx=>?_,fun b o e hx=>?_,fun b xs e=>tups b xs (I.base.tups b xs e),fun b o xs e=>frzs b o xs (I.base.frzs b o xs e),fun b ps e=>?_⟩,?_,fun x c e=>?_,?_,fun x c e=>?_,fun p hp=>?_,hok,I.len⟩
 ·exact keep b o (neL b o e) hb (neC b o e hx) (I.base.keep b o e n hb hx) (I.base.free b o e n hx)
 ·obtain⟨sl,e1⟩:=I.base.slot b o e n hb hx
  obtain⟨sl',e2⟩:=slot b _ (neL b o e) hb (neC b o e hx) e1 (I.base.free b o e n hx)
  exact⟨sl',e2⟩
 ·obtain⟨o',e1⟩:=I.base.there b o e hx
  exact free b o' (neC b o e hx) e1 (I.base.free b o e n hx)
 ·obtain⟨o',e1⟩:=I.base.there b o e hx
  exact there b o' (neC b o e hx) e1
 ·obtain⟨m1,e1⟩:=I.base.tbls b ps e
  obtain⟨m2,e2⟩:=tbls b _ e1
  exact⟨m1++m2,by rw[e2,Array.append_assoc]⟩
 ·obtain⟨m,hn,hl⟩:=I.loc
  refine⟨m,ns m hn,fun i x v e1 e2 e3=>?_⟩
  obtain⟨u,r,l⟩:=hl i x v e1 e2 e3
  refine⟨u,r,?_⟩
  rcases l with l | ⟨k,c,e,z⟩
  ·exact .inl l
  ·exact .inr ⟨k,c,e,cellK x c e _ z⟩
 ·obtain⟨v,z⟩:=I.cell x c e
  exact⟨v,cellK x c e v z⟩
 ·obtain⟨m,⟨o,_,_,ho,_⟩,_⟩:=I.loc
  exact free _ o (fun z=>(hch _ z).2.1 rfl) ho I.free
 ·obtain⟨v,o,ho,hd⟩:=I.cell x c e
  exact free c o (fun z=>(hch c z).2.2.1 x c e rfl) ho (I.freeC x c e)
 ·obtain⟨e,n,ne,nf,d⟩:=I.pin p hp
  have nch:p.1∉ch:=fun z=>(hch p.1 z).2.2.2 p hp rfl
  exact⟨keep p.1 p.2 ne nf nch e n,free p.1 p.2 nch e n,ne,nf,d⟩
theorem Inv.un{t':Nat}(I:Inv X Z2 σ H s)(u:Un X.fs [] H H' s.heap h')(hok:HOk X.prog X.w H' h'):Inv X Z2 σ H' { s with heap:=h',toks:=t' }:=by
 obtain⟨m,⟨o,es,ep,ho,r⟩,_⟩:=id I.loc
 obtain⟨sl,hL⟩:=u.any ho I.free (by simp)
 exact I.step (g':=s.gens) (d':=s.drawn) (ch:=[]) (fun _ z=>nomatch z) (fun b o _ hb _ e n=>u.keep b o e n hb (by simp)) (fun b o _ hb _ e n=>u.slot b o e n hb (by simp)) (fun b o _ e n=>u.free b o e n (by simp)) (fun b o _ e=>u.there b o e (by simp)) u.tups u.frzs u.tbls (fun m' hm=>by
  obtain⟨o',es',ep',ho',r'⟩:=hm
  rw[ho]at ho';cases ho'
  exact⟨_,es',ep',hL,r'⟩) hok I.bare
theorem Inv.call{g':Array GenState}{t':Nat}{d':Drawn}{ch:List Addr}(I:Inv X Z2 σ H s)(u:Un (Z0o X.stack) ch H H' s.heap h')(hok:HOk X.prog X.w H' h')(hg:AllBare g')
  (hch:∀b∈ch,(b∈X.ex∨X.s₀.heap.objs.size<=b)/\b≠X.env.locals/\(∀x c,X.env.cells.lookup x=some c->c≠b)/\∀p∈X.pn++Z2,p.1≠b) :
  Inv X Z2 σ H' { s with heap:=h',gens:=g',drawn:=d',toks:=t' }:=by
 obtain⟨m,⟨o,es,ep,ho,r⟩,_⟩:=id I.loc
 obtain⟨sl,hL⟩:=u.any ho I.free fun z=>(hch _ z).2.1 rfl
 exact I.step (ch:=ch) hch (fun b o hL hb hc e n=>u.keep b o e n (fun z=>(List.mem_cons.mp (I.stkSub b z)).elim hL hb) hc) (fun b o _ _ hc e n=>u.any e n hc) (fun b o hc e n=>u.free b o e n hc) (fun b o hc e=>u.there b o e hc) u.tups u.frzs u.tbls (fun m' hm=>by
  obtain⟨o',es',ep',ho',r'⟩:=hm
  rw[ho]at ho';cases ho'
  exact⟨_,es',ep',hL,r'⟩) hok hg
theorem Inv.turned{t':Nat}{it:Addr}(I:Inv X Z2 σ H s)(k:∀b o,b≠it->s.heap.get? b=some o->h'.get? b=some o)(hn:H it=none)(hL:it≠X.env.locals)
  (h1:it∈X.ex∨X.s₀.heap.objs.size<=it) (h2:∀x c,X.env.cells.lookup x=some c->c≠it) (h3:∀p∈X.pn++Z2,p.1≠it):Inv X Z2 σ H { s with heap:=h',toks:=t' }:=by
 have nit:∀b u,H b=some u->b≠it:=fun b u e z=>by rw[z,hn]at e;cases e
 refine I.step (g':=s.gens) (d':=s.drawn) (ch:=[it]) (fun b hb=>?_) (fun b o _ _ hc e _=>k b o (fun z=>hc (by simp[z])) e) (fun b o _ _ hc e _=>⟨o.slots,k b o (fun z=>hc (by simp[z])) e⟩) (fun _ _ _ _ n=>n)
  (fun b o hc e=>⟨o,k b o (fun z=>hc (by simp[z])) e⟩) (fun _ _ e=>e) (fun _ _ _ e=>e) (fun b ps e=>⟨#[],by rw[e];simp⟩) (fun m hm=>?_) (fun b u e=>?_) I.bare
 ·have e:b=it:=by simpa using hb
  subst e
  exact⟨h1,hL,h2,h3⟩
 ·obtain⟨o,es,ep,ho,r⟩:=hm
  exact⟨o,es,ep,k _ o (Ne.symm hL) ho,r⟩
 ·refine(I.hok b u e).stay (fun c v hc q=>k c v ?_ q) (fun _ q=>q) fun _ _ q=>q
  rcases hc with z | z
  ·rw[z];exact nit b u e
  ·exact nit c _ z
theorem Inv.tok(I:Inv X Z2 σ H s)(t:Nat):Inv X Z2 σ H { s with toks:=t }:=I.un (h':=s.heap) (t':=t) Un.refl I.hok
theorem Inv.kept{t':Nat}(I:Inv X Z2 σ H s)(k:∀b u,s.heap.get? b=some u->h'.get? b=some u):Inv X Z2 σ H { s with heap:=h',toks:=t' }:=I.un (Un.kept k) (I.hok.kept k)
theorem Inv.laid{a:Addr}{o:HO}{t':Nat}(I:Inv X Z2 σ H s)(k:∀b u,s.heap.get? b=some u->h'.get? b=some u)(hp:s.heap.objs.size<=a)(new:ObjOk X.prog X.w (Zr H a o) h' a o) :
  Inv X Z2 σ (Zr H a o) { s with heap:=h',toks:=t' }:=I.un (Un.laid k hp (I.hok.fresh hp)) (I.hok.laid k hp new)
theorem Inv.write{x e:Addr}{o:HO}{t':Nat}(I:Inv X Z2 σ H s)(mu:Zj5 (H x))(he:e=x∨H e=some (.own x))(k:∀b u,b≠e->s.heap.get? b=some u->h'.get? b=some u)(heo:∃u,h'.get? e=some u)
  (new:ObjOk X.prog X.w (Zr H x o) h' x o):Inv X Z2 σ (Zr H x o) { s with heap:=h',toks:=t' }:=I.un (Un.write mu he k heo) (I.hok.write mu he k heo new)
theorem Inv.weak{σ':List (Option V)}(I:Inv X Z2 σ H s)(hl:σ'.length=σ.length)(w:∀(i:Nat) v,σ'[i]? = some (some v)->σ[i]? = some (some v)):Inv X Z2 σ' H s :=
 ⟨I.ok,I.os,I.bare,I.base,let⟨m,hn,hl'⟩:=I.loc;⟨m,hn,fun i x v e1 e2 e3=>hl' i x v e1 (w i v e2) e3⟩,I.cell,I.free,I.freeC,I.pin,I.hok,hl.trans I.len⟩
theorem Inv.pins_of{pins':List (Addr×Obj)}(I:Inv X Z2 σ H s)(h:∀p∈pins',s.heap.get? p.1=some p.2/\H p.1=none/\p.1≠X.env.locals/\p.1∉X.fs/\∀v,p.2.data≠.cell v):Inv X pins' σ H s :=
 ⟨I.ok,I.os,I.bare,I.base,I.loc,I.cell,I.free,I.freeC,fun p hp=>(List.mem_append.mp hp).elim (fun z=>I.pin p (List.mem_append_left _ z)) (h p),I.hok,I.len⟩
theorem Z1l{N:List Str}(hN:N.Nodup){i j:Nat}{x:Str}(a:N[i]? = some x)(b:N[j]? = some x):i=j:=by
 obtain⟨h1,e1⟩:=List.getElem?_eq_some_iff.mp a
 obtain⟨h2,e2⟩:=List.getElem?_eq_some_iff.mp b
 exact(List.getElem_inj hN).mp (e1.trans e2.symm)
theorem Z8q{M:Model}{A:Around}{E:Value->Shared->Prop}{i:Nat}{x:Str}{v:V}{u:Value}{Q:Unit->Shared->Prop}(I:Inv X Z2 σ H s)(hN:X.N.Nodup)(hi:X.N[i]? = some x)(hx:Zha X.env.scope x)(r:RelV v u)
  (h:∀s',Inv X Z2 (σ.set i (some v)) H s'->(∃a,Heap.SameBut a s.heap s'.heap/\(a=X.env.locals∨X.env.cells.lookup x=some a))->Q () s') (hf:X.fn x=true∨X.env.scope.names.lookup x=some .local:=by first | exact .inl rfl | exact .inr rfl | assumption):wpAny M A (storeName X.env x u) Q E s:=by
 obtain⟨m,hn,hl⟩:=id I.loc
 have hcls:(X.env.scope.kind==.class||(X.env.scope.kind==.module&&X.env.locals != X.env.globals))=false:=by rw[I.ok.kind];rfl
 have hiσ:i<σ.length:=by rw[I.len];exact(List.getElem?_eq_some_iff.mp hi).1
 have cne:=I.cne
 have tracked:∀ {a:Addr} {h':Heap},(∃o,s.heap.get? a=some o/\H a=none)->Heap.SameBut a s.heap h'->HOk X.prog X.w H h':=fun{a h'} ha hs b ob e=>by
  obtain⟨_,_,hfree⟩:=ha
  refine(I.hok b ob e).stay (fun c w' hc q=>(hs.2 c ?_).trans q) (fun _ q=>q) fun _ _ q=>q
  rintro rfl
  rcases hc with rfl | hc
  ·rw[hfree]at e;cases e
  ·rw[hfree]at hc;cases hc
 rcases hx with hk | hk
 ·refine wpAny_storeName_local hk hn (fun h' hn' hs=>?_) hcls
  obtain⟨oL,_,_,hoL,_⟩:=id hn
  refine h _ ⟨I.ok,I.os,I.bare,⟨fun b o e n hb hx=>?_,fun b o e n hb hx=>?_,I.base.free,fun b o e hx=>?_,I.base.tups,I.base.frzs,I.base.tbls⟩,⟨_,hn',fun j y v' e1 e2 e3=>?_⟩,fun y c e=>?_,I.free,I.freeC,fun p hp=>?_,tracked ⟨oL,hoL,I.free⟩ hs,by simpa using I.len⟩ ⟨_,hs,.inl rfl⟩
  ·exact(hs.2 b (Nat.ne_of_lt (Nat.lt_of_lt_of_le (Heap.lt_size e) I.ok.above))).trans (I.base.keep b o e n hb hx)
  ·obtain⟨sl,e1⟩:=I.base.slot b o e n hb hx
   exact⟨sl,(hs.2 b (Nat.ne_of_lt (Nat.lt_of_lt_of_le (Heap.lt_size e) I.ok.above))).trans e1⟩
  ·obtain⟨o',e1⟩:=I.base.there b o e hx
   exact⟨o',(hs.2 b (Nat.ne_of_lt (Nat.lt_of_lt_of_le (Heap.lt_size e) I.ok.above))).trans e1⟩
  ·by_cases hj:j=i
   ·subst hj
    rw[hi]at e1;cases e1
    rw[List.getElem?_set_self hiσ]at e2
    cases e2
    exact⟨u,r,.inl ⟨hk,by simp⟩⟩
   ·rw[List.getElem?_set_ne (Ne.symm hj)]at e2
    obtain⟨u',r',q⟩:=hl j y v' e1 e2 e3
    refine⟨u',r',?_⟩
    rcases q with⟨k,e⟩ | ⟨k,c,e,z⟩
    ·refine .inl ⟨k,?_⟩
     have:y≠x:=fun e=>hj (Z1l hN e1 (e ▸ hi))
     simp[this,e]
    ·exact .inr ⟨k,c,e,z.sameBut hs (cne y c e)⟩
  ·obtain⟨w',z⟩:=I.cell y c e
   exact⟨w',z.sameBut hs (cne y c e)⟩
  ·obtain⟨e,n,ne,nf,d⟩:=I.pin p hp
   exact⟨(hs.2 p.1 ne).trans e,n,ne,nf,d⟩
 ·have hfn:X.fn x=true:=by
   rcases hf with z | z
   ·exact z
   ·rw[z]at hk;cases hk
  obtain⟨c,hc⟩:=I.ok.has x (.inl hk)
  obtain⟨w',z⟩:=I.cell x c hc
  refine wpAny_storeName_cell I.ok.kind hk hc z (fun h' hc' hs=>?_)
  obtain⟨oc,hoc,hocd⟩:=id z
  refine h { s with heap:=h' } ⟨I.ok,I.os,I.bare,⟨fun b o e n hb hx=>?_,fun b o e n hb hx=>?_,I.base.free,fun b o e hx=>?_,I.base.tups,I.base.frzs,I.base.tbls⟩,⟨m,hn.sameBut hs (Ne.symm (cne x c hc)),fun j y v' e1 e2 e3=>?_⟩,fun y c' e=>?_,I.free,I.freeC,fun p hp=>?_,tracked ⟨oc,hoc,I.freeC x c hc⟩ hs,by simpa using I.len⟩ ⟨c,hs,.inr hc⟩
  ·exact(hs.2 b (Nat.ne_of_lt (Nat.lt_of_lt_of_le (Heap.lt_size e) (I.ok.cab x c hfn hc)))).trans (I.base.keep b o e n hb hx)
  ·obtain⟨sl,e1⟩:=I.base.slot b o e n hb hx
   exact⟨sl,(hs.2 b (Nat.ne_of_lt (Nat.lt_of_lt_of_le (Heap.lt_size e) (I.ok.cab x c hfn hc)))).trans e1⟩
  ·obtain⟨o',e1⟩:=I.base.there b o e hx
   exact⟨o',(hs.2 b (Nat.ne_of_lt (Nat.lt_of_lt_of_le (Heap.lt_size e) (I.ok.cab x c hfn hc)))).trans e1⟩
  ·by_cases hj:j=i
   ·subst hj
    rw[hi]at e1;cases e1
    rw[List.getElem?_set_self hiσ]at e2
    cases e2
    exact⟨u,r,.inr ⟨.inl hk,c,hc,hc'⟩⟩
   ·rw[List.getElem?_set_ne (Ne.symm hj)]at e2
    obtain⟨u',r',q⟩:=hl j y v' e1 e2 e3
    refine⟨u',r',?_⟩
    rcases q with q | ⟨k,c',e,z'⟩
    ·exact .inl q
    ·refine .inr ⟨k,c',e,z'.sameBut hs ?_⟩
     rintro rfl
     exact hj (Z1l hN e1 (I.ok.inj _ _ _ e hc ▸ hi))
  ·by_cases hcc:c'=c
   ·subst hcc;exact⟨_,hc'⟩
   ·obtain⟨w2,z2⟩:=I.cell y c' e
    exact⟨w2,z2.sameBut hs hcc⟩
  ·obtain⟨e,n,ne,nf,d⟩:=I.pin p hp
   refine⟨(hs.2 p.1 ?_).trans e,n,ne,nf,d⟩
   intro q
   rw[q,hoc]at e
   have q':oc=p.2:=Option.some.inj e
   exact d w' (by rw[← q'];exact hocd)
theorem Ua{M:Model}{A:Around}{E:Value->Shared->Prop}{i:Nat}{x:Str}{v:V}{u:Value}{Q:Unit->Shared->Prop}(I:Inv X Z2 σ H s)(hN:X.N.Nodup)(hi:X.N[i]? = some x)(hx:Zha X.env.scope x)(r:RelV v u)
  (h:∀s',Inv X Z2 (σ.set i (some v)) H s'->Q () s') (hf:X.fn x=true∨X.env.scope.names.lookup x=some .local:=by first | exact .inl rfl | exact .inr rfl | assumption):wpAny M A (storeName X.env x u) Q E s :=
 Z8q I hN hi hx r (fun s' I' _=>h s' I') hf
theorem Inv.call'{s':Shared}{ch:List Addr}(I:Inv X Z2 σ H s)(ho:s'.os=s.os)(u:Un (Z0o X.stack) ch H H' s.heap s'.heap)(hok:HOk X.prog X.w H' s'.heap)(hg:AllBare s'.gens)
  (hch:∀b∈ch,(b∈X.ex∨X.s₀.heap.objs.size<=b)/\b≠X.env.locals/\(∀x c,X.env.cells.lookup x=some c->c≠b)/\∀p∈X.pn++Z2,p.1≠b):Inv X Z2 σ H' s':=by
 obtain⟨h',g',d',t',o'⟩:=s'
 have e:o'=s.os:=ho
 subst e
 exact I.call (g':=g') (t':=t') (d':=d') u hok hg hch
end
abbrev XK:=Value->Option Addr->Hp->Prop
abbrev St:=List (Option V)
abbrev VK:=V->Hp->Prop
abbrev TE:=St->Hp->VK->Prop
abbrev TT:=St->Hp->(Bool->Hp->Prop)->Prop
abbrev TA:=St->Hp->(List V->Hp->Prop)->Prop
structure Ends where
 nx:St->Hp->Prop
 rt:VK
 bk:St->Hp->Prop:=fun _ _=>False
 ct:St->Hp->Prop:=fun _ _=>False
abbrev TS:=Ends->St->Hp->Prop
def EP(X:Cx)(Z2:List (Addr×Obj))(σ:St)(Q:VK)(u:Value)(s':Shared):Prop:=∃v H',Inv X Z2 σ H' s'/\RelV v u/\Q v H'
def TP(X:Cx)(Z2:List (Addr×Obj))(σ:St)(Q:Bool->Hp->Prop)(b:Bool)(s':Shared):Prop:=∃H',Inv X Z2 σ H' s'/\Q b H'
def AP(X:Cx)(Z2:List (Addr×Obj))(σ:St)(Q:List V->Hp->Prop)(us:List Value)(s':Shared):Prop:=∃vs H',Inv X Z2 σ H' s'/\Vals vs us/\Q vs H'
def SP(X:Cx)(Z2:List (Addr×Obj))(D:Ends)(f:Flow)(s':Shared):Prop :=
 match f with
 |.next=>∃σ' H',Inv X Z2 σ' H' s'/\D.nx σ' H'
 |.brk=>∃σ' H',Inv X Z2 σ' H' s'/\D.bk σ' H'
 |.cont=>∃σ' H',Inv X Z2 σ' H' s'/\D.ct σ' H'
 |.ret u=>∃v σ' H',Inv X Z2 σ' H' s'/\RelV v u/\D.rt v H'
def PE(X:Cx)(e:Expr)(t:TE):Prop :=
 ∀(Z2:List (Addr×Obj)) (s:Shared) (σ:St) (H:Hp) (Q:VK),Inv X Z2 σ H s->t σ H Q->wpAny (model X.prog X.w) X.A (eval e X.env) (EP X Z2 σ Q) X.xe s
def PT(X:Cx)(e:Expr)(t:TT):Prop :=
 ∀(Z2:List (Addr×Obj)) (s:Shared) (σ:St) (H:Hp) (Q:Bool->Hp->Prop),Inv X Z2 σ H s->t σ H Q->wpAny (model X.prog X.w) X.A (isTrue e X.env (eval e X.env)) (TP X Z2 σ Q) X.xe s
def PW(X:Cx)(e:Expr)(t:TT):Prop :=
 ∀(whole:Sem Value) (Z2:List (Addr×Obj)) (s:Shared) (σ:St) (H:Hp) (Q:Bool->Hp->Prop),Inv X Z2 σ H s->t σ H Q->wpAny (model X.prog X.w) X.A (isTrue e X.env whole) (TP X Z2 σ Q) X.xe s
theorem PW.pt{X:Cx}{e:Expr}{t:TT}(h:PW X e t):PT X e t:=h _
def PA(X:Cx)(es:List Expr)(t:TA):Prop :=
 ∀(pos:Pos) (Z2:List (Addr×Obj)) (s:Shared) (σ:St) (H:Hp) (Q:List V->Hp->Prop),Inv X Z2 σ H s->t σ H Q->wpAny (model X.prog X.w) X.A (spliced (backTo pos (starEach es X.env))) (AP X Z2 σ Q) X.xe s
def PS(X:Cx)(st:Stmt)(t:TS):Prop :=
 ∀(Z2:List (Addr×Obj)) (s:Shared) (σ:St) (H:Hp) (D:Ends),Inv X Z2 σ H s->t D σ H->wpAny (model X.prog X.w) X.A (exec st X.env) (SP X Z2 D) X.xe s
def PSs(X:Cx)(st:List Stmt)(t:TS):Prop :=
 ∀(Z2:List (Addr×Obj)) (s:Shared) (σ:St) (H:Hp) (D:Ends),Inv X Z2 σ H s->t D σ H->wpAny (model X.prog X.w) X.A (execs st X.env) (SP X Z2 D) X.xe s
theorem Xs{α:Type}{t:Sem α}{Q Q':α->Shared->Prop}{M:Model}{A:Around}{E:Value->Shared->Prop}{s:Shared}(h:wpAny M A t Q E s)(hQ:∀a s,Q a s->Q' a s):wpAny M A t Q' E s:=wpAny_mono h hQ fun _ _ x=>x
section
variable{X:Cx}
theorem bin{a b:Expr}{ta tb:TE}(ha:PE X a ta)(hb:PE X b tb){Z2:List (Addr×Obj)}{s:Shared}{σ:St}{H:Hp}{R:V->V->Hp->Prop}(I:Inv X Z2 σ H s)(h:ta σ H fun x H1=>tb σ H1 fun y H2=>R x y H2)
  {α:Type} {Q:α->Shared->Prop} {f:Value->Value->Sem α}
  (hf:∀v u s2 x y H2,Inv X Z2 σ H2 s2->RelV x v->RelV y u->R x y H2->wpAny (model X.prog X.w) X.A (f v u) Q X.xe s2) :
  wpAny (model X.prog X.w) X.A (eval a X.env) (fun v s₁=>wpAny (model X.prog X.w) X.A (eval b X.env) (fun u s₂=>wpAny (model X.prog X.w) X.A (f v u) Q X.xe s₂) X.xe s₁) X.xe s:=by
 refine Xs (ha Z2 s σ H _ I h) fun v s1 ⟨x,H1,I1,r1,q1⟩=>?_
 refine Xs (hb Z2 s1 σ H1 _ I1 q1) fun u s2 ⟨y,H2,I2,r2,q2⟩=>?_
 exact hf v u s2 x y H2 I2 r1 r2 q2
def W8(i:Nat):TE:=fun σ H Q=>∃v,σ[i]? = some (some v)/\Q v H
def tC(v:V):TE:=fun _ H Q=>Q v H
theorem Zg2{i:Nat}{x:Str}{pos:Pos}(hN:X.N[i]? = some x)(hv:Zj1 X.env.scope x)(hd:(x==("__debug__":Str))=false:=by decide)(hcd:(x==("__classdict__":Str))=false:=by decide):PE X (.Name x pos) (W8 i):=by
 intro Z2 s σ H Q I h
 obtain⟨v,e,h⟩:=h
 obtain⟨m,hn,hl⟩:=I.loc
 obtain⟨u,r,l⟩:=hl i x v hN e hv
 have fin:EP X Z2 σ Q u s:=⟨v,H,I,r,h⟩
 rcases l with⟨hk,hm⟩ | ⟨hk,c,hc,hcell⟩
 ·exact wpAny_Name (wpAny_loadName_local I.ok.kind hk hn hm fin) hd
 ·rcases hk with hk | hk
  ·exact wpAny_Name (wpAny_loadName_cell I.ok.kind hk hc hcell fin) hd
  ·exact wpAny_Name (wpAny_loadName_free I.ok.kind hk hc hcell fin hcd) hd
theorem Z7{i j pos}:PE X (.Constant (.int i) j pos) (tC (.int i)):=fun _ _ _ H _ I h=>wpAny_Constant_int ⟨.int i,H,I.tok _,⟨_,rfl⟩,h⟩
theorem W1{b j pos}:PE X (.Constant (.bool b) j pos) (tC (.bl b)):=fun _ _ _ H _ I h=>Constant_bool ⟨.bl b,H,I,rfl,h⟩
theorem Z0c{j pos}:PE X (.Constant .none j pos) (tC .non):=fun _ _ _ H _ I h=>Constant_none ⟨.non,H,I,rfl,h⟩
theorem Zq{x j pos}:PE X (.Constant (.str x) j pos) (tC (.str x)):=fun _ _ _ H _ I h=>Calls.Constant_str ⟨.str x,H,I.tok _,⟨_,rfl⟩,h⟩
def Gl(X:Cx)(x:Str):Prop:=X.env.kindOf x=some .globalImplicit
theorem Ja{E:Value->Shared->Prop}{Z2:List (Addr×Obj)}{s:Shared}{σ:St}{H:Hp}{x:Str}{u:Value}{pos:Pos}{Q:Value->Shared->Prop}(I:Inv X Z2 σ H s)(hg:Gl X x)(hm:X.mg x=some u)(h:Q u s)
  (hd:(x==("__debug__":Str))=false:=by decide):wpAny (model X.prog X.w) X.A (eval (.Name x pos) X.env) Q E s :=
 Calls.Name_function_global I.ok.kind hg (Calls.loadGlobal_global (by rw[I.ok.glob];exact I.mod.glob.keeps I.bk) hm h) hd
theorem Td{E:Value->Shared->Prop}{Z2:List (Addr×Obj)}{s:Shared}{σ:St}{H:Hp}{x:Str}{u:Value}{pos:Pos}{Q:Value->Shared->Prop}(I:Inv X Z2 σ H s)(hg:Gl X x)(hm:X.mg x=none)(hv:bootBuiltins x=some u)(h:Q u s)
  (hn:x≠"__name__":=by decide) (hd:(x==("__debug__":Str))=false:=by decide):wpAny (model X.prog X.w) X.A (eval (.Name x pos) X.env) Q E s:=by
 obtain⟨mb,h1,h2⟩:=I.mod.blt
 exact Calls.Name_function_global I.ok.kind hg (Calls.loadGlobal_builtin (by rw[I.ok.glob];exact I.mod.glob.keeps I.bk) hm (by rw[I.ok.blt];exact h1.keeps I.bk) ((h2 x hn).trans hv) h) hd
theorem Xl{x:Str}{v:V}{u:Value}{pos:Pos}(hg:Gl X x)(hm:X.mg x=some u)(r:RelV v u)(hd:(x==("__debug__":Str))=false:=by decide):PE X (.Name x pos) (tC v) :=
 fun _ _ _ H _ I h=>Ja I hg hm ⟨v,H,I,r,h⟩ hd
theorem Y8{x:Str}{v:V}{u:Value}{pos:Pos}(hg:Gl X x)(hm:X.mg x=none)(hv:bootBuiltins x=some u)(r:RelV v u)(hn:x≠"__name__":=by decide)(hd:(x==("__debug__":Str))=false:=by decide):PE X (.Name x pos) (tC v) :=
 fun _ _ _ H _ I h=>Td I hg hm hv ⟨v,H,I,r,h⟩ hn hd
variable{a b:Expr}{ta tb:TE}{pos:Pos}
def PC(X:Cx)(op:CmpOp)(a b:Expr)(t:TE):Prop :=
 ∀(Z2:List (Addr×Obj)) (s:Shared) (σ:St) (H:Hp) (Q:VK),Inv X Z2 σ H s->t σ H Q ->
  wpAny (model X.prog X.w) X.A (eval a X.env) (fun v s₁=>wpAny (model X.prog X.w) X.A (eval b X.env) (fun u s₂=>wpAny (model X.prog X.w) X.A (compareOp op v u) (EP X Z2 σ Q) X.xe s₂) X.xe s₁) X.xe s
theorem Z5c(b:Expr){op:CmpOp}(h:op≠.In)(h2:op≠.NotIn):behindInMarks op b=false:=by
 have e1:(op==CmpOp.In)=false:=by cases op <;> first | rfl | exact absurd rfl h
 have e2:(op==CmpOp.NotIn)=false:=by cases op <;> first | rfl | exact absurd rfl h2
 cases b <;> simp[behindInMarks,e1,e2]
def Zi6(ta:TE):TE:=fun σ H Q=>ta σ H fun x H1=>Q (.bl (decide (x=.non))) H1
def Zhk(ta:TE):TE:=fun σ H Q=>ta σ H fun x H1=>Q (.bl (!decide (x=.non))) H1
theorem RelV.none_iff{x:V}{v:Value}(r:RelV x v):(v==Value.none)=decide (x=.non):=by
 cases x with
 |non=>cases r;rfl
 |bl _=>cases r;rfl
 |int _=>obtain⟨t,rfl⟩:=r;rfl
 |str _=>obtain⟨t,rfl⟩:=r;rfl
 |byt _=>obtain⟨t,rfl⟩:=r;rfl
 |flt _=>obtain⟨t,rfl⟩:=r;rfl
 |ref _=>cases r;rfl
 |ty _=>cases r;rfl
theorem Ux{j pos'}(ha:PE X a ta):PC X .Is a (.Constant .none j pos') (Zi6 ta):=by
 intro Z2 s σ H Q I h
 refine Xs (ha Z2 s σ H _ I h) fun v s1 ⟨x,H1,I1,r1,q1⟩=>?_
 exact Constant_none (is_none_gen ⟨.bl _,H1,I1,by rw[r1.none_iff];rfl,q1⟩)
theorem Z7w{j pos'}(ha:PE X a ta):PC X .IsNot a (.Constant .none j pos') (Zhk ta):=by
 intro Z2 s σ H Q I h
 refine Xs (ha Z2 s σ H _ I h) fun v s1 ⟨x,H1,I1,r1,q1⟩=>?_
 exact Constant_none (isnot_none_gen ⟨.bl _,H1,I1,by rw[r1.none_iff];rfl,q1⟩)
def tB(t:TE):TT:=fun σ H Q=>t σ H fun x H1=>∃c,x=.bl c/\Q c H1
theorem Z7b{op:CmpOp}{t:TE}(h:PC X op a b t)(h1:behindInMarks op b=false:=by first | exact Z5c _ (by decide) (by decide) | rfl):PE X (.Compare a [op] [b] pos) t:=fun Z2 s σ H Q I hw=>wpAny_Compare1 (h Z2 s σ H Q I hw) h1
theorem Ta{op:CmpOp}{t:TE}(h:PC X op a b t)(h1:behindInMarks op b=false:=by first | exact Z5c _ (by decide) (by decide) | rfl):PT X (.Compare a [op] [b] pos) (tB t):=by
 intro Z2 s σ H Q I hw
 refine wpAny_isTrue_Compare1 (Xs (h Z2 s σ H _ I hw) fun v s1 h1=>Xs h1 fun u s2 h2=>Xs h2 fun c s3 ⟨x,H1,I1,r1,q1⟩=>?_) h1
 obtain⟨d,rfl,q⟩:=q1
 cases r1
 exact wpAny_truthy_bool ⟨H1,I1,q⟩
theorem Yh{e:Expr}{t:TE}(h:PE X e t)(he:∀whole,isTrue e X.env whole=(do let v ← whole;standAt e.pos;holding [v] (truthy v)):=by intro _;rfl):PT X e (tB t):=by
 intro Z2 s σ H Q I hw
 refine isTrue_plain (Xs (h Z2 s σ H _ I hw) fun v s1 ⟨x,H1,I1,r1,q1⟩=>?_) (he _)
 obtain⟨d,rfl,q⟩:=q1
 cases r1
 exact wpAny_truthy_bool ⟨H1,I1,q⟩
variable{tA tB':TT}{rest:List Expr}
def Zjc(t u:TT):TT:=fun σ H Q=>t σ H fun c H1=>if c=true then u σ H1 Q else Q false H1
def Zk1(t u:TT):TT:=fun σ H Q=>t σ H fun c H1=>if c=true then Q true H1 else u σ H1 Q
def Zj8(t:TT):TT:=fun σ H Q=>t σ H fun c H1=>Q (!c) H1
theorem Vy(ha:PT X a tA):PW X (.BoolOp .And [a] pos) tA:=by
 intro wh Z2 s σ H Q I h
 refine isTrue_and (Xs (ha Z2 s σ H Q I h) fun c s1 e=>?_)
 cases c with
 |true=>exact isTrue_and_nil e
 |false=>exact e
theorem Z1x(ha:PT X a tA):PW X (.BoolOp .Or [a] pos) tA:=by
 intro wh Z2 s σ H Q I h
 refine isTrue_or (Xs (ha Z2 s σ H Q I h) fun c s1 e=>?_)
 cases c with
 |false=>exact isTrue_or_nil e
 |true=>exact e
theorem T9(ha:PT X a tA)(hb:PW X (.BoolOp .And (b::rest) pos) tB'):PW X (.BoolOp .And (a::b::rest) pos) (Zjc tA tB'):=by
 intro wh Z2 s σ H Q I h
 refine isTrue_and (Xs (ha Z2 s σ H _ I h) fun c s1 ⟨H1,I1,q1⟩=>?_)
 cases c with
 |true=>exact hb wh Z2 s1 σ H1 Q I1 q1
 |false=>exact⟨H1,I1,q1⟩
theorem Z5s(ha:PT X a tA)(hb:PW X (.BoolOp .Or (b::rest) pos) tB'):PW X (.BoolOp .Or (a::b::rest) pos) (Zk1 tA tB'):=by
 intro wh Z2 s σ H Q I h
 refine isTrue_or (Xs (ha Z2 s σ H _ I h) fun c s1 ⟨H1,I1,q1⟩=>?_)
 cases c with
 |true=>exact⟨H1,I1,q1⟩
 |false=>exact hb wh Z2 s1 σ H1 Q I1 q1
theorem Z7a(ha:PT X a tA):PT X (.UnaryOp .Not a pos) (Zj8 tA):=by
 intro Z2 s σ H Q I h
 exact isTrue_not (ha Z2 s σ H (fun c H1=>Q (!c) H1) I h)
def Zho(ta tb:TE):TE:=fun σ H Q=>ta σ H fun x H1=>∃c,x=.bl c/\if c=true then tb σ H1 Q else Q (.bl false) H1
def Zi4(ta tb:TE):TE:=fun σ H Q=>ta σ H fun x H1=>∃c,x=.bl c/\if c=true then Q (.bl true) H1 else tb σ H1 Q
def Zhj(ta:TE):TE:=fun σ H Q=>ta σ H fun x H1=>∃c,x=.bl c/\Q (.bl (!c)) H1
theorem U5{op}{t:TE}(h:PE X a t):PE X (.BoolOp op [a] pos) t:=fun Z2 s σ H Q I hw=>BoolOp_one (h Z2 s σ H Q I hw)
theorem Wu(ha:PE X a ta)(hb:PE X (.BoolOp .And (b::rest) pos) tb):PE X (.BoolOp .And (a::b::rest) pos) (Zho ta tb):=by
 intro Z2 s σ H Q I h
 refine BoolOp_and (Xs (ha Z2 s σ H _ I h) fun v s1 ⟨x,H1,I1,r1,q1⟩=>?_)
 obtain⟨c,rfl,q1⟩:=q1
 cases r1
 refine wpAny_truthy_bool ?_
 cases c with
 |true=>exact hb Z2 s1 σ H1 Q I1 q1
 |false=>exact⟨.bl false,H1,I1,rfl,q1⟩
theorem Zhu(ha:PE X a ta)(hb:PE X (.BoolOp .Or (b::rest) pos) tb):PE X (.BoolOp .Or (a::b::rest) pos) (Zi4 ta tb):=by
 intro Z2 s σ H Q I h
 refine BoolOp_or (Xs (ha Z2 s σ H _ I h) fun v s1 ⟨x,H1,I1,r1,q1⟩=>?_)
 obtain⟨c,rfl,q1⟩:=q1
 cases r1
 refine wpAny_truthy_bool ?_
 cases c with
 |false=>exact hb Z2 s1 σ H1 Q I1 q1
 |true=>exact⟨.bl true,H1,I1,rfl,q1⟩
theorem Z1z(ha:PE X a ta):PE X (.UnaryOp .Not a pos) (Zhj ta):=by
 intro Z2 s σ H Q I h
 refine UnaryOp_ (Xs (ha Z2 s σ H _ I h) fun v s1 ⟨x,H1,I1,r1,q1⟩=>?_)
 obtain⟨c,rfl,q1⟩:=q1
 cases r1
 exact not_of (wpAny_truthy_bool ⟨.bl (!c),H1,I1,rfl,q1⟩)
def Zk9(t:TT)(ta tb:TE):TE:=fun σ H Q=>t σ H fun c H1=>if c=true then ta σ H1 Q else tb σ H1 Q
theorem Xi{c:Expr}(hc:PT X c tA)(ha:PE X a ta)(hb:PE X b tb):PE X (.IfExp c a b pos) (Zk9 tA ta tb):=by
 intro Z2 s σ H Q I h
 refine wpAny_IfExp (Xs (hc Z2 s σ H _ I h) fun d s1 ⟨H1,I1,q1⟩=>?_)
 cases d with
 |true=>exact ha Z2 s1 σ H1 Q I1 q1
 |false=>exact hb Z2 s1 σ H1 Q I1 q1
end
def SqL(K:W.Frag)(H:Hp)(a:Addr)(xs:List V):Prop :=
 Rd H a (.lst xs) ∨
  ∃(o:Obj) (its:Array Value) (n:Nat),K.lookup a=some o/\o.cls=.type "list"/\o.dict=none/\o.data=.seq its n/\its.size<=sizeLine/\Vals xs its.toList
def SqT(K:W.Frag)(H:Hp)(a:Addr)(xs:List V):Prop :=
 Rd H a (.tup xs) ∨
  ∃(o:Obj) (its:Array Value) (n:Nat),K.lookup a=some o/\o.cls=.type "tuple"/\o.data=.seq its n/\its.size<=sizeLine/\Vals xs its.toList
def Zjw:Value->Option V
 |.none=>some .non
 |.bool b=>some (.bl b)
 |.int i _=>some (.int i)
 |.str x _=>some (.str x)
 |.bytes b _=>some (.byt b)
 |.float b _=>some (.flt b)
 |.ref a=>some (.ref a)
 |.type n=>some (.ty n)
 |_=>none
theorem RelV.abs{x:V}{u:Value}(r:RelV x u):Zjw u=some x:=by
 cases x with
 |non=>cases r;rfl
 |bl _=>cases r;rfl
 |int _=>obtain⟨t,rfl⟩:=r;rfl
 |str _=>obtain⟨t,rfl⟩:=r;rfl
 |byt _=>obtain⟨t,rfl⟩:=r;rfl
 |flt _=>obtain⟨t,rfl⟩:=r;rfl
 |ref _=>cases r;rfl
 |ty _=>cases r;rfl
theorem RelV.inj{x y:V}{u:Value}(r:RelV x u)(q:RelV y u):x=y:=Option.some.inj (r.abs.symm.trans q.abs)
theorem Vals.inj:∀ {xs ys:List V} {us:List Value},Vals xs us->Vals ys us->xs=ys
 |_,_,_,.nil,.nil=>rfl
 |_,_,_,.cons r t,.cons r' t'=>by rw[r.inj r',Vals.inj t t']
section
variable{X:Cx}{Z2:List (Addr×Obj)}{σ:St}{H:Hp}{s:Shared}{a:Addr}{xs ys:List V}
theorem SqL.of{K:W.Frag}(h:H a=some (.lst xs)):SqL K H a xs:=.inl (.inl h)
theorem SqT.of{K:W.Frag}(h:H a=some (.tup xs)):SqT K H a xs:=.inl (.inl h)
theorem Inv.list(I:Inv X Z2 σ H s)(h:SqL X.K H a xs):∃its:List Value,Vals xs its/\PlainL s.heap a its.toArray/\xs.length<=sizeLine:=by
 rcases h with h | ⟨o,its,n,hk,hc,hd,hs,hz,r⟩
 ·obtain⟨z,its,n,r,e⟩:=h.ok I.hok
  exact⟨its,r,⟨_,n,e,rfl,rfl,rfl⟩,z⟩
 ·refine⟨its.toList,r,⟨o,n,I.kIn a o hk,hc,hd,by simpa using hs⟩,?_⟩
  have e:=r.length
  simp only[Array.length_toList]at e
  omega
theorem Inv.tuple(I:Inv X Z2 σ H s)(h:SqT X.K H a xs):∃its:List Value,Vals xs its/\IsTup s.heap a its.toArray/\xs.length<=sizeLine:=by
 rcases h with h | ⟨o,its,n,hk,hc,hs,hz,r⟩
 ·obtain⟨z,its,r,p⟩:=h.ok I.hok
  exact⟨its,r,p,z⟩
 ·refine⟨its.toList,r,⟨o,I.kIn a o hk,hc,n,by simpa using hs⟩,?_⟩
  have e:=r.length
  simp only[Array.length_toList]at e
  omega
theorem Inv.list_inj(I:Inv X Z2 σ H s)(h:SqL X.K H a xs)(h':SqL X.K H a ys):xs=ys:=by
 obtain⟨its,r,⟨o,n,e,_,_,d⟩,_⟩:=I.list h
 obtain⟨its',r',⟨o',n',e',_,_,d'⟩,_⟩:=I.list h'
 rw[e]at e';cases e'
 rw[d]at d'
 injection d' with d1 _
 have:its=its':=by simpa using congrArg Array.toList d1
 subst this
 exact r.inj r'
theorem Inv.tuple_inj(I:Inv X Z2 σ H s)(h:SqT X.K H a xs)(h':SqT X.K H a ys):xs=ys:=by
 obtain⟨its,r,⟨o,e,_,n,d⟩,_⟩:=I.tuple h
 obtain⟨its',r',⟨o',e',_,n',d'⟩,_⟩:=I.tuple h'
 rw[e]at e';cases e'
 rw[d]at d'
 injection d' with d1 _
 have:its=its':=by simpa using congrArg Array.toList d1
 subst this
 exact r.inj r'
end
abbrev Cx.wish(X:Cx)(E:Value->Shared->Prop):Cx:={ X with xe:=E }
abbrev Cx.nox(X:Cx):Cx:=X.wish fun _ _=>False
theorem Cx.Ok.wish{X:Cx}(ok:X.Ok)(E:Value->Shared->Prop):(X.wish E).Ok :=
 ⟨ok.mod,ok.kind,ok.glob,ok.blt,ok.above,ok.inj,ok.has,ok.cab,ok.hd,ok.frames,ok.stk,ok.exf,ok.bs,ok.bsz,ok.noex,ok.exfs,ok.funs,ok.frf⟩
theorem Cx.Ok.unwish{X:Cx}{E:Value->Shared->Prop}(ok:(X.wish E).Ok):X.Ok :=
 ⟨ok.mod,ok.kind,ok.glob,ok.blt,ok.above,ok.inj,ok.has,ok.cab,ok.hd,ok.frames,ok.stk,ok.exf,ok.bs,ok.bsz,ok.noex,ok.exfs,ok.funs,ok.frf⟩
section
variable{X:Cx}{Z2:List (Addr×Obj)}{σ:St}{H:Hp}{s:Shared}{E:Value->Shared->Prop}{st:Stmt}{rest:List Stmt}{t u:TS}{e:Expr}{te:TE}{pos:Pos}
theorem Inv.wish(I:Inv X Z2 σ H s)(E:Value->Shared->Prop):Inv (X.wish E) Z2 σ H s:=⟨I.ok.wish E,I.os,I.bare,I.base,I.loc,I.cell,I.free,I.freeC,I.pin,I.hok,I.len⟩
theorem Inv.unwish(I:Inv (X.wish E) Z2 σ H s):Inv X Z2 σ H s:=⟨I.ok.unwish,I.os,I.bare,I.base,I.loc,I.cell,I.free,I.freeC,I.pin,I.hok,I.len⟩
theorem SP.unwish{D:Ends}{f:Flow}{s':Shared}(h:SP (X.wish E) Z2 D f s'):SP X Z2 D f s':=by
 cases f with
 |next=>obtain⟨σ',H',I,q⟩:=h;exact⟨σ',H',I.unwish,q⟩
 |brk=>obtain⟨σ',H',I,q⟩:=h;exact⟨σ',H',I.unwish,q⟩
 |cont=>obtain⟨σ',H',I,q⟩:=h;exact⟨σ',H',I.unwish,q⟩
 |ret u=>obtain⟨v,σ',H',I,r,q⟩:=h;exact⟨v,σ',H',I.unwish,r,q⟩
theorem PSs.nox{st:List Stmt}{t:TS}(h:PSs X.nox st t):PSs X st t:=fun Z2 s σ H D I hw =>
 wpAny_mono (h Z2 s σ H D (I.wish _) hw) (fun _ _ q=>q.unwish) fun _ _ z=>False.elim z
def Zm:TS:=fun D σ H=>D.nx σ H
def Z8(t u:TS):TS:=fun D σ H=>t { D with nx:=u D } σ H
theorem Zi:PSs X [] Zm:=fun _ _ σ H _ I h=>wpAny_execs_nil ⟨σ,H,I,h⟩
theorem Z1(h1:PS X st t)(h2:PSs X rest u):PSs X (st::rest) (Z8 t u):=by
 intro Z2 s σ H D I h
 refine wpAny_execs_cons (Xs (h1 Z2 s σ H { D with nx:=u D } I h) fun f s1 q=>?_)
 cases f with
 |next =>
  obtain⟨σ',H',I',q⟩:=q
  exact h2 Z2 s1 σ' H' D I' q
 |ret v=>exact q
 |brk=>exact q
 |cont=>exact q
theorem Z4(h1:PS X st t):PSs X [st] t:=by
 intro Z2 s σ H D I h
 refine wpAny_execs_cons (Xs (h1 Z2 s σ H D I h) fun f s1 q=>?_)
 cases f with
 |next=>exact wpAny_execs_nil q
 |ret v=>exact q
 |brk=>exact q
 |cont=>exact q
theorem Inv.quiet{Z2:List (Addr×Obj)}{σ:St}{H:Hp}{s:Shared}(I:Inv X Z2 σ H s):interactive X.env=false:=by simp[interactive,I.ok.kind]
def Zhm(te:TE):TS:=fun D σ H=>te σ H fun _ H1=>D.nx σ H1
theorem Zf(he:PE X e te)(hs:swapsWith e none pos.line X.env=pure false:=by rfl):PS X (.Expr e pos) (Zhm te):=by
 intro Z2 s σ H D I h
 exact wpAny_Expr_any (Xs (he Z2 s σ H _ I h) fun v s1 ⟨x,H1,I1,r1,q1⟩=>⟨σ,H1,I1,q1⟩) I.quiet hs
def Z45(te:TE):TS:=fun D σ H=>te σ H D.rt
theorem Zk(he:PE X e te):PS X (.Return (some e) pos) (Z45 te):=by
 intro Z2 s σ H D I h
 exact wpAny_Return_some (Xs (he Z2 s σ H _ I h) fun v s1 ⟨x,H1,I1,r1,q1⟩=>⟨x,σ,H1,I1,r1,q1⟩)
def Zhi:TS:=fun D _ H=>D.rt .non H
theorem Z7q:PS X (.Return none pos) Zhi:=fun _ _ σ H _ I h=>wpAny_Return_none ⟨.non,σ,H,I,rfl,h⟩
def Zt(c:TT)(t u:TS):TS:=fun D σ H=>c σ H fun b H1=>if b=true then t D σ H1 else u D σ H1
theorem Zu{c:Expr}{a b:List Stmt}{tc:TT}(hc:PT X c tc)(ha:PSs X a t)(hb:PSs X b u):PS X (.If c a b pos) (Zt tc t u):=by
 intro Z2 s σ H D I h
 refine wpAny_If (Xs (hc Z2 s σ H _ I h) fun d s1 ⟨H1,I1,q1⟩=>?_)
 cases d with
 |true=>exact ha Z2 s1 σ H1 D I1 q1
 |false=>exact hb Z2 s1 σ H1 D I1 q1
end
abbrev TG:=V->St->Hp->(St->Hp->Prop)->Prop
abbrev Zhe:=List V->St->Hp->(St->Hp->Prop)->Prop
def PG(X:Cx)(target:Expr)(t:TG):Prop :=
 ∀(Z2:List (Addr×Obj)) (s:Shared) (σ:St) (H:Hp) (v:V) (u:Value) (Q:St->Hp->Prop),Inv X Z2 σ H s->RelV v u->t v σ H Q ->
  wpAny (model X.prog X.w) X.A (assign target X.env u) (fun _ s'=>∃σ' H',Inv X Z2 σ' H' s'/\Q σ' H') X.xe s
def Zj4(X:Cx)(ts:List Expr)(t:Zhe):Prop :=
 ∀(Z2:List (Addr×Obj)) (s:Shared) (σ:St) (H:Hp) (vs:List V) (us:List Value) (Q:St->Hp->Prop),Inv X Z2 σ H s->Vals vs us->t vs σ H Q ->
  wpAny (model X.prog X.w) X.A (assignInOrder ((assignEach ts X.env).map (·.2)) us) (fun _ s'=>∃σ' H',Inv X Z2 σ' H' s'/\Q σ' H') X.xe s
abbrev Zh4:=V->V->V->Hp->(Hp->Prop)->Prop
def Zif(X:Cx)(t:Zh4):Prop :=
 ∀(Z2:List (Addr×Obj)) (s:Shared) (σ:St) (H:Hp) (o i v:V) (ov iv u:Value) (Q:Hp->Prop),Inv X Z2 σ H s->RelV o ov->RelV i iv->RelV v u->t o i v H Q ->
  wpAny (model X.prog X.w) X.A (setItem ov iv u) (fun _ s'=>∃H',Inv X Z2 σ H' s'/\Q H') X.xe s
abbrev Zj2:=V->V->Hp->VK->Prop
def Zkh(X:Cx)(op:Operator)(t:Zj2):Prop :=
 ∀(Z2:List (Addr×Obj)) (s:Shared) (σ:St) (H:Hp) (x y:V) (v u:Value) (Q:VK),Inv X Z2 σ H s->RelV x v->RelV y u->t x y H Q ->
  wpAny (model X.prog X.w) X.A (inplaceOp op v u) (EP X Z2 σ Q) X.xe s
section
variable{X:Cx}{pos:Pos}
def Z3g(i:Nat):TG:=fun v σ H Q=>Q (σ.set i (some v)) H
theorem Z7t{i:Nat}{x:Str}(hN:X.N.Nodup)(hi:X.N[i]? = some x)(hx:Zha X.env.scope x)(hf:X.fn x=true∨X.env.scope.names.lookup x=some .local:=by first | exact .inl rfl | exact .inr rfl | assumption):PG X (.Name x pos) (Z3g i):=by
 intro Z2 s σ H v u Q I r h
 exact wpAny_assign_Name (Ua I hN hi hx r (fun s' I'=>⟨_,H,I',h⟩) hf)
def Zjp:Zhe:=fun vs σ H Q=>vs=[]/\Q σ H
def Zi1(t:TG)(u:Zhe):Zhe:=fun vs σ H Q=>∃v r,vs=v::r/\t v σ H fun σ' H'=>u r σ' H' Q
theorem Z7s:Zj4 X [] Zjp:=by
 intro Z2 s σ H vs us Q I r h
 obtain⟨e,h⟩:=h
 subst e
 cases r
 exact assignInOrder_nil ⟨σ,H,I,h⟩
theorem Ty{e:Expr}{es:List Expr}{t:TG}{u:Zhe}(h1:PG X e t)(h2:Zj4 X es u)
  (hs:(assignEach (e::es) X.env).map (·.2)=assign e X.env::(assignEach es X.env).map (·.2):=by rfl):Zj4 X (e::es) (Zi1 t u):=by
 intro Z2 s σ H vs us Q I r h
 obtain⟨v,vr,e1,h⟩:=h
 subst e1
 cases r with
 |cons r rr =>
  rw[hs]
  refine assignInOrder_cons (Xs (h1 Z2 s σ H _ _ _ I r h) fun _ s1 ⟨σ1,H1,I1,q1⟩=>?_)
  exact h2 Z2 s1 σ1 H1 _ _ Q I1 rr q1
def Zjn(K:W.Frag)(n:Nat)(t:Zhe):TG:=fun v σ H Q=>∃a xs,v=.ref a/\SqT K H a xs/\xs.length=n/\t xs σ H Q
theorem Zbo{es:List Expr}{k:Nat}{t:Zhe}{n:Nat}(hc:X.calm=true)(h:Zj4 X es t)
  (hn:(assignEach es X.env).length=n:=by rfl) (hst:(assignEach es X.env).findIdx? (·.1)=none:=by rfl):PG X (.Tuple es k pos) (Zjn X.K n t):=by
 intro Z2 s σ H v u Q I r hw
 obtain⟨a,xs,e1,hq,hl,hw⟩:=hw
 subst e1
 cases r
 obtain⟨its,rv,ht,hz⟩:=I.tuple hq
 refine assign_Tuple_tuple (I.ok.hd hc) ht (by simp[hn,← hl,rv.length]) hst fun h' hx=>?_
 have I1:Inv X Z2 σ H { s with heap:=h' }:=I.kept (t':=s.toks) fun b o e=>hx b o (Nat.ne_of_lt (Heap.lt_size e)) e
 exact h Z2 _ σ H xs _ Q I1 (by simpa using rv) hw
def Zjo(to ti:TE)(t:Zh4):TG:=fun v σ H Q=>to σ H fun o H1=>ti σ H1 fun i H2=>t o i v H2 fun H3=>Q σ H3
theorem Tc{o i:Expr}{to ti:TE}{t:Zh4}(ho:PE X o to)(hi:PE X i ti)(hs:Zif X t)
  (ha:∀v,assign (.Subscript o i pos) X.env v=(do
   let ov ← holding [v] (eval o X.env)
   let iv ← holding [v,ov] (eval i X.env)
   standAt pos
   holding [v,ov,iv] (setItem ov iv v)
   release [v,ov,iv] []):=by intro _;rfl):PG X (.Subscript o i pos) (Zjo to ti t):=by
 intro Z2 s σ H v u Q I r h
 rw[ha]
 refine wpAny_bind (wpAny_holding (Xs (ho Z2 s σ H _ I h) fun ov s1 ⟨x,H1,I1,r1,q1⟩=>?_))
 refine wpAny_bind (wpAny_holding (Xs (hi Z2 s1 σ H1 _ I1 q1) fun iv s2 ⟨y,H2,I2,r2,q2⟩=>?_))
 refine wpAny_bind (wpAny_standAt (wpAny_bind (wpAny_holding (Xs (hs Z2 s2 σ H2 x y v ov iv u _ I2 r1 r2 r q2) fun _ s3 ⟨H3,I3,q3⟩=>?_))))
 exact wpAny_release ⟨σ,H3,I3,q3⟩
def Zcg(te:TE)(g:TG):TS:=fun D σ H=>te σ H fun x H1=>g x σ H1 D.nx
theorem Tb{tg e:Expr}{te:TE}{g:TG}(he:PE X e te)(hg:PG X tg g)(hs:swapsWithSole [tg] e pos.line X.env=pure false:=by rfl)(hw:swappedStores [tg] e X.env=pure none:=by rfl)
  (h1:(assignEach [tg] X.env).map (·.2)=[assign tg X.env]:=by rfl):PS X (.Assign [tg] e pos) (Zcg te g):=by
 intro Z2 s σ H D I h
 refine wpAny_Assign_stores (Xs (he Z2 s σ H _ I h) fun v s1 ⟨x,H1,I1,r1,q1⟩=>?_) hs hw
 rw[h1]
 exact Xs (hg Z2 s1 σ H1 x v _ I1 r1 q1) fun _ s2 q=>q
theorem Zfx{i:Nat}{x:Str}{e:Expr}{te:TE}{pos':Pos}(hN:X.N.Nodup)(hi:X.N[i]? = some x)(hx:Zha X.env.scope x)(he:PE X e te)(hs:swapsWith e (some (.Name x pos')) pos.line X.env=pure false:=by rfl)(hf:X.fn x=true∨X.env.scope.names.lookup x=some .local:=by first | exact .inl rfl | exact .inr rfl | assumption) :
  PS X (.Assign [.Name x pos'] e pos) (Zcg te (Z3g i)):=by
 intro Z2 s σ H D I h
 refine wpAny_Assign_Name (Xs (he Z2 s σ H _ I h) fun v s1 ⟨y,H1,I1,r1,q1⟩=>?_) hs
 exact Ua I1 hN hi hx r1 (fun s2 I2=>⟨_,H1,I2,q1⟩) hf
def Zjb(i:Nat)(te:TE)(ti:Zj2):TS:=fun D σ H=>∃x,σ[i]? = some (some x)/\te σ H fun y H1=>ti x y H1 fun z H2=>D.nx (σ.set i (some z)) H2
theorem Zbn{i:Nat}{x:Str}{e:Expr}{te:TE}{op:Operator}{ti:Zj2}{pos':Pos}(hN:X.N.Nodup)(hi:X.N[i]? = some x)(hx:Zha X.env.scope x)(he:PE X e te)(ho:Zkh X op ti)(hf:X.fn x=true∨X.env.scope.names.lookup x=some .local:=by first | exact .inl rfl | exact .inr rfl | assumption) :
  PS X (.AugAssign (.Name x pos') op e pos) (Zjb i te ti):=by
 intro Z2 s σ H D I h
 obtain⟨v,e1,h⟩:=h
 obtain⟨m,hn,hl⟩:=I.loc
 have vis:Zj1 X.env.scope x:=by rcases hx with k | k;exact .inl k;exact .inr (.inl k)
 obtain⟨u,r,l⟩:=hl i x v hi e1 vis
 refine wpAny_AugAssign_Name ?_
 have go:wpAny (model X.prog X.w) X.A (eval e X.env) (fun w s₂=>wpAny (model X.prog X.w) X.A (inplaceOp op u w) (fun r s₃=>wpAny (model X.prog X.w) X.A (storeName X.env x r) (fun _=>SP X Z2 D .next) X.xe s₃) X.xe s₂) X.xe s:=by
  refine Xs (he Z2 s σ H _ I h) fun w s1 ⟨y,H1,I1,r1,q1⟩=>?_
  refine Xs (ho Z2 s1 σ H1 v y u w _ I1 r r1 q1) fun z s2 ⟨zv,H2,I2,r2,q2⟩=>?_
  exact Ua I2 hN hi hx r2 (fun s3 I3=>⟨_,H2,I3,q2⟩) hf
 rcases l with⟨hk,hm⟩ | ⟨hk,c,hc,hcell⟩
 ·exact wpAny_loadName_local I.ok.kind hk hn hm go
 ·rcases hk with hk | hk
  ·exact wpAny_loadName_cell I.ok.kind hk hc hcell go
  ·rcases hx with k | k
   ·have:X.env.scope.names.lookup x=some .free:=hk
    rw[k]at this;cases this
   ·have:X.env.scope.names.lookup x=some .free:=hk
    rw[k]at this;cases this
def Zkr(f:Int->Int->Int):Zj2:=fun x y H Q=>∃i j,x=.int i/\y=.int j/\Q (.int (f i j)) H
theorem Zbv:Zkh X .Add (Zkr fun i j=>i+j):=by
 intro Z2 s σ H x y v u Q I r1 r2 h
 obtain⟨i,j,e1,e2,q⟩:=h
 subst e1;subst e2
 obtain⟨t,rfl⟩:=r1
 obtain⟨t',rfl⟩:=r2
 exact iadd_int ⟨.int _,H,I.tok _,⟨_,rfl⟩,q⟩
def Vj(c:TT)(tb:TS):TS:=fun D σ H=>∃W:Nat->St->Hp->Prop,(∃m,W m σ H)/\∀m σ H,W m σ H ->
 c σ H fun b H1=>if b=true then ∃N:St->Hp->Prop,(∀σ' H',N σ' H'->∃m',m'<m/\W m' σ' H')/\tb { D with nx:=N,ct:=N,bk:=D.nx } σ H1 else D.nx σ H1
theorem Tw{c:Expr}{body:List Stmt}{tc:TT}{tb:TS}(hp:PassesOwn (model X.prog X.w) X.A X.env X.xe)(hc:PT X c tc)(hb:PSs X body tb):PS X (.While c body [] pos) (Vj tc tb):=by
 intro Z2 s σ H D I h
 obtain⟨W,⟨m0,w0⟩,turn⟩:=h
 refine wpAny_While (codeAny_whileLoop (fun n s'=>∃σ' H',Inv X Z2 σ' H' s'/\W n σ' H') ?_ m0 ⟨σ,H,I,w0⟩)
 rintro n s1 ⟨σ1,H1,I1,w1⟩
 refine wpAny_passesOwn hp (Xs (hc Z2 s1 σ1 H1 _ I1 (turn n σ1 H1 w1)) fun b s2 ⟨H2,I2,q2⟩=>?_)
 cases b with
 |true =>
  obtain⟨N,hN,q2⟩:=q2
  rw[if_pos rfl]
  refine wpAny_passesOwn hp (Xs (hb Z2 s2 σ1 H2 _ I2 q2) fun f s3 q3=>?_)
  cases f with
  |next =>
   obtain⟨σ3,H3,I3,n3⟩:=q3
   obtain⟨m',hm,w3⟩:=hN σ3 H3 n3
   exact⟨m',hm,σ3,H3,I3,w3⟩
  |cont =>
   obtain⟨σ3,H3,I3,n3⟩:=q3
   obtain⟨m',hm,w3⟩:=hN σ3 H3 n3
   exact⟨m',hm,σ3,H3,I3,w3⟩
  |brk=>exact q3
  |ret v=>exact q3
 |false =>
  rw[if_neg Bool.false_ne_true]
  exact wpAny_execs_nil ⟨σ1,H2,I2,q2⟩
end
structure It where
 go:Nat->Hp->Prop
 yld:Nat->Hp->V->Hp->Prop
 stop:Nat->Hp->Prop
def Z0q(X:Cx)(Z2:List (Addr×Obj))(H:Hp)(b:Addr):Prop :=
 H b=none/\b≠X.env.locals/\b∉X.fs/\(b∈X.ex∨X.s₀.heap.objs.size<=b)/\(∀x c,X.env.cells.lookup x=some c->c≠b)/\∀p∈X.pn++Z2,p.1≠b
theorem Inv.fpOk{X:Cx}{Z2:List (Addr×Obj)}{σ:St}{H H':Hp}{s:Shared}{b:Addr}(I:Inv X Z2 σ H s)(hb:s.heap.objs.size<=b)(hn:H' b=none):Z0q X Z2 H' b:=by
 refine⟨hn,Nat.ne_of_gt (Nat.lt_of_lt_of_le I.lt hb),I.nofs hb,.inr (Nat.le_trans I.sz hb),fun x c e z=>?_,fun p hp z=>?_⟩
 ·obtain⟨v,q⟩:=I.cell x c e
  exact absurd (Nat.lt_of_lt_of_le q.lt (by rw[z];exact hb)) (Nat.lt_irrefl _)
 ·exact absurd (Nat.lt_of_lt_of_le (Heap.lt_size (I.pin p hp).1) (by rw[z];exact hb)) (Nat.lt_irrefl _)
structure Turn(P:Program)(w:World)(K:W.Frag)(tg:Expr)(J:It)(fp:List Addr)(it:Addr)(tn:Nat->Heap->Prop):Prop where
 mem:it∈fp
 obj:∀i h,tn i h->∀b∈fp,∃o,h.get? b=some o/\∀v,o.data≠.cell v
 keep:∀i h h',tn i h->(∀b∈fp,∀o,h.get? b=some o->h'.get? b=some o)->tn i h'
 item:∀(X:Cx),X.prog=P->X.w=w->X.K=K->X.calm=true->∀(i:Nat) (Z2:List (Addr×Obj)) (s:Shared) (σ:St) (H:Hp) (E:Value->Shared->Prop),Inv X Z2 σ H s->(∀b∈fp,Z0q X Z2 H b)->tn i s.heap->J.go i H ->
  wpAny (model P w) X.A (pyNext (.ref it)) (fun r s1=>∃u,r=some u /\
   wpAny (model P w) X.A (letOwnedTupleGo tg (.ref it) u) (fun _ s2=>∃x H',Inv X Z2 σ H' s2/\RelV x u/\J.yld i H x H'/\tn (i+1) s2.heap/\∀b∈fp,H' b=none) E s1) E s
 done:∀(X:Cx),X.prog=P->X.w=w->X.K=K->X.calm=true->∀(i:Nat) (Z2:List (Addr×Obj)) (s:Shared) (σ:St) (H:Hp) (E:Value->Shared->Prop),Inv X Z2 σ H s->(∀b∈fp,Z0q X Z2 H b)->tn i s.heap->J.stop i H ->
  wpAny (model P w) X.A (pyNext (.ref it)) (fun r s1=>r=none/\Inv X Z2 σ H s1) E s
 self:∀(A:Around) (i:Nat) (s:Shared) (Q:Value->Shared->Prop) (E:Value->Shared->Prop),tn i s.heap->Q (.ref it) s->wpAny (model P w) A (pyIter (.ref it)) Q E s
abbrev TI:=St->Hp->(It->Hp->Prop)->Prop
def Zki(X:Cx)(Z2:List (Addr×Obj))(σ:St)(tg:Expr)(R:It->Hp->Prop)(itv:Value)(s2:Shared):Prop :=
 ∃(it:Addr) (fp:List Addr) (tn:Nat->Heap->Prop) (J:It) (H':Hp),itv=.ref it/\Inv X Z2 σ H' s2/\Turn X.prog X.w X.K tg J fp it tn/\tn 0 s2.heap/\(∀b∈fp,Z0q X Z2 H' b)/\R J H'
def PI(X:Cx)(tg iter:Expr)(wi:TI):Prop :=
 ∀(Z2:List (Addr×Obj)) (s:Shared) (σ:St) (H:Hp) (R:It->Hp->Prop),Inv X Z2 σ H s->wi σ H R ->
  wpAny (model X.prog X.w) X.A (eval iter X.env) (fun v s1=>wpAny (model X.prog X.w) X.A (pyIter v) (Zki X Z2 σ tg R) X.xe s1) X.xe s
theorem Zcc {M : Model} {A : Around} {E : Value → Shared → Prop} {s : Shared} {tg : Expr} {it : Addr} {u : Value} {o : Obj} {n : String} {vs : Array Value} {Q : Unit → Shared → Prop} (ho : s.heap.get? it = some o) (hc : o.cls = .type n) (hd : o.data = .fields vs)
    (hn : ["enumerate", "zip", "dict_itemiterator", "dict_reverseitemiterator", "odict_iterator", "itertools.zip_longest", "itertools.pairwise"].contains n = false) (hQ : Q () s) : wpAny M A (letOwnedTupleGo tg (.ref it) u) Q E s := by
  unfold letOwnedTupleGo
  cases tg <;> first
    | exact wpAny_pure hQ
    | (cases u <;> first
        | exact wpAny_pure hQ
        | (refine wpAny_bind (wpAny_load ho ?_)
           rw [hc, hd]
           show wpAny M A (if (["enumerate", "zip", "dict_itemiterator", "dict_reverseitemiterator", "odict_iterator", "itertools.zip_longest", "itertools.pairwise"].contains n && vs[0]? == some (rawInt _)) = true then _ else _) Q E s
           rw [if_neg (by intro h; rw [hn, Bool.false_and] at h; cases h)]
           exact wpAny_pure hQ))
def Zim(K:W.Frag)(a:Addr):It :=
 ⟨fun i H=>∃xs x,SqL K H a xs/\xs[i]? = some x,fun i H x H'=>H'=H/\∀xs,SqL K H a xs->xs[i]? = some x,fun i H=>∃xs,SqL K H a xs/\xs.length<=i⟩
def Zil(K:W.Frag)(a:Addr):It :=
 ⟨fun i H=>∃xs x,SqT K H a xs/\xs[i]? = some x,fun i H x H'=>H'=H/\∀xs,SqT K H a xs->xs[i]? = some x,fun i H=>∃xs,SqT K H a xs/\xs.length<=i⟩
def Zhb(lo:Int)(n:Nat):It:=⟨fun i _=>i<n,fun i H x H'=>H'=H/\x=.int (lo+i),fun i _=>n<=i⟩
theorem Z8o{P:Program}{w:World}{K:W.Frag}{tg:Expr}(a it:Addr):Turn P w K tg (Zim K a) [it] it (fun i h=>h.IsListIter it a i) where
 mem:=by simp
 obj:=fun i h st b hb=>by
  have e:b=it:=by simpa using hb
  subst e
  obtain⟨o,e,c,d⟩:=st
  exact⟨o,e,fun v z=>by rw[d]at z;cases z⟩
 keep:=fun i h h' st k=>st.at fun o e=>k it (by simp) o e
 item:=by
  intro X hP hw hK hc i Z2 s σ H E I hf st hg
  subst hP hw hK
  obtain⟨xs,x,hq,hx⟩:=hg
  obtain⟨its,rv,p,hz⟩:=I.list hq
  obtain⟨u,hu,ru⟩:=rv.get hx
  obtain⟨f0,f1,f2,f3,f4,f5⟩:=hf it (by simp)
  refine wpAny_pyNext_list_item st p.isList (x:=u) (by simpa using hu) fun h' st' sb=>?_
  have I1:Inv X Z2 σ H { s with heap:=h' }:=I.turned (t':=s.toks) (fun b o hb e=>(sb.2 b hb).trans e) f0 f1 f3 f4 f5
  obtain⟨o,e,c,d⟩:=id st'
  exact⟨u,rfl,Zcc (s:={ s with heap:=h' }) e c d (by decide) ⟨x,H,I1,ru,⟨rfl,fun ys hy=>by rw[I.list_inj hy hq];exact hx⟩,st',fun b hb=>(hf b hb).1⟩⟩
 done:=by
  intro X hP hw hK hc i Z2 s σ H E I hf st hg
  subst hP hw hK
  obtain⟨xs,hq,hx⟩:=hg
  obtain⟨its,rv,p,hz⟩:=I.list hq
  obtain⟨f0,f1,f2,f3,f4,f5⟩:=hf it (by simp)
  have hl:=rv.length
  exact wpAny_pyNext_list_end (I.ok.hd hc) st p.isList (by simp;omega) fun h' eb=>⟨rfl,I.turned (t':=s.toks) (fun b o hb e=>eb b o hb e) f0 f1 f3 f4 f5⟩
 self:=fun _ _ _ _ _ st h=>wpAny_pyIter_listiter st h
theorem Z61{P:Program}{w:World}{K:W.Frag}{tg:Expr}(a it:Addr):Turn P w K tg (Zil K a) [it] it (fun i h=>h.IsTupleIter it a i) where
 mem:=by simp
 obj:=fun i h st b hb=>by
  have e:b=it:=by simpa using hb
  subst e
  obtain⟨o,e,c,d⟩:=st
  exact⟨o,e,fun v z=>by rw[d]at z;cases z⟩
 keep:=fun i h h' st k=>st.at fun o e=>k it (by simp) o e
 item:=by
  intro X hP hw hK hc i Z2 s σ H E I hf st hg
  subst hP hw hK
  obtain⟨xs,x,hq,hx⟩:=hg
  obtain⟨its,rv,p,hz⟩:=I.tuple hq
  obtain⟨u,hu,ru⟩:=rv.get hx
  obtain⟨f0,f1,f2,f3,f4,f5⟩:=hf it (by simp)
  refine wpAny_pyNext_tuple_item st (show s.heap.IsTuple a its.toArray from p) (x:=u) (by simpa using hu) fun h' st' sb=>?_
  have I1:Inv X Z2 σ H { s with heap:=h' }:=I.turned (t':=s.toks) (fun b o hb e=>(sb.2 b hb).trans e) f0 f1 f3 f4 f5
  obtain⟨o,e,c,d⟩:=id st'
  exact⟨u,rfl,Zcc (s:={ s with heap:=h' }) e c d (by decide) ⟨x,H,I1,ru,⟨rfl,fun ys hy=>by rw[I.tuple_inj hy hq];exact hx⟩,st',fun b hb=>(hf b hb).1⟩⟩
 done:=by
  intro X hP hw hK hc i Z2 s σ H E I hf st hg
  subst hP hw hK
  obtain⟨xs,hq,hx⟩:=hg
  obtain⟨its,rv,p,hz⟩:=I.tuple hq
  obtain⟨f0,f1,f2,f3,f4,f5⟩:=hf it (by simp)
  have hl:=rv.length
  exact wpAny_pyNext_tuple_end (I.ok.hd hc) st (show s.heap.IsTuple a its.toArray from p) (by simp;omega) fun h' eb=>⟨rfl,I.turned (t':=s.toks) (fun b o hb e=>eb b o hb e) f0 f1 f3 f4 f5⟩
 self:=fun _ _ _ _ _ st h=>wpAny_pyIter_tupleiter st h
theorem Z62{P:Program}{w:World}{K:W.Frag}{tg:Expr}(it:Addr)(lo:Int)(n:Nat):Turn P w K tg (Zhb lo n) [it] it (fun i h=>IsRangeIter h it (lo+(i:Nat)*1) ((n:Int)-(i:Nat)) 1) where
 mem:=by simp
 obj:=fun i h st b hb=>by
  have e:b=it:=by simpa using hb
  subst e
  exact⟨_,st,fun v z=>by
   have z':Data.fields _=Data.cell v:=z
   cases z'⟩
 keep:=fun i h h' st k=>k it (by simp) _ st
 item:=by
  intro X hP hw hK hc i Z2 s σ H E I hf st hg
  subst hP hw hK
  obtain⟨f0,f1,f2,f3,f4,f5⟩:=hf it (by simp)
  have W:=Walks.range (prog:=X.prog) (w:=X.w) (I.ok.hd hc) it lo 1 n
  refine W.item i s _ _ hg st fun v h' tk hv st' kk=>?_
  obtain⟨t,rfl⟩:=hv
  have I1:Inv X Z2 σ H { s with heap:=h',toks:=tk }:=I.turned (fun b o hb e=>kk b o (by simpa using hb) e) f0 f1 f3 f4 f5
  refine⟨_,rfl,Zcc (s:={ s with heap:=h',toks:=tk }) (n:="range_iterator") st' rfl rfl (by decide) ⟨.int (lo+i),H,I1,⟨t,?_⟩,⟨rfl,rfl⟩,st',fun b hb=>(hf b hb).1⟩⟩
  rw[Int.mul_one]
 done:=by
  intro X hP hw hK hc i Z2 s σ H E I hf st hg
  subst hP hw hK
  obtain⟨f0,f1,f2,f3,f4,f5⟩:=hf it (by simp)
  exact wpAny_pyNext_range_end (I.ok.hd hc) st (by have:n<=i:=hg;omega) fun h' eb=>⟨rfl,I.turned (t':=s.toks) (fun b o hb e=>eb b o hb e) f0 f1 f3 f4 f5⟩
 self:=fun _ _ _ _ _ st h=>wpAny_pyIter_rangeiter st h
section
variable{X:Cx}{tg:Expr}
def Zi0(K:W.Frag)(tl:TE):TI:=fun σ H R=>tl σ H fun x H1=>∃a,x=.ref a/\(∃xs,SqL K H1 a xs)/\R (Zim K a) H1
def Zjm(K:W.Frag)(tl:TE):TI:=fun σ H R=>tl σ H fun x H1=>∃a,x=.ref a/\(∃xs,SqT K H1 a xs)/\R (Zil K a) H1
theorem Z3p{l:Expr}{tl:TE}(hl:PE X l tl):PI X tg l (Zi0 X.K tl):=by
 intro Z2 s σ H R I h
 refine Xs (hl Z2 s σ H _ I h) fun v s1 ⟨x,H1,I1,r1,q1⟩=>?_
 obtain⟨a,e,⟨xs,hq⟩,q⟩:=q1
 subst e
 cases r1
 obtain⟨its,rv,p,hz⟩:=I1.list hq
 refine wpAny_pyIter_list p.isList ?_
 refine⟨s1.heap.objs.size,[s1.heap.objs.size],_,_,H1,rfl,I1.kept (t':=s1.toks) fun b o e=>Heap.get?_push_of_some _ e,Z8o a _,⟨_,Heap.get?_push_size _ rfl,rfl,rfl⟩,fun b hb=>?_,q⟩
 have e:b=s1.heap.objs.size:=by simpa using hb
 subst e
 exact I1.fpOk (Nat.le_refl _) (I1.hok.fresh (Nat.le_refl _))
theorem Z1y{l:Expr}{tl:TE}(hl:PE X l tl):PI X tg l (Zjm X.K tl):=by
 intro Z2 s σ H R I h
 refine Xs (hl Z2 s σ H _ I h) fun v s1 ⟨x,H1,I1,r1,q1⟩=>?_
 obtain⟨a,e,⟨xs,hq⟩,q⟩:=q1
 subst e
 cases r1
 obtain⟨its,rv,p,hz⟩:=I1.tuple hq
 refine wpAny_pyIter_tuple (show s1.heap.IsTuple a its.toArray from p) ?_
 refine⟨s1.heap.objs.size,[s1.heap.objs.size],_,_,H1,rfl,I1.kept (t':=s1.toks) fun b o e=>Heap.get?_push_of_some _ e,Z61 a _,⟨_,Heap.get?_push_size _ rfl,rfl,rfl⟩,fun b hb=>?_,q⟩
 have e:b=s1.heap.objs.size:=by simpa using hb
 subst e
 exact I1.fpOk (Nat.le_refl _) (I1.hok.fresh (Nat.le_refl _))
theorem Z54{Z2:List (Addr×Obj)}{σ:St}{H:Hp}{s:Shared}{R:It->Hp->Prop}{E:Value->Shared->Prop}{lo hi:Int}{t u v:Tok}{tk:Nat}(I:Inv X Z2 σ H s)(h1:-(2 ^ 62)<=lo)(h2:lo<2 ^ 62)(h3:-(2 ^ 62)<=hi)(h4:hi<2 ^ 62)
  (q:R (Zhb lo (hi-lo).toNat) H):wpAny (model X.prog X.w) X.A (pyIter (.ref s.heap.objs.size)) (Zki X Z2 σ tg R) E { s with heap:=s.heap.push { cls:=.type "range",data:=.fields #[.int lo t,.int hi u,.int 1 v] },toks:=tk }:=by
 refine wpAny_pyIter_range (IsRange.new ..) (small_one h1 h2 h3 h4) ?_
 have I1:Inv X Z2 σ H { s with heap:=s.heap.push { cls:=.type "range",data:=.fields #[.int lo t,.int hi u,.int 1 v] },toks:=tk }:=I.kept fun b o e=>Heap.get?_push_of_some _ e
 refine⟨(s.heap.push { cls:=.type "range",data:=.fields #[.int lo t,.int hi u,.int 1 v] }).objs.size,[(s.heap.push { cls:=.type "range",data:=.fields #[.int lo t,.int hi u,.int 1 v] }).objs.size],_,_,H,rfl,
  I1.kept (t':=tk) fun b o e=>Heap.get?_push_of_some _ e,Z62 _ lo (hi-lo).toNat,?_,fun b hb=>?_,q⟩
 ·have e1:lo+((0:Nat):Int)*1=lo:=by simp
  have e2:(((hi-lo).toNat:Nat):Int)-((0:Nat):Int)=Builtin.Range.rangeSize lo hi 1:=by rw[rangeSize_one];split <;> omega
  show IsRangeIter _ _ (lo+((0:Nat):Int)*1) ((((hi-lo).toNat:Nat):Int)-((0:Nat):Int)) 1
  rw[e1,e2]
  exact Heap.get?_push_size _ rfl
 ·have e:b=(s.heap.push { cls:=.type "range",data:=.fields #[.int lo t,.int hi u,.int 1 v] }).objs.size:=by simpa using hb
  subst e
  exact I1.fpOk (Nat.le_refl _) (I1.hok.fresh (Nat.le_refl _))
def Zhz(ta:TA):TI:=fun σ H R=>ta σ H fun vs H1=>∃j:Int,vs=[.int j]/\-(2 ^ 62)<=j/\j<2 ^ 62/\R (Zhb 0 j.toNat) H1
def Zhy(ta:TA):TI:=fun σ H R=>ta σ H fun vs H1=>∃i j:Int,vs=[.int i,.int j]/\(-(2 ^ 62)<=i/\i<2 ^ 62/\-(2 ^ 62)<=j/\j<2 ^ 62)/\R (Zhb i (j-i).toNat) H1
theorem Jo{a:Expr}{ta:TA}{p pos:Pos}(hg:Gl X "range")(hm:X.mg "range" = none)(ha:PA X [a] ta)(hs:starEach [a] X.env=[(false,eval a X.env)]:=by rfl):PI X tg (.Call (.Name "range" p) [a] [] pos) (Zhz ta):=by
 intro Z2 s σ H R I h
 refine Call_ (Td I hg hm boot_range (PyProof.Rows.callWith_type1 (Xs (ha pos Z2 s σ H _ I h) fun us s1 ⟨vs,H1,I1,r1,q1⟩=>?_) hs rfl))
 obtain⟨j,e,q1,q2,q⟩:=q1
 subst e
 cases r1 with
 |cons r rr =>
  cases rr
  obtain⟨t,rfl⟩:=r
  exact call_range_1 (Z54 I1 (by omega) (by omega) q1 q2 (by simpa using q))
theorem Z90{a b:Expr}{ta:TA}{p pos:Pos}(hg:Gl X "range")(hm:X.mg "range" = none)(ha:PA X [a,b] ta)(hs:starEach [a,b] X.env=[(false,eval a X.env),(false,eval b X.env)]:=by rfl)(hs2:starEach [b] X.env=[(false,eval b X.env)]:=by rfl) :
  PI X tg (.Call (.Name "range" p) [a,b] [] pos) (Zhy ta):=by
 intro Z2 s σ H R I h
 refine Call_ (Td I hg hm boot_range (PyProof.Rows.callWith_type1 (Xs (ha pos Z2 s σ H _ I h) fun us s1 ⟨vs,H1,I1,r1,q1⟩=>?_) (by rw[hs,hs2]) (by rw[hs2];rfl)))
 obtain⟨i,j,e,⟨q1,q2,q3,q4⟩,q⟩:=q1
 subst e
 cases r1 with
 |cons r rr =>
  cases rr with
  |cons r' rr =>
   cases rr
   obtain⟨t,rfl⟩:=r
   obtain⟨t',rfl⟩:=r'
   exact call_range_2 (Z54 I1 q1 q2 q3 q4 q)
def T3(wi:TI)(g:TG)(tb:TS):TS:=fun D σ H=>wi σ H fun J H1=>∃W:Nat->Nat->St->Hp->Prop,(∃m,W 0 m σ H1)/\∀i m σ H,W i m σ H ->
 (J.stop i H/\D.nx σ H)∨(J.go i H/\∃N:St->Hp->Prop,(∀σ' H',N σ' H'->∃m',m'<m/\W (i+1) m' σ' H')/\∀x H',J.yld i H x H'->g x σ H' fun σ2 H2=>tb { D with nx:=N,ct:=N,bk:=D.nx } σ2 H2)
def Z0a(fp:List Addr)(h:Heap):List (Addr×Obj):=fp.filterMap fun b=>(h.get? b).map fun o=>(b,o)
theorem Vw{fp:List Addr}{h:Heap}{b:Addr}{o:Obj}(hb:b∈fp)(e:h.get? b=some o):(b,o)∈Z0a fp h:=List.mem_filterMap.mpr ⟨b,hb,by rw[e];rfl⟩
theorem Z9b{fp:List Addr}{h:Heap}{p:Addr×Obj}(hp:p∈Z0a fp h):p.1∈fp/\h.get? p.1=some p.2:=by
 obtain⟨b,hb,e⟩:=List.mem_filterMap.mp hp
 cases q:h.get? b with
 |none=>rw[q]at e;cases e
 |some o =>
  rw[q]at e
  have e':(b,o)=p:=Option.some.inj e
  subst e'
  exact⟨hb,q⟩
theorem Inv.pinned{Z2:List (Addr×Obj)}{σ:St}{H:Hp}{s:Shared}{fp:List Addr}(I:Inv X Z2 σ H s)(hf:∀b∈fp,Z0q X Z2 H b)(ho:∀b∈fp,∃o,s.heap.get? b=some o/\∀v,o.data≠.cell v):Inv X (Z2++Z0a fp s.heap) σ H s :=
 I.pins_of fun p hp=>(List.mem_append.mp hp).elim (fun z=>I.pin p (List.mem_append_right _ z)) fun z=>by
  obtain⟨hb,e⟩:=Z9b z
  obtain⟨f0,f1,f2,_⟩:=hf p.1 hb
  obtain⟨o,e',d⟩:=ho p.1 hb
  rw[e]at e';cases e'
  exact⟨e,f0,f1,f2,d⟩
theorem Inv.unpinned{Z2 pl:List (Addr×Obj)}{σ:St}{H:Hp}{s:Shared}(I:Inv X (Z2++pl) σ H s):Inv X Z2 σ H s:=I.pins_of fun p hp=>I.pin p (List.mem_append_right _ (List.mem_append_left _ hp))
theorem U4{iter:Expr}{body:List Stmt}{wi:TI}{g:TG}{tb:TS}{pos:Pos}(hp:PassesOwn (model X.prog X.w) X.A X.env X.xe)(hc:X.calm=true)(hi:PI X tg iter wi)(hg:PG X tg g)(hb:PSs X body tb)
  (hs:∀x,foldedSetIterable iter X.env x=pure x:=by intro _;rfl):PS X (.For tg iter body [] pos) (T3 wi g tb):=by
 intro Z2 s σ H D I h
 refine wpAny_For (Xs (hi Z2 s σ H _ I h) fun v s1 h1=>Xs h1 fun itv s2 h2=>?_) hs
 obtain⟨it,fp,tn,J,H2,e,I2,T,st2,f2,W,⟨m0,w0⟩,turn⟩:=h2
 subst e
 have stat:∀ {H':Hp},(∀b∈fp,H' b=none)->∀b∈fp,Z0q X Z2 H' b:=fun hn b hb=>⟨hn b hb,(f2 b hb).2⟩
 refine codeAny_forLoop_any (fun n s'=>∃i σ' H',Inv X Z2 σ' H' s'/\tn i s'.heap/\(∀b∈fp,H' b=none)/\W i n σ' H') ?_ m0 ⟨0,σ,H2,I2,st2,fun b hb=>(f2 b hb).1,w0⟩
 rintro n s3 ⟨i,σ3,H3,I3,st3,fr3,w3⟩
 rcases turn i n σ3 H3 w3 with⟨stop,qn⟩ | ⟨go,N,hN,step⟩
 ·refine wpAny_passesOwn hp (Xs (T.done X rfl rfl rfl hc i Z2 s3 σ3 H3 X.xe I3 (stat fr3) st3 stop) fun r s4 ⟨hr,I4⟩=>?_)
  subst hr
  exact wpAny_execs_nil ⟨σ3,H3,I4,qn⟩
 ·refine wpAny_passesOwn hp (Xs (T.item X rfl rfl rfl hc i Z2 s3 σ3 H3 X.xe I3 (stat fr3) st3 go) fun r s4 ⟨u,hr,h4⟩=>?_)
  subst hr
  refine wpAny_passesOwn hp (Xs h4 fun _ s5 ⟨x,H5,I5,r5,y5,st5,fr5⟩=>?_)
  have I5':=I5.pinned (stat fr5) (T.obj _ _ st5)
  refine wpAny_passesOwn hp (Xs (hg _ s5 σ3 H5 x u _ I5' r5 (step x H5 y5)) fun _ s6 ⟨σ6,H6,I6,q6⟩=>?_)
  refine wpAny_passesOwn hp (Xs (hb _ s6 σ6 H6 _ I6 q6) fun f s7 q7=>?_)
  have again:∀ {σ7:St} {H7:Hp},Inv X (Z2++Z0a fp s5.heap) σ7 H7 s7->N σ7 H7->∃m,m<n/\∃i σ' H',Inv X Z2 σ' H' s7/\tn i s7.heap/\(∀b∈fp,H' b=none)/\W i m σ' H':=fun{σ7 H7} I7 n7=>by
   obtain⟨m',hm,w7⟩:=hN σ7 H7 n7
   refine⟨m',hm,i+1,σ7,H7,I7.unpinned,T.keep _ _ _ st5 fun b hb o e=>(I7.pin (b,o) (List.mem_append_right _ (List.mem_append_right _ (Vw hb e)))).1,fun b hb=>?_,w7⟩
   obtain⟨o,e,d⟩:=T.obj _ _ st5 b hb
   exact(I7.pin (b,o) (List.mem_append_right _ (List.mem_append_right _ (Vw hb e)))).2.1
  cases f with
  |next=>obtain⟨σ7,H7,I7,n7⟩:=q7;exact again I7 n7
  |cont=>obtain⟨σ7,H7,I7,n7⟩:=q7;exact again I7 n7
  |brk=>obtain⟨σ7,H7,I7,q7⟩:=q7;exact⟨σ7,H7,I7.unpinned,q7⟩
  |ret v=>obtain⟨x7,σ7,H7,I7,r7,q7⟩:=q7;exact⟨x7,σ7,H7,I7.unpinned,r7,q7⟩
end
theorem Z5i{K:W.Frag}{a:Addr}{xs:List V}{g:TG}{tb:TS}{D:Ends}{σ:St}{H:Hp}(Pv:Nat->St->Hp->Prop)(h0:Pv 0 σ H)(hl:∀i σ H,i<=xs.length->Pv i σ H->SqL K H a xs)
  (hs:∀i x σ H,xs[i]? = some x->Pv i σ H->g x σ H fun σ2 H2=>tb { D with nx:=Pv (i+1),ct:=Pv (i+1),bk:=D.nx } σ2 H2) (hd:∀σ H,Pv xs.length σ H->D.nx σ H) :
  ∃W:Nat->Nat->St->Hp->Prop,(∃m,W 0 m σ H)/\∀i m σ H,W i m σ H ->
   ((Zim K a).stop i H/\D.nx σ H)∨((Zim K a).go i H/\∃N:St->Hp->Prop,(∀σ' H',N σ' H'->∃m',m'<m/\W (i+1) m' σ' H')/\∀x H',(Zim K a).yld i H x H'->g x σ H' fun σ2 H2=>tb { D with nx:=N,ct:=N,bk:=D.nx } σ2 H2):=by
 refine⟨fun i m σ H=>m=xs.length-i/\i<=xs.length/\Pv i σ H,⟨xs.length,by simp,Nat.zero_le _,h0⟩,?_⟩
 rintro i m σ H ⟨rfl,hi,p⟩
 have q:=hl i σ H hi p
 by_cases hlt:i<xs.length
 ·refine .inr ⟨⟨xs,xs[i],q,by simp[hlt]⟩,Pv (i+1),fun σ' H' p'=>⟨xs.length-(i+1),by omega,rfl,hlt,p'⟩,fun x H' y=>?_⟩
  obtain⟨e,y⟩:=y
  subst e
  exact hs i x σ _ (y xs q) p
 ·have e:i=xs.length:=by omega
  subst e
  exact .inl ⟨⟨xs,q,Nat.le_refl _⟩,hd σ H p⟩
theorem Z3y{K:W.Frag}{a:Addr}{xs:List V}{g:TG}{tb:TS}{D:Ends}{σ:St}{H:Hp}(Pv:Nat->St->Hp->Prop)(h0:Pv 0 σ H)(hl:∀i σ H,i<=xs.length->Pv i σ H->SqT K H a xs)
  (hs:∀i x σ H,xs[i]? = some x->Pv i σ H->g x σ H fun σ2 H2=>tb { D with nx:=Pv (i+1),ct:=Pv (i+1),bk:=D.nx } σ2 H2) (hd:∀σ H,Pv xs.length σ H->D.nx σ H) :
  ∃W:Nat->Nat->St->Hp->Prop,(∃m,W 0 m σ H)/\∀i m σ H,W i m σ H ->
   ((Zil K a).stop i H/\D.nx σ H)∨((Zil K a).go i H/\∃N:St->Hp->Prop,(∀σ' H',N σ' H'->∃m',m'<m/\W (i+1) m' σ' H')/\∀x H',(Zil K a).yld i H x H'->g x σ H' fun σ2 H2=>tb { D with nx:=N,ct:=N,bk:=D.nx } σ2 H2):=by
 refine⟨fun i m σ H=>m=xs.length-i/\i<=xs.length/\Pv i σ H,⟨xs.length,by simp,Nat.zero_le _,h0⟩,?_⟩
 rintro i m σ H ⟨rfl,hi,p⟩
 have q:=hl i σ H hi p
 by_cases hlt:i<xs.length
 ·refine .inr ⟨⟨xs,xs[i],q,by simp[hlt]⟩,Pv (i+1),fun σ' H' p'=>⟨xs.length-(i+1),by omega,rfl,hlt,p'⟩,fun x H' y=>?_⟩
  obtain⟨e,y⟩:=y
  subst e
  exact hs i x σ _ (y xs q) p
 ·have e:i=xs.length:=by omega
  subst e
  exact .inl ⟨⟨xs,q,Nat.le_refl _⟩,hd σ H p⟩
theorem Js{lo:Int}{n:Nat}{g:TG}{tb:TS}{D:Ends}{σ:St}{H:Hp}(Pv:Nat->St->Hp->Prop)(h0:Pv 0 σ H)
  (hs:∀i σ H,i<n->Pv i σ H->g (.int (lo+i)) σ H fun σ2 H2=>tb { D with nx:=Pv (i+1),ct:=Pv (i+1),bk:=D.nx } σ2 H2) (hd:∀σ H,Pv n σ H->D.nx σ H) :
  ∃W:Nat->Nat->St->Hp->Prop,(∃m,W 0 m σ H)/\∀i m σ H,W i m σ H ->
   ((Zhb lo n).stop i H/\D.nx σ H)∨((Zhb lo n).go i H/\∃N:St->Hp->Prop,(∀σ' H',N σ' H'->∃m',m'<m/\W (i+1) m' σ' H')/\∀x H',(Zhb lo n).yld i H x H'->g x σ H' fun σ2 H2=>tb { D with nx:=N,ct:=N,bk:=D.nx } σ2 H2):=by
 refine⟨fun i m σ H=>m=n-i/\i<=n/\Pv i σ H,⟨n,by simp,Nat.zero_le _,h0⟩,?_⟩
 rintro i m σ H ⟨rfl,hi,p⟩
 by_cases hlt:i<n
 ·refine .inr ⟨hlt,Pv (i+1),fun σ' H' p'=>⟨n-(i+1),by omega,rfl,hlt,p'⟩,fun x H' y=>?_⟩
  obtain⟨e,y⟩:=y
  subst e y
  exact hs i σ _ hlt p
 ·have e:i=n:=by omega
  subst e
  exact .inl ⟨Nat.le_refl _,hd σ H p⟩
theorem Z9x{c:TT}{tb:TS}{D:Ends}{σ:St}{H:Hp}(Pv:St->Hp->Prop)(μ:St->Hp->Nat)(h0:Pv σ H)
  (hs:∀σ H,Pv σ H->c σ H fun b H1=>if b=true then tb { D with nx:=fun σ' H'=>Pv σ' H'/\μ σ' H'<μ σ H,ct:=fun σ' H'=>Pv σ' H'/\μ σ' H'<μ σ H,bk:=D.nx } σ H1 else D.nx σ H1)
  (mono:∀σ H Q Q',(∀b H1,Q b H1->Q' b H1)->c σ H Q->c σ H Q'):Vj c tb D σ H:=by
 refine⟨fun m σ H=>m=μ σ H/\Pv σ H,⟨_,rfl,h0⟩,?_⟩
 rintro m σ H ⟨rfl,p⟩
 refine mono σ H _ _ (fun b H1 q=>?_) (hs σ H p)
 cases b with
 |true=>exact⟨_,fun σ' H' ⟨p',l⟩=>⟨_,l,rfl,p'⟩,q⟩
 |false=>exact q
abbrev R2:=V->V->Hp->VK->Prop
def Z4i(X:Cx)(f:Value->Value->Sem Value)(r:R2):Prop :=
 ∀(Z2:List (Addr×Obj)) (s:Shared) (σ:St) (H:Hp) (x y:V) (v u:Value) (Q:VK),Inv X Z2 σ H s->RelV x v->RelV y u->r x y H Q ->
  wpAny (model X.prog X.w) X.A (f v u) (EP X Z2 σ Q) X.xe s
def Zk5(X:Cx)(f:Value->Sem Value)(r:V->Hp->VK->Prop):Prop :=
 ∀(Z2:List (Addr×Obj)) (s:Shared) (σ:St) (H:Hp) (x:V) (v:Value) (Q:VK),Inv X Z2 σ H s->RelV x v->r x H Q ->
  wpAny (model X.prog X.w) X.A (f v) (EP X Z2 σ Q) X.xe s
def U8(X:Cx)(f:Value)(r:List V->Hp->VK->Prop):Prop :=
 ∀(Z2:List (Addr×Obj)) (s:Shared) (σ:St) (H:Hp) (xs:List V) (us:List Value) (Q:VK),Inv X Z2 σ H s->Vals xs us->r xs H Q ->
  wpAny (model X.prog X.w) X.A (call f us) (EP X Z2 σ Q) X.xe s
def Z5y(r:R2)(ta tb:TE):TE:=fun σ H Q=>ta σ H fun x H1=>tb σ H1 fun y H2=>r x y H2 Q
def Zk0(r:V->Hp->VK->Prop)(ta:TE):TE:=fun σ H Q=>ta σ H fun x H1=>r x H1 Q
def rI(C:Int->Int->Prop)(g:Int->Int->V):R2:=fun x y H Q=>∃i j,x=.int i/\y=.int j/\C i j/\Q (g i j) H
def Zgw(g:Int->Int->V):R2:=fun x y H Q=>∃i j,x=.int i/\y=.int j/\Q (g i j) H
def rU(g:Int->V):V->Hp->VK->Prop:=fun x H Q=>∃i,x=.int i/\Q (g i) H
section
variable{X:Cx}{a b c:Expr}{ta tb tc:TE}{pos:Pos}
theorem Zh3(ha:PE X a ta)(hb:PE X b tb){Z2:List (Addr×Obj)}{s:Shared}{σ:St}{H:Hp}{R:V->V->Hp->Prop}(I:Inv X Z2 σ H s)
  (h:ta σ H fun x H1=>tb σ H1 fun y H2=>R x y H2) {Q:Value->Shared->Prop} {f:Value->Value->Sem Value}
  (hf:∀v u s2 x y H2,Inv X Z2 σ H2 s2->RelV x v->RelV y u->R x y H2->wpAny (model X.prog X.w) X.A (f v u) Q X.xe s2) :
  wpAny (model X.prog X.w) X.A (eval a X.env) (fun v s₁=>wpAny (model X.prog X.w) X.A (eval b X.env) (fun u s₂=>wpAny (model X.prog X.w) X.A (f v u) Q X.xe s₂) X.xe s₁) X.xe s:=by
 refine Xs (ha Z2 s σ H _ I h) fun v s1 ⟨x,H1,I1,r1,q1⟩=>?_
 refine Xs (hb Z2 s1 σ H1 _ I1 q1) fun u s2 ⟨y,H2,I2,r2,q2⟩=>?_
 exact hf v u s2 x y H2 I2 r1 r2 q2
theorem Y7{op:Operator}{r:R2}(ho:Z4i X (binaryOp op) r)(ha:PE X a ta)(hb:PE X b tb):PE X (.BinOp a op b pos) (Z5y r ta tb):=by
 intro Z2 s σ H Q I h
 exact wpAny_BinOp (Zh3 ha hb I h fun v u s2 x y H2 I2 rx ry q=>ho Z2 s2 σ H2 x y v u Q I2 rx ry q)
theorem Z5t{op:UnaryOp}{r:V->Hp->VK->Prop}(ho:Zk5 X (unaryOp op) r)(ha:PE X a ta):PE X (.UnaryOp op a pos) (Zk0 r ta):=by
 intro Z2 s σ H Q I h
 exact UnaryOp_ (Xs (ha Z2 s σ H _ I h) fun v s1 ⟨x,H1,I1,r1,q1⟩=>ho Z2 s1 σ H1 x v Q I1 r1 q1)
theorem Zkb{f:Value->Value->Sem Value}{C:Int->Int->Prop}{g:Int->Int->Int}
  (rule:∀(i j:Int) (t u:Tok) (s:Shared) (Q:Value->Shared->Prop) (E:Value->Shared->Prop),C i j->Q (.int (g i j) s.toks) { s with toks:=s.toks+1 }->wpAny (model X.prog X.w) X.A (f (.int i t) (.int j u)) Q E s) :
  Z4i X f (rI C fun i j=>.int (g i j)):=by
 intro Z2 s σ H x y v u Q I rx ry h
 obtain⟨i,j,rfl,rfl,hc,q⟩:=h
 obtain⟨t,rfl⟩:=rx
 obtain⟨t',rfl⟩:=ry
 exact rule i j t t' s _ _ hc ⟨.int (g i j),H,I.tok _,⟨_,rfl⟩,q⟩
theorem Zib{f:Value->Value->Sem Value}{g:Int->Int->Int}
  (rule:∀(i j:Int) (t u:Tok) (s:Shared) (Q:Value->Shared->Prop) (E:Value->Shared->Prop),Q (.int (g i j) s.toks) { s with toks:=s.toks+1 }->wpAny (model X.prog X.w) X.A (f (.int i t) (.int j u)) Q E s) :
  Z4i X f (Zgw fun i j=>.int (g i j)):=by
 intro Z2 s σ H x y v u Q I rx ry h
 obtain⟨i,j,rfl,rfl,q⟩:=h
 obtain⟨t,rfl⟩:=rx
 obtain⟨t',rfl⟩:=ry
 exact rule i j t t' s _ _ ⟨.int (g i j),H,I.tok _,⟨_,rfl⟩,q⟩
theorem Zep{f:Value->Value->Sem Value}{g:Int->Int->Bool}
  (rule:∀(i j:Int) (t u:Tok) (s:Shared) (Q:Value->Shared->Prop) (E:Value->Shared->Prop),Q (.bool (g i j)) s->wpAny (model X.prog X.w) X.A (f (.int i t) (.int j u)) Q E s) :
  Z4i X f (Zgw fun i j=>.bl (g i j)):=by
 intro Z2 s σ H x y v u Q I rx ry h
 obtain⟨i,j,rfl,rfl,q⟩:=h
 obtain⟨t,rfl⟩:=rx
 obtain⟨t',rfl⟩:=ry
 exact rule i j t t' s _ _ ⟨.bl (g i j),H,I,rfl,q⟩
def Zjz(i j:Int):Prop:=0<j/\j<1073741824
theorem Yv:Z4i X (binaryOp .Add) (Zgw fun i j=>.int (i+j)):=Zib fun _ _ _ _ _ _ _ q=>add_int q
theorem Vk:Z4i X (binaryOp .Sub) (Zgw fun i j=>.int (i-j)):=Zib fun _ _ _ _ _ _ _ q=>sub_int q
theorem Zdg:Z4i X (binaryOp .FloorDiv) (rI Zjz fun i j=>.int (i / j)):=Zkb fun i j _ _ _ _ _ hc q=>by
 have h1:(0:Int)<j:=hc.1
 have h2:j<1073741824:=hc.2
 exact floordiv_int (by omega) (by rw[Int.fdiv_eq_ediv_of_nonneg i (by omega)];exact q) (.inl (PyProof.noPylong_small (by omega)))
theorem Zbr:Z4i X (binaryOp .Mod) (rI (fun _ j=>0<j) fun i j=>.int (i % j)):=Zkb fun i j _ _ _ _ _ hc q=>by
 have h1:(0:Int)<j:=hc
 exact mod_int' (by omega) (by rw[Int.fmod_eq_emod_of_nonneg i (by omega)];exact q)
theorem Zkk{f:Value->Sem Value}{g:Int->Int}
  (rule:∀(i:Int) (t:Tok) (s:Shared) (Q:Value->Shared->Prop) (E:Value->Shared->Prop),Q (.int (g i) s.toks) { s with toks:=s.toks+1 }->wpAny (model X.prog X.w) X.A (f (.int i t)) Q E s) :
  Zk5 X f (rU fun i=>.int (g i)):=by
 intro Z2 s σ H x v Q I rx h
 obtain⟨i,rfl,q⟩:=h
 obtain⟨t,rfl⟩:=rx
 exact rule i t s _ _ ⟨.int (g i),H,I.tok _,⟨_,rfl⟩,q⟩
theorem Z1q:Zk5 X (unaryOp .USub) (rU fun i=>.int (-i)):=Zkk fun _ _ _ _ _ q=>neg_int q
end
def Zi8:V->V->Bool
 |.non,.non=>true | .non,.int _=>true | .int _,.non=>true | .non,.bl _=>true | .bl _,.non=>true | .non,.str _=>true | .str _,.non=>true
 |.int _,.int _=>true | .bl _,.bl _=>true | .str _,.str _=>true | .byt _,.byt _=>true
 |.int _,.str _=>true | .str _,.int _=>true | .bl _,.str _=>true | .str _,.bl _=>true
 |_,_=>false
def Zhc:R2:=fun x y H Q=>Zi8 x y=true/\Q (.bl (decide (x=y))) H
def Zkn:R2:=fun x y H Q=>Zi8 x y=true/\Q (.bl (!decide (x=y))) H
theorem Z88{i j:Int}:decide (V.int i=V.int j)=(i==j):=by
 rw[Bool.eq_iff_iff]
 simp
theorem Zby{i j:Bool}:decide (V.bl i=V.bl j)=(i==j):=by
 rw[Bool.eq_iff_iff]
 simp
theorem Z12{i j:Str}:decide (V.str i=V.str j)=(i==j):=by
 rw[Bool.eq_iff_iff]
 simp
theorem Z89{i j:Array UInt8}:decide (V.byt i=V.byt j)=(i.toList==j.toList):=by
 rw[Bool.eq_iff_iff]
 cases i
 cases j
 simp
section
variable{X:Cx}{a b c:Expr}{ta tb tc:TE}{pos:Pos}
theorem Y4{Z2:List (Addr×Obj)}{σ:St}{H:Hp}{s:Shared}{Q:VK}{k k':Bool}(I:Inv X Z2 σ H s)(q:Q (.bl k) H)(e:k=k'):EP X Z2 σ Q (.bool k') s:=by
 subst e
 exact⟨.bl k,H,I,rfl,q⟩
theorem Y2:Z4i X (compareOp .Eq) Zhc:=by
 intro Z2 s σ H x y v u Q I rx ry h
 obtain⟨hs,q⟩:=h
 cases x with
 |non =>
  cases rx
  cases y with
  |non=>cases ry;exact PySem.EqNone.eq_none_none (Y4 I q (by simp))
  |bl j=>cases ry;exact PySem.EqNone.eq_none_bool (Y4 I q (by simp))
  |int j=>obtain⟨t',rfl⟩:=ry;exact PySem.EqNone.eq_none_int (Y4 I q (by simp))
  |str j=>obtain⟨t',rfl⟩:=ry;exact PySem.EqNone.eq_none_str (Y4 I q (by simp))
  |_=>exact absurd (show false=true from hs) Bool.false_ne_true
 |bl i =>
  cases rx
  cases y with
  |non=>cases ry;exact PySem.EqNone.eq_bool_none (Y4 I q (by simp))
  |bl j=>cases ry;exact eq_bool (Y4 I q Zby)
  |str j=>obtain⟨t',rfl⟩:=ry;exact PySem.EqMixed.eq_bool_str (Y4 I q (by simp))
  |_=>exact absurd (show false=true from hs) Bool.false_ne_true
 |int i =>
  obtain⟨t,rfl⟩:=rx
  cases y with
  |non=>cases ry;exact PySem.EqNone.eq_int_none (Y4 I q (by simp))
  |int j=>obtain⟨t',rfl⟩:=ry;exact eq_int (Y4 I q Z88)
  |str j=>obtain⟨t',rfl⟩:=ry;exact PySem.EqMixed.eq_int_str (Y4 I q (by simp))
  |_=>exact absurd (show false=true from hs) Bool.false_ne_true
 |str i =>
  obtain⟨t,rfl⟩:=rx
  cases y with
  |non=>cases ry;exact PySem.EqNone.eq_str_none (Y4 I q (by simp))
  |bl j=>cases ry;exact PySem.EqMixed.eq_str_bool (Y4 I q (by simp))
  |int j=>obtain⟨t',rfl⟩:=ry;exact PySem.EqMixed.eq_str_int (Y4 I q (by simp))
  |str j=>obtain⟨t',rfl⟩:=ry;exact eq_str (Y4 I q Z12)
  |_=>exact absurd (show false=true from hs) Bool.false_ne_true
 |byt i =>
  obtain⟨t,rfl⟩:=rx
  cases y with
  |byt j=>obtain⟨t',rfl⟩:=ry;exact W.eq_bytes (Y4 I q Z89)
  |_=>exact absurd (show false=true from hs) Bool.false_ne_true
 |_=>cases y <;> exact absurd (show false=true from hs) Bool.false_ne_true
theorem Ji:Z4i X (compareOp .NotEq) Zkn:=by
 intro Z2 s σ H x y v u Q I rx ry h
 obtain⟨hs,q⟩:=h
 cases x with
 |non =>
  cases rx
  cases y with
  |non=>cases ry;exact PySem.EqNone.ne_none_none (Y4 I q (by simp))
  |bl j=>cases ry;exact PySem.EqNone.ne_none_bool (Y4 I q (by simp))
  |int j=>obtain⟨t',rfl⟩:=ry;exact PySem.EqNone.ne_none_int (Y4 I q (by simp))
  |str j=>obtain⟨t',rfl⟩:=ry;exact PySem.EqNone.ne_none_str (Y4 I q (by simp))
  |_=>exact absurd (show false=true from hs) Bool.false_ne_true
 |bl i =>
  cases rx
  cases y with
  |non=>cases ry;exact PySem.EqNone.ne_bool_none (Y4 I q (by simp))
  |bl j=>cases ry;exact ne_bool (Y4 I q (congrArg not Zby))
  |str j=>obtain⟨t',rfl⟩:=ry;exact PySem.EqMixed.ne_bool_str (Y4 I q (by simp))
  |_=>exact absurd (show false=true from hs) Bool.false_ne_true
 |int i =>
  obtain⟨t,rfl⟩:=rx
  cases y with
  |non=>cases ry;exact PySem.EqNone.ne_int_none (Y4 I q (by simp))
  |int j=>obtain⟨t',rfl⟩:=ry;exact ne_int (Y4 I q (congrArg not Z88))
  |str j=>obtain⟨t',rfl⟩:=ry;exact PySem.EqMixed.ne_int_str (Y4 I q (by simp))
  |_=>exact absurd (show false=true from hs) Bool.false_ne_true
 |str i =>
  obtain⟨t,rfl⟩:=rx
  cases y with
  |non=>cases ry;exact PySem.EqNone.ne_str_none (Y4 I q (by simp))
  |bl j=>cases ry;exact PySem.EqMixed.ne_str_bool (Y4 I q (by simp))
  |int j=>obtain⟨t',rfl⟩:=ry;exact PySem.EqMixed.ne_str_int (Y4 I q (by simp))
  |str j=>obtain⟨t',rfl⟩:=ry;exact ne_str (Y4 I q (congrArg not Z12))
  |_=>exact absurd (show false=true from hs) Bool.false_ne_true
 |byt i =>
  obtain⟨t,rfl⟩:=rx
  cases y with
  |byt j=>obtain⟨t',rfl⟩:=ry;exact W.ne_bytes (Y4 I q (congrArg not Z89))
  |_=>exact absurd (show false=true from hs) Bool.false_ne_true
 |_=>cases y <;> exact absurd (show false=true from hs) Bool.false_ne_true
theorem Z5v:Z4i X (compareOp .Lt) (Zgw fun i j=>.bl (decide (i<j))):=Zep fun _ _ _ _ _ _ _ q=>lt_int q
theorem Zhv:Z4i X (compareOp .LtE) (Zgw fun i j=>.bl (decide (i<=j))):=Zep fun _ _ _ _ _ _ _ q=>le_int q
theorem Zca:Z4i X (compareOp .Gt) (Zgw fun i j=>.bl (decide (j<i))):=Zep fun _ _ _ _ _ _ _ q=>gt_int q
theorem Z3f:Z4i X (compareOp .GtE) (Zgw fun i j=>.bl (decide (j<=i))):=Zep fun _ _ _ _ _ _ _ q=>ge_int q
theorem Z37:Z4i X (compareOp .NotIn) (fun x y H Q=>∃i j,x=.str i/\y=.str j/\Q (.bl (!(!(Builtin.Str.occurrences j i 0 j.length 1).isEmpty))) H):=by
 intro Z2 s σ H x y v u Q I rx ry h
 obtain⟨i,j,rfl,rfl,q⟩:=h
 obtain⟨t,rfl⟩:=rx
 obtain⟨t',rfl⟩:=ry
 exact notIn_str (Y4 I q rfl)
theorem Zh(b:Expr){op:CmpOp}(h:op≠.In:=by decide)(h2:op≠.NotIn:=by decide):behindInMarks op b=false:=by
 have e1:(op==CmpOp.In)=false:=by cases op <;> first | rfl | exact absurd rfl h
 have e2:(op==CmpOp.NotIn)=false:=by cases op <;> first | rfl | exact absurd rfl h2
 cases b <;> simp[behindInMarks,e1,e2]
theorem Yz{op:CmpOp}{r:R2}(ho:Z4i X (compareOp op) r)(ha:PE X a ta)(hb:PE X b tb)(hm:behindInMarks op b=false):PE X (.Compare a [op] [b] pos) (Z5y r ta tb):=by
 intro Z2 s σ H Q I h
 exact wpAny_Compare1 (Zh3 ha hb I h fun v u s2 x y H2 I2 rx ry q=>ho Z2 s2 σ H2 x y v u Q I2 rx ry q) hm
def Jh(t:TE):TT:=fun σ H Q=>t σ H fun x H'=>∃k,x=.bl k/\Q k H'
theorem Zd{op:CmpOp}{r:R2}(ho:Z4i X (compareOp op) r)(ha:PE X a ta)(hb:PE X b tb)(hm:behindInMarks op b=false):PT X (.Compare a [op] [b] pos) (Jh (Z5y r ta tb)):=by
 intro Z2 s σ H Q I h
 refine wpAny_isTrue_Compare1 (Xs (ha Z2 s σ H _ I h) fun v s1 ⟨x,H1,I1,r1,q1⟩=>Xs (hb Z2 s1 σ H1 _ I1 q1) fun u s2 ⟨y,H2,I2,r2,q2⟩ =>
  Xs (ho Z2 s2 σ H2 x y v u _ I2 r1 r2 q2) fun c s3 ⟨z,H3,I3,r3,k,e,q3⟩=>?_) hm
 subst e
 cases r3
 exact wpAny_truthy_bool ⟨H3,I3,q3⟩
theorem Z0e:(sizeLine:Nat)<2 ^ 63:=by rw[sizeLine_eq];decide
theorem Xk:Z4i X (binaryOp .Add) (fun x y H Q=>∃i j,x=.str i/\y=.str j/\i.length+j.length<=sizeLine/\Q (.str (i++j)) H):=by
 intro Z2 s σ H x y v u Q I rx ry h
 obtain⟨i,j,rfl,rfl,hz,q⟩:=h
 obtain⟨t,rfl⟩:=rx
 obtain⟨t',rfl⟩:=ry
 exact add_str (fun t' tk=>⟨.str (i++j),H,I.tok _,⟨_,rfl⟩,q⟩) hz
theorem T6{x:V}{us:List Value}(r:Vals [x] us):∃u,us=[u]/\RelV x u:=by
 cases r with
 |cons r1 r2=>cases r2;exact⟨_,rfl,r1⟩
theorem Z8h{x y:V}{us:List Value}(r:Vals [x,y] us):∃u w',us=[u,w']/\RelV x u/\RelV y w':=by
 cases r with
 |cons r1 r2 =>
  cases r2 with
  |cons r3 r4=>cases r4;exact⟨_,_,rfl,r1,r3⟩
theorem Z9o(hc:X.calm=true):U8 X (.builtin "max") (fun xs H Q=>∃i j,xs=[.int i,.int j]/\Q (.int (if j>i then j else i)) H):=by
 intro Z2 s σ H xs us Q I r h
 obtain⟨i,j,rfl,q⟩:=h
 obtain⟨u,w',rfl,⟨t,rfl⟩,⟨t',rfl⟩⟩:=Z8h r
 refine max_two_ints (I.ok.hd hc) fun h' tk k=>⟨_,H,I.kept k,?_,q⟩
 by_cases hj:j>i
 ·rw[if_pos hj,if_pos hj];exact⟨_,rfl⟩
 ·rw[if_neg hj,if_neg hj];exact⟨_,rfl⟩
theorem Z9p:U8 X (.type "int") (fun xs H Q=>(∃i,xs=[.int i]/\Q (.int i) H)∨∃k,xs=[.bl k]/\Q (.int (if k then 1 else 0)) H):=by
 intro Z2 s σ H xs us Q I r h
 rcases h with⟨i,rfl,q⟩ | ⟨k,rfl,q⟩
 ·obtain⟨u,rfl,t,rfl⟩:=T6 r
  exact call_int_int ⟨.int i,H,I,⟨_,rfl⟩,q⟩
 ·obtain⟨u,rfl,r1⟩:=T6 r
  cases r1
  exact call_int_bool ⟨.int (if k then 1 else 0),H,I.tok _,⟨_,rfl⟩,q⟩
end
structure ObjM(h:Heap)(x dx C:Addr)(mA:Str->Option Value):Prop where
 obj:h.get? x=some (W.instObj C dx)
 ns:h.Ns1 dx mA
 ne:dx≠x
theorem Z9c{h:Heap}{dx:Addr}{mA:Str->Option Value}(n:h.Ns1 dx mA):∃od,h.get? dx=some od/\∀name,W.lookIn name od=some (mA name):=by
 obtain⟨o,es,ep,ho,hd,hk,_,hm⟩:=n
 refine⟨o,ho,fun name=>?_⟩
 have e:=hm name
 unfold nsFind findBy at e
 rw[← Array.find?_toList]at e
 unfold W.lookIn
 rw[hd]
 dsimp only
 split
 ·rename_i y q
  rw[q]at e
  exact congrArg some e
 ·rename_i q
  rw[q]at e
  have a:es.toList.any (·.refKey)=false:=by
   rw[List.any_eq_false]
   intro y hy
   obtain⟨z,t,hkey⟩:=hk y (Array.mem_toList_iff.mp hy)
   simp[DictEntry.refKey,hkey]
  have a':¬es.toList.any (·.refKey)=true:=by rw[a];exact Bool.false_ne_true
  rw[if_neg a']
  exact congrArg some e
theorem ObjM.look{h:Heap}{x dx C:Addr}{mA:Str->Option Value}(I:ObjM h x dx C mA):∃od,W.InstAt h x (W.instObj C dx) C (some od)/\∀name,W.lookIn name od=some (mA name) :=
 let⟨od,ho,hl⟩:=Z9c I.ns
 ⟨od,⟨I.obj,rfl,rfl,ho⟩,hl⟩
section
variable{prog:Program}{w:World}{A:Around}{E:Value->Shared->Prop}{s:Shared}{K:W.Frag}{x dx C f:Addr}{mA:Str->Option Value}{name:Str}{v:Value}
theorem Ze4{expr:Bool}{Q:Value->Shared->Prop}(X:K.In s.heap)(I:ObjM s.heap x dx C mA)(hg:W.plainGet K C name=true)(hh:W.hasDictIn K C=true)
  (ha:W.findIn K (.ref C) name=some none) (hv:mA name=some v) (hv':W.handedIn v=true) (h:Q v { s with toks:=s.toks+1 }) :
  wpAny (model prog w) A (getAttr (.ref x) name expr) Q E s:=by
 obtain⟨od,J,hl⟩:=I.look
 exact W.get_value X J (W.plainGet_of hg).1 (W.findObj_own hh ha rfl (by rw[hl,hv])) hv' h
theorem Zb6{pl:Sem Bool}{Q:Value×List Value->Shared->Prop}(X:K.In s.heap)(I:ObjM s.heap x dx C mA)(hg:W.plainGet K C name=true)
  (hf:W.findIn K (.ref C) name=some (some (.ref f))) (ht:W.isFn K (.ref f)=true) (hv:mA name=none) (h:Q (.ref f,[.ref x]) s) :
  wpAny (model prog w) A (getMethod (.ref x) name pl) Q E s:=by
 obtain⟨od,J,hl⟩:=I.look
 exact W.method_fn X J (W.plainGet_of hg).1 (W.plainGet_of hg).2 hf (beq_iff_eq.mp ht) (by show(W.lookIn name od).map (·.isSome)=some false;rw[hl,hv];rfl) h
theorem Zd0{ns:List Str}{Q:Unit->Shared->Prop}(X:K.In s.heap)(I:ObjM s.heap x dx C mA)
  (hs:W.findIn K (.ref C) "__setattr__" = some (some (.builtin "object.__setattr__"))) (hp:W.plainOver K C=true) (ht:W.takerIn K C name=some none) (hh:W.hasDictIn K C=true)
  (hw:PySem.Within mA ns) (hsz:ns.length<=sizeLine)
  (h:∀h',ObjM h' x dx C (fun y=>if y=name then some v else mA y)->Heap.SameBut dx s.heap h'->Q () { s with heap:=h',toks:=s.toks+2 }) :
  wpAny (model prog w) A (setAttr (.ref x) name v) Q E s:=by
 obtain⟨od,J,hl⟩:=I.look
 refine W.set_plain X J hs (W.osa_open (s:={ s with toks:=s.toks+1 }) (r:=none) X J hp ht fun b=>?_)
 obtain⟨cd,hc,hd'⟩:=W.any_some hh
 have hx:s.heap.get? x=some ⟨.ref C,some dx,.plain,#[]⟩:=I.obj
 refine wpAny_bind (wpAny_pure (wpAny_bind (wpAny_bind (wpAny_loadPart hx (wpAny_bind (W.Looks.here (s:={ s with toks:=s.toks+1 }) (W.looks_clsIn X hc) ?_))))))
 rw[hd']
 refine wpAny_pure (a:=some dx) (wpAny_bind (wpAny_pure (wpAny_bind ?_)))
 refine wpAny_nsSet1 (s:={ s with toks:=s.toks+1 }) I.ns fun h' hn2 hs2=>?_
 obtain⟨oD,esD,epD,hoD,hdD,hcD⟩:=hn2.count (PySem.Within.cons name v hw)
 refine wpAny_bind (wpAny_lookBehind hoD (by rw[hdD];exact pastItsLine_dict (Nat.le_trans hcD (by rw[List.length_cons];omega))) ?_)
 exact wpAny_pure (h _ ⟨(hs2.2 _ (Ne.symm I.ne)).trans I.obj,hn2,I.ne⟩ hs2)
theorem Zax{R:Result->Shared->Prop}{vs:List Value}{kw:List (Str×Value)}(X:K.In s.heap)(hm:W.makesIn K C=true)
  (hi:W.findIn K (.ref C) "__init__" = some (some (.ref f))) (hf:W.typeIn K (.ref f)=some (.type "function"))
  (h:codeAny (model prog w) (A.under (.builtin "type.__call__" ⟨.ref C::vs,kw⟩)) (.call (.ref f) ⟨.ref (s.heap.objs.size+1)::vs,kw⟩) (W.InitBack (s.heap.objs.size+1) R)
   { s with heap:=(s.heap.push W.emptyDict).push (W.instObj C s.heap.objs.size) }) :
  codeAny (model prog w) A (.call (.ref C) ⟨vs,kw⟩) R s:=by
 obtain⟨hh,g,d,t,os⟩:=s
 exact W.make_core (W.makes_of X hm) (W.looks_findIn X hi) (fun self=>W.bind_fn X self hf) (.inl rfl) h
end
def Y6(f:Str)(v:V):List (Str×V)->List (Str×V)
 | []=>[(f,v)]
 |(g,x)::r=>if g=f then(g,v)::r else(g,x)::Y6 f v r
theorem Z04(f g:Str)(v:V):∀fs:List (Str×V),(Y6 f v fs).lookup g=if g=f then some v else fs.lookup g
 | []=>by
  show List.lookup g [(f,v)]=_
  by_cases h:g=f
  ·have hb:(g==f)=true:=beq_iff_eq.mpr h
   simp only[List.lookup,hb,if_pos h]
  ·have hb:(g==f)=false:=beq_eq_false_iff_ne.mpr h
   simp only[List.lookup,hb,if_neg h]
 |(k,x)::r=>by
  have ih:=Z04 f g v r
  rw[show Y6 f v ((k,x)::r)=(if k=f then(k,v)::r else(k,x)::Y6 f v r) from rfl]
  by_cases hk:k=f
  ·rw[if_pos hk]
   by_cases h:g=k
   ·have hb:(g==k)=true:=beq_iff_eq.mpr h
    simp only[List.lookup,hb,if_pos (h.trans hk)]
   ·have hb:(g==k)=false:=beq_eq_false_iff_ne.mpr h
    simp only[List.lookup,hb,if_neg (fun e:g=f=>h (e.trans hk.symm))]
  ·rw[if_neg hk]
   by_cases h:g=k
   ·have hb:(g==k)=true:=beq_iff_eq.mpr h
    simp only[List.lookup,hb,if_neg (fun e:g=f=>hk (h.symm.trans e))]
   ·have hb:(g==k)=false:=beq_eq_false_iff_ne.mpr h
    simp only[List.lookup,hb]
    exact ih
theorem Jq(f:Str)(v:V):∀fs:List (Str×V),f∈(Y6 f v fs).map (·.1)/\∀g,g∈fs.map (·.1)->g∈(Y6 f v fs).map (·.1)
 | []=>⟨by simp[Y6],fun g h=>by simp at h⟩
 |(k,x)::r=>by
  obtain⟨i1,i2⟩:=Jq f v r
  rw[show Y6 f v ((k,x)::r)=(if k=f then(k,v)::r else(k,x)::Y6 f v r) from rfl]
  by_cases hk:k=f
  ·rw[if_pos hk]
   subst hk
   exact⟨by simp,fun g h=>by simpa using h⟩
  ·rw[if_neg hk]
   refine⟨?_,fun g h=>?_⟩
   ·rw[List.map_cons]
    exact List.mem_cons_of_mem _ i1
   ·rw[List.map_cons]at h ⊢
    rcases List.mem_cons.mp h with e | e
    ·exact List.mem_cons.mpr (.inl e)
    ·exact List.mem_cons_of_mem _ (i2 g e)
theorem Z05(f:Str)(v:V):∀fs:List (Str×V),(Y6 f v fs).length<=fs.length+1
 | []=>by simp[Y6]
 |(k,x)::r=>by
  have ih:=Z05 f v r
  rw[show Y6 f v ((k,x)::r)=(if k=f then(k,v)::r else(k,x)::Y6 f v r) from rfl]
  by_cases hk:k=f
  ·rw[if_pos hk,List.length_cons,List.length_cons];omega
  ·rw[if_neg hk,List.length_cons,List.length_cons];omega
theorem RelO.some_of{v:V}{o:Option Value}(r:RelO (some v) o):∃u,o=some u/\RelV v u:=by
 cases o with
 |none=>exact(show False from r).elim
 |some u=>exact⟨u,rfl,r⟩
theorem RelO.none_of{o:Option Value}(r:RelO none o):o=none:=by
 cases o with
 |none=>rfl
 |some u=>exact(show False from r).elim
theorem Z9i{v:V}{u:Value}(r:RelV v u):W.handedIn u=true:=by
 cases v with
 |non=>cases(show u=Value.none from r);rfl
 |bl b=>cases(show u=Value.bool b from r);rfl
 |int i=>obtain⟨t,e⟩:=(show ∃t,u=Value.int i t from r);cases e;rfl
 |str x=>obtain⟨t,e⟩:=(show ∃t,u=Value.str x t from r);cases e;rfl
 |byt b=>obtain⟨t,e⟩:=(show ∃t,u=Value.bytes b t from r);cases e;rfl
 |flt b=>obtain⟨t,e⟩:=(show ∃t,u=Value.float b t from r);cases e;rfl
 |ref a=>cases(show u=Value.ref a from r);rfl
 |ty n=>cases(show u=Value.type n from r);rfl
section
variable{P:Program}{w:World}{H H':Hp}{h h':Heap}{a C dx:Addr}{fs fs':List (Str×V)}
theorem Z0z(hok:HOk P w H h)(e:H a=some (.ins C dx fs)):∃mA,ObjM h a dx C mA/\(∀f,RelO (fs.lookup f) (mA f))/\PySem.Within mA (fs.map (·.1))/\fs.length<=1000/\H dx=some (.own a):=by
 obtain⟨d,z,ne,ob,mA,n,r,q⟩:=(show ObjOk P w H h a (.ins C dx fs) from hok a _ e)
 exact⟨mA,⟨ob,n,ne⟩,r,q,z,d⟩
end
structure Cls(K:W.Frag)(C:Addr):Prop where
 pg:W.plainGet K C Str.empty=true
 hd:W.hasDictIn K C=true
 po:W.plainOver K C=true
 sa:W.findIn K (.ref C) "__setattr__" = some (some (.builtin "object.__setattr__"))
theorem Cls.get{K:W.Frag}{C:Addr}(c:Cls K C)(f:Str):W.plainGet K C f=true:=c.pg
def NoAttr(K:W.Frag)(C:Addr)(f:Str):Prop:=W.findIn K (.ref C) f=some none
theorem NoAttr.taker{K:W.Frag}{C:Addr}{f:Str}(n:NoAttr K C f):W.takerIn K C f=some none:=by
 unfold W.takerIn
 rw[show W.findIn K (.ref C) f=some none from n]
 rfl
structure Meth(K:W.Frag)(C:Addr)(m:Str)(f:Addr):Prop where
 at_:W.findIn K (.ref C) m=some (some (.ref f))
 fn:W.isFn K (.ref f)=true
 kp:W.keepIn K (.ref f)=true
section
variable{X:Cx}{Z2:List (Addr×Obj)}{σ:St}{H:Hp}{s:Shared}{a C dx:Addr}{fs:List (Str×V)}{f:Str}{v:V}{A:Around}{E:Value->Shared->Prop}
theorem Z1f{b:Bool}{Q:Value->Shared->Prop}(I:Inv X Z2 σ H s)(e:H a=some (.ins C dx fs))(c:Cls X.K C)(n:NoAttr X.K C f)(l:fs.lookup f=some v)
  (h:∀u s',Inv X Z2 σ H s'->RelV v u->Q u s'):wpAny (model X.prog X.w) A (getAttr (.ref a) f b) Q E s:=by
 obtain⟨mA,O,r,_,_,_⟩:=Z0z I.hok e
 obtain⟨u,hu,ru⟩:=RelO.some_of (v:=v) (o:=mA f) (by rw[← l];exact r f)
 exact Ze4 I.kIn O (c.get f) c.hd n hu (Z9i ru) (h u _ (I.tok _) ru)
theorem T2{m:Str}{g:Addr}{pl:Sem Bool}{Q:Value×List Value->Shared->Prop}(I:Inv X Z2 σ H s)(e:H a=some (.ins C dx fs))(c:Cls X.K C)(k:Meth X.K C m g)(l:fs.lookup m=none)
  (h:Q (.ref g,[.ref a]) s):wpAny (model X.prog X.w) A (getMethod (.ref a) m pl) Q E s:=by
 obtain⟨mA,O,r,_,_,_⟩:=Z0z I.hok e
 have hn:mA m=none:=RelO.none_of (by rw[← l];exact r m)
 exact Zb6 I.kIn O (c.get m) k.at_ k.fn hn h
theorem Z19{y:V}{u:Value}{Q:Unit->Shared->Prop}(I:Inv X Z2 σ H s)(e:H a=some (.ins C dx fs))(c:Cls X.K C)(n:NoAttr X.K C f)(hl:fs.length<1000)(ry:RelV y u)
  (h:∀s',Inv X Z2 σ (Zr H a (.ins C dx (Y6 f y fs))) s'->Q () s'):wpAny (model X.prog X.w) A (setAttr (.ref a) f u) Q E s:=by
 obtain⟨mA,O,r,wi,_,ho⟩:=Z0z I.hok e
 have hz:(fs.map (·.1)).length<=sizeLine:=by rw[List.length_map,sizeLine_eq];omega
 refine Zd0 I.kIn O c.sa c.po n.taker c.hd wi hz fun h' O' sb=>h _ ?_
 have hd:∃o,h'.get? dx=some o:=let⟨o,_,_,e',_⟩:=O'.ns;⟨o,e'⟩
 refine I.write (x:=a) (e:=dx) (by rw[e];exact True.intro) (.inr ho) (fun b q hb z=>(sb.2 b hb).trans z) hd ?_
 refine⟨by rw[Zo O.ne];exact ho,?_,O.ne,O'.obj,_,O'.ns,fun g=>?_,fun g hg=>?_⟩
 ·have:=Z05 f y fs;omega
 ·show RelO ((Y6 f y fs).lookup g) (if g=f then some u else mA g)
  rw[Z04]
  by_cases q:g=f
  ·rw[if_pos q,if_pos q];exact ry
  ·rw[if_neg q,if_neg q];exact r g
 ·by_cases q:g=f
  ·rw[q];exact(Jq f y fs).1
  ·refine(Jq f y fs).2 g (wi g fun z=>hg ?_)
   show(if g=f then some u else mA g)=none
   rw[if_neg q];exact z
theorem Inv.made(I:Inv X Z2 σ H s):Inv X Z2 σ (Zr (Zr H s.heap.objs.size (.own (s.heap.objs.size+1))) (s.heap.objs.size+1) (.ins C s.heap.objs.size []))
  { s with heap:=(s.heap.push W.emptyDict).push (W.instObj C s.heap.objs.size) }:=by
 have e1:(s.heap.push W.emptyDict).get? s.heap.objs.size=some W.emptyDict:=Heap.get?_push_size s.heap rfl
 have e2:((s.heap.push W.emptyDict).push (W.instObj C s.heap.objs.size)).get? (s.heap.objs.size+1)=some (W.instObj C s.heap.objs.size):=by
  have:=Heap.get?_push_size (s.heap.push W.emptyDict) (o:=W.instObj C s.heap.objs.size) rfl
  rwa [Heap.size_push]at this
 have e3:(s.heap.push W.emptyDict).Ns s.heap.objs.size (fun _=>none):=⟨W.emptyDict,#[],_,e1,rfl,(fun e he=>absurd he (by simp)),fun _=>rfl⟩
 have I1:=I.laid (a:=s.heap.objs.size) (o:=.own (s.heap.objs.size+1)) (h':=s.heap.push W.emptyDict) (t':=s.toks) (fun b u q=>Heap.get?_push_of_some _ q) (Nat.le_refl _) ⟨_,e1⟩
 refine I1.laid (a:=s.heap.objs.size+1) (o:=.ins C s.heap.objs.size []) (t':=s.toks) (fun b u q=>Heap.get?_push_of_some _ q) (Nat.le_of_eq (Heap.size_push _ _)) ?_
 have ne:s.heap.objs.size≠s.heap.objs.size+1:=Nat.ne_of_lt (Nat.lt_succ_self _)
 refine⟨by rw[Zo ne,Z5],Nat.zero_le _,ne,e2,fun _=>none,(Heap.Ns1.of_empty e3).at fun o q=>Heap.get?_push_of_some _ q,fun _=>True.intro,fun y hy=>absurd rfl hy⟩
theorem Zed{prog:Program}{w:World}{env:Env}{e:Expr}{f:Str}{pos:Pos}{s:Shared}{Q:Value->Shared->Prop}(hb:attributeBase e f env (eval e env)=eval e env)
  (h:wpAny (model prog w) A (eval e env) (fun o s₁=>wpAny (model prog w) A (getAttr o f true) Q E s₁) E s):wpAny (model prog w) A (eval (.Attribute e f pos) env) Q E s :=
 Attribute_any_ h (by rw[arm_eval_Attribute,hb])
end
def Zi7(K:W.Frag)(ta:TE)(f:Str):TE:=fun σ H Q=>ta σ H fun x H1=>∃a C dx fs v,x=.ref a/\H1 a=some (.ins C dx fs)/\Cls K C/\NoAttr K C f/\fs.lookup f=some v/\Q v H1
def Z9s(K:W.Frag)(ta tv:TE)(f:Str):TS:=fun D σ H=>tv σ H fun y H1=>ta σ H1 fun x H2=>∃a C dx fs,x=.ref a/\H2 a=some (.ins C dx fs)/\Cls K C/\NoAttr K C f/\fs.length<1000 /\
 D.nx σ (Zr H2 a (.ins C dx (Y6 f y fs)))
def Zh6(X:Cx)(op:Operator)(rd:V->V->Hp->VK->Prop):Prop :=
 ∀(Z2:List (Addr×Obj)) (s:Shared) (σ:St) (H:Hp) (x y:V) (u v:Value) (Q:VK),Inv X Z2 σ H s->RelV x u->RelV y v->rd x y H Q->wpAny (model X.prog X.w) X.A (inplaceOp op u v) (EP X Z2 σ Q) X.xe s
def Zd4(K:W.Frag)(ta tv:TE)(rd:V->V->Hp->VK->Prop)(f:Str):TS:=fun D σ H=>ta σ H fun x H1=>∃a C dx fs v,x=.ref a/\H1 a=some (.ins C dx fs)/\Cls K C/\NoAttr K C f/\fs.lookup f=some v /\
 tv σ H1 fun y H2=>rd v y H2 fun z H3=>∃dx' fs',H3 a=some (.ins C dx' fs')/\fs'.length<1000/\D.nx σ (Zr H3 a (.ins C dx' (Y6 f z fs')))
section
variable{X:Cx}{o e value:Expr}{f:Str}{pos pos' tpos:Pos}{ta tv:TE}{Z2:List (Addr×Obj)}{σ:St}{H:Hp}{s:Shared}{A:Around}{E Q:Value->Shared->Prop}{c:Value}{b:Bool}
theorem Zn(he:PE X e ta)(hb:attributeBase e f X.env (eval e X.env)=eval e X.env):PE X (.Attribute e f pos) (Zi7 X.K ta f):=by
 intro Z2 s σ H Q I h
 refine Zed hb (Xs (he Z2 s σ H _ I h) fun u s1 ⟨x,H1,I1,rx,a,C,dx,fs,v,ex,ea,c,n,l,q⟩=>?_)
 subst ex
 obtain rfl:u=Value.ref a:=rx
 exact Z1f I1 ea c n l fun u' s2 I2 ru=>⟨v,H1,I2,ru,q⟩
theorem Ya(ha:PE X o ta)(hv:PE X value tv)(hs:swapsWith value (some (.Attribute o f pos')) pos.line X.env=pure false):PS X (.Assign [.Attribute o f pos'] value pos) (Z9s X.K ta tv f):=by
 intro Z2 s σ H D I h
 refine plainObj_wpAny_Assign_Attribute (Xs (hv Z2 s σ H _ I h) fun u s1 ⟨y,H1,I1,ry,q⟩=>Xs (ha Z2 s1 σ H1 _ I1 q) fun ov s2 ⟨x,H2,I2,rx,a,C,dx,fs,ex,ea,c,n,l,q2⟩=>?_) hs
 subst ex
 obtain rfl:ov=Value.ref a:=rx
 exact Z19 I2 ea c n l ry fun s3 I3=>⟨σ,_,I3,q2⟩
theorem Us{op:Operator}{rd:V->V->Hp->VK->Prop}(ha:PE X o ta)(hv:PE X value tv)(hop:Zh6 X op rd):PS X (.AugAssign (.Attribute o f tpos) op value pos) (Zd4 X.K ta tv rd f):=by
 intro Z2 s σ H D I h
 refine wpAny_AugAssign_AttributeAny (Xs (ha Z2 s σ H _ I h) fun ov s1 ⟨x,H1,I1,rx,a,C,dx,fs,v,ex,ea,c,n,l,q⟩=>?_)
 subst ex
 obtain rfl:ov=Value.ref a:=rx
 refine Z1f I1 ea c n l fun u s2 I2 ru=>Xs (hv Z2 s2 σ H1 _ I2 q) fun w3 s3 ⟨y,H2,I3,ry,q3⟩=>Xs (hop Z2 s3 σ H2 v y u w3 _ I3 ru ry q3) fun w4 s4 ⟨z,H3,I4,rz,dx',fs',ea',l',q4⟩=>?_
 exact Z19 I4 ea' c n l' rz fun s5 I5=>⟨σ,_,I5,q4⟩
def Zjj:V->V->Hp->VK->Prop:=fun x y H Q=>∃i j,x=.int i/\y=.int j/\Q (.int (i+j)) H
def Zje:V->V->Hp->VK->Prop:=fun x y H Q=>∃i j,x=.int i/\y=.int j/\Q (.int (i-j)) H
theorem Z7e:Zh6 X .Add Zjj:=by
 rintro Z2 s σ H x y u v Q I rx ry ⟨i,j,rfl,rfl,q⟩
 obtain⟨t,rfl⟩:=(show ∃t,u=Value.int i t from rx)
 obtain⟨t',rfl⟩:=(show ∃t',v=Value.int j t' from ry)
 exact PyProof.Rows.iadd_int ⟨.int (i+j),H,I.tok _,⟨_,rfl⟩,q⟩
theorem Zgl:Zh6 X .Sub Zje:=by
 rintro Z2 s σ H x y u v Q I rx ry ⟨i,j,rfl,rfl,q⟩
 obtain⟨t,rfl⟩:=(show ∃t,u=Value.int i t from rx)
 obtain⟨t',rfl⟩:=(show ∃t',v=Value.int j t' from ry)
 exact PyProof.Rows.isub_int ⟨.int (i-j),H,I.tok _,⟨_,rfl⟩,q⟩
theorem methcall_of{pl:Sem Bool}{m:Str}{apos:Pos}{args:List Expr}{Z2:List (Addr×Obj)}{s:Shared}{σ:St}{H:Hp}{Q:Value->Shared->Prop}{te:TE}(he:PE X e te)(I:Inv X Z2 σ H s)
  (h:te σ H fun x H1=>∃a C dx fs g,x=.ref a/\H1 a=some (.ins C dx fs)/\Cls X.K C/\Meth X.K C m g/\fs.lookup m=none /\
   ∀s1,Inv X Z2 σ H1 s1->wpAny (model X.prog X.w) X.A (callWith pos (.ref g) [.ref a] (backTo pos (starEach args X.env)) (backToKw pos (keywordEach [] X.env))) Q X.xe s1)
  (ht:eval (.Call (.Attribute e m apos) args [] pos) X.env=(do
   let ov ← eval e X.env
   standAt apos.atName
   let(f,first) ← holding [ov] (getMethod ov m pl)
   callWith pos f first (backTo pos (starEach args X.env)) (backToKw pos (keywordEach [] X.env)))) :
  wpAny (model X.prog X.w) X.A (eval (.Call (.Attribute e m apos) args [] pos) X.env) Q X.xe s:=by
 refine W.methodCall_KW (pl:=pl) (Xs (he Z2 s σ H _ I h) fun u s1 ⟨x,H1,I1,rx,a,C,dx,fs,g,ex,ea,c,k,l,q⟩=>?_) ht
 subst ex
 obtain rfl:u=Value.ref a:=rx
 exact T2 I1 ea c k l (q s1 I1)
inductive TyOf(K:W.Frag)(H:Hp):V->Value->Prop where
 |non:TyOf K H .non (.type "NoneType")
 |bl (x:Bool):TyOf K H (.bl x) (.type "bool")
 |int (i:Int):TyOf K H (.int i) (.type "int")
 |str (x:Str):TyOf K H (.str x) (.type "str")
 |flt (x:UInt64):TyOf K H (.flt x) (.type "float")
 |lst {a:Addr} {xs:List V} (e:H a=some (.lst xs)):TyOf K H (.ref a) (.type "list")
 |frz {a:Addr} {o:Obj} {xs:List V} (e:H a=some (.frz o (.lst xs))):TyOf K H (.ref a) (.type "list")
 |tup {a:Addr} {xs:List V} (e:H a=some (.tup xs)):TyOf K H (.ref a) (.type "tuple")
 |dK {a:Addr} {kvs:List (Uh×V)} (e:H a=some (.dK kvs)):TyOf K H (.ref a) (.type "dict")
 |dT {a:Addr} {kvs:List (List Uh×V)} (e:H a=some (.dT kvs)):TyOf K H (.ref a) (.type "dict")
 |ins {a C dx:Addr} {fs:List (Str×V)} (e:H a=some (.ins C dx fs)) (cl:Cls K C) (ha:W.findIn K (.ref C) "__class__" = some (some (.builtin "object.__class__")))
   (hn:W.specialIn K (.builtin "object.__class__") "__get__" = some (some (.builtin "getset_descriptor.__get__"))) (htk:W.takesIn K (.builtin "object.__class__")=some true)
   (hm:W.mroIn K C (.type "object")=some true):TyOf K H (.ref a) (.ref C)
theorem Z9f{x:V}{u t:Value}(I:Inv X Z2 σ H s)(rx:RelV x u)(ty:TyOf X.K H x t)(e:W.kitOne X.K t c=some b)(h:∀tk,Q (.bool b) { s with toks:=tk }) :
  wpAny (model X.prog X.w) A (call (.builtin "isinstance") [u,c]) Q E s:=by
 cases ty with
 |non=>cases(show u=Value.none from rx);exact W.kia_one W.kitx_none I.kIn True.intro e (fun z=>nomatch z) h
 |bl y=>cases(show u=Value.bool y from rx);exact W.kia_one W.kitx_bool I.kIn True.intro e (fun z=>nomatch z) h
 |int i=>obtain⟨t,q⟩:=(show ∃t,u=Value.int i t from rx);cases q;exact W.kia_one W.kitx_int I.kIn True.intro e (fun z=>nomatch z) h
 |str y=>obtain⟨t,q⟩:=(show ∃t,u=Value.str y t from rx);cases q;exact W.kia_one W.kitx_str I.kIn True.intro e (fun z=>nomatch z) h
 |flt y=>obtain⟨t,q⟩:=(show ∃t,u=Value.float y t from rx);cases q;exact W.kia_one W.kitx_float I.kIn True.intro e (fun z=>nomatch z) h
 | @lst a xs ea =>
  cases(show u=Value.ref a from rx)
  obtain⟨_,_,n,_,h1⟩:=(show ObjOk X.prog X.w H s.heap a (.lst xs) from I.hok a _ ea)
  exact W.kia_one W.kitx_list I.kIn ⟨_,h1,rfl⟩ e (fun z=>nomatch z) h
 | @frz a ob xs ea =>
  cases(show u=Value.ref a from rx)
  obtain⟨_,_,_,n,_,h1⟩:=(show ObjOk X.prog X.w H s.heap a (.frz ob (.lst xs)) from I.hok a _ ea)
  exact W.kia_one W.kitx_list I.kIn ⟨_,h1,rfl⟩ e (fun z=>nomatch z) h
 | @tup a xs ea =>
  cases(show u=Value.ref a from rx)
  obtain⟨_,_,_,p⟩:=(show ObjOk X.prog X.w H s.heap a (.tup xs) from I.hok a _ ea)
  obtain⟨o,h1,h2,_⟩:=p
  exact W.kia_one W.kitx_tuple I.kIn ⟨o,h1,h2⟩ e (fun z=>nomatch z) h
 | @dK a kvs ea =>
  cases(show u=Value.ref a from rx)
  obtain⟨_,_,vs,_,p⟩:=(show ObjOk X.prog X.w H s.heap a (.dK kvs) from I.hok a _ ea)
  obtain⟨o,es,ep,h1,h2,_⟩:=p
  exact W.kia_one W.kitx_dict I.kIn ⟨o,h1,h2.1⟩ e (fun z=>nomatch z) h
 | @dT a kvs ea =>
  cases(show u=Value.ref a from rx)
  obtain⟨_,_,xs,_,o,es,ep,h1,h2,_⟩:=(show ObjOk X.prog X.w H s.heap a (.dT kvs) from I.hok a _ ea)
  exact W.kia_one W.kitx_dict I.kIn ⟨o,h1,h2.1⟩ e (fun z=>nomatch z) h
 | @ins a C dx fs ea cl ha hn htk hm =>
  cases(show u=Value.ref a from rx)
  obtain⟨mA,O,_⟩:=Z0z I.hok ea
  obtain⟨od,J,_⟩:=O.look
  exact W.kia_one (W.kitx_own (cl.get _) cl.hd ha hn htk hm) I.kIn J e (fun z=>nomatch z) h
end
structure Room(k:Nat)(A:Around):Prop where
 hd:A.handled=none
 dp:A.depth+3*k+5<recursionLimit
 un:A.units+16*k+200<cLine
theorem Room.mono{j k:Nat}{A:Around}(r:Room k A)(h:j<=k):Room j A:=⟨r.hd,by have:=r.dp;omega,by have:=r.un;omega⟩
theorem Room.deeper{k:Nat}{A:Around}(r:Room (k+1) A)(env:Env):Room k (A.deeper env) :=
 ⟨r.hd,by have:=r.dp;show A.depth+1+3*k+5<_;omega,by have:=r.un;show A.units+3+16*k+200<_;omega⟩
theorem Z6p{A:Around}{C:Addr}{us:List Value}{kw:List (Str×Value)}:(A.under (.builtin "type.__call__" ⟨.ref C::us,kw⟩)).depth=A.depth+1:=by
 first | rfl | simp[Around.under,Code.weight,Code.isCreation,Code.isGuard,Code.isCaller,Code.frames,Code.isFrame,guardIds]
theorem Z6o{A:Around}{C:Addr}{us:List Value}{kw:List (Str×Value)}:(A.under (.builtin "type.__call__" ⟨.ref C::us,kw⟩)).units=A.units+1:=by
 first | rfl | simp[Around.under,Code.cUnits,Code.frames,Code.isFrame]
theorem Room.make{k:Nat}{A:Around}(r:Room (k+1) A)(C:Addr)(us:List Value)(kw:List (Str×Value)):Room k (A.under (.builtin "type.__call__" ⟨.ref C::us,kw⟩)) :=
 ⟨r.hd,by have:=r.dp;rw[Z6p];omega,by have:=r.un;rw[Z6o];omega⟩
theorem Room.depth{k:Nat}{A:Around}(r:Room k A):A.depth<recursionLimit:=by have:=r.dp;omega
theorem Room.units0{k:Nat}{A:Around}(r:Room k A):A.units<cLine:=by have:=r.un;omega
def Z46:TA:=fun _ H Q=>Q [] H
def Z8i(ta:TE)(tr:TA):TA:=fun σ H Q=>ta σ H fun x H1=>tr σ H1 fun xs H2=>Q (x::xs) H2
section
variable{X:Cx}{e:Expr}{es:List Expr}{te:TE}{t:TA}{pos:Pos}
theorem Z3:PA X [] Z46:=fun _ _ _ _ H Q I h=>Calls.spliced_nil ⟨[],H,I,.nil,h⟩
theorem Z0(ha:PE X e te)(hr:PA X es t)(hs:starEach (e::es) X.env=(false,eval e X.env)::starEach es X.env:=by rfl):PA X (e::es) (Z8i te t):=by
 intro pos Z2 s σ H Q I h
 rw[hs]
 show wpAny _ _ (spliced ((false,eval e X.env)::backTo pos (starEach es X.env))) _ _ s
 refine Calls.spliced_cons (Xs (ha Z2 s σ H _ I h) fun u s1 ⟨x,H1,I1,r1,q1⟩=>?_)
 exact Xs (hr pos Z2 s1 σ H1 _ I1 q1) fun us s2 ⟨xs,H2,I2,r2,q2⟩=>⟨x::xs,H2,I2,.cons r1 r2,q2⟩
def Zcf(t:TA):TE:=fun σ H Q=>t σ H fun xs H1=>xs.length<=sizeLine/\∀p,H1 p=none->Q (.ref p) (Zr H1 p (.tup xs))
def Zi5(t:TA):TE:=fun σ H Q=>t σ H fun xs H1=>xs.length<=sizeLine/\∀p,H1 p=none->Q (.ref p) (Zr H1 p (.lst xs))
theorem Zz{x1}(h:PA X es t):PE X (.Tuple es x1 pos) (Zcf t):=by
 intro Z2 s σ H Q I hq
 refine wpAny_Tuple_spliced (Xs (h pos Z2 s σ H _ I hq) fun us s1 ⟨xs,H1,I1,r,z,q⟩=>⟨by rw[← r.length];exact z,?_⟩)
 have hf:H1 s1.heap.objs.size=none:=I1.hok.fresh (Nat.le_refl _)
 refine⟨.ref s1.heap.objs.size,Zr H1 s1.heap.objs.size (.tup xs),I1.laid (t':=s1.toks) (fun b u e=>Heap.get?_push_of_some _ e) (Nat.le_refl _) ?_,rfl,q _ hf⟩
 exact⟨z,us,r,⟨_,Heap.get?_push_size _ rfl,rfl,_,rfl⟩⟩
theorem Wt(h:PA X es t):PE X (.List es pos) (Zi5 t):=by
 intro Z2 s σ H Q I hq
 refine wpAny_List_spliced (Xs (h pos Z2 s σ H _ I hq) fun us s1 ⟨xs,H1,I1,r,z,q⟩=>⟨by rw[← r.length];exact z,?_⟩)
 have hf:H1 s1.heap.objs.size=none:=I1.hok.fresh (Nat.le_refl _)
 refine⟨.ref s1.heap.objs.size,Zr H1 s1.heap.objs.size (.lst xs),I1.laid (t':=s1.toks) (fun b u e=>Heap.get?_push_of_some _ e) (Nat.le_refl _) ?_,rfl,q _ hf⟩
 exact⟨z,us,0,r,Heap.get?_push_size _ rfl⟩
end
abbrev Sp:=List V->Hp->VK->XK->Prop
abbrev Z9w:=List Env->Hp->Shared->XK->Value->Shared->Prop
structure Env0(P:Program)(w:World)(K:W.Frag)(mg:Str->Option Value)(base:Heap)(A:Around)(outer:List Env)(s:Shared)(H:Hp):Prop where
 frames:A.frames=some outer
 mod:Mod K mg base
 bs:∀b o,base.get? b=some o->s.heap.get? b=some o/\H b=none
 bsz:base.objs.size<=s.heap.objs.size
 funs:s.heap.FunFrames base outer
 frf:∀b∈Z0o outer,H b=none
 hok:HOk P w H s.heap
 bare:AllBare s.gens
def CE(outer:List Env)(P:Program)(w:World)(H:Hp)(s:Shared)(Q:VK)(u:Value)(s':Shared):Prop :=
 ∃v H',s'.os=s.os/\AllBare s'.gens/\Un (Z0o outer) [] H H' s.heap s'.heap/\HOk P w H' s'.heap/\RelV v u/\Q v H'
def CR(CX:Z9w)(outer:List Env)(P:Program)(w:World)(H:Hp)(s:Shared)(Q:VK)(E:XK)(r:Result)(s':Shared):Prop :=
 match r with
 |.ok (.ret u)=>CE outer P w H s Q u s'
 |.ok _=>False
 |.error e=>CX outer H s E e s'
structure FnOk(P:Program)(w:World)(K:W.Frag)(mg:Str->Option Value)(base:Heap)(CX:Z9w)(k:Nat)(f:Addr)(fd:FuncData)(ps:List Str)(sp:Sp):Prop where
 len:∀vs H Q E,sp vs H Q E->vs.length=ps.length
 run:∀(A:Around) (outer:List Env) (s:Shared) (H:Hp) (args:Args) (us:List Value) (vs:List V) (Q:VK) (E:XK),Room k A->Env0 P w K mg base A outer s H->BindsTo s fd args (ps.zip us)->Vals vs us->sp vs H Q E ->
  codeAny (model P w) A (.call (.ref f) args) (CR CX outer P w H s Q E) s
theorem FnOk.mono{P:Program}{w:World}{K:W.Frag}{mg:Str->Option Value}{base:Heap}{CX:Z9w}{j k:Nat}{f:Addr}{fd:FuncData}{ps:List Str}{sp:Sp}(F:FnOk P w K mg base CX j f fd ps sp)(h:j<=k) :
  FnOk P w K mg base CX k f fd ps sp:=⟨F.len,fun A outer s H args us vs Q E hr=>F.run A outer s H args us vs Q E (hr.mono h)⟩
theorem FnOk.imp{P:Program}{w:World}{K:W.Frag}{mg:Str->Option Value}{base:Heap}{CX:Z9w}{k:Nat}{f:Addr}{fd:FuncData}{ps:List Str}{sp sp':Sp}(F:FnOk P w K mg base CX k f fd ps sp)
  (h:∀vs H Q E,sp' vs H Q E->sp vs H Q E):FnOk P w K mg base CX k f fd ps sp' :=
 ⟨fun vs H Q E q=>F.len vs H Q E (h _ _ _ _ q),fun A outer s H args us vs Q E hr he hb hv hs=>F.run A outer s H args us vs Q E hr he hb hv (h _ _ _ _ hs)⟩
theorem Env0.make{P:Program}{w:World}{K:W.Frag}{mg:Str->Option Value}{base:Heap}{A:Around}{outer:List Env}{s:Shared}{H:Hp}(e:Env0 P w K mg base A outer s H)(C:Addr)(us:List Value)(kw:List (Str×Value)) :
  Env0 P w K mg base (A.under (.builtin "type.__call__" ⟨.ref C::us,kw⟩)) outer s H:=⟨by first | exact e.frames | (simpa[Around.under,Code.envs,Code.isFrame,pushEnvs] using e.frames),e.mod,e.bs,e.bsz,e.funs,e.frf,e.hok,e.bare⟩
section
variable{X:Cx}{Z2:List (Addr×Obj)}{σ:St}{H:Hp}{s s':Shared}
theorem Inv.env0(I:Inv X Z2 σ H s):Env0 X.prog X.w X.K X.mg X.base X.A X.stack s H :=
 ⟨I.ok.frames,I.ok.mod,I.bs,Nat.le_trans I.ok.bsz I.sz,I.stack,I.stkFree,I.hok,I.bare⟩
theorem Inv.after{Q:VK}{u:Value}(I:Inv X Z2 σ H s)(h:CE X.stack X.prog X.w H s Q u s'):EP X Z2 σ Q u s':=by
 obtain⟨v,H',os,bare,un,hok,r,q⟩:=h
 obtain⟨hh,g,d,t,os'⟩:=s'
 obtain rfl:os'=s.os:=os
 exact⟨v,H',I.call (h':=hh) (g':=g) (d':=d) (t':=t) (ch:=[]) un hok bare (fun b z=>absurd z (by simp)),r,q⟩
end
def Zc4(sp:Sp)(dvs:List V)(E:XK)(t:TA):TE:=fun σ H Q=>t σ H fun vs H1=>sp (vs++dvs) H1 Q E
def Z5q(C:Addr)(m:Str)(sp:Sp)(dvs:List V)(E:XK)(ta:TE)(t:TA):TE:=fun σ H Q=>ta σ H fun x H1=>∃a dx fs,x=.ref a/\H1 a=some (.ins C dx fs)/\fs.lookup m=none /\
 t σ H1 fun vs H2=>sp (x::(vs++dvs)) H2 Q E
def Zes(C:Addr)(sp:Sp)(dvs:List V)(E:XK)(t:TA):TE:=fun σ H Q=>t σ H fun vs H1=>∀x dx,H1 x=none->H1 dx=none->dx≠x ->
 sp (.ref x::(vs++dvs)) (Zr (Zr H1 dx (.own x)) x (.ins C dx [])) (fun v H2=>v=.non/\Q (.ref x) H2) E
def Binds(K:W.Frag)(fd:FuncData)(ps:List Str)(ds:List Value):Prop :=
 ∀(s:Shared) (us:List Value),K.In s.heap->(us++ds).length=ps.length->BindsTo s fd ⟨us,[]⟩ (ps.zip (us++ds))
theorem Binds.all{K:W.Frag}{fd:FuncData}{ps:List Str}(h:∀us:List Value,us.length=ps.length->bindArgs fd ⟨us,[]⟩=pure (ps.zip us)):Binds K fd ps []:=fun s us _ hl=>by
 rw[List.append_nil]at hl ⊢
 exact .of_eq (h us hl)
def Vb(CX:Z9w)(X:Cx)(E:XK):Prop:=∀(Z2:List (Addr×Obj)) (σ:St) (H:Hp) (s:Shared) (e:Value) (s':Shared),Inv X Z2 σ H s->CX X.stack H s E e s'->X.xe e s'
section
variable{X:Cx}{CX:Z9w}{k:Nat}{f C:Addr}{fd:FuncData}{ps:List Str}{sp:Sp}{dvs:List V}{ds:List Value}{E:XK}{x m:Str}{p pos apos:Pos}{e o:Expr}{es:List Expr}{ta:TE}{t:TA}
theorem Z4c{Z2:List (Addr×Obj)}{σ:St}{H:Hp}{s:Shared}{Q:VK}{us:List Value}{vs:List V}(F:FnOk X.prog X.w X.K X.mg X.base CX k f fd ps sp)(hr:Room k X.A)(hb:Binds X.K fd ps ds)(hd:Vals dvs ds)(hx:Vb CX X E)
  (I:Inv X Z2 σ H s) (r:Vals vs us) (h:sp (vs++dvs) H Q E):wpAny (model X.prog X.w) X.A (call (.ref f) us) (EP X Z2 σ Q) X.xe s:=by
 have r2:Vals (vs++dvs) (us++ds):=r.append hd
 have hl:(us++ds).length=ps.length:=by rw[← r2.length];exact F.len _ _ _ _ h
 refine wpAny_call (codeAny_mono (F.run X.A X.stack s H ⟨us,[]⟩ (us++ds) (vs++dvs) Q E hr I.env0 (hb s us I.kIn hl) r2 h) fun r s' hq=>?_)
 cases r with
 |error e=>exact hx Z2 σ H s e s' I hq
 |ok fl =>
  cases fl with
  |ret u=>exact I.after hq
  |next=>exact False.elim hq
  |brk=>exact False.elim hq
  |cont=>exact False.elim hq
theorem Z7v(F:FnOk X.prog X.w X.K X.mg X.base CX k f fd ps sp)(hr:Room k X.A)(hg:Gl X x)(hm:X.mg x=some (.ref f))(hk:W.keepIn X.K (.ref f)=true)(hb:Binds X.K fd ps ds)(hd:Vals dvs ds)(hx:Vb CX X E)
  (ha:PA X (e::es) t) (hdb:(x==("__debug__":Str))=false:=by decide) (he:starEach (e::es) X.env=(false,eval e X.env)::starEach es X.env:=by rfl) (hpl:(backTo pos (starEach es X.env)).any (·.1)=false:=by rfl) :
  PE X (.Call (.Name x p) (e::es) [] pos) (Zc4 sp dvs E t):=by
 intro Z2 s σ H Q I h
 refine wpAny_Call_Name_kw (Ja I hg hm ?_ hdb)
 refine W.callWith_K (h₀:=X.base) I.ok.mod.kin hk (Xs (ha pos Z2 s σ H _ I h) fun us s1 ⟨vs,H1,I1,r,q⟩=>⟨I1.kIn,?_⟩) he hpl
 exact Z4c F hr hb hd hx I1 r q
theorem Z7u{pl:Sem Bool}(he:PE X o ta)(c:Cls X.K C)(hm:Meth X.K C m f)(F:FnOk X.prog X.w X.K X.mg X.base CX k f fd ps sp)(hr:Room k X.A)(hb:Binds X.K fd ps ds)(hd:Vals dvs ds)(hx:Vb CX X E)(ha:PA X (e::es) t)
  (hst:starEach (e::es) X.env=(false,eval e X.env)::starEach es X.env:=by rfl) (hpl:(backTo pos (starEach es X.env)).any (·.1)=false:=by rfl)
  (ht:eval (.Call (.Attribute o m apos) (e::es) [] pos) X.env=(do
   let ov ← eval o X.env
   standAt apos.atName
   let(f,first) ← holding [ov] (getMethod ov m pl)
   callWith pos f first (backTo pos (starEach (e::es) X.env)) (backToKw pos (keywordEach [] X.env))):=by rfl) :
  PE X (.Call (.Attribute o m apos) (e::es) [] pos) (Z5q C m sp dvs E ta t):=by
 intro Z2 s σ H Q I h
 refine W.methodCall_KW (pl:=pl) (Xs (he Z2 s σ H _ I h) fun u s1 ⟨x,H1,I1,rx,a,dx,fs,ex,ea,l,q⟩=>?_) ht
 subst ex
 obtain rfl:u=Value.ref a:=rx
 refine T2 I1 ea c hm l ?_
 refine W.callWith_K (first:=[.ref a]) (h₀:=X.base) I.ok.mod.kin hm.kp (Xs (ha pos Z2 s1 σ H1 _ I1 q) fun us s2 ⟨vs,H2,I2,r,q2⟩=>⟨I2.kIn,?_⟩) hst hpl
 exact Z4c (us:=.ref a::us) (vs:=.ref a::vs) F hr hb hd hx I2 (.cons rfl r) q2
theorem Zaa{pl:Sem Bool}(he:PE X o ta)(c:Cls X.K C)(hm:Meth X.K C m f)(F:FnOk X.prog X.w X.K X.mg X.base CX k f fd ps sp)(hr:Room k X.A)(hb:Binds X.K fd ps ds)(hd:Vals dvs ds)(hx:Vb CX X E)
  (ht:eval (.Call (.Attribute o m apos) [] [] pos) X.env=(do
   let ov ← eval o X.env
   standAt apos.atName
   let(f,first) ← holding [ov] (getMethod ov m pl)
   callWith pos f first (backTo pos (starEach [] X.env)) (backToKw pos (keywordEach [] X.env))):=by rfl) :
  PE X (.Call (.Attribute o m apos) [] [] pos) (Z5q C m sp dvs E ta Z46):=by
 intro Z2 s σ H Q I h
 refine W.methodCall_KW (pl:=pl) (Xs (he Z2 s σ H _ I h) fun u s1 ⟨x,H1,I1,rx,a,dx,fs,ex,ea,l,q⟩=>?_) ht
 subst ex
 obtain rfl:u=Value.ref a:=rx
 refine T2 I1 ea c hm l ?_
 exact W.callWith_K0 (first:=[.ref a]) I1.kIn hm.kp (Z4c (us:=[.ref a]) (vs:=[.ref a]) F hr hb hd hx I1 (.cons rfl .nil) q)
structure Mk(K:W.Frag)(C f:Addr):Prop where
 makes:W.makesIn K C=true
 init:W.findIn K (.ref C) "__init__" = some (some (.ref f))
 fn:W.isFn K (.ref f)=true
 kp:W.keepIn K (.ref C)=true
theorem Za5{Z2:List (Addr×Obj)}{σ:St}{H:Hp}{s:Shared}{Q:VK}{us:List Value}{vs:List V}(M:Mk X.K C f)(F:FnOk X.prog X.w X.K X.mg X.base CX k f fd ps sp)(hr:Room (k+1) X.A)(hb:Binds X.K fd ps ds)(hd:Vals dvs ds)
  (hx:Vb CX X E) (I:Inv X Z2 σ H s) (r:Vals vs us)
  (h:∀x dx,H x=none->H dx=none->dx≠x->sp (.ref x::(vs++dvs)) (Zr (Zr H dx (.own x)) x (.ins C dx [])) (fun v H2=>v=.non/\Q (.ref x) H2) E) :
  wpAny (model X.prog X.w) X.A (call (.ref C) us) (EP X Z2 σ Q) X.xe s:=by
 have hq:=h (s.heap.objs.size+1) s.heap.objs.size (I.hok.fresh (Nat.le_succ _)) (I.hok.fresh (Nat.le_refl _)) (Nat.ne_of_lt (Nat.lt_succ_self _))
 have I2:=Inv.made (C:=C) I
 have r2:Vals (V.ref (s.heap.objs.size+1)::(vs++dvs)) (Value.ref (s.heap.objs.size+1)::(us++ds)):=.cons rfl (r.append hd)
 have hl:(Value.ref (s.heap.objs.size+1)::us++ds).length=ps.length:=by
  have e:=r2.length
  rw[F.len _ _ _ _ hq]at e
  exact e.symm
 refine wpAny_call (Zax (f:=f) I.kIn M.makes M.init (beq_iff_eq.mp M.fn) (codeAny_mono (F.run _ X.stack _ _ ⟨Value.ref (s.heap.objs.size+1)::us,[]⟩ (Value.ref (s.heap.objs.size+1)::(us++ds)) _ _ E (hr.make C us [])
  (I2.env0.make C us []) (hb _ (Value.ref (s.heap.objs.size+1)::us) I2.kIn hl) r2 hq) fun r s' hq'=>?_))
 cases r with
 |error e=>exact hx Z2 σ _ _ e s' I2 hq'
 |ok fl =>
  cases fl with
  |ret u =>
   obtain⟨v,H',I3,rv,ev,q3⟩:=I2.after hq'
   subst ev
   exact⟨rv,⟨V.ref (s.heap.objs.size+1),H',I3,rfl,q3⟩⟩
  |next=>exact False.elim hq'
  |brk=>exact False.elim hq'
  |cont=>exact False.elim hq'
theorem Zdc(M:Mk X.K C f)(F:FnOk X.prog X.w X.K X.mg X.base CX k f fd ps sp)(hr:Room (k+1) X.A)(hg:Gl X x)(hm:X.mg x=some (.ref C))(hb:Binds X.K fd ps ds)(hd:Vals dvs ds)(hx:Vb CX X E)
  (ha:PA X (e::es) t) (hdb:(x==("__debug__":Str))=false:=by decide) (he:starEach (e::es) X.env=(false,eval e X.env)::starEach es X.env:=by rfl) (hpl:(backTo pos (starEach es X.env)).any (·.1)=false:=by rfl) :
  PE X (.Call (.Name x p) (e::es) [] pos) (Zes C sp dvs E t):=by
 intro Z2 s σ H Q I h
 refine wpAny_Call_Name_kw (Ja I hg hm ?_ hdb)
 refine W.callWith_K (h₀:=X.base) I.ok.mod.kin M.kp (Xs (ha pos Z2 s σ H _ I h) fun us s1 ⟨vs,H1,I1,r,q⟩=>⟨I1.kIn,?_⟩) he hpl
 exact Za5 M F hr hb hd hx I1 r q
end
def PK(X:Cx)(kws:List Keyword)(t:TA):Prop :=
 ∀(pos:Pos) (Z2:List (Addr×Obj)) (s:Shared) (σ:St) (H:Hp) (Q:List V->Hp->Prop),Inv X Z2 σ H s->t σ H Q->wpAny (model X.prog X.w) X.A (evalAll ((backToKw pos (keywordEach kws X.env)).map (·.2))) (AP X Z2 σ Q) X.xe s
section
variable{X:Cx}{CX:Z9w}{k:Nat}{f C:Addr}{fd:FuncData}{ps ks:List Str}{sp:Sp}{E:XK}{x m:Str}{p pos apos kpos:Pos}{e o:Expr}{es:List Expr}{kws:List Keyword}{te ta:TE}{t tk:TA}{nm:Option Str}
theorem Zg0:PK X [] Z46:=fun _ _ _ _ H Q I h=>wpAny_evalAll_nil ⟨[],H,I,.nil,h⟩
theorem Zd9(ha:PE X e te)(hr:PK X kws t):PK X (⟨nm,e,kpos⟩::kws) (Z8i te t):=by
 intro pos Z2 s σ H Q I h
 show wpAny _ _ (evalAll ((do let v ← eval e X.env;standAt pos;pure v)::(backToKw pos (keywordEach kws X.env)).map (·.2))) _ _ s
 refine wpAny_evalAll_cons (wpAny_bind (Xs (ha Z2 s σ H _ I h) fun u s1 ⟨x,H1,I1,r1,q1⟩=>wpAny_bind (wpAny_standAt (wpAny_pure ?_))))
 exact Xs (hr pos Z2 s1 σ H1 _ I1 q1) fun us s2 ⟨xs,H2,I2,r2,q2⟩=>⟨x::xs,H2,I2,.cons r1 r2,q2⟩
variable{g:List Value->List Value->List Value}{gV:List V->List V->List V}
end
structure FnScope(N P:List Str)(sc:Scope):Prop where
 kind:sc.kind=.function
 co:sc.isCoroutine=false
 gen:sc.isGenerator=false
 nd:N.Nodup
 pre:N.take P.length=P
 par:∀x∈P,sc.names.lookup x=some .local∨sc.names.lookup x=some .cell
 nofree:∀y∈sc.names,y.2≠.free
theorem Z2z{kindOf:Str->Option NameKind}{x:Str}:∀ {binds:List (Str×Value)} {m:Str->Option Value},(∀v,(x,v)∉binds)->bindL kindOf binds m x=m x
 | [],_,_=>rfl
 |(n,v)::r,m,h=>by
  unfold bindL
  rw[Z2z fun w hw=>h w (List.mem_cons_of_mem _ hw)]
  split
  ·have:x≠n:=by rintro rfl;exact h v List.mem_cons_self
   simp[this]
  ·rfl
theorem Z31{kindOf:Str->Option NameKind}{x:Str}:∀ {binds:List (Str×Value)} {m:Str->Option Value},(∀v,(x,v)∉binds)->bindC kindOf binds m x=m x
 | [],_,_=>rfl
 |(n,v)::r,m,h=>by
  unfold bindC
  rw[Z31 fun w hw=>h w (List.mem_cons_of_mem _ hw)]
  split
  ·rfl
  ·have:x≠n:=by rintro rfl;exact h v List.mem_cons_self
   simp[this]
theorem Z30{kindOf:Str->Option NameKind}{x:Str}{v:Value}:∀ {P:List Str} {vs:List Value} {i:Nat} {m:Str->Option Value},P.Nodup->P[i]? = some x->vs[i]? = some v->kindOf x=some .local ->
  bindL kindOf (P.zip vs) m x=some v
 | [],_,_,_,_,h,_,_=>by simp at h
 |_::_,[],_,_,_,_,h,_=>by simp at h
 |p::P,w::vs,0,m,nd,h1,h2,hk=>by
  simp at h1 h2;subst h1;subst h2
  show bindL kindOf ((p,w)::P.zip vs) m p=_
  unfold bindL
  rw[Z2z fun v hv=>(List.nodup_cons.mp nd).1 (List.of_mem_zip hv).1,if_pos hk]
  simp
 |p::P,w::vs,i+1,m,nd,h1,h2,hk=>by
  show bindL kindOf ((p,w)::P.zip vs) m x=_
  unfold bindL
  exact Z30 (i:=i) (List.nodup_cons.mp nd).2 (by simpa using h1) (by simpa using h2) hk
theorem Z32{kindOf:Str->Option NameKind}{x:Str}{v:Value}:∀ {P:List Str} {vs:List Value} {i:Nat} {m:Str->Option Value},P.Nodup->P[i]? = some x->vs[i]? = some v->kindOf x≠some .local ->
  bindC kindOf (P.zip vs) m x=some v
 | [],_,_,_,_,h,_,_=>by simp at h
 |_::_,[],_,_,_,_,h,_=>by simp at h
 |p::P,w::vs,0,m,nd,h1,h2,hk=>by
  simp at h1 h2;subst h1;subst h2
  show bindC kindOf ((p,w)::P.zip vs) m p=_
  unfold bindC
  rw[Z31 fun v hv=>(List.nodup_cons.mp nd).1 (List.of_mem_zip hv).1,if_neg hk]
  simp
 |p::P,w::vs,i+1,m,nd,h1,h2,hk=>by
  show bindC kindOf ((p,w)::P.zip vs) m x=_
  unfold bindC
  exact Z32 (i:=i) (List.nodup_cons.mp nd).2 (by simpa using h1) (by simpa using h2) hk
def start(N:List Str)(vs:List V):St:=vs.map some++List.replicate (N.length-vs.length) none
def Z2d(CX:Z9w)(P:Program)(w:World)(K:W.Frag)(mg:Str->Option Value)(base:Heap)(N:List Str)(qual:Str)(scope:Scope)(f:Addr)(cd:Value)(A:Around)(outer:List Env)(s:Shared)(H:Hp)(E:XK):Cx where
 prog:=P
 w:=w
 K:=K
 mg:=mg
 base:=base
 A:=A.deeper (envOfC qual scope s.heap.objs.size f cd)
 N:=N
 s₀:=s
 H₀:=H
 env:=envOfC qual scope s.heap.objs.size f cd
 outer:=outer
 stack:=envOfC qual scope s.heap.objs.size f cd::outer
 ex:=[]
 calm:=true
 fn:=fun _=>true
 pn:=[]
 xe:=fun e s'=>wpAny (model P w) (A.deeper (envOfC qual scope s.heap.objs.size f cd)) (leaving (envOfC qual scope s.heap.objs.size f cd) e) (fun _ s''=>CX outer H s E e s'') (fun e' s''=>CX outer H s E e' s'') s'
theorem Z5l{sc:Scope}{n:Nat}{x:Str}(h:sc.names.lookup x=some .cell):∃c,(cellsFrom n sc.names []).lookup x=some c:=by
 have q:=W.cellsFrom_some sc.names n [] (.inl h)
 exact Option.isSome_iff_exists.mp q
theorem Z9g{CX:Z9w}{P:Program}{w:World}{K:W.Frag}{mg:Str->Option Value}{base:Heap}{N ps:List Str}{qual:Str}{scope:Scope}{f:Addr}{cd:Value}{A:Around}{outer:List Env}{s s1:Shared}{H:Hp}{E:XK}{us:List Value}{vs:List V}
  (S:FnScope N ps scope) (hd:A.handled=none) (e0:Env0 P w K mg base A outer s H) (hl:vs.length=ps.length) (r:Vals vs us)
  (x:InCallC s s.heap.objs.size (bindL (envOfC qual scope s.heap.objs.size f cd).kindOf (ps.zip us) fun _=>none) (cellsFrom (s.heap.objs.size+1) scope.names []) (bindC (envOfC qual scope s.heap.objs.size f cd).kindOf (ps.zip us) fun _=>none) s1) :
  Inv (Z2d CX P w K mg base N qual scope f cd A outer s H E) [] (start N vs) H s1:=by
 have hpl:ps.length<=N.length:=by have:=congrArg List.length S.pre;rw[List.length_take]at this;omega
 obtain⟨h1,tk,rfl,hk⟩:=x.done
 have noA:∀b:Addr,b∉(Z2d CX P w K mg base N qual scope f cd A outer s H E).ex:=fun b z=>absurd (show b∈([]:List Addr) from z) (by simp)
 refine⟨⟨e0.mod,S.kind,rfl,rfl,Nat.le_refl _,fun y z c h1 h2=>?_,fun y hy=>?_,fun y c _ h=>?_,fun _=>hd,Around.frames_deeper e0.frames,.inr ⟨rfl,rfl⟩,fun b z=>absurd z (noA b),e0.bs,e0.bsz,fun b _ _=>noA b,fun b z=>absurd z (noA b),e0.funs,e0.frf⟩,
  rfl,e0.bare,Un.kept hk,⟨_,x.toInCall.ns,fun i y v h1 h2 h3=>?_⟩,fun y c h=>⟨_,x.cell y c h⟩,e0.hok.fresh (Nat.le_refl _),fun y c h=>?_,fun p hp=>absurd (show p∈([]:List (Addr×Obj)) from hp) (by simp),e0.hok.kept hk,?_⟩
 ·exact name_of_addr x.apart (PySem.mem_of_lookup h1) (PySem.mem_of_lookup h2)
 ·have hy:scope.names.lookup y=some .cell∨scope.names.lookup y=some .free:=hy
  rcases hy with hy | hy
  ·exact Z5l hy
  ·exact absurd rfl (S.nofree _ (PySem.mem_of_lookup hy))
 ·exact Nat.le_of_lt (x.above y c (PySem.mem_of_lookup h))
 ·have hi:i<vs.length:=by
   unfold start at h2
   by_cases hi:i<vs.length
   ·exact hi
   ·rw[List.getElem?_append_right (by simpa using hi)]at h2
    rw[List.getElem?_replicate]at h2
    split at h2 <;> cases h2
  have ha:vs[i]? = some v:=by
   unfold start at h2
   rw[List.getElem?_append_left (by simpa using hi),List.getElem?_map]at h2
   cases e:vs[i]? with
   |none=>rw[e]at h2;cases h2
   |some a=>rw[e]at h2;cases h2;rfl
  obtain⟨u,hu,rv⟩:=r.get ha
  have hp:ps[i]? = some y:=by
   rw[← S.pre,List.getElem?_take_of_lt (by omega)];exact h1
  have ndP:ps.Nodup:=by rw[← S.pre];exact S.nd.sublist (List.take_sublist _ _)
  refine⟨u,rv,?_⟩
  rcases S.par y (List.mem_of_getElem? hp) with k | k
  ·exact .inl ⟨k,Z30 ndP hp hu k⟩
  ·obtain⟨c,e⟩:=Z5l (n:=s.heap.objs.size+1) k
   refine .inr ⟨.inl k,c,e,?_⟩
   have q:=x.cell y c e
   rw[Z32 ndP hp hu (by show scope.names.lookup y≠_;rw[k];decide)]at q
   exact q
 ·exact e0.hok.fresh (Nat.le_of_lt (x.above y c (PySem.mem_of_lookup h)))
 ·unfold start
  show _=N.length
  rw[List.length_append,List.length_map,List.length_replicate]
  omega
theorem Zev{CX:Z9w}{P:Program}{w:World}{K:W.Frag}{mg:Str->Option Value}{base:Heap}{k:Nat}{f:Addr}{name qual:Str}{params:Arguments}{body:List Stmt}{scope:Scope}{dV kV doc pm cdv ct oc:Value}{an od:Option Addr}
  {osl:Array (Option Value)} {N ps:List Str} {sp:Sp} (lk:K.lookup f=some ⟨oc,od,.func (W.fnOf name qual params body scope dV kV doc pm an cdv ct),osl⟩) (hcd:W.codeIn K cdv qual=true) (S:FnScope N ps scope)
  (len:∀vs H Q E,sp vs H Q E->vs.length=ps.length)
  (hbody:∀(A:Around) (outer:List Env) (s:Shared) (H:Hp) (vs:List V) (Q:VK) (E:XK),Room k (A.deeper (envOfC qual scope s.heap.objs.size f cdv))->sp vs H Q E ->
   ∃t,PSs (Z2d CX P w K mg base N qual scope f cdv A outer s H E) body t/\t { nx:=fun _ H'=>Q .non H',rt:=Q } (start N vs) H) :
  FnOk P w K mg base CX (k+1) f (W.fnOf name qual params body scope dV kV doc pm an cdv ct) ps sp:=by
 refine⟨len,fun A outer s H args us vs Q E hr e0 hb r hsp=>?_⟩
 have hl:=len _ _ _ _ hsp
 have KX:K.In s.heap:=e0.mod.kin.keeps fun b o e=>(e0.bs b o e).1
 have lim:s.heap.NoLimit:=e0.mod.nolimit.keeps fun b o e=>(e0.bs b o e).1
 have hkind:∀y∈ps.zip us,scope.names.lookup y.1=some .local∨(scope.names.lookup y.1=some .cell/\((cellsFrom (s.heap.objs.size+1) scope.names []).lookup y.1).isSome=true):=fun⟨n,v⟩ hy=>by
  rcases S.par n (List.of_mem_zip hy).1 with q | q
  ·exact .inl q
  ·exact .inr ⟨q,W.cellsFrom_some _ _ _ (.inl q)⟩
 refine codeAny_call_function hr.depth (KX _ _ lk) rfl S.co S.gen rfl (W.codeRec_of KX hcd) (hb _ _ _ _ ?_)
 refine wpAny_newFunctionEnv_cells S.kind hkind fun env he s1 x=>?_
 subst he
 refine⟨lim.keeps x.toInCall.keep,codeAny_func ?_⟩
 obtain⟨t,ht,hq⟩:=hbody A outer s H vs Q E (hr.deeper _) hsp
 have I:Inv (Z2d CX P w K mg base N qual scope f cdv A outer s H E) [] (start N vs) H s1:=Z9g S hr.hd e0 hl r x
 refine wpAny_mono (ht [] s1 (start N vs) H _ I hq) (fun fl s' hs=>?_) fun e s' hs=>hs
 have fin:∀ {σ':St} {H':Hp} {v:V} {u:Value},Inv (Z2d CX P w K mg base N qual scope f cdv A outer s H E) [] σ' H' s'->RelV v u->Q v H'->CE outer P w H s Q u s' :=
  fun{σ' H' v u} J rv q=>⟨v,H',J.os,J.bare,J.base,J.hok,rv,q⟩
 cases fl with
 |ret u =>
  obtain⟨v,σ',H',J,rv,q⟩:=hs
  exact fin J rv q
 |next =>
  obtain⟨σ',H',J,q⟩:=hs
  exact fin (v:=V.non) (u:=Value.none) J rfl q
 |brk =>
  obtain⟨_,_,_,q⟩:=hs
  exact False.elim q
 |cont =>
  obtain⟨_,_,_,q⟩:=hs
  exact False.elim q
section
variable{X:Cx}{x:Str}{p pos:Pos}{e:Expr}{es:List Expr}{t:TA}{id T:String}{r:List V->Hp->VK->Prop}
def Zka(r:List V->Hp->VK->Prop)(t:TA):TE:=fun σ H Q=>t σ H fun vs H1=>r vs H1 Q
theorem Ze(hc:U8 X (.builtin id) r)(hg:Gl X x)(hm:X.mg x=none)(hv:bootBuiltins x=some (.builtin id))(ha:PA X (e::es) t)(hn:x≠"__name__":=by decide)(hdb:(x==("__debug__":Str))=false:=by decide)
  (he:starEach (e::es) X.env=(false,eval e X.env)::starEach es X.env:=by rfl) (hpl:(backTo pos (starEach es X.env)).any (·.1)=false:=by rfl):PE X (.Call (.Name x p) (e::es) [] pos) (Zka r t):=by
 intro Z2 s σ H Q I h
 refine wpAny_Call_Name_kw (Td I hg hm hv ?_ hn hdb)
 exact PyProof.Rows.callWith_builtin1 (Xs (ha pos Z2 s σ H _ I h) fun us s1 ⟨vs,H1,I1,r1,q1⟩=>hc Z2 s1 σ H1 vs us Q I1 r1 q1) he hpl
theorem Ut(hc:U8 X (.type T) r)(hg:Gl X x)(hm:X.mg x=none)(hv:bootBuiltins x=some (.type T))(ha:PA X (e::es) t)(hn:x≠"__name__":=by decide)(hdb:(x==("__debug__":Str))=false:=by decide)
  (he:starEach (e::es) X.env=(false,eval e X.env)::starEach es X.env:=by rfl) (hpl:(backTo pos (starEach es X.env)).any (·.1)=false:=by rfl):PE X (.Call (.Name x p) (e::es) [] pos) (Zka r t):=by
 intro Z2 s σ H Q I h
 refine wpAny_Call_Name_kw (Td I hg hm hv ?_ hn hdb)
 exact PyProof.Rows.callWith_type1 (Xs (ha pos Z2 s σ H _ I h) fun us s1 ⟨vs,H1,I1,r1,q1⟩=>hc Z2 s1 σ H1 vs us Q I1 r1 q1) he hpl
end
end L2
namespace HT
open PySem PyProof.Rows
section
open PySem.SeqAt
open PySem.AutoSeq1 (wpAny_loadPart')
open PySem.MeetsSeq PySem.MeetsSeq2 PySem.MeetsSeq3
end
section
variable{prog:Program}{w:World}{A:Around}{E:Value->Shared->Prop}{s:Shared}
theorem cat_tup{t b:Addr}{vs ws:List Value}{Q:Value->Shared->Prop}(ht:IsTup s.heap t vs.toArray)(hb:IsTup s.heap b ws.toArray)(hv:vs≠[])
  (h1:ws=[]->Q (.ref t) s) (h2:ws≠[]->Q (.ref s.heap.objs.size) { s with heap:=s.heap.push { cls:=.type "tuple",data:=.seq (vs++ws).toArray } })
  (hsz:vs.length+ws.length<=sizeLine):wpAny (model prog w) A (binaryOp .Add (.ref t) (.ref b)) Q E s:=by
 obtain⟨⟨cls,dd,data,sl⟩,ho,hc,n,hd⟩:=id ht
 obtain⟨⟨cls2,dd2,data2,sl2⟩,ho2,hc2,n2,hd2⟩:=id hb
 simp only at hc hd hc2 hd2
 subst hc hd hc2 hd2
 have e:vs.toArray++ws.toArray=(vs++ws).toArray:=by simp
 by_cases hw:ws=[]
 ·exact concat_meets ⟨_,ho,rfl⟩ ⟨_,ho2,rfl⟩ noFill_tuple_add seq_tuple_add PySem.F.slot_tuple_add PySem.F.entry_tuple_add (PySem.F.args_tuple_add_2 _ _)
   (tuple_addW1 t b vs.toArray ws.toArray n n2 dd dd2 sl sl2 (by simpa using hv) (by simp[hw])) ⟨ho,ho2,h1 hw⟩
 ·refine concat_meets ⟨_,ho,rfl⟩ ⟨_,ho2,rfl⟩ noFill_tuple_add seq_tuple_add PySem.F.slot_tuple_add PySem.F.entry_tuple_add (PySem.F.args_tuple_add_2 _ _)
   (tuple_addW2 t b vs.toArray ws.toArray n n2 dd dd2 sl sl2 (by simpa using hv) (by simpa using hw) (by rw[List.size_toArray,List.size_toArray];exact hsz)) ⟨ho,ho2,?_⟩
  rw[e]
  exact h2 hw
def sIx(n d:Nat):Option Int->Nat
 |none=>d
 |some v=>if v<0 then(v+(n:Int)).toNat else min v.toNat n
theorem sIx_none(n d:Nat):sIx n d none=d:=rfl
theorem sIx_nat(n d k:Nat):sIx n d (some (k:Int))=min k n:=by
 show(if(k:Int)<0 then((k:Int)+(n:Int)).toNat else min (k:Int).toNat n)=min k n
 rw[if_neg (by omega),Int.toNat_natCast]
theorem Zf6(n d:Nat)(hd:d<=n)(o:Option Int):sIx n d o<=n:=by
 cases o with
 |none=>exact hd
 |some v =>
  show(if v<0 then(v+(n:Int)).toNat else min v.toNat n)<=n
  by_cases hv:v<0
  ·rw[if_pos hv];omega
  ·rw[if_neg hv];exact Nat.min_le_right _ _
theorem Z8b(v:Int)(n d:Nat):(if v<0 then max (v+(n:Int)) 0 else min v (n:Int))=((sIx n d (some v):Nat):Int):=by
 show(if v<0 then max (v+(n:Int)) 0 else min v (n:Int))=(((if v<0 then(v+(n:Int)).toNat else min v.toNat n):Nat):Int)
 by_cases hv:v<0
 ·simp only[if_pos hv];omega
 ·simp only[if_neg hv];omega
theorem Z6w(lo hi:Option Int)(n:Nat):Builtin.Slice.sliceAdjust lo hi 1 (n:Int)=(((sIx n 0 lo:Nat):Int),((sIx n n hi:Nat):Int)):=by
 have h1:¬((1:Int)<0):=by omega
 unfold Builtin.Slice.sliceAdjust
 simp only[h1,if_false]
 refine Prod.ext ?_ ?_
 ·cases lo with
  |none=>rfl
  |some v=>exact Z8b v n 0
 ·cases hi with
  |none=>rfl
  |some v=>exact Z8b v n n
theorem Z6c(i j:Nat):Builtin.Slice.slicePlaces (i:Int) (j:Int) 1=j-i:=by
 unfold Builtin.Slice.slicePlaces
 have h1:(1:Int)>0:=by omega
 simp only[h1,if_true,Int.ediv_one]
 split <;> omega
theorem Z17{v:Value}{o:Option Int}{Q:Option Int->Shared->Prop}(p:IsPart v o)(h:Q o s):wpAny (model prog w) A (Builtin.Slice.slicePartIndex v) Q E s:=by
 cases p with
 |none=>exact slicePart_none h
 |int i t=>exact slicePart_int h
theorem Jc{sl:Addr}{vl vu:Value}{lo hi:Option Int}{n:Nat}{Q:Int×Int×Nat->Shared->Prop}(hs:s.heap.IsSliceOf sl vl vu .none)(pl:IsPart vl lo)(pu:IsPart vu hi)
  (h:Q (((sIx n 0 lo:Nat):Int),1,sIx n n hi-sIx n 0 lo) s):wpAny (model prog w) A (Builtin.Slice.sliceApplied (.ref sl) (pure (n:Int))) Q E s:=by
 obtain⟨os,hos,hcs,hds⟩:=id hs
 unfold Builtin.Slice.sliceApplied Builtin.Slice.sliceFields
 refine wpAny_bind (wpAny_bind (wpAny_field hos hds (x:=vl) rfl (wpAny_bind (wpAny_field hos hds (x:=vu) rfl (wpAny_bind (wpAny_field hos hds (x:=.none) rfl (wpAny_pure ?_)))))))
 refine wpAny_bind (slicePart_none ?_)
 show wpAny _ _ (if((1:Int)==0)=true then _ else _) _ _ s
 rw[if_neg (by decide)]
 refine wpAny_bind (Z17 pl (wpAny_bind (Z17 pu (wpAny_bind (wpAny_pure ?_)))))
 show wpAny _ _ (match Builtin.Slice.sliceAdjust lo hi 1 (n:Int) with | (lo,hi)=>pure (lo,(1:Int),Builtin.Slice.slicePlaces lo hi 1)) _ _ s
 rw[Z6w lo hi n]
 show wpAny _ _ (pure (((sIx n 0 lo:Nat):Int),(1:Int),Builtin.Slice.slicePlaces ((sIx n 0 lo:Nat):Int) ((sIx n n hi:Nat):Int) 1)) _ _ s
 rw[Z6c]
 exact wpAny_pure h
theorem Za8(xs:Array Value)(i k:Nat):((List.range k).filterMap fun(m:Nat)=>xs[((i:Int)+(m:Int)*1).toNat]?).toArray=((xs.toList.drop i).take k).toArray:=by
 have e:(fun(m:Nat)=>xs[((i:Int)+(m:Int)*1).toNat]?)=fun m=>xs[i+m]?:=by
  funext m
  have:((i:Int)+(m:Int)*1).toNat=i+m:=by omega
  rw[this]
 rw[e]
 have:=pick_run xs i k
 rw[List.filterMap_map]at this
 have e2:((fun x=>xs[x]?) ∘ fun x=>i+x)=fun m=>xs[i+m]?:=rfl
 rw[e2]at this
 rw[this]
theorem getItem_tuple_cut{t sl:Addr}{items:Array Value}{vl vu:Value}{lo hi:Option Int}{Q:Value->Shared->Prop}(ht:IsTup s.heap t items)(hs:s.heap.IsSliceOf sl vl vu .none)(pl:IsPart vl lo)(pu:IsPart vu hi)
  (hw:¬(sIx items.size 0 lo=0/\sIx items.size items.size hi=items.size))
  (h:Q (.ref s.heap.objs.size) { s with heap:=s.heap.push { cls:=.type "tuple",data:=.seq ((items.toList.drop (sIx items.size 0 lo)).take (sIx items.size items.size hi-sIx items.size 0 lo)).toArray } })
  (hsz:items.size<=sizeLine):wpAny (model prog w) A (getItem (.ref t) (.ref sl)) Q E s:=by
 have htake:sizeOk (.seq ((items.toList.drop (sIx items.size 0 lo)).take (sIx items.size items.size hi-sIx items.size 0 lo)).toArray):=by
  show((items.toList.drop (sIx items.size 0 lo)).take (sIx items.size items.size hi-sIx items.size 0 lo)).toArray.size<=sizeLine
  rw[List.size_toArray,List.length_take,List.length_drop,Array.length_toList]
  omega
 have hj:sIx items.size items.size hi<=items.size:=Zf6 _ _ (Nat.le_refl _) hi
 obtain⟨os,hos,hcs,hds⟩:=id hs
 have hTs:s.TypeIs (.ref sl) "slice":=⟨os,hos,hcs⟩
 unfold getItem
 try with_reducible refine wpAny_holding ?_
 first | refine wpAny_bind (wpAny_pure ?_) | skip
 refine wpAny_bind (wpAny_sequenceKey ht.typeIs (by decide) ?_)
 refine wpAny_bind (wpAny_callSpecial?_slot (name:=Str.ofString "__getitem__") ht.typeIs PyProof.Rows.slot_tuple_getitem
  (wpAny_call_entry PyProof.Rows.slot_tuple_getitem ht.typeIs entry_tuple_getitem ?_ (args_tuple_getitem _ _)))
 show wpAny _ _ (Builtin.Tuple.tupleItemsOf (.ref t) >>= _) _ _ s
 refine wpAny_bind (tupleItemsOf_ ht ?_)
 refine wpAny_bind (wpAny_typeOf hTs ?_)
 rw[if_pos (by decide)]
 refine wpAny_bind (Jc hs pl pu ?_)
 have hno:¬((((sIx items.size 0 lo:Nat):Int)==0&&(1:Int)==1&&(sIx items.size items.size hi-sIx items.size 0 lo)==items.size)=true):=by
  intro q
  rw[Bool.and_eq_true,Bool.and_eq_true]at q
  have q1:((sIx items.size 0 lo:Nat):Int)=0:=eq_of_beq q.1.1
  have q2:sIx items.size items.size hi-sIx items.size 0 lo=items.size:=eq_of_beq q.2
  exact hw ⟨by omega,by omega⟩
 show wpAny _ _ (if(((sIx items.size 0 lo:Nat):Int)==0&&(1:Int)==1&&(sIx items.size items.size hi-sIx items.size 0 lo)==items.size)=true then _ else _) _ _ s
 rw[if_neg hno,Za8]
 first
  |exact wpAny_bind (m:=Builtin.Tuple.tupleExact _) (wpAny_newObj_type (wpAny_pure ⟨_,rfl,wpAny_pure h⟩) htake)
  |exact wpAny_bind (m:=Builtin.Tuple.tupleExact _) (wpAny_newObj_type (wpAny_bind (wpAny_pure (wpAny_pure ⟨_,rfl,wpAny_pure h⟩))) htake)
  |exact wpAny_bind (wpAny_bind (m:=Builtin.Tuple.tupleExact _) (wpAny_newObj_type (wpAny_pure (wpAny_pure ⟨_,rfl,wpAny_pure h⟩)) htake))
  |exact wpAny_bind (wpAny_bind (m:=Builtin.Tuple.tupleExact _) (wpAny_newObj_type (wpAny_pure ⟨_,rfl,wpAny_pure h⟩) htake))
end
end HT
namespace L2
open PySem PySem.Spec PyProof.Rows
abbrev TO:=St->Hp->(Option Int->Hp->Prop)->Prop
def PO(X:Cx)(e:Option Expr)(t:TO):Prop :=
 ∀(Z2:List (Addr×Obj)) (s:Shared) (σ:St) (H:Hp) (Q:Option Int->Hp->Prop),Inv X Z2 σ H s->t σ H Q ->
  wpAny (model X.prog X.w) X.A (evalPart e X.env) (fun u s'=>∃o H',Inv X Z2 σ H' s'/\IsPart u o/\Q o H') X.xe s
def J3:TO:=fun _ H Q=>Q none H
def Z5p(t:TE):TO:=fun σ H Q=>t σ H fun x H1=>∃i,x=.int i/\Q (some i) H1
section
variable{X:Cx}{e:Expr}{te:TE}{lo hi:Option Expr}{tl th:TO}{pos p2:Pos}
theorem Yy:PO X none J3:=by
 intro Z2 s σ H Q I h
 rw[evalPart_none]
 exact wpAny_pure ⟨none,H,I,.none,h⟩
theorem Y3(h:PE X e te):PO X (some e) (Z5p te):=by
 intro Z2 s σ H Q I hw
 rw[evalPart_some]
 refine Xs (h Z2 s σ H _ I hw) fun u s1 ⟨x,H1,I1,r1,q1⟩=>?_
 obtain⟨i,rfl,q⟩:=q1
 obtain⟨t,rfl⟩:=r1
 exact⟨some i,H1,I1,.int i t,q⟩
def Zj3(X:Cx)(r:V->Option Int->Option Int->Hp->VK->Prop):Prop :=
 ∀(Z2:List (Addr×Obj)) (s:Shared) (σ:St) (H:Hp) (x:V) (v vl vu:Value) (lo hi:Option Int) (sl:Addr) (Q:VK),Inv X Z2 σ H s->RelV x v->s.heap.IsSliceOf sl vl vu .none->IsPart vl lo->IsPart vu hi->r x lo hi H Q ->
  ∃T id,typeLookup (.type T) "__getitem__" = pure (some (.builtin id))/\s.TypeIs v T/\wpAny (model X.prog X.w) X.A (getItem v (.ref sl)) (EP X Z2 σ Q) X.xe s
def Zin(r:V->Option Int->Option Int->Hp->VK->Prop)(te:TE)(tl th:TO):TE:=fun σ H Q=>te σ H fun x H1=>tl σ H1 fun l H2=>th σ H2 fun u H3=>r x l u H3 Q
theorem Y5{r:V->Option Int->Option Int->Hp->VK->Prop}(hr:Zj3 X r)(he:PE X e te)(hl:PO X lo tl)(hu:PO X hi th):PE X (.Subscript e (.Slice lo hi none p2) pos) (Zin r te tl th):=by
 intro Z2 s σ H Q I h
 refine Subscript_ (Xs (he Z2 s σ H _ I h) fun v s1 ⟨x,H1,I1,r1,q1⟩=>?_)
 refine wpAny_Slice (Xs (hl Z2 s1 σ H1 _ I1 q1) fun vl s2 ⟨l,H2,I2,pl,q2⟩=>Xs (hu Z2 s2 σ H2 _ I2 q2) fun vu s3 ⟨u,H3,I3,pu,q3⟩=>?_)
 rw[evalPart_none]
 refine wpAny_pure ?_
 have I4:Inv X Z2 σ H3 { s3 with heap:=s3.heap.push { cls:=.type "slice",data:=.fields #[vl,vu,.none] } }:=I3.kept (t':=s3.toks) fun b ob q=>Heap.get?_push_of_some _ q
 obtain⟨T,id,hT,ht,hg⟩:=hr Z2 { s3 with heap:=s3.heap.push { cls:=.type "slice",data:=.fields #[vl,vu,.none] } } σ H3 x v vl vu l u s3.heap.objs.size Q I4 r1 (Heap.IsSliceOf.new ..) pl pu q3
 show wpAny (model X.prog X.w) X.A (subscriptTail e (.Slice lo hi none p2) v (.ref s3.heap.objs.size)) (EP X Z2 σ Q) X.xe { s3 with heap:=s3.heap.push { cls:=.type "slice",data:=.fields #[vl,vu,.none] } }
 exact tail_any (ops:=[.ref s3.heap.objs.size,v]) ht hT hg (by with_unfolding_all rfl)
def U2(xs:List V)(lo hi:Option Int):List V:=(xs.drop (HT.sIx xs.length 0 lo)).take (HT.sIx xs.length xs.length hi-HT.sIx xs.length 0 lo)
theorem Z07(xs:List V)(lo hi:Option Int):(U2 xs lo hi).length<=xs.length:=by
 unfold U2
 rw[List.length_take,List.length_drop]
 omega
def Zci(K:W.Frag):V->Option Int->Option Int->Hp->VK->Prop:=fun x lo hi H Q=>∃a xs,x=.ref a/\SqT K H a xs /\
 ¬(HT.sIx xs.length 0 lo=0/\HT.sIx xs.length xs.length hi=xs.length)/\∀p,H p=none->Q (.ref p) (Zr H p (.tup (U2 xs lo hi)))
theorem Z1t:Zj3 X (Zci X.K):=by
 intro Z2 s σ H x v vl vu lo hi sl Q I rx hs pl pu h
 obtain⟨a,xs,rfl,hx,hw,q⟩:=h
 cases rx
 obtain⟨its,r,ht,hz⟩:=I.tuple hx
 have hlen:its.toArray.size=xs.length:=by rw[List.size_toArray];exact r.length.symm
 refine⟨"tuple",_,PyProof.Rows.slot_tuple_getitem.lookup,ht.typeIs,?_⟩
 refine HT.getItem_tuple_cut ht hs pl pu (by rw[hlen];exact hw) ?_ (by rw[hlen];exact hz)
 rw[hlen]
 refine⟨.ref s.heap.objs.size,_,I.laid (t':=s.toks) (o:=.tup (U2 xs lo hi)) (fun b ob q=>Heap.get?_push_of_some _ q) (Nat.le_refl _) ?_,rfl,q _ (I.hok.fresh (Nat.le_refl _))⟩
 exact⟨Nat.le_trans (Z07 xs lo hi) hz,_,(r.drop (HT.sIx xs.length 0 lo)).take (HT.sIx xs.length xs.length hi-HT.sIx xs.length 0 lo),IsTup.new _ _⟩
def Zhs(K:W.Frag):R2:=fun x y H Q=>∃a b xs ys,x=.ref a/\y=.ref b/\SqT K H a xs/\SqT K H b ys/\xs≠[]/\xs.length+ys.length<=sizeLine /\
 (ys=[]->Q (.ref a) H)/\(ys≠[]->∀p,H p=none->Q (.ref p) (Zr H p (.tup (xs++ys))))
theorem Vals.nil_iff{xs:List V}{us:List Value}(r:Vals xs us):us=[]↔xs=[]:=by
 cases r with
 |nil=>simp
 |cons _ _=>simp
theorem Zdh:Z4i X (binaryOp .Add) (Zhs X.K):=by
 intro Z2 s σ H x y v u Q I rx ry h
 obtain⟨a,b,xs,ys,rfl,rfl,ha,hb,hx,hz,q1,q2⟩:=h
 cases rx
 cases ry
 obtain⟨its,r1,p1,_⟩:=I.tuple ha
 obtain⟨its2,r2,p2,_⟩:=I.tuple hb
 refine HT.cat_tup p1 p2 (fun z=>hx (r1.nil_iff.mp z)) (fun z=>⟨.ref a,H,I,rfl,q1 (r2.nil_iff.mp z)⟩) (fun z=>?_) (by rw[← r1.length,← r2.length];exact hz)
 refine⟨.ref s.heap.objs.size,_,I.laid (t':=s.toks) (o:=.tup (xs++ys)) (fun b ob q=>Heap.get?_push_of_some _ q) (Nat.le_refl _) ?_,rfl,q2 (fun w=>z (r2.nil_iff.mpr w)) _ (I.hok.fresh (Nat.le_refl _))⟩
 exact⟨by rw[List.length_append];exact hz,_,r1.append r2,IsTup.new _ _⟩
end
def Zek(n:Nat)(i:Int):Option Nat:=if 0<=i then(if i<n then some i.toNat else none) else if -(n:Int)<=i then some (i+n).toNat else none
def Z7f{α:Type}(xs:List α)(i:Int):Option α:=(Zek xs.length i).bind fun j=>xs[j]?
theorem Z85{n:Nat}{i:Int}{j:Nat}(h:Zek n i=some j):seqIndex? i n=some j/\j<n/\-(n:Int)<=i/\i<n:=by
 unfold Zek at h
 by_cases h0:0<=i
 ·rw[if_pos h0]at h
  by_cases h1:i<n
  ·rw[if_pos h1]at h
   have e:i.toNat=j:=Option.some.inj h
   exact⟨by rw[seqIndex_of h0 h1,e],by omega,by omega,h1⟩
  ·rw[if_neg h1]at h;cases h
 ·rw[if_neg h0]at h
  by_cases h1:-(n:Int)<=i
  ·rw[if_pos h1]at h
   have e:(i+n).toNat=j:=Option.some.inj h
   exact⟨by rw[seqIndex_neg (by omega) h1,e],by omega,h1,by omega⟩
  ·rw[if_neg h1]at h;cases h
theorem Z42{α:Type}{xs:List α}{i:Int}{v:α}(h:Z7f xs i=some v):∃j,seqIndex? i xs.length=some j/\xs[j]? = some v/\j<xs.length/\-(xs.length:Int)<=i/\i<xs.length:=by
 unfold Z7f at h
 cases e:Zek xs.length i with
 |none=>rw[e]at h;cases h
 |some j =>
  rw[e]at h
  obtain⟨h1,h2,h3,h4⟩:=Z85 e
  exact⟨j,h1,h,h2,h3,h4⟩
theorem Wh{α:Type}{xs:List α}{j:Nat}{v:α}(h:xs[j]? = some v):Z7f xs (j:Int)=some v:=by
 have hj:j<xs.length:=(List.getElem?_eq_some_iff.mp h).1
 have e:Zek xs.length (j:Int)=some j:=by
  unfold Zek
  rw[if_pos (by omega),if_pos (by omega)];simp
 unfold Z7f;rw[e];exact h
def Zej(b:Expr):Prop:=∀o i,subscripted b false o i=operate [o,i] (getItem o i)
def Zj6(X:Cx)(r:R2):Prop :=
 ∀(value slice:Expr) (Z2:List (Addr×Obj)) (s:Shared) (σ:St) (H:Hp) (x y:V) (v u:Value) (Q:VK),Inv X Z2 σ H s->RelV x v->RelV y u->r x y H Q ->
  subscripted slice false v u=operate [v,u] (getItem v u)->wpAny (model X.prog X.w) X.A (subscriptTail value slice v u) (EP X Z2 σ Q) X.xe s
def Zk6(X:Cx)(id:String)(r:V->List V->Hp->VK->Prop):Prop :=
 ∀(Z2:List (Addr×Obj)) (s:Shared) (σ:St) (H:Hp) (x:V) (xs:List V) (v:Value) (us:List Value) (Q:VK),Inv X Z2 σ H s->RelV x v->Vals xs us->r x xs H Q ->
  wpAny (model X.prog X.w) X.A (call (.builtin id) (v::us)) (EP X Z2 σ Q) X.xe s
section
variable{X:Cx}{a b:Expr}{ta tb:TE}{pos:Pos}
theorem Zl{r:R2}(hr:Zj6 X r)(ha:PE X a ta)(hb:PE X b tb)(hs:Zej b):PE X (.Subscript a b pos) (Z5y r ta tb):=by
 intro Z2 s σ H Q I h
 exact Subscript_ (Zh3 ha hb I h fun v u s2 x y H2 I2 rx ry q=>hr a b Z2 s2 σ H2 x y v u Q I2 rx ry q (hs _ _))
def Zia(K:W.Frag):R2:=fun x y H Q=>∃p xs i v,x=.ref p/\y=.int i/\SqL K H p xs/\Z7f xs i=some v/\Q v H
def Z47(K:W.Frag):R2:=fun x y H Q=>∃p xs i v,x=.ref p/\y=.int i/\SqT K H p xs/\Z7f xs i=some v/\Q v H
def Zji:R2:=fun x y H Q=>∃z i c,x=.str z/\y=.int i/\z.length<=sizeLine/\Z7f z.cps.toList i=some c/\Q (.str ⟨#[c]⟩) H
theorem Vz:Zj6 X (Zia X.K):=by
 intro value slice Z2 s σ H x y v u Q I rx ry h hs
 obtain⟨p,xs,i,z,rfl,rfl,hq,he,q⟩:=h
 cases rx
 obtain⟨t,rfl⟩:=ry
 obtain⟨its,r,pl,hz⟩:=I.list hq
 obtain⟨j,h1,h2,h3,h4,h5⟩:=Z42 he
 obtain⟨w,ew,rw'⟩:=r.get h2
 have hl:=r.length
 have hn:=Z0e
 have fin:EP X Z2 σ Q w s:=⟨z,H,I,rw',q⟩
 by_cases h0:0<=i
 ·have hj:i.toNat=j:=by
   rw[seqIndex_of h0 h5]at h1
   exact Option.some.inj h1
  exact item_listR pl.isList h0 (by omega) (by rw[hj];simpa using ew) fin hs
 ·have hj:(i+(its.toArray.size:Int)).toNat=j:=by
   rw[seqIndex_neg (by omega) h4]at h1
   rw[List.size_toArray,← hl]
   exact Option.some.inj h1
  exact subscriptTail_builtinR (x:=w) pl.isList.typeIs slot_list_getitem.lookup
   (wpAny_getItem_list_neg (Q:=fun r s'=>r=w/\EP X Z2 σ Q r s') pl.isList (by omega) (by rw[List.size_toArray] <;> omega) (by omega) (by rw[hj];simpa using ew) ⟨rfl,fin⟩) hs
theorem Zg:Zj6 X (Z47 X.K):=by
 intro value slice Z2 s σ H x y v u Q I rx ry h hs
 obtain⟨p,xs,i,z,rfl,rfl,hq,he,q⟩:=h
 cases rx
 obtain⟨t,rfl⟩:=ry
 obtain⟨its,r,pl,hz⟩:=I.tuple hq
 obtain⟨j,h1,h2,h3,h4,h5⟩:=Z42 he
 obtain⟨w,ew,rw'⟩:=r.get h2
 have hl:=r.length
 have hn:=Z0e
 have fin:EP X Z2 σ Q w s:=⟨z,H,I,rw',q⟩
 exact subscriptTail_builtinR (x:=w) pl.typeIs slot_tuple_getitem.lookup
  (getItem_tuple (j:=j) (Q:=fun r s'=>r=w/\EP X Z2 σ Q r s') pl (by omega) (by omega) (by rw[List.size_toArray,← hl];exact h1) (by simpa using ew) ⟨rfl,fin⟩) hs
theorem Z20:Zj6 X Zji:=by
 intro value slice Z2 s σ H x y v u Q I rx ry h hs
 obtain⟨z,i,c,rfl,rfl,hz,he,q⟩:=h
 obtain⟨t,rfl⟩:=rx
 obtain⟨t',rfl⟩:=ry
 obtain⟨j,h1,h2,h3,h4,h5⟩:=Z42 he
 have hl:z.cps.toList.length=z.length:=by simp[Str.length]
 rw[hl]at h1 h4 h5
 have hn:=Z0e
 exact tail_any (typeIs_str s z t) slot_str_getitem.lookup (getItem_str (c:=c) (by
  have e1:decide (i < -(2 ^ 63:Int))=false:=decide_eq_false (by omega)
  have e2:decide (i≥2 ^ 63)=false:=decide_eq_false (by omega)
  rw[e1,e2,Bool.or_false]) (by rw[h1];simpa using h2) ⟨.str ⟨#[c]⟩,H,I.tok _,⟨_,rfl⟩,q⟩) hs
theorem Z6n(its:List Value)(n j:Nat)(u:Value):Obj.mapSeq (·.setIfInBounds j u) { cls:=.type "list",data:=.seq its.toArray n } = { cls:=.type "list",data:=.seq (its.set j u).toArray n }:=by
 simp[Obj.mapSeq]
theorem Inv.lst{Z2:List (Addr×Obj)}{σ:St}{H:Hp}{s:Shared}{p:Addr}{xs:List V}(I:Inv X Z2 σ H s)(h:H p=some (.lst xs)) :
  ∃(its:List Value) (n:Nat),Vals xs its/\s.heap.get? p=some { cls:=.type "list",data:=.seq its.toArray n }/\xs.length<=sizeLine:=by
 obtain⟨z,its,n,r,e⟩:=I.hok p _ h
 exact⟨its,n,r,e,z⟩
theorem Inv.lstUpd{Z2:List (Addr×Obj)}{σ:St}{H:Hp}{s:Shared}{p:Addr}{xs ys:List V}{its its':List Value}{n n':Nat}{f:Obj->Obj}(I:Inv X Z2 σ H s)(h:H p=some (.lst xs))
  (ho:s.heap.get? p=some { cls:=.type "list",data:=.seq its.toArray n }) (hf:f { cls:=.type "list",data:=.seq its.toArray n } = { cls:=.type "list",data:=.seq its'.toArray n' }) (r:Vals ys its') (hz:ys.length<=sizeLine) (t:Nat) :
  Inv X Z2 σ (Zr H p (.lst ys)) { s with heap:=s.heap.update p f,toks:=t }:=by
 have e:(s.heap.update p f).get? p=some { cls:=.type "list",data:=.seq its'.toArray n' }:=by
  rw[Heap.get?_update_self f ho (by rw[hf] <;> rfl),hf]
 refine I.write (x:=p) (e:=p) (by rw[h];trivial) (.inl rfl) (fun b u hb q=>(Heap.get?_update_other _ _ (Ne.symm hb)).trans q) ⟨_,e⟩ ?_
 exact⟨hz,its',n',r,e⟩
def Zhp:V->V->V->Hp->(Hp->Prop)->Prop:=fun o i v H Q=>∃p xs k j,o=.ref p/\i=.int k/\H p=some (.lst xs)/\Zek xs.length k=some j/\Q (Zr H p (.lst (xs.set j v)))
theorem V7:Zif X Zhp:=by
 intro Z2 s σ H o i v ov iv u Q I ro ri rv h
 obtain⟨p,xs,k,j,rfl,rfl,hp,hj,q⟩:=h
 cases ro
 obtain⟨t,rfl⟩:=ri
 obtain⟨its,n,r,ho,hz⟩:=I.lst hp
 obtain⟨h1,h2,h3,h4⟩:=Z85 hj
 have hl:=r.length
 have hn:=Z0e
 have I':Inv X Z2 σ (Zr H p (.lst (xs.set j v))) { s with heap:=s.heap.update p (Obj.mapSeq (·.setIfInBounds j u)) } :=
  I.lstUpd hp ho (Z6n its n j u) (r.set rv j) (by rw[List.length_set];exact hz) s.toks
 by_cases h0:0<=k
 ·have hk:k.toNat=j:=by
   rw[seqIndex_of h0 h4]at h1
   exact Option.some.inj h1
  exact W.ki_setAt ho h0 (by omega) (by rw[List.size_toArray,← hl];exact h4) (by rw[hk];exact⟨_,I',q⟩)
 ·have hk:(k+(its.toArray.size:Int)).toNat=j:=by
   rw[seqIndex_neg (by omega) h3]at h1
   rw[List.size_toArray,← hl]
   exact Option.some.inj h1
  exact W.ki_setBack ho (by omega) (by rw[List.size_toArray,← hl];exact h3) (by omega) (by rw[hk];exact⟨_,I',q⟩)
theorem Z35(lo hi:Option Int)(n:Nat):(sliceBounds lo hi none n).1=((HT.sIx n 0 lo:Nat):Int)/\(sliceBounds lo hi none n).2.1=((HT.sIx n n hi:Nat):Int)/\(sliceBounds lo hi none n).2.2=1:=by
 refine⟨?_,?_,rfl⟩
 ·cases lo with
  |none=>simp[sliceBounds,HT.sIx]
  |some i =>
   simp only[sliceBounds,HT.sIx,Option.getD_none,show(1:Int)>0 by decide,if_true]
   by_cases h:i<0
   ·simp only[h,if_true] <;> omega
   ·simp only[h,if_false] <;> omega
 ·cases hi with
  |none=>simp[sliceBounds,HT.sIx]
  |some i =>
   simp only[sliceBounds,HT.sIx,Option.getD_none,show(1:Int)>0 by decide,if_true]
   by_cases h:i<0
   ·simp only[h,if_true] <;> omega
   ·simp only[h,if_false] <;> omega
theorem Z24(its:List Value)(lo hi:Option Int):slicePick its.toArray lo hi none=((its.drop (HT.sIx its.length 0 lo)).take (HT.sIx its.length its.length hi-HT.sIx its.length 0 lo)).toArray:=by
 obtain⟨h1,h2,h3⟩:=Z35 lo hi its.toArray.size
 unfold slicePick
 rw[h1,h2,h3]
 simp only[sliceRange_one,pick_run,List.size_toArray] <;> rfl
def Zjg(K:W.Frag):V->Option Int->Option Int->Hp->VK->Prop:=fun x lo hi H Q=>∃a xs,x=.ref a/\SqL K H a xs/\∀p,H p=none->Q (.ref p) (Zr H p (.lst (U2 xs lo hi)))
theorem Z7m:Zj3 X (Zjg X.K):=by
 intro Z2 s σ H x v vl vu lo hi sl Q I rx hs pl pu h
 obtain⟨a,xs,rfl,hx,q⟩:=h
 cases rx
 obtain⟨its,r,ht,hz⟩:=I.list hx
 have hlen:=r.length
 refine⟨"list",_,slot_list_getitem.lookup,ht.isList.typeIs,?_⟩
 refine wpAny_getItem_list_slice ht.isList hs pl pu .none (by simp) ?_ (by rw[List.size_toArray] <;> omega)
 rw[Z24,← hlen]
 refine⟨.ref s.heap.objs.size,_,I.laid (t':=s.toks) (o:=.lst (U2 xs lo hi)) (fun b ob q=>Heap.get?_push_of_some _ q) (Nat.le_refl _) ?_,rfl,q _ (I.hok.fresh (Nat.le_refl _))⟩
 exact⟨Nat.le_trans (Z07 xs lo hi) hz,_,0,(r.drop (HT.sIx xs.length 0 lo)).take (HT.sIx xs.length xs.length hi-HT.sIx xs.length 0 lo),Heap.get?_push_size _ rfl⟩
def Z0n:V->Bool
 |.non=>true
 |.bl _=>true
 |.int _=>true
 |.str _=>true
 |_=>false
def Zh9:V->V->Bool
 |.non,.non=>true
 |.bl a,.bl b=>a==b
 |.bl a,.int b=>(if a then 1 else 0)==b
 |.int a,.bl b=>a==(if b then 1 else 0)
 |.int a,.int b=>a==b
 |.str a,.str b=>a==b
 |_,_=>false
theorem Zgn{A:Around}{s:Shared}{y x:V}{u v:Value}(ry:RelV y u)(rx:RelV x v)(fy:Z0n y=true)(fx:Z0n x=true):SeqAt.EqAt A s u v (Zh9 y x):=by
 cases y with
 |non =>
  cases ry
  cases x with
  |non=>cases rx;exact SeqAt.EqAt.same _
  |bl b=>cases rx;exact SeqAt.EqAt.none_bool b
  |int b=>obtain⟨t,rfl⟩:=rx;exact SeqAt.EqAt.none_int b t
  |str b=>obtain⟨t,rfl⟩:=rx;exact SeqAt.EqAt.none_str b t
  |_=>exact absurd (show false=true from fx) Bool.false_ne_true
 |bl a =>
  cases ry
  cases x with
  |non=>cases rx;exact SeqAt.EqAt.bool_none a
  |bl b=>cases rx;exact SeqAt.EqAt.bool_bool a b
  |int b=>obtain⟨t,rfl⟩:=rx;exact SeqAt.EqAt.bool_int a b t
  |str b=>obtain⟨t,rfl⟩:=rx;exact SeqAt.EqAt.bool_str a b t
  |_=>exact absurd (show false=true from fx) Bool.false_ne_true
 |int a =>
  obtain⟨t',rfl⟩:=ry
  cases x with
  |non=>cases rx;exact SeqAt.EqAt.int_none a t'
  |bl b=>cases rx;exact SeqAt.EqAt.int_bool a t' b
  |int b=>obtain⟨t,rfl⟩:=rx;exact SeqAt.EqAt.int_int a t' b t
  |str b=>obtain⟨t,rfl⟩:=rx;exact SeqAt.EqAt.int_str a t' b t
  |_=>exact absurd (show false=true from fx) Bool.false_ne_true
 |str a =>
  obtain⟨t',rfl⟩:=ry
  cases x with
  |non=>cases rx;exact SeqAt.EqAt.str_none a t'
  |bl b=>cases rx;exact SeqAt.EqAt.str_bool a t' b
  |int b=>obtain⟨t,rfl⟩:=rx;exact SeqAt.EqAt.str_int a t' b t
  |str b=>obtain⟨t,rfl⟩:=rx;exact SeqAt.EqAt.str_str a t' b t
  |_=>exact absurd (show false=true from fx) Bool.false_ne_true
 |_=>exact absurd (show false=true from fy) Bool.false_ne_true
def Zh0(x:V)(u:Value):Bool:=match u with
 |.none=>Zh9 .non x
 |.bool b=>Zh9 (.bl b) x
 |.int i _=>Zh9 (.int i) x
 |.str z _=>Zh9 (.str z) x
 |_=>false
theorem Zbx{x y:V}{u:Value}(r:RelV y u)(f:Z0n y=true):Zh0 x u=Zh9 y x:=by
 cases y with
 |non=>cases r;rfl
 |bl b=>cases r;rfl
 |int i=>obtain⟨t,rfl⟩:=r;rfl
 |str z=>obtain⟨t,rfl⟩:=r;rfl
 |_=>exact absurd (show false=true from f) Bool.false_ne_true
theorem Z44{x:V}:∀ {xs:List V} {us:List Value},Vals xs us->xs.all Z0n=true->us.any (Zh0 x)=xs.any fun y=>Zh9 y x
 |_,_,.nil,_=>rfl
 |y::xs,u::us,.cons r t,f=>by
  rw[List.all_cons,Bool.and_eq_true]at f
  rw[List.any_cons,List.any_cons,Zbx r f.1,Z44 t f.2]
theorem Z1m{A:Around}{s:Shared}{x:V}{v:Value}(rx:RelV x v)(fx:Z0n x=true):∀ {xs:List V} {us:List Value},Vals xs us->xs.all Z0n=true->∀u∈us,SeqAt.EqAt A s u v (Zh0 x u)
 |_,_,.nil,_=>fun u hu=>by cases hu
 |y::xs,u::us,.cons r t,f=>fun u' hu=>by
  rw[List.all_cons,Bool.and_eq_true]at f
  rcases List.mem_cons.mp hu with rfl | hu
  ·rw[Zbx r f.1];exact Zgn r rx f.1 fx
  ·exact Z1m rx fx t f.2 u' hu
def Zey(x:V)(xs:List V):Bool:=xs.any fun y=>Zh9 y x
def Zk2(K:W.Frag)(neg:Bool):R2:=fun x y H Q=>∃p xs,y=.ref p/\(SqL K H p xs∨SqT K H p xs)/\Z0n x=true/\xs.all Z0n=true/\Q (.bl (if neg then !Zey x xs else Zey x xs)) H
theorem Uu:Z4i X (compareOp .In) (Zk2 X.K false):=by
 intro Z2 s σ H x y v u Q I rx ry h
 obtain⟨p,xs,rfl,hq,fx,fs,q⟩:=h
 cases ry
 rcases hq with hq | hq
 ·obtain⟨its,r,pl,hz⟩:=I.list hq
  refine SeqAt.in_listAt (Zh0 x) pl.isList (fun w hw=>Z1m rx fx r fs w (by simpa using hw)) ⟨.bl _,H,I,rfl,?_⟩
  rw[show its.toArray.any (Zh0 x)=its.any (Zh0 x) by simp,Z44 r fs]
  exact q
 ·obtain⟨its,r,pl,hz⟩:=I.tuple hq
  refine SeqAt.in_tupleAt (Zh0 x) pl (fun w hw=>Z1m rx fx r fs w (by simpa using hw)) ⟨.bl _,H,I,rfl,?_⟩
  rw[show its.toArray.any (Zh0 x)=its.any (Zh0 x) by simp,Z44 r fs]
  exact q
theorem Zw:U8 X (.builtin "len") (fun xs H Q=>∃p ys,xs=[.ref p]/\(SqL X.K H p ys∨SqT X.K H p ys)/\Q (.int ys.length) H):=by
 intro Z2 s σ H xs us Q I r h
 obtain⟨p,ys,rfl,hq,q⟩:=h
 obtain⟨u,rfl,rx⟩:=T6 r
 cases rx
 have hn:=Z0e
 rcases hq with hq | hq
 ·obtain⟨its,r',pl,hz⟩:=I.list hq
  have hlen:=r'.length
  exact Calls.call_len_list pl.isList (by simp only[List.size_toArray] <;> omega) ⟨.int ys.length,H,I.tok _,⟨s.toks+1,by rw[List.size_toArray,hlen]⟩,q⟩
 ·obtain⟨its,r',pl,hz⟩:=I.tuple hq
  have hlen:=r'.length
  exact len_tuple pl (by simp only[List.size_toArray] <;> omega) ⟨.int ys.length,H,I.tok _,⟨s.toks+1,by rw[List.size_toArray,hlen]⟩,q⟩
theorem X7:U8 X (.builtin "len") (fun xs H Q=>∃z,xs=[.str z]/\z.length<=sizeLine/\Q (.int z.length) H):=by
 intro Z2 s σ H xs us Q I r h
 obtain⟨z,rfl,hz,q⟩:=h
 obtain⟨u,rfl,t,rfl⟩:=T6 r
 have hn:=Z0e
 exact len_str (by omega) ⟨.int z.length,H,I.tok _,⟨_,rfl⟩,q⟩
theorem Z3c:U8 X (.type "list") (fun xs H Q=>∃p ys,xs=[.ref p]/\(SqL X.K H p ys∨SqT X.K H p ys)/\∀l,H l=none->Q (.ref l) (Zr H l (.lst ys))):=by
 intro Z2 s σ H xs us Q I r h
 obtain⟨p,ys,rfl,hq,q⟩:=h
 obtain⟨u,rfl,rx⟩:=T6 r
 cases rx
 have fin:∀(its:List Value),Vals ys its->ys.length<=sizeLine->∀(h':Heap) (c':Nat),(∀b o',s.heap.get? b=some o'->h'.get? b=some o') ->
   h'.get? s.heap.objs.size=some { cls:=.type "list",dict:=none,data:=.seq its.toArray c',slots:=#[] }->EP X Z2 σ Q (.ref s.heap.objs.size) { s with heap:=h' }:=fun its r' hz h' c' kp e =>
  ⟨.ref s.heap.objs.size,_,I.laid (t':=s.toks) kp (Nat.le_refl _) (show ObjOk X.prog X.w _ h' _ (.lst ys) from⟨hz,its,c',r',e⟩),rfl,q _ (I.hok.fresh (Nat.le_refl _))⟩
 rcases hq with hq | hq
 ·obtain⟨its,r',pl,hz⟩:=I.list hq
  have hlen:=r'.length
  obtain⟨o,ho,hc,n,hd⟩:=pl.isList
  exact call_list_seq p (.inl rfl) ho hc hd (fun h' c' kp e=>fin its r' hz h' c' kp e) (by simp only[List.size_toArray] <;> omega)
 ·obtain⟨its,r',pl,hz⟩:=I.tuple hq
  have hlen:=r'.length
  obtain⟨o,ho,hc,n,hd⟩:=pl
  exact call_list_seq p (.inr rfl) ho hc hd (fun h' c' kp e=>fin its r' hz h' c' kp e) (by simp only[List.size_toArray] <;> omega)
theorem Z2b:U8 X (.type "tuple") (fun xs H Q=>∃p ys,xs=[.ref p]/\((SqL X.K H p ys/\∀l,H l=none->Q (.ref l) (Zr H l (.tup ys)))∨(SqT X.K H p ys/\Q (.ref p) H))):=by
 intro Z2 s σ H xs us Q I r h
 obtain⟨p,ys,rfl,h⟩:=h
 obtain⟨u,rfl,rx⟩:=T6 r
 cases rx
 rcases h with⟨hq,q⟩ | ⟨hq,q⟩
 ·obtain⟨its,r',pl,hz⟩:=I.list hq
  have hlen:=r'.length
  refine call_tuple_list pl.isList (fun h' kp=>?_) (by simp only[List.size_toArray] <;> omega)
  have I1:Inv X Z2 σ H { s with heap:=h' }:=I.kept (t':=s.toks) kp
  have I2:Inv X Z2 σ (Zr H h'.objs.size (.tup ys)) { s with heap:=h'.push { cls:=.type "tuple",data:=.seq its.toArray } } :=
   I1.laid (t':=s.toks) (fun b o e=>Heap.get?_push_of_some _ e) (Nat.le_refl _) (show ObjOk X.prog X.w _ _ _ (.tup ys) from⟨hz,its,r',IsTup.new _ _⟩)
  exact⟨.ref h'.objs.size,_,I2,rfl,q _ (I1.hok.fresh (Nat.le_refl _))⟩
 ·obtain⟨its,r',pl,hz⟩:=I.tuple hq
  exact call_tuple_same pl ⟨.ref p,H,I,rfl,q⟩
def Ziw(K:W.Frag)(T:String)(x:V)(H:Hp):Prop:=match x with
 |.str _=>T="str"
 |.int _=>T="int"
 |.ref p=>(T="list"/\∃xs,SqL K H p xs)∨(T="tuple"/\∃o,K.lookup p=some o/\o.cls=.type "tuple"/\o.dict=none) ∨
   (T="dict"/\((∃kvs,H p=some (.dK kvs))∨∃kvs,H p=some (.dT kvs)))∨(T="set"/\∃S n,H p=some (.set S n))
 |_=>False
theorem Zbe{Z2:List (Addr×Obj)}{σ:St}{H:Hp}{s:Shared}{T:String}{x:V}{v:Value}(I:Inv X Z2 σ H s)(r:RelV x v)(ty:Ziw X.K T x H) :
  s.TypeIs v T/\∀a,v=.ref a->∃ob,s.heap.get? a=some ob/\ob.dict=none:=by
 cases x with
 |str z =>
  obtain⟨t,rfl⟩:=r
  cases(show T="str" from ty)
  exact⟨typeIs_str s z t,fun _ e=>nomatch e⟩
 |int i =>
  obtain⟨t,rfl⟩:=r
  cases(show T="int" from ty)
  exact⟨typeIs_int s i t,fun _ e=>nomatch e⟩
 |ref p =>
  cases r
  rcases ty with⟨rfl,xs,hq⟩ | ⟨rfl,o,hk,hc,hd⟩ | ⟨rfl,hk⟩ | ⟨rfl,S,n,hk⟩
  ·obtain⟨its,_,pl,_⟩:=I.list hq
   refine⟨pl.isList.typeIs,fun a e=>?_⟩
   cases e
   obtain⟨o,n,e,c,hd,_⟩:=pl
   exact⟨o,e,hd⟩
  ·refine⟨⟨o,I.kIn p o hk,hc⟩,fun a e=>?_⟩
   cases e
   exact⟨o,I.kIn _ o hk,hd⟩
  ·have z:∃o,s.heap.get? p=some o/\o.ExactDict:=by
    rcases hk with⟨kvs,hk⟩ | ⟨kvs,hk⟩
    ·obtain⟨_,_,_,_,o,_,_,e,ex,_⟩:=I.hok p _ hk
     exact⟨o,e,ex⟩
    ·obtain⟨_,_,_,_,o,_,_,e,ex,_⟩:=I.hok p _ hk
     exact⟨o,e,ex⟩
   obtain⟨o,e,ex⟩:=z
   refine⟨⟨o,e,ex.1⟩,fun a e2=>?_⟩
   cases e2
   exact⟨o,e,ex.2.1⟩
  ·obtain⟨o,_,_,_,e,ex,_⟩:=I.hok p _ hk
   refine⟨⟨o,e,ex.1⟩,fun a e2=>?_⟩
   cases e2
   exact⟨o,e,ex.2.1⟩
 |_=>exact False.elim ty
def Zja(K:W.Frag)(T:String)(r:V->List V->Hp->VK->Prop)(to:TE):TE:=fun σ H Q=>to σ H fun x H1=>Ziw K T x H1/\r x [] H1 Q
def Zkl(K:W.Frag)(T:String)(r:V->List V->Hp->VK->Prop)(to:TE)(t:TA):TE:=fun σ H Q=>to σ H fun x H1=>Ziw K T x H1/\t σ H1 fun xs H2=>r x xs H2 Q
variable{o e:Expr}{es:List Expr}{to:TE}{t:TA}{name:Str}{apos cpos:Pos}{T id:String}{r:V->List V->Hp->VK->Prop}
theorem Zbp(pa:PlainAttrs T)(slot:Slot T name id)(hty:typeOf (.builtin id)=pure (.type "method_descriptor"))(hm:Zk6 X id r)(ho:PE X o to)
  (hbase:attributeBase o name X.env (eval o X.env)=eval o X.env:=by rfl) (hline:(apos.endLine==cpos.line)=true:=by rfl):PE X (.Call (.Attribute o name apos) [] [] cpos) (Zja X.K T r to):=by
 intro Z2 s σ H Q I h
 refine wpAny_Call_method0_late hbase hline (Xs (ho Z2 s σ H _ I h) fun v s1 ⟨x,H1,I1,r1,ty,q1⟩=>?_)
 obtain⟨h1,h2⟩:=Zbe I1 r1 ty
 exact⟨T,id,pa,slot,hty,h1,h2,Calls.callWith_builtin rfl (PySem.evalArgs_none (hm Z2 s1 σ H1 x [] v [] Q I1 r1 .nil q1))⟩
theorem Yt(pa:PlainAttrs T)(slot:Slot T name id)(hty:typeOf (.builtin id)=pure (.type "method_descriptor"))(hm:Zk6 X id r)(ho:PE X o to)(ha:PA X (e::es) t)
  (hbase:attributeBase o name X.env (eval o X.env)=eval o X.env:=by rfl)
  (hfew:((backTo cpos (starEach (e::es) X.env)).all (fun x=>!x.1)&&(backToKw cpos (keywordEach [] X.env)).all (fun x=>x.1.isSome)
   && decide ((e::es).length+([]:List Keyword).length+(if([]:List Keyword).isEmpty then 0 else 1)<30))=true:=by rfl)
  (hline:(apos.endLine==cpos.line)=true:=by rfl) (hs:starEach (e::es) X.env=(false,eval e X.env)::starEach es X.env:=by rfl) (hplain:(backTo cpos (starEach es X.env)).any (·.1)=false:=by rfl) :
  PE X (.Call (.Attribute o name apos) (e::es) [] cpos) (Zkl X.K T r to t):=by
 intro Z2 s σ H Q I h
 refine wpAny_Call_method_late hbase hfew hline rfl (Xs (ho Z2 s σ H _ I h) fun v s1 ⟨x,H1,I1,r1,ty,q1⟩=>?_)
 obtain⟨h1,h2⟩:=Zbe I1 r1 ty
 refine⟨T,id,pa,slot,hty,h1,h2,?_⟩
 have hA:=ha cpos Z2 s1 σ H1 _ I1 q1
 rw[hs]at hA ⊢
 refine Calls.callWith_builtin (by show(false||(backTo cpos (starEach es X.env)).any (·.1))=false;rw[hplain] <;> rfl) (Calls.evalArgs_plain ?_)
 exact Xs hA fun us s2 ⟨vs,H2,I2,r2,q2⟩=>hm Z2 s2 σ H2 x vs v us Q I2 r1 r2 q2
end
def Zk7(X:Cx)(id:String)(r:V->List V->Hp->VK->Prop):Prop :=
 ∀(Z2:List (Addr×Obj)) (s:Shared) (σ:St) (H:Hp) (x:V) (xs:List V) (v:Value) (us:List Value) (Q:VK),Inv X Z2 σ H s->RelV x v->Vals xs us->r x xs H Q ->
  wpAny (model X.prog X.w) X.A (call (.builtin id) (v::us)) (EP X Z2 σ Q) X.xe s
theorem Vals.one:∀ {x:V} {us:List Value},Vals [x] us->∃u,us=[u]/\RelV x u
 |_,_,.cons r .nil=>⟨_,rfl,r⟩
theorem Vals.zero:∀ {us:List Value},Vals [] us->us=[]
 |_,.nil=>rfl
theorem Vals.dropLast{xs:List V}{us:List Value}(h:Vals xs us):Vals xs.dropLast us.dropLast:=by
 induction h with
 |nil=>exact .nil
 |cons r t ih =>
  cases t with
  |nil=>exact .nil
  |cons q t'=>exact .cons r ih
theorem Vals.eraseIdx:∀ {xs:List V} {us:List Value} (i:Nat),Vals xs us->Vals (xs.eraseIdx i) (us.eraseIdx i)
 |_,_,_,.nil=>.nil
 |_,_,0,.cons _ t=>t
 |_,_,i+1,.cons r t=>.cons r (Vals.eraseIdx i t)
theorem Vals.rep{xs:List V}{us:List Value}(h:Vals xs us):∀k:Nat,Vals (List.replicate k xs).flatten (List.replicate k us).flatten
 |0=>.nil
 |k+1=>by
  rw[List.replicate_succ,List.replicate_succ,List.flatten_cons,List.flatten_cons]
  exact Vals.append h (Vals.rep h k)
theorem Z6r{α:Type}(l:List α):l.eraseIdx (l.length-1)=l.dropLast:=by
 induction l with
 |nil=>rfl
 |cons a r ih =>
  cases r with
  |nil=>rfl
  |cons b r =>
   have e:(a::b::r).length-1=((b::r).length-1)+1:=by
    have h1:(a::b::r).length=r.length+2:=rfl
    have h2:(b::r).length=r.length+1:=rfl
    omega
   rw[e,List.eraseIdx_cons_succ,ih]
   all_goals rfl
theorem Z2u{α:Type}:∀(l:List α) (i:Nat),(l.eraseIdx i).length<=l.length
 | [],_=>Nat.le_refl _
 |_::_,0=>Nat.le_succ _
 |_::r,i+1=>Nat.succ_le_succ (Z2u r i)
theorem Z2x(its:List Value):∀(k:Nat) (acc:List Value),
  List.foldl (fun x1 x2=>x1++x2) acc.toArray (List.replicate k its.toArray)=(acc++(List.replicate k its).flatten).toArray
 |0,acc=>by simp
 |k+1,acc=>by
  have e:acc.toArray++its.toArray=(acc++its).toArray:=by simp
  have e2:(acc++its)++(List.replicate k its).flatten=acc++(List.replicate (k+1) its).flatten:=by
   rw[List.replicate_succ,List.flatten_cons,List.append_assoc]
  rw[← e2,← Z2x its k (acc++its),← e,List.replicate_succ,List.foldl_cons]
section
variable{X:Cx}{Z2:List (Addr×Obj)}{σ:St}{H:Hp}{s:Shared}{l b:Addr}{xs ys zs:List V}{prog:Program}{w:World}{A:Around}{E:Value->Shared->Prop}
theorem Inv.lset{its its':List Value}{n:Nat}{f:Array Value->Array Value}{t':Nat}(I:Inv X Z2 σ H s)(hH:H l=some (.lst xs))
  (e:s.heap.get? l=some { cls:=.type "list",data:=.seq its.toArray n }) (hf:f its.toArray=its'.toArray) (hv:Vals ys its') (hz:ys.length<=sizeLine) :
  Inv X Z2 σ (Zr H l (.lst ys)) { s with heap:=s.heap.update l (Obj.mapSeq f),toks:=t' }:=by
 have q:=PySem.IsL.update e f
 rw[hf]at q
 refine I.write (x:=l) (e:=l) (by rw[hH];exact trivial) (.inl rfl) (fun b' u hb hu=>(Heap.get?_update_other s.heap (Obj.mapSeq f) (Ne.symm hb)).trans hu) ⟨_,q⟩ ?_
 exact⟨hz,its',_,hv,q⟩
theorem Inv.lstM(I:Inv X Z2 σ H s)(hH:H l=some (.lst xs)):xs.length<=sizeLine/\∃(its:List Value) (n:Nat),Vals xs its/\xs.length=its.length/\s.heap.get? l=some { cls:=.type "list",data:=.seq its.toArray n }:=by
 obtain⟨z,its,n,r,e⟩:=I.hok l _ hH
 exact⟨z,its,n,r,r.length,e⟩
def Zd6:V->List V->Hp->VK->Prop:=fun x vs H Q=>∃l xs y,x=.ref l/\vs=[y]/\H l=some (.lst xs)/\xs.length<sizeLine/\Q .non (Zr H l (.lst (xs++[y])))
theorem Zy:Zk7 X "list.append" Zd6:=by
 intro Z2 s σ H x vs v us Q I rx rv h
 obtain⟨l,xs,y,rfl,rfl,hH,hz,q⟩:=h
 cases rx
 obtain⟨u,rfl,ru⟩:=rv.one
 obtain⟨z,its,n,r,hl,e⟩:=I.lstM hH
 refine call_meets F.slot_list_append ⟨_,e,rfl⟩ F.entry_list_append (F.args_list_append_2 _ _) (PySem.list_append l its.toArray n u (by rw[List.size_toArray];omega)) ⟨e,?_⟩
 refine⟨.non,_,I.lset (its':=its++[u]) hH e (by simp) (r.append (.cons ru .nil)) ?_,rfl,q⟩
 rw[List.length_append,List.length_singleton]
 omega
def Zjh:V->List V->Hp->VK->Prop:=fun x vs H Q=>∃l xs y,x=.ref l/\vs=[]/\H l=some (.lst xs)/\xs[xs.length-1]? = some y/\Q y (Zr H l (.lst xs.dropLast))
theorem Zbt:Zk7 X "list.pop" Zjh:=by
 intro Z2 s σ H x vs v us Q I rx rv h
 obtain⟨l,xs,y,rfl,rfl,hH,hy,q⟩:=h
 cases rx
 have hus:=rv.zero
 subst hus
 obtain⟨z,its,n,r,hl,e⟩:=I.lstM hH
 obtain⟨u,hu,ru⟩:=r.get hy
 have hy':its.toArray[its.toArray.size-1]? = some u:=by
  show its.toArray[its.length-1]? = some u
  rw[← Array.getElem?_toList,← hl]
  exact hu
 refine call_meets F.slot_list_pop ⟨_,e,rfl⟩ F.entry_list_pop (F.args_list_pop_1 _) (MeetsSeq.list_pop_last l its.toArray n u hy' (by rw[List.size_toArray];omega)) ⟨e,?_⟩
 refine⟨y,_,I.lset (its':=its.dropLast) hH e ?_ r.dropLast ?_,ru,q⟩
 ·show its.toArray.eraseIdxIfInBounds (its.toArray.size-1)=its.dropLast.toArray
  rw[List.size_toArray,List.eraseIdxIfInBounds_toArray,Z6r]
 ·rw[List.length_dropLast]
  omega
def Zbj:V->List V->Hp->VK->Prop:=fun x vs H Q=>∃l xs i k y,x=.ref l/\vs=[.int i]/\H l=some (.lst xs)/\-(2 ^ 63)<=i/\i<2 ^ 63/\seqIndex? i xs.length=some k/\xs[k]? = some y/\Q y (Zr H l (.lst (xs.eraseIdx k)))
theorem Zau:Zk7 X "list.pop" Zbj:=by
 intro Z2 s σ H x vs v us Q I rx rv h
 obtain⟨l,xs,i,k,y,rfl,rfl,hH,h1,h2,hk,hy,q⟩:=h
 cases rx
 obtain⟨u,rfl,ru⟩:=rv.one
 obtain⟨t,rfl⟩:=ru
 obtain⟨z,its,n,r,hl,e⟩:=I.lstM hH
 obtain⟨w,hw,rw'⟩:=r.get hy
 refine call_meets F.slot_list_pop ⟨_,e,rfl⟩ F.entry_list_pop (F.args_list_pop_2 _ _)
  (MeetsSeq.list_pop_at l its.toArray n i t k w (fitsIndex_both h1 h2) (by rw[List.size_toArray,← hl];exact hk) (by rw[← Array.getElem?_toList];exact hw) (by rw[List.size_toArray];omega)) ⟨e,?_⟩
 refine⟨y,_,I.lset (its':=its.eraseIdx k) hH e ?_ (r.eraseIdx k) ?_,rw',q⟩
 ·show its.toArray.eraseIdxIfInBounds k=(its.eraseIdx k).toArray
  rw[List.eraseIdxIfInBounds_toArray]
 ·have:=Z2u xs k
  omega
theorem Z82{α:Type}(xs:List α)(k:Nat):(List.replicate k xs).flatten.length=k*xs.length:=by
 induction k with
 |zero=>simp
 |succ k ih=>rw[List.replicate_succ,List.flatten_cons,List.length_append,ih,Nat.succ_mul,Nat.add_comm]
end
end L2
namespace Att
open PySem PySem.W PySem.Calls PyProof.Rows
theorem Z0j{P:Params}{h:Heap}:∀(ns:List Int) (vs:List Value),WellAll P h vs (ns.map WData.int)->IntsAre vs ns:=by
 intro ns
 induction ns with
 |nil =>
  intro vs w
  rw[List.map_nil]at w
  cases w
  exact .nil
 |cons n ns ih =>
  intro vs w
  rw[List.map_cons]at w
  cases w with
  |cons a b =>
   cases a
   exact .cons _ _ (ih _ b)
theorem Z8r{l:OpenLaw}{n:Nat}(hn:l.most=some n){P:Params}{h:Heap}{args:List WData}{vals:List Value}
  (hpre:l.row.toRowW.claim.pre args=true) (hwl:WellAll P h vals args) :
  ∃a vs ns,vals=[Value.ref a]/\args=[WData.list (ns.map WData.int)]/\h.get? a=some { cls:=.type "list",data:=.seq vs.toArray }/\IntsAre vs ns/\ns.length<=n:=by
 have hsh:WShape.hasAll [] args [.list .int]=true:=(pre_splitW hpre).1
 have hc:l.pre.holds [] { args:=args }=true:=(pre_splitW hpre).2
 obtain⟨d,r,rfl,h1,h2⟩:=hasAllW_cons hsh
 obtain rfl:=hasAllW_nil h2
 obtain⟨xs,rfl,h3⟩:=hasW_list h1
 obtain⟨ns,rfl⟩:=items_int h3
 have hlen:ns.length<=n:=by
  unfold OpenLaw.pre at hc
  have h4:(WTm.not (.lt (.lit (.int (n:Int))) (.len (.arg 0)))).holds [] { args:=[.list (ns.map .int)] }=true:=by
   have h4:=(holds_andW hc).1
   rw[hn]at h4
   exact h4
  have h5:=condW_of h4 (w_not (w_lt w_lit (w_len_list (w_arg rfl))))
  rw[List.length_map]at h5
  refine Nat.le_of_not_lt fun q=>?_
  have q':(n:Int)<((ns.length:Nat):Int):=by omega
  first
   |(rw[decide_eq_true q']at h5;exact absurd h5 (by decide))
   |(simp at h5;omega)
 cases hwl with
 |cons w1 w2 =>
  cases w2
  cases w1 with
  |list ho hall=>exact⟨_,_,ns,rfl,rfl,ho,Z0j ns _ hall,hlen⟩
theorem Z8z(l:OpenLaw)(args:List WData):l.row.toRowW.claim.post args (.bool true) args=true :=
 postW_of (r:=l.row.toRowW) (X:=(true==true))
  (show WShape.has [] (.bool true) .bool=true by first | rfl | decide | simp[WShape.has,WShape.arms,WShape.armsAll])
  (show(WTm.eq .res (.lit (.bool true))).value [] { args:=args,res:=some (.bool true),after:=args }=some (.bool (true==true)) from w_eq_bool (w_res rfl) w_lit) rfl
theorem attach_call{l:OpenLaw}{n:Nat}{q:Program}{loose:List Str}{XP:(Str->Option Value)->Heap->Prop}{YP:World->Heap->Prop}{d:DefRec}
  (hn:l.most=some n) (hdf:d.params.defaults=[])
  (call:∀(w:World) (s₀ s₁:Shared) (mg mb:Str->Option Value) (fa:Addr) (o:Obj) (pm cd doc:Value) (a:Addr) (vs:List Value) (ns:List Int),
   Ground q loose [] XP w s₀ mg mb s₁.heap->YP w s₁.heap ->
   s₁.heap.get? fa=some o->o.data=.func (docDef d.name d.params d.body d.scope pm cd doc)->s₁.heap.CodeRec cd d.name->mg d.name=some (.ref fa) ->
   s₁.heap.get? a=some { cls:=.type "list",data:=.seq vs.toArray }->IntsAre vs ns->ns.length<=n->s₁.gens = #[] ->
   codeAny (model l.prog w) callerA (.call (.ref fa) ⟨[.ref a],[]⟩) (fun r s'=>r=.ok (.ret (.bool true))/\OldK s₁.heap s'.heap/\s'.os=s₁.os/\AllBare s'.gens) s₁) :
  WalkO q loose XP YP l.row.toRowW d [] (fun f vs=>PySem.call f vs):=by
 intro w s₀ s₁ mg mb G Y fa o pm cd doc dV kV ho hd hcd hD hmg hg args vals as hpre hlay hrd hwl hlo
 obtain rfl:dV=.none:=Dflts.none hD hdf
 obtain rfl:kV=.none:=Dflts.noKw hD
 obtain⟨a,vs,ns,rfl,rfl,hobj,hints,hlen⟩:=Z8r hn hpre hwl
 refine enter_call (codeAny_mono (call w s₀ s₁ mg mb fa o pm cd doc a vs ns G Y ho (fd_plain hd) hcd hmg hobj hints hlen hg) fun r s' hq=>?_)
 obtain⟨rfl,h2,h3,h4⟩:=hq
 exact⟨.inl ⟨.bool true,.bool true,[],rfl,fun _=>rfl,.bool true,Z8z l _,fun _=>⟨List.Pairwise.nil,fun _ hm=>(nomatch hm)⟩⟩,h2,h3,h4⟩
section
variable{prog:Program}{w:World}{A:Around}{E:Value->Shared->Prop}{s:Shared}{K:Frag}
def ledger(h:Heap)(L d:Addr):List (Addr×Obj):=(List.range h.objs.size).filterMap fun a=>if a=L∨a=d then none else(h.get? a).map fun o=>(a,o)
end
end Att
namespace L2
open PySem PySem.Spec PyProof.Rows
theorem Z2f:∀ {vs:List Value} {ns:List Int},IntsAre vs ns->Vals (ns.map V.int) vs
 |_,_,.nil=>.nil
 |_,_,.cons n t h=>.cons ⟨t,rfl⟩ (Z2f h)
def Zh5(H:Hp):Prop:=∀b,H b=none∨∃o xs,H b=some (.frz o (.lst xs))
theorem Zb0{P:Program}{w:World}{K:W.Frag}{mg mb:Str->Option Value}{CX:Z9w}{k:Nat}{fa a:Addr}{fd:FuncData}{x:Str}{sp:Sp}{s₁:Shared}{vs:List Value}{ns:List Int}
  (KX:K.In s₁.heap) (hns:s₁.heap.Ns mainGlobals mg) (hb:s₁.heap.Ns builtinsNs mb) (hbb:∀x:Str,x≠"__name__"->mb x=bootBuiltins x) (hlim:s₁.heap.NoLimit) (hg:s₁.gens = #[])
  (ha:s₁.heap.get? a=some { cls:=.type "list",data:=.seq vs.toArray }) (hi:IntsAre vs ns) (hl:ns.length<=sizeLine) (hr:Room k callerA)
  (F:∀base:Heap,K.In base->base.Ns mainGlobals mg->FnOk P w K mg base CX k fa fd [x] sp) (hbind:∀(s:Shared) (u:Value),BindsTo s fd ⟨[u],[]⟩ [(x,u)])
  (hsp:∀H:Hp,Zh5 H->SqL K H a (ns.map V.int)->sp [.ref a] H (fun v _=>v=.bl true) fun _ _ _=>False)
  (hCX:∀H e s',CX [] H s₁ (fun _ _ _=>False) e s'->False) :
  codeAny (model P w) callerA (.call (.ref fa) ⟨[.ref a],[]⟩) (fun r s'=>r=.ok (.ret (.bool true))/\OldK s₁.heap s'.heap/\s'.os=s₁.os/\AllBare s'.gens) s₁:=by
 have rv:=Z2f hi
 have lenV:=hi.length
 have core:∀H:Hp,Zh5 H->SqL K H a (ns.map V.int)->HOk P w H s₁.heap->(∀b,H b≠none->b=a)->(H a≠none->K.lookup a=none) ->
   codeAny (model P w) callerA (.call (.ref fa) ⟨[.ref a],[]⟩) (fun r s'=>r=.ok (.ret (.bool true))/\OldK s₁.heap s'.heap/\s'.os=s₁.os/\AllBare s'.gens) s₁:=by
  intro H hO hS hok hA hK
  have base_of:∀ {b:Addr} {o:Obj},s₁.heap.get? b=some o->H b=none->(Z5n s₁.heap H).get? b=some o:=fun e n=>Zb3 e n
  have noA:∀ {b:Addr} {o:Obj} {es:Array DictEntry} {ep:Nat},s₁.heap.get? b=some o->o.data=.dict es ep->H b=none:=fun{b o es ep} e d=>by
   cases q:H b with
   |none=>rfl
   |some u =>
    have e':b=a:=hA b (by rw[q];simp)
    subst e'
    rw[ha]at e;cases e
    have d':Data.seq vs.toArray _=Data.dict es ep:=d
    cases d'
  have nsK:∀ {b:Addr} {m:Str->Option Value},s₁.heap.Ns b m->(Z5n s₁.heap H).Ns b m:=fun{b m} ⟨o,es,ep,e,d,r⟩=>⟨o,es,ep,base_of e (noA e d),d,r⟩
  have hKb:K.In (Z5n s₁.heap H):=fun b o e=>base_of (KX b o e) (by
   cases q:H b with
   |none=>rfl
   |some u =>
    have e':b=a:=hA b (by rw[q];simp)
    subst e'
    rw[hK (by rw[q];simp)]at e;cases e)
  have hM:Mod K mg (Z5n s₁.heap H):=⟨hKb,nsK hns,⟨mb,nsK hb,hbb⟩,let⟨mc,h1,h2⟩:=hlim;⟨mc,nsK h1,h2⟩⟩
  have e0:Env0 P w K mg (Z5n s₁.heap H) callerA [] s₁ H:=⟨rfl,hM,fun b o e=>Zdw e,Nat.le_of_eq (Z9h _ _),trivial,fun b hb=>absurd (show b∈([]:List Addr) from hb) (by simp),hok,.of_eq hg⟩
  refine codeAny_mono ((F _ hKb (nsK hns)).run callerA [] s₁ H ⟨[.ref a],[]⟩ [.ref a] [.ref a] _ _ hr e0 (hbind s₁ (.ref a)) (.cons rfl .nil) (hsp H hO hS)) fun r s' h=>?_
  cases r with
  |error e=>exact(hCX H e s' h).elim
  |ok fl =>
   cases fl with
   |next=>exact False.elim h
   |brk=>exact False.elim h
   |cont=>exact False.elim h
   |ret u =>
    obtain⟨v,H',os,bare,un,hok',r',q⟩:=h
    have q':v=.bl true:=q
    subst q'
    obtain rfl:u=Value.bool true:=r'
    refine⟨rfl,OldK.of_keep fun b o e=>?_,os,bare⟩
    cases q:H b with
    |none=>exact un.keep b o e q (by intro z;exact absurd (show b∈([]:List Addr) from z) (by simp)) (by simp)
    |some u =>
     rcases hO b with z | ⟨ob,xs,z⟩
     ·rw[q]at z;cases z
     ·have z2:=un.frzs b ob _ z
      obtain⟨e1,_⟩:=hok b _ z
      obtain⟨e2,_⟩:=hok' b _ z2
      rw[e]at e1;cases e1
      exact e2
 cases hk:K.lookup a with
 |some o =>
  have e:=KX a o hk
  rw[ha]at e
  cases e
  refine core (fun _=>none) (fun _=>.inl rfl) (.inr ⟨_,vs.toArray,_,hk,rfl,rfl,rfl,by rw[List.size_toArray,lenV];exact hl,by simpa using rv⟩) (fun b u z=>by have z':(none:Option HO)=some u:=z;cases z') (fun b z=>absurd rfl z) fun z=>absurd rfl z
 |none =>
  refine core (fun b=>if b=a then some (.frz { cls:=.type "list",data:=.seq vs.toArray } (.lst (ns.map V.int))) else none) (fun b=>?_) (.inl (.inr ⟨{ cls:=.type "list",data:=.seq vs.toArray },if_pos rfl⟩)) (fun b u z=>?_) (fun b z=>?_) fun _=>hk
  ·by_cases hb:b=a
   ·exact .inr ⟨_,_,if_pos hb⟩
   ·exact .inl (if_neg hb)
  ·by_cases hb:b=a
   ·have z':=(if_pos hb).symm.trans z
    cases z'
    subst hb
    exact⟨ha,by rw[List.length_map];exact hl,vs,_,rv,ha⟩
   ·have z':=(if_neg hb).symm.trans z
    cases z'
  ·by_cases hb:b=a
   ·exact hb
   ·exact absurd (if_neg hb) z
abbrev Z7g{K:W.Frag}{h:Heap}(_:K.In h):W.Frag:=K
theorem Zcq{l:W.OpenLaw}{n k:Nat}{q:Program}{loose:List Str}{XP:(Str->Option Value)->Heap->Prop}{YP:World->Heap->Prop}{d:DefRec}{K:Params->W.Frag}{CX:World->Z9w}{sp:World->Sp}{x:Str}
  (hn:l.most=some n) (hn2:n<=sizeLine) (hdf:d.params.defaults=[]) (hr:Room k callerA)
  (hY:∀(w:World) (h:Heap),YP w h->(K w.params).In h)
  (F:∀(w:World) (mg:Str->Option Value) (fa:Addr) (h:Heap),(K w.params).In h->h.Ns mainGlobals mg->mg d.name=some (.ref fa) ->
   ∃fd:FuncData,(∀(s:Shared) (u:Value),BindsTo s fd ⟨[u],[]⟩ [(x,u)]) /\
    ∀base:Heap,(K w.params).In base->base.Ns mainGlobals mg->FnOk l.prog w (K w.params) mg base (CX w) k fa fd [x] (sp w))
  (hsp:∀(w:World) (H:Hp) (a:Addr) (ns:List Int),ns.length<=n->Zh5 H->SqL (K w.params) H a (ns.map V.int)->sp w [.ref a] H (fun v _=>v=.bl true) fun _ _ _=>False)
  (hCX:∀(w:World) (H:Hp) (s:Shared) (e:Value) (s':Shared),CX w [] H s (fun _ _ _=>False) e s'->False) :
  W.WalkO q loose XP YP l.row.toRowW d [] (fun f vs=>PySem.call f vs):=by
 refine Att.attach_call hn hdf fun w s₀ s₁ mg mb fa o pm cd doc a vs ns G Y ho hd hcd hmg hobj hints hlen hg=>?_
 have KX:=hY w _ Y
 obtain⟨fd,hb,hF⟩:=F w mg fa _ KX G.T.g hmg
 exact Zb0 KX G.T.g G.T.b G.T.builtins G.T.nolimit hg hobj hints (Nat.le_trans hlen hn2) hr hF hb (fun H hO hS=>hsp w H a ns hlen hO hS) fun H e s'=>hCX w H s₁ e s'
def Xd(s:Stmt)(j:Nat):Stmt:=match s with
 |.ClassDef _ _ _ body _ _ _ _ _ _ _=>body.getD j (.Pass ⟨0,0,0,0⟩)
 |_=>.Pass ⟨0,0,0,0⟩
def Xn(s:Stmt):Arguments:=match s with
 |.FunctionDef _ a _ _ _ _ _ _ _ _=>a
 |_=>{ posonlyargs:=[],args:=[],vararg:=none,kwonlyargs:=[],kw_defaults:=[],kwarg:=none,defaults:=[] }
def X0(s:Stmt):List Stmt:=match s with
 |.FunctionDef _ _ b _ _ _ _ _ _ _=>b
 |_=>[]
def Z9(s:Stmt):Scope:=match s with
 |.FunctionDef _ _ _ _ _ _ sc _ _ _=>sc
 |_=>{ kind:=.function,names:=[],isGenerator:=false,isCoroutine:=false }
abbrev Wp:Z9w:=fun _ _ _ _ _ _=>False
abbrev E0:XK:=fun _ _ _=>False
theorem Z5u{X:Cx}:Vb Wp X E0:=fun _ _ _ _ _ _ _ h=>h.elim
structure Fun(K:W.Frag)(x qual:Str)(st:Stmt)(f:Addr)(fd:FuncData):Prop where
 ex:∃(oc:Value) (od:Option Addr) (kV doc pm:Value) (an:Option Addr) (cdv ct:Value) (osl:Array (Option Value)),
  fd=W.fnOf x qual (Xn st) (X0 st) (Z9 st) .none kV doc pm an cdv ct/\K.lookup f=some ⟨oc,od,.func fd,osl⟩/\W.codeIn K cdv qual=true
 kp:W.keepIn K (.ref f)=true
section
variable{P:Program}{w:World}{K:W.Frag}{mg:Str->Option Value}{base:Heap}
theorem Fun.ok{x qual:Str}{st:Stmt}{f:Addr}{fd:FuncData}{N ps:List Str}{k:Nat}{sp:Sp}(F:Fun K x qual st f fd)(S:FnScope N ps (Z9 st))(len:∀vs H Q E,sp vs H Q E->vs.length=ps.length)
  (hbody:∀(cdv:Value) (A:Around) (outer:List Env) (s:Shared) (H:Hp) (vs:List V) (Q:VK) (E:XK),Room k (A.deeper (envOfC qual (Z9 st) s.heap.objs.size f cdv))->sp vs H Q E ->
   ∃t,PSs (Z2d Wp P w K mg base N qual (Z9 st) f cdv A outer s H E).nox (X0 st) t/\t { nx:=fun _ H'=>Q .non H',rt:=Q } (start N vs) H):FnOk P w K mg base Wp (k+1) f fd ps sp:=by
 obtain⟨oc,od,kV,doc,pm,an,cdv,ct,osl,rfl,lk,hcd⟩:=F.ex
 refine Zev lk hcd S len fun A outer s H vs Q E hr hsp=>?_
 obtain⟨t,h,q⟩:=hbody cdv A outer s H vs Q E hr hsp
 exact⟨t,h.nox,q⟩
theorem Fun.binds{x qual:Str}{st:Stmt}{f:Addr}{fd:FuncData}{ps:List Str}(F:Fun K x qual st f fd)
  (h:∀(kV doc pm:Value) (an:Option Addr) (cdv ct:Value) (us:List Value),us.length=ps.length->bindArgs (W.fnOf x qual (Xn st) (X0 st) (Z9 st) .none kV doc pm an cdv ct) ⟨us,[]⟩=pure (ps.zip us)):Binds K fd ps []:=by
 obtain⟨oc,od,kV,doc,pm,an,cdv,ct,osl,rfl,lk,hcd⟩:=F.ex
 exact .all (h kV doc pm an cdv ct)
theorem Tf{x qual:Str}{st:Stmt}{f:Addr}{oc:Value}{od an:Option Addr}{osl:Array (Option Value)}{kV doc pm cdv ct:Value}(l:K.lookup f=some ⟨oc,od,.func (W.fnOf x qual (Xn st) (X0 st) (Z9 st) .none kV doc pm an cdv ct),osl⟩)
  (c:W.codeIn K cdv qual=true) (k:W.keepIn K (.ref f)=true):Fun K x qual st f (W.fnOf x qual (Xn st) (X0 st) (Z9 st) .none kV doc pm an cdv ct):=⟨⟨oc,od,kV,doc,pm,an,cdv,ct,osl,rfl,l,c⟩,k⟩
end
theorem Xp{n:Nat}(h:n<=1000):n<sizeLine:=Nat.lt_of_le_of_lt h (by decide)
section
variable{X:Cx}
theorem pv(i:Nat){x:Str}{pos:Pos}(hN:X.N[i]? = some x:=by rfl)(hv:Zj1 X.env.scope x:=by first | exact Or.inl rfl | exact Or.inr (Or.inl rfl) | exact Or.inr (Or.inr rfl))(hd:(x==("__debug__":Str))=false:=by decide)
  (hcd:(x==("__classdict__":Str))=false:=by decide):PE X (.Name x pos) (W8 i):=Zg2 hN hv hd hcd
end
theorem Z9v{A B:Prop}(h:B):if false=true then A else B:=by
 rw[if_neg Bool.false_ne_true]
 exact h
theorem Z0g{A B:Prop}(h:A):if true=true then A else B:=by
 rw[if_pos rfl]
 exact h
theorem Wq{c A B:Prop}[Decidable c](h1:c->A)(h2:¬c->B):if c then A else B:=by
 by_cases h:c
 ·rw[if_pos h]
  exact h1 h
 ·rw[if_neg h]
  exact h2 h
def Same(H H':Hp):Prop:=∀b o,H b=some o->H' b=some o
theorem Same.trans{H H1 H2:Hp}(a:Same H H1)(b:Same H1 H2):Same H H2:=fun c o h=>b c o (a c o h)
theorem Same.free{H H':Hp}(e:Same H H'){l:Addr}(h:H' l=Option.none):H l=Option.none:=by
 cases q:H l with
 |none=>rfl
 |some o =>
  rw[e l o q]at h
  cases h
def Wy(cells:List (Str×Addr))(cs:List (Str×Addr))(p:Str×NameKind):List (Str×Addr) :=
 if(p.2==.free)=true then(match cells.lookup p.1 with | some c=>(p.1,c)::cs | none=>cs) else cs
def Z6x(names:List (Str×NameKind))(cells:List (Str×Addr)):List (Str×Addr):=names.foldl (Wy cells) []
theorem Z6q{α β:Type}{l:List α}{f:α->β->Sem (ForInStep β)}(g:β->α->β):∀(c:β),(∀x∈l,∀c,f x c=pure (.yield (g c x)))->forIn l c f=pure (l.foldl g c):=by
 induction l with
 |nil=>intro c _;rfl
 |cons x l ih =>
  intro c h
  rw[List.forIn_cons,h x List.mem_cons_self,pure_bind]
  exact ih _ fun y hy=>h y (List.mem_cons_of_mem _ hy)
theorem Z2a{scope:Scope}{env:Env}(h:∀p∈scope.names,p.2=.free->∃c,env.cells.lookup p.1=some c):closureFor scope env=pure (Z6x scope.names env.cells):=by
 simp only[closureFor]
 rw[Z6q (Wy env.cells) [] (fun p hp c=>by
  obtain⟨n,k⟩:=p
  by_cases hk:k=.free
  ·subst hk
   obtain⟨a,e⟩:=h _ hp rfl
   have e':env.cells.lookup n=some a:=e
   simp[Wy,cellOf,e']
  ·have hb:(k==NameKind.free)=false:=by simpa using hk
   simp[Wy,hb])]
 rfl
theorem Z6u{cells:List (Str×Addr)}{cs:List (Str×Addr)}{p:Str×NameKind}(h:∀y c,cs.lookup y=some c->cells.lookup y=some c):∀y c,(Wy cells cs p).lookup y=some c->cells.lookup y=some c:=by
 intro y c e
 unfold Wy at e
 split at e
 ·split at e
  ·rename_i c' hc'
   rw[List.lookup_cons]at e
   split at e
   ·rename_i hy
    have:y=p.1:=by simpa using hy
    rw[this,hc']
    exact e
   ·exact h y c e
  ·exact h y c e
 ·exact h y c e
theorem Z5k(names:List (Str×NameKind))(cells:List (Str×Addr)):∀y c,(Z6x names cells).lookup y=some c->cells.lookup y=some c:=by
 have all:∀(names:List (Str×NameKind)) (cs:List (Str×Addr)),(∀y c,cs.lookup y=some c->cells.lookup y=some c)->∀y c,(names.foldl (Wy cells) cs).lookup y=some c->cells.lookup y=some c:=by
  intro names
  induction names with
  |nil=>intro cs h;exact h
  |cons p r ih=>intro cs h;exact ih _ (Z6u h)
 exact all names [] (fun y c e=>by simp at e)
theorem Z4y{cells cs:List (Str×Addr)}{p:Str×NameKind}{y:Str}(h:(cs.lookup y).isSome=true):((Wy cells cs p).lookup y).isSome=true:=by
 unfold Wy
 split
 ·split
  ·rw[List.lookup_cons]
   split
   ·rfl
   ·exact h
  ·exact h
 ·exact h
theorem Zba{names:List (Str×NameKind)}{cells:List (Str×Addr)}{y:Str}{c:Addr}(hm:(y,NameKind.free)∈names)(hc:cells.lookup y=some c):∃c,(Z6x names cells).lookup y=some c:=by
 have kp:∀(names:List (Str×NameKind)) (cs:List (Str×Addr)),(cs.lookup y).isSome=true->((names.foldl (Wy cells) cs).lookup y).isSome=true:=by
  intro names
  induction names with
  |nil=>intro cs h;exact h
  |cons p r ih=>intro cs h;exact ih _ (Z4y h)
 have all:∀(names:List (Str×NameKind)) (cs:List (Str×Addr)),(y,NameKind.free)∈names->((names.foldl (Wy cells) cs).lookup y).isSome=true:=by
  intro names
  induction names with
  |nil=>intro cs h;cases h
  |cons p r ih =>
   intro cs h
   rcases List.mem_cons.mp h with e | h
   ·subst e
    refine kp r _ ?_
    unfold Wy
    simp[hc]
   ·exact ih _ h
 exact Option.isSome_iff_exists.mp (all names [] hm)
theorem Xx(env:Env):∀(names:List (Str×NameKind)) (y:Str),
  (names.map fun(n,k)=>if(k==NameKind.free&&env.scope.kind==.function&&env.kindOf n==some .cell) then(n,NameKind.cell) else(n,k)).lookup y =
   (names.lookup y).map fun k=>if(k==NameKind.free&&env.scope.kind==.function&&env.kindOf y==some .cell) then NameKind.cell else k
 | [],_=>rfl
 |(n,k)::r,y=>by
  have ih:=Xx env r y
  show List.lookup y ((if(k==NameKind.free&&env.scope.kind==.function&&env.kindOf n==some .cell)=true then(n,NameKind.cell) else(n,k))::_)=_
  cases hx:y==n with
  |true =>
   have e:y=n:=by simpa using hx
   subst e
   by_cases hc:(k==NameKind.free&&env.scope.kind==.function&&env.kindOf y==some .cell)=true
   ·rw[if_pos hc];simp only[List.lookup_cons,hx,Option.map_some];rw[if_pos hc]
   ·rw[if_neg hc];simp only[List.lookup_cons,hx,Option.map_some];rw[if_neg hc]
  |false =>
   by_cases hc:(k==NameKind.free&&env.scope.kind==.function&&env.kindOf n==some .cell)=true
   ·rw[if_pos hc];simp only[List.lookup_cons,hx];exact ih
   ·rw[if_neg hc];simp only[List.lookup_cons,hx];exact ih
def Wn(X:Cx)(N':List Str)(scope:Scope)(x:Str)(C:Addr)(s:Shared)(H:Hp)(ex:List Addr):Cx :=
 { X with N:=x::N',s₀:=s,H₀:=H,env:=compEnvC scope (Z6x scope.names X.env.cells) C X.env,outer:=X.stack,ex:=ex,fn:=fun _=>false,pn:=[],xe:=fun _ _=>False }
structure CScope3(x:Str)(N N':List Str)(osc scope:Scope):Prop where
 kind:scope.kind=.function
 nd:(x::N').Nodup
 own:scope.names.lookup x=some .local
 nocell:∀y∈scope.names,y.2≠.cell
 names:∀y∈scope.names,y.2=.local->scope.names.lookup y.1=some .local
 free:∀y∈scope.names,y.2=.free->osc.names.lookup y.1=some .cell
 nol:∀y∈N',scope.names.lookup y≠some .local
 len:N'.length=N.length
 hid:∀p∈N'.zip N,p.1=p.2∨scope.names.lookup p.1=none
section
variable{X:Cx}{N':List Str}{Z2:List (Addr×Obj)}{σ:St}{H:Hp}{s:Shared}
theorem CScope3.has{x:Str}{scope:Scope}(S:CScope3 x X.N N' X.env.scope scope)(ok:X.Ok):∀p∈scope.names,p.2=.free->∃c,X.env.cells.lookup p.1=some c:=fun p hp hk =>
 ok.has p.1 (.inl (S.free p hp hk))
theorem Z5m{x y:Str}{scope:Scope}{C:Addr}{H₀:Hp}{ex:List Addr}(S:CScope3 x X.N N' X.env.scope scope)(ok:X.Ok)(hk:(Wn X N' scope x C s H₀ ex).env.kindOf y=some .cell∨(Wn X N' scope x C s H₀ ex).env.kindOf y=some .free) :
  X.env.kindOf y=some .cell/\∃c,(Z6x scope.names X.env.cells).lookup y=some c:=by
 have e:(Wn X N' scope x C s H₀ ex).env.kindOf y=(scope.names.lookup y).map fun k=>if(k==NameKind.free&&X.env.scope.kind==.function&&X.env.kindOf y==some .cell) then NameKind.cell else k:=Xx X.env scope.names y
 rw[e]at hk
 cases q:scope.names.lookup y with
 |none=>rw[q]at hk;simp at hk
 |some k =>
  rw[q]at hk
  have hm:=PySem.mem_of_lookup q
  have hfree:k=.free:=by
   cases k with
   |free=>rfl
   |cell=>exact absurd rfl (S.nocell _ hm)
   |_=>simp at hk
  subst hfree
  have h1:=S.free _ hm rfl
  obtain⟨c,hc⟩:=ok.has y (.inl h1)
  exact⟨h1,Zba hm hc⟩
theorem Z6v{x:Str}{scope:Scope}{C acc:Addr}{fp:List Addr}{h':Heap}{t':Nat}{m:Str->Option Value}(S:CScope3 x X.N N' X.env.scope scope)(I:Inv X Z2 σ H s)(hf:∀b∈fp,Z0q X Z2 H b)(ho:∀b∈fp,∃o,s.heap.get? b=some o)
  (hC:s.heap.objs.size<=C) (hn:h'.Ns C m) (old:∀b o,s.heap.get? b=some o->h'.get? b=some o):Inv (Wn X N' scope x C s H fp) [] (none::σ) H { s with heap:=h',toks:=t' }:=by
 have sub:=Z5k scope.names X.env.cells
 refine⟨⟨I.ok.mod,S.kind,I.ok.glob,I.ok.blt,hC,fun y z c h1 h2=>I.ok.inj y z c (sub _ _ h1) (sub _ _ h2),fun y hy=>(Z5m S I.ok hy).2,fun y c z _=>absurd (show false=true from z) Bool.false_ne_true,I.ok.hd,I.ok.frames,.inl rfl,fun b hb=>⟨?_,fun y c e=>?_⟩,I.bs,Nat.le_trans I.ok.bsz I.sz,fun b o e hb=>?_,fun b hb z=>?_,I.stack,I.stkFree⟩,
  rfl,I.bare,Un.kept old,⟨m,hn,fun i y v h1 h2 h3=>?_⟩,fun y c e=>?_,I.hok.fresh hC,fun y c e=>I.freeC y c (sub _ _ e),fun p hp=>absurd (show p∈([]:List (Addr×Obj)) from hp) (by simp),I.hok.kept old,?_⟩
 ·obtain⟨o,e⟩:=ho b hb
  exact Nat.ne_of_lt (Nat.lt_of_lt_of_le (Heap.lt_size e) hC)
 ·exact(hf b hb).2.2.2.2.1 y c (sub _ _ e)
 ·rcases(hf b hb).2.2.2.1 with z | z
  ·exact I.ok.noex b o e z
  ·exact absurd (Nat.lt_of_lt_of_le (Heap.lt_size e) (Nat.le_trans I.ok.bsz z)) (Nat.lt_irrefl _)
 ·rcases List.mem_cons.mp (I.stkSub b z) with e | e
  ·exact(hf b hb).2.1 e
  ·exact(hf b hb).2.2.1 e
 ·cases i with
  |zero=>simp at h2
  |succ i =>
   have h0':N'[i]? = some y:=h1
   have h2':σ[i]? = some (some v):=by simpa using h2
   have hk:(Wn X N' scope x C s H fp).env.kindOf y=some .cell∨(Wn X N' scope x C s H fp).env.kindOf y=some .free:=by
    rcases h3 with h3 | h3
    ·exfalso
     have e:(Wn X N' scope x C s H fp).env.kindOf y=(scope.names.lookup y).map fun k=>if(k==NameKind.free&&X.env.scope.kind==.function&&X.env.kindOf y==some .cell) then NameKind.cell else k:=Xx X.env scope.names y
     have h3':(Wn X N' scope x C s H fp).env.kindOf y=some .local:=h3
     rw[e]at h3'
     cases q:scope.names.lookup y with
     |none=>rw[q]at h3';cases h3'
     |some k =>
      rw[q]at h3'
      rw[Option.map_some]at h3'
      split at h3'
      ·cases h3'
      ·cases h3'
       exact S.nol y (List.mem_of_getElem? h0') q
    ·exact h3
   obtain⟨hk1,c,hc⟩:=Z5m S I.ok hk
   have h1':X.N[i]? = some y:=by
    have hlt:i<N'.length:=(List.getElem?_eq_some_iff.mp h0').1
    have hlt2:i<X.N.length:=by rw[← S.len];exact hlt
    have hz:(y,X.N[i])∈N'.zip X.N:=by
     refine List.mem_iff_getElem?.mpr ⟨i,?_⟩
     rw[List.getElem?_zip_eq_some]
     exact⟨h0',List.getElem?_eq_getElem hlt2⟩
    rcases S.hid _ hz with e | e
    ·have e':y=X.N[i]:=e
     rw[List.getElem?_eq_getElem hlt2,← e']
    ·exfalso
     have e':scope.names.lookup y=none:=e
     have e2:(Wn X N' scope x C s H fp).env.kindOf y=(scope.names.lookup y).map fun k=>if(k==NameKind.free&&X.env.scope.kind==.function&&X.env.kindOf y==some .cell) then NameKind.cell else k:=Xx X.env scope.names y
     rw[e2,e']at hk
     rcases hk with hk | hk <;> cases hk
   obtain⟨m1,hn1,hl⟩:=I.loc
   obtain⟨u,r,l⟩:=hl i y v h1' h2' (.inr (.inl hk1))
   refine⟨u,r,.inr ⟨hk,c,hc,?_⟩⟩
   rcases l with⟨l,_⟩ | ⟨_,c',hc',z⟩
   ·rw[hk1]at l;cases l
   ·have:=sub _ _ hc
    rw[hc']at this
    cases this
    obtain⟨o,e,d⟩:=z
    exact⟨o,old _ _ e,d⟩
 ·obtain⟨v,o,e1,d⟩:=I.cell y c (sub _ _ e)
  exact⟨v,o,old _ _ e1,d⟩
 ·show(none::σ).length=(x::N').length
  simp[I.len,S.len]
def Ziu(X:Cx)(ifs:List Expr)(t:TT):Prop :=
 ∀(Z2:List (Addr×Obj)) (s:Shared) (σ:St) (H:Hp) (Q:Bool->Hp->Prop),Inv X Z2 σ H s->t σ H Q ->
  wpAny (model X.prog X.w) X.A (forIn ifs true fun c r=>if r=true then do let ok ← isTrue c X.env (eval c X.env);pure (ForInStep.yield ok) else pure (ForInStep.yield r)) (TP X Z2 σ Q) X.xe s
def Zen:TT:=fun _ H Q=>Q true H
theorem Z3o:Ziu X [] Zen:=fun _ _ _ H _ I h=>wpAny_tests_nil ⟨H,I,h⟩
theorem Zd7{c:Expr}{t:TT}(h:PT X c t):Ziu X [c] t:=fun Z2 s σ H Q I hq=>wpAny_tests_one (h Z2 s σ H Q I hq)
def Zik(J:It)(σ:St)(tt:TT)(te:TE)(Fin:List V->Hp->Prop)(H1:Hp):Prop:=∃W:Nat->Nat->List V->Hp->Prop,(∃m,W 0 m [] H1)/\∀i m ys H,W i m ys H ->
 (J.stop i H/\Fin ys H)∨(J.go i H/\ys.length<sizeLine/\∃N:List V->Hp->Prop,(∀ys' H',N ys' H'->∃m',m'<m/\W (i+1) m' ys' H')/\∀x H',J.yld i H x H'->tt (some x::σ) H' fun b H2 =>
  if b=true then te (some x::σ) H2 fun y H3=>N (ys++[y]) H3 else N ys H2)
def Zk8(wi:TI)(tt:TT)(te:TE):TE:=fun σ H Q=>wi σ H fun J H1=>Zik J σ tt te (fun ys H=>∀l,H l=none->Q (.ref l) (Zr H l (.lst ys))) H1
theorem Z6t{elt iter:Expr}{x:Str}{px pos:Pos}{scope:Scope}{ifs:List Expr}{tt:TT}{te:TE}{s2:Shared}{it:Addr}{fp:List Addr}{tn:Nat->Heap->Prop}{J:It}{H2:Hp}{E:Value->Shared->Prop}{Fin:List V->Hp->Prop}{RR:Value->Addr->Result->Shared->Prop}
  (hc:X.calm=true) (S:CScope3 x X.N N' X.env.scope scope) (I2:Inv X Z2 σ H2 s2) (T:Turn X.prog X.w X.K (.Name x px) J fp it tn) (st2:tn 0 s2.heap) (f2:∀b∈fp,Z0q X Z2 H2 b) (hw:Zik J σ tt te Fin H2)
  (ht:∀C s H ex,Ziu (Wn X N' scope x C s H ex) ifs tt) (he:∀C s H ex,PE (Wn X N' scope x C s H ex) elt te)
  (hRR:∀D C s4 ys H3 m5,Inv X Z2 σ (Zr H3 D (.lst ys)) s4->s4.heap.Ns C m5->Z0q X Z2 (Zr H3 D (.lst ys)) C->H3 D=none->Fin ys H3->RR (.ref D) C (.ok .next) s4) :
  wpAny (model X.prog X.w) X.A (newList []) (fun acc s₃=>wpAny (model X.prog X.w) X.A (newFunctionEnv scope X.env.globals (Z6x scope.names X.env.cells) [] X.env.qual none .none (some X.env)) (fun cenv s₄ =>
   codeAny (model X.prog X.w) X.A (.compStart (.ListComp elt [⟨.Name x px,iter,ifs,0⟩] scope pos) 0 (.ref it) acc { cenv with scope:=relabel scope X.env }) (RR acc cenv.locals) s₄) E s₃) E s2:=by
 obtain⟨W,⟨m0,w0⟩,turn⟩:=hw
 have hob:=T.obj 0 s2.heap st2
 refine wpAny_newObj_type (wpAny_newFunctionEnv S.nocell (by intro y hy;simp at hy) (fun h₁ hns₁ hsb₁=>?_) S.kind)
 dsimp only at hns₁ hsb₁ ⊢
 generalize hG2:s2.heap.push { cls:=.type "list",dict:=none,data:=.seq ([]:List Value).toArray }=G2 at hns₁ hsb₁ ⊢
 have hC:G2.objs.size=s2.heap.objs.size+1:=by rw[← hG2,Heap.size_push]
 have hDC:s2.heap.objs.size≠G2.objs.size:=by rw[hC];exact Nat.ne_of_lt (Nat.lt_succ_self _)
 have hCle:s2.heap.objs.size<=G2.objs.size:=by rw[hC];exact Nat.le_succ _
 have below:∀b,b<s2.heap.objs.size->b≠G2.objs.size/\b≠s2.heap.objs.size:=fun b hb=>⟨by rw[hC];exact Nat.ne_of_lt (Nat.lt_succ_of_lt hb),Nat.ne_of_lt hb⟩
 have old:∀b o,s2.heap.get? b=some o->h₁.get? b=some o:=fun b o e=>hsb₁.extBut b o (below b (Heap.lt_size e)).1 (Heap.get?_push_of_some _ (hG2 ▸ Heap.get?_push_of_some _ e))
 have hacc:h₁.get? s2.heap.objs.size=some { cls:=.type "list",data:=.seq ([]:List Value).toArray 0 }:=hsb₁.extBut _ _ hDC (Heap.get?_push_of_some _ (hG2 ▸ Heap.get?_push_size _ rfl))
 generalize hD:s2.heap.objs.size=D at *
 generalize hCC:G2.objs.size=C at *
 have hDf:D∉fp:=fun hm=>by
  obtain⟨o,e,_⟩:=hob D hm
  exact absurd (Heap.lt_size e) (by rw[hD];exact Nat.lt_irrefl _)
 have I4:Inv (Wn X N' scope x C s2 H2 fp) [] (none::σ) H2 { s2 with heap:=h₁,toks:=s2.toks+([]:List (Str×Value)).length } :=
  Z6v (acc:=D) S I2 f2 (fun b hb=>let⟨o,e,_⟩:=hob b hb;⟨o,e⟩) (by omega) hns₁ old
 have hDn:∀ {σ':St} {H':Hp} {s':Shared},Inv (Wn X N' scope x C s2 H2 fp) [] σ' H' s'->(∀b∈fp,H' b=none)->∀b∈fp,Z0q (Wn X N' scope x C s2 H2 fp) [] H' b:=fun{σ' H' s'} I' hn b hb=>by
  refine⟨hn b hb,(I'.ok.exf b hb).1,I'.ok.exfs b hb,.inl hb,fun y c e=>(I'.ok.exf b hb).2 y c e,fun p hp=>absurd (show p∈([]:List (Addr×Obj)) from hp) (by simp)⟩
 have hDfp:∀ {σ':St} {H':Hp} {s':Shared},Inv (Wn X N' scope x C s2 H2 fp) [] σ' H' s'->H' D=none->Z0q (Wn X N' scope x C s2 H2 fp) [] H' D:=fun{σ' H' s'} I' hn=>by
  refine⟨hn,hDC,fun z=>?_,.inr (by show s2.heap.objs.size<=D;omega),fun y c e=>?_,fun p hp=>absurd (show p∈([]:List (Addr×Obj)) from hp) (by simp)⟩
  ·obtain⟨_,o,e,_⟩:=I'.ok.funs.mem z
   exact absurd (show D<s2.heap.objs.size from Heap.lt_size e) (by rw[hD];exact Nat.lt_irrefl _)
  ·obtain⟨v,z⟩:=I2.cell y c (Z5k _ _ _ _ e)
   intro e2
   exact absurd z.lt (by rw[hD,e2];exact Nat.lt_irrefl _)
 have hgt:∀b o,s2.heap.get? b=some o->b≠C/\b≠D:=fun b o e=>by
  have z:=below b (by rw[← hD];exact Heap.lt_size e)
  exact z
 let LI:Nat->Shared->Prop:=fun n s'=>∃i ys its k σ0 H',Inv (Wn X N' scope x C s2 H2 fp) [] (σ0::σ) H' s'/\tn i s'.heap/\(∀b∈fp,H' b=none)/\H' D=none/\Vals ys its/\ys.length<=sizeLine/\s'.heap.get? D=some { cls:=.type "list",data:=.seq its.toArray k }/\W i n ys H'
 have loop:∀s₃:Shared,s₃ = { s2 with heap:=h₁,toks:=s2.toks+([]:List (Str×Value)).length } ->
   codeAny (model X.prog X.w) X.A (.compLoop (.ListComp elt [⟨.Name x px,iter,ifs,0⟩] scope pos) 0 (.ref it) (.ref D) (compEnvC scope (Z6x scope.names X.env.cells) C X.env))
    (RR (.ref D) C) s₃:=by
  rintro s₃ rfl
  refine codeAny_compLoop_tests LI ?_ m0 ⟨0,[],[],0,none,H2,I4,T.keep _ _ _ st2 (fun b _ o e=>old b o e),fun b hb=>(f2 b hb).1,I2.hok.fresh (by rw[hD];exact Nat.le_refl _),.nil,Nat.zero_le _,hacc,w0⟩
  rintro n s3 ⟨i,ys,its,k,σ0,H3,I3,st3,fr3,frD,rv,hysz,ha3,w3⟩
  have IP:Inv (Wn X N' scope x C s2 H2 fp) [(D,{ cls:=.type "list",data:=.seq its.toArray k })] (σ0::σ) H3 s3:=I3.pins_of fun p hp=>by
   have e:p=(D,{ cls:=.type "list",data:=.seq its.toArray k }):=by simpa using hp
   subst e
   obtain⟨f0,f1,f3,_⟩:=hDfp I3 frD
   exact⟨ha3,f0,f1,f3,fun v z=>by cases z⟩
  have fpP:∀ {H':Hp},(∀b∈fp,H' b=none)->∀b∈fp,Z0q (Wn X N' scope x C s2 H2 fp) [(D,{ cls:=.type "list",data:=.seq its.toArray k })] H' b:=fun{H'} hn b hb=>by
   refine⟨hn b hb,(I3.ok.exf b hb).1,I3.ok.exfs b hb,.inl hb,fun y c e=>(I3.ok.exf b hb).2 y c e,fun p hp=>?_⟩
   have e:p=(D,{ cls:=.type "list",data:=.seq its.toArray k }):=by
    have hp':p∈[(D,({ cls:=.type "list",data:=.seq its.toArray k }:Obj))]:=hp
    simpa using hp'
   subst e
   exact fun z=>hDf (by rw[show D=b from z];exact hb)
  rcases turn i n ys H3 w3 with⟨stop,qn⟩ | ⟨go,hlen,N,hN,step⟩
  ·refine wpAny_mono (T.done (Wn X N' scope x C s2 H2 fp) rfl rfl rfl hc i _ s3 (σ0::σ) H3 (fun _ _=>False) IP (fpP fr3) st3 stop) (fun r s4 ⟨hr,I5⟩=>?_) fun _ _ z=>z.elim
   subst hr
   obtain⟨m5,hn5,_⟩:=I5.loc
   have hD4:=(I5.pin _ (List.mem_append_right _ (List.mem_singleton.mpr rfl))).1
   have hcn:H3 C=none:=I5.free
   have hok':HOk X.prog X.w (Zr H3 D (.lst ys)) s4.heap:=fun b u e=>by
    by_cases hb:b=D
    ·subst hb
     rw[Z5]at e
     cases e
     exact⟨hysz,its,k,rv,hD4⟩
    ·rw[Zo hb]at e
     exact(I5.hok b u e).stay (fun c v hc q=>q) (fun c q=>by rw[Zo (Za q frD)];exact q) fun c xs q=>by rw[Zo (Za q frD)];exact q
   have un':Un (Z0o X.stack) fp H2 (Zr H3 D (.lst ys)) s2.heap s4.heap:=by
    have u:=I5.base
    refine⟨u.keep,u.slot,fun b o q n hx=>?_,u.there,fun b xs q=>?_,fun b o xs q=>?_,fun b ps q=>?_⟩
    ·rw[Zo (hgt b o q).2]
     exact u.free b o q n hx
    ·have e:=u.tups b xs q
     rw[Zo (Za e frD)]
     exact e
    ·have e:=u.frzs b o xs q
     rw[Zo (Za e frD)]
     exact e
    ·obtain⟨more,e⟩:=u.tbls b ps q
     exact⟨more,by rw[Zo (Za e frD)];exact e⟩
   have I6:Inv X Z2 σ (Zr H3 D (.lst ys)) s4:=I2.call' (ch:=fp) I5.os un' hok' I5.bare (fun b hb=>⟨(f2 b hb).2.2.2.1,(f2 b hb).2.1,(f2 b hb).2.2.2.2.1,(f2 b hb).2.2.2.2.2⟩)
   exact hRR D C s4 ys H3 m5 I6 hn5 (I2.fpOk (by rw[hD];exact hCle) (by rw[Zo (Ne.symm hDC)];exact hcn)) frD qn
  ·refine wpAny_mono (T.item (Wn X N' scope x C s2 H2 fp) rfl rfl rfl hc i _ s3 (σ0::σ) H3 (fun _ _=>False) IP (fpP fr3) st3 go) (fun r s4 ⟨u,hr,h4⟩=>?_) fun _ _ z=>z.elim
   subst hr
   show wpAny (model X.prog X.w) X.A (letOwnedTupleGo (.Name x px) (.ref it) u >>= fun _=>assign (.Name x px) (compEnvC scope (Z6x scope.names X.env.cells) C X.env) u) _ _ s4
   refine wpAny_bind (wpAny_mono h4 (fun _ s5 ⟨xv,H5,I5,r5,y5,st5,fr5⟩=>?_) fun _ _ z=>z.elim)
   have I5':=I5.pinned (fpP fr5) (T.obj _ _ st5)
   have hloc:Zha (Wn X N' scope x C s2 H2 fp).env.scope x:=.inl (lookup_relabel_local S.own)
   refine wpAny_mono (Z7t (X:=Wn X N' scope x C s2 H2 fp) (i:=0) S.nd rfl hloc (.inr (lookup_relabel_local S.own)) _ s5 (σ0::σ) H5 xv u (fun σ' H'=>σ'=some xv::σ/\H'=H5) I5' r5 ⟨rfl,rfl⟩) (fun _ s6 ⟨σ6,H6,I6,e1,e2⟩=>?_) fun _ _ z=>z.elim
   subst e1 e2
   refine wpAny_mono (ht C s2 H2 fp _ s6 (some xv::σ) H6 _ I6 (step xv H6 y5)) (fun b s7 ⟨H7,I7,q7⟩=>?_) fun _ _ z=>z.elim
   have hpD:∀ {σ':St} {H':Hp} {s':Shared},Inv (Wn X N' scope x C s2 H2 fp) ([(D,{ cls:=.type "list",data:=.seq its.toArray k })]++Z0a fp s5.heap) σ' H' s'->s'.heap.get? D=some { cls:=.type "list",data:=.seq its.toArray k }/\H' D=none:=fun{σ' H' s'} I'=>by
    have z:=I'.pin (D,{ cls:=.type "list",data:=.seq its.toArray k }) (List.mem_append_right _ (List.mem_append_left _ (List.mem_singleton.mpr rfl)))
    exact⟨z.1,z.2.1⟩
   have hpF:∀ {σ':St} {H':Hp} {s':Shared},Inv (Wn X N' scope x C s2 H2 fp) ([(D,{ cls:=.type "list",data:=.seq its.toArray k })]++Z0a fp s5.heap) σ' H' s'->(∀b∈fp,∀o,s5.heap.get? b=some o->s'.heap.get? b=some o)/\∀b∈fp,H' b=none:=fun{σ' H' s'} I'=>by
    refine⟨fun b hb o e=>(I'.pin (b,o) (List.mem_append_right _ (List.mem_append_right _ (Vw hb e)))).1,fun b hb=>?_⟩
    obtain⟨o,e,d⟩:=T.obj _ _ st5 b hb
    exact(I'.pin (b,o) (List.mem_append_right _ (List.mem_append_right _ (Vw hb e)))).2.1
   cases b with
   |false =>
    rw[if_neg Bool.false_ne_true]at q7 ⊢
    obtain⟨m',hm,w7⟩:=hN _ _ q7
    exact⟨m',hm,i+1,ys,its,k,some xv,H7,I7.pins_of (pins':=[]) (fun p hp=>absurd hp (by simp)),T.keep _ _ _ st5 (hpF I7).1,(hpF I7).2,(hpD I7).2,rv,hysz,(hpD I7).1,w7⟩
   |true =>
    rw[if_pos rfl]at q7 ⊢
    refine wpAny_mono (he C s2 H2 fp _ s7 (some xv::σ) H7 _ I7 q7) (fun u8 s8 ⟨y,H8,I8,r8,q8⟩=>?_) fun _ _ z=>z.elim
    obtain⟨m',hm,w8⟩:=hN _ _ q8
    obtain⟨hd1,hd2⟩:=hpD I8
    have hl:=rv.length
    refine append_at hd1 (fun h' hs' e'=>?_) (by rw[List.size_toArray];omega)
    have I9:Inv (Wn X N' scope x C s2 H2 fp) [] (some xv::σ) H8 s8:=I8.pins_of (pins':=[]) (fun p hp=>absurd hp (by simp))
    obtain⟨f0,f1,f3,f4,f5,f6⟩:=hDfp I9 hd2
    refine⟨m',hm,i+1,ys++[y],its++[u8],k+1,some xv,H8,I9.turned (it:=D) (t':=s8.toks) (fun b o hb e=>(hs'.2 b hb).trans e) f0 f1 f4 f5 f6,
     T.keep _ _ _ st5 (fun b hb o e=>(hs'.2 b (fun z=>hDf (by rw[← z];exact hb))).trans ((hpF I8).1 b hb o e)),(hpF I8).2,hd2,rv.append (.cons r8 .nil),by rw[List.length_append,List.length_singleton];omega,?_,w8⟩
    rw[e',List.push_toArray]
 exact codeAny_compStart_list (loop _ rfl) (T.self _ 0 _ _ _ (T.keep _ _ _ st2 (fun b _ o e=>old b o e)) (loop _ rfl))
theorem Z91{elt iter:Expr}{x:Str}{px pos:Pos}{scope:Scope}{ifs:List Expr}{wi:TI}{tt:TT}{te:TE}(hc:X.calm=true)(S:CScope3 x X.N N' X.env.scope scope)(hi:PI X (.Name x px) iter wi)
  (ht:∀C s H ex,Ziu (Wn X N' scope x C s H ex) ifs tt) (he:∀C s H ex,PE (Wn X N' scope x C s H ex) elt te) (hs:∀v,foldedSetIterable iter X.env v=pure v:=by intro _;rfl) :
  PE X (.ListComp elt [⟨.Name x px,iter,ifs,0⟩] scope pos) (Zk8 wi tt te):=by
 intro Z2 s σ H Q I h
 rw[eval_ListComp]
 refine wpAny_comprehension_free (use:=none) rfl hs (Z2a (S.has I.ok)) S.kind S.names (Xs (hi Z2 s σ H _ I h) fun v s1 h1=>Xs h1 fun itv s2 h2=>?_)
 obtain⟨it,fp,tn,J,H2,e,I2,T,st2,f2,hw⟩:=h2
 subst e
 refine Z6t (RR:=fun acc C=>compPost (model X.prog X.w) X.A X.xe none (EP X Z2 σ Q) acc C) hc S I2 T st2 f2 hw ht he fun D C s4 ys H3 m5 I5 hn5 fC frD qn=>⟨m5,hn5,fun h' hs'=>?_⟩
 obtain⟨f0,f1,f3,f4,f5,f6⟩:=fC
 exact⟨.ref D,_,I5.turned (it:=C) (t':=s4.toks) (fun b o hb e=>(hs'.2 b hb).trans e) f0 f1 f4 f5 f6,rfl,qn D frD⟩
abbrev Zkg(X:Cx)(scope:Scope)(x:Str)(C:Addr)(s:Shared)(H:Hp)(ex:List Addr):Cx:=Wn X X.N scope x C s H ex
structure CScope(x:Str)(N:List Str)(osc scope:Scope):Prop where
 kind:scope.kind=.function
 nd:(x::N).Nodup
 own:scope.names.lookup x=some .local
 nocell:∀y∈scope.names,y.2≠.cell
 names:∀y∈scope.names,y.2=.local->scope.names.lookup y.1=some .local
 free:∀y∈scope.names,y.2=.free->osc.names.lookup y.1=some .cell
 nol:∀y∈N,scope.names.lookup y≠some .local
theorem Z4z{α:Type}:∀(l:List α),∀p∈l.zip l,p.1=p.2
 | [],p,h=>by simp at h
 |a::l,p,h=>by
  rw[List.zip_cons_cons]at h
  rcases List.mem_cons.mp h with rfl | h
  ·rfl
  ·exact Z4z l p h
theorem CScope.to3{x:Str}{N:List Str}{osc scope:Scope}(S:CScope x N osc scope):CScope3 x N N osc scope:=⟨S.kind,S.nd,S.own,S.nocell,S.names,S.free,S.nol,rfl,fun p hp=>.inl (Z4z N p hp)⟩
theorem J0{elt iter:Expr}{x:Str}{px pos:Pos}{scope:Scope}{ifs:List Expr}{wi:TI}{tt:TT}{te:TE}(hc:X.calm=true)(S:CScope x X.N X.env.scope scope)(hi:PI X (.Name x px) iter wi)
  (ht:∀C s H ex,Ziu (Zkg X scope x C s H ex) ifs tt) (he:∀C s H ex,PE (Zkg X scope x C s H ex) elt te) (hs:∀v,foldedSetIterable iter X.env v=pure v:=by intro _;rfl) :
  PE X (.ListComp elt [⟨.Name x px,iter,ifs,0⟩] scope pos) (Zk8 wi tt te):=Z91 hc S.to3 hi ht he hs
theorem Z4g{J:It}{n:Nat}{σ:St}{tt:TT}{te:TE}{Fin:List V->Hp->Prop}{H1:Hp}(Pv:Nat->List V->Hp->Prop)(h0:Pv 0 [] H1)(hz:n<sizeLine)(hlen:∀i ys H,Pv i ys H->ys.length<=i)
  (hgo:∀i ys H,i<n->Pv i ys H->J.go i H) (hst:∀ys H,Pv n ys H->J.stop n H)
  (hs:∀i ys H x H',i<n->Pv i ys H->J.yld i H x H'->tt (some x::σ) H' fun b H2=>if b=true then te (some x::σ) H2 fun y H3=>Pv (i+1) (ys++[y]) H3 else Pv (i+1) ys H2)
  (hd:∀ys H,Pv n ys H->Fin ys H):Zik J σ tt te Fin H1:=by
 refine⟨fun i m ys H=>m=n-i/\i<=n/\Pv i ys H,⟨n,by simp,Nat.zero_le _,h0⟩,?_⟩
 rintro i m ys H ⟨rfl,hi,p⟩
 by_cases hlt:i<n
 ·have hl:=hlen i ys H p
  exact .inr ⟨hgo i ys H hlt p,by omega,fun ys' H'=>Pv (i+1) ys' H',fun ys' H' p'=>⟨n-(i+1),by omega,rfl,hlt,p'⟩,fun x H' y=>hs i ys H x H' hlt p y⟩
 ·have e:i=n:=by omega
  subst e
  exact .inl ⟨hst ys H p,hd ys H p⟩
theorem Zge{K:W.Frag}{a:Addr}{xs:List V}{σ:St}{te:TE}{Fin:List V->Hp->Prop}{H1:Hp}(Pv:Nat->List V->Hp->Prop)(h0:Pv 0 [] H1)(hz:xs.length<sizeLine)(hlen:∀i ys H,Pv i ys H->ys.length<=i)
  (hl:∀i ys H,Pv i ys H->SqT K H a xs) (hs:∀i ys H x,xs[i]? = some x->Pv i ys H->te (some x::σ) H fun y H3=>Pv (i+1) (ys++[y]) H3) (hd:∀ys H,Pv xs.length ys H->Fin ys H) :
  Zik (Zil K a) σ Zen te Fin H1:=by
 refine Z4g (n:=xs.length) Pv h0 hz hlen (fun i ys H hi p=>⟨xs,xs[i],hl i ys H p,by simp[hi]⟩) (fun ys H p=>⟨xs,hl _ ys H p,Nat.le_refl _⟩) (fun i ys H x H' hi p y=>?_) hd
 obtain⟨e,y⟩:=y
 subst e
 exact hs i ys _ x (y xs (hl i ys _ p)) p
theorem Ze0{K:W.Frag}{a:Addr}{xs:List V}{σ:St}{te:TE}{Fin:List V->Hp->Prop}{H1:Hp}(Pv:Nat->List V->Hp->Prop)(h0:Pv 0 [] H1)(hz:xs.length<sizeLine)(hlen:∀i ys H,Pv i ys H->ys.length<=i)
  (hl:∀i ys H,Pv i ys H->SqL K H a xs) (hs:∀i ys H x,xs[i]? = some x->Pv i ys H->te (some x::σ) H fun y H3=>Pv (i+1) (ys++[y]) H3) (hd:∀ys H,Pv xs.length ys H->Fin ys H) :
  Zik (Zim K a) σ Zen te Fin H1:=by
 refine Z4g (n:=xs.length) Pv h0 hz hlen (fun i ys H hi p=>⟨xs,xs[i],hl i ys H p,by simp[hi]⟩) (fun ys H p=>⟨xs,hl _ ys H p,Nat.le_refl _⟩) (fun i ys H x H' hi p y=>?_) hd
 obtain⟨e,y⟩:=y
 subst e
 exact hs i ys _ x (y xs (hl i ys _ p)) p
theorem Zaz{lo:Int}{n:Nat}{σ:St}{te:TE}{Fin:List V->Hp->Prop}{H1:Hp}(Pv:Nat->List V->Hp->Prop)(h0:Pv 0 [] H1)(hz:n<sizeLine)(hlen:∀i ys H,Pv i ys H->ys.length<=i)
  (hs:∀i ys H,i<n->Pv i ys H->te (some (.int (lo+i))::σ) H fun y H3=>Pv (i+1) (ys++[y]) H3) (hd:∀ys H,Pv n ys H->Fin ys H) :
  Zik (Zhb lo n) σ Zen te Fin H1:=by
 refine Z4g (n:=n) Pv h0 hz hlen (fun i ys H hi p=>hi) (fun ys H p=>Nat.le_refl n) (fun i ys H x H' hi p y=>?_) hd
 obtain⟨e,y⟩:=y
 subst e y
 exact hs i ys _ hi p
theorem Z3h:∀ {ns:List Int} {us:List Value},Vals (ns.map V.int) us->∃ps:List (Int×Tok),us=ps.map (fun p=>Value.int p.1 p.2)/\ps.map (·.1)=ns
 | [],us,r=>by rw[List.map_nil]at r;cases r;exact⟨[],rfl,rfl⟩
 |n::ns,us,r=>by
  rw[List.map_cons]at r
  cases r with
  |cons r1 r2 =>
   obtain⟨t,e⟩:=r1
   obtain⟨ps,e1,e2⟩:=Z3h r2
   exact⟨(n,t)::ps,by rw[e,e1];rfl,by rw[List.map_cons,e2]⟩
theorem Zbb(hc:X.calm=true):U8 X (.builtin "sum") (fun xs H Q=>∃(p:Addr) (ns:List Int),xs=[.ref p]/\SqL X.K H p (ns.map V.int)/\Q (.int ns.sum) H):=by
 intro Z2 s σ H xs us Q I r h
 obtain⟨p,ns,rfl,hq,q⟩:=h
 obtain⟨u,rfl,rx⟩:=T6 r
 cases rx
 obtain⟨its,rv,pl,hz⟩:=I.list hq
 obtain⟨ps,e1,e2⟩:=Z3h rv
 have hl:s.heap.IsList p (intItems ps.toArray):=by
  have e:intItems ps.toArray=its.toArray:=by rw[e1];simp[intItems]
  rw[e];exact pl.isList
 refine sum_intListG (I.ok.hd hc) hl fun h' tk t' hk=>⟨.int ns.sum,H,I.kept hk,⟨t',?_⟩,q⟩
 rw[preSum_eq,List.take_of_length_le (by simp),e2]
theorem Zaf(hu:X.A.units<cLine):Z4i X (compareOp .Eq) (fun x y H Q=>∃(p r:Addr) (xs:List V),x=.ref p/\y=.ref r/\SqL X.K H p xs/\SqL X.K H r []/\Q (.bl xs.isEmpty) H):=by
 intro Z2 s σ H x y v u Q I rx ry h
 obtain⟨p,r,xs,rfl,rfl,hp,hr,q⟩:=h
 cases rx
 cases ry
 obtain⟨its,rv,pl,hz⟩:=I.list hp
 obtain⟨its2,rv2,pl2,hz2⟩:=I.list hr
 cases rv2
 cases rv with
 |nil=>exact SeqAt.eq_listAt (e:=fun _=>true) pl.isList pl2.isList (by simp) hu (fun j h1 h2=>absurd h1 (by simp)) ⟨.bl true,H,I,rfl,q⟩
 |cons r1 r2=>exact SeqAt.eq_list_lengthsAt pl.isList pl2.isList (by simp) hu ⟨.bl false,H,I,rfl,q⟩
theorem Zs{T:String}{f:V->Hp->Bool->Prop}(hf:∀x H b,f x H b->∃t,TyOf X.K H x t/\W.kitOne X.K t (.type T)=some b) :
  U8 X (.builtin "isinstance") (fun xs H Q=>∃x b,xs=[x,.ty T]/\f x H b/\Q (.bl b) H):=by
 intro Z2 s σ H xs us Q I r h
 obtain⟨x,b,rfl,hx,q⟩:=h
 obtain⟨u,w',rfl,r1,r2⟩:=Z8h r
 cases(show w'=Value.type T from r2)
 obtain⟨t,ty,e⟩:=hf x H b hx
 exact Z9f I r1 ty e fun tk=>⟨.bl b,H,I.tok _,rfl,q⟩
def Zkq(T:String):V->Hp->Bool->Prop:=fun x H b=>match x with
 |.non=>b=(T=="NoneType")
 |.bl _=>b=(T=="bool" || T=="int")
 |.int _=>b=(T=="int")
 |.str _=>b=(T=="str")
 |.ref a=>(∃xs,H a=some (.tup xs)/\b=(T=="tuple"))∨(∃xs,H a=some (.lst xs)/\b=(T=="list"))
 |_=>False
theorem Yk{K:W.Frag}{T:String}(hT:T="bool" ∨ T="int" ∨ T="str" ∨ T="tuple" ∨ T="list"):∀x H b,Zkq T x H b->∃t,TyOf K H x t/\W.kitOne K t (.type T)=some b:=by
 intro x H b h
 cases x with
 |non=>refine⟨_,.non,?_⟩;rcases hT with rfl | rfl | rfl | rfl | rfl <;> cases h <;> rfl
 |bl y=>refine⟨_,.bl y,?_⟩;rcases hT with rfl | rfl | rfl | rfl | rfl <;> cases h <;> rfl
 |int i=>refine⟨_,.int i,?_⟩;rcases hT with rfl | rfl | rfl | rfl | rfl <;> cases h <;> rfl
 |str z=>refine⟨_,.str z,?_⟩;rcases hT with rfl | rfl | rfl | rfl | rfl <;> cases h <;> rfl
 |ref a =>
  rcases h with⟨xs,e,h⟩ | ⟨xs,e,h⟩
  ·refine⟨_,.tup e,?_⟩;rcases hT with rfl | rfl | rfl | rfl | rfl <;> cases h <;> rfl
  ·refine⟨_,.lst e,?_⟩;rcases hT with rfl | rfl | rfl | rfl | rfl <;> cases h <;> rfl
 |_=>exact(show False from h).elim
end
end L2
namespace Seek
open PySem PySem.Spec PyProof.Rows L2
structure Own(P:Program)(w:World)(K:W.Frag)(mg:Str->Option Value)(base:Heap)(k:Nat)(x:Str)(ps:List Str)(sp:Sp):Prop where
 ex:∃f fd,FnOk P w K mg base Wp k f fd ps sp/\mg x=some (.ref f)/\W.keepIn K (.ref f)=true/\Binds K fd ps []
theorem Own.mono{P:Program}{w:World}{K:W.Frag}{mg:Str->Option Value}{base:Heap}{j k:Nat}{x:Str}{ps:List Str}{sp:Sp}(O:Own P w K mg base j x ps sp)(h:j<=k):Own P w K mg base k x ps sp:=by
 obtain⟨f,fd,F,r⟩:=O.ex
 exact⟨f,fd,F.mono h,r⟩
theorem Zv{X:Cx}{k:Nat}{x:Str}{ps:List Str}{sp:Sp}{p pos:Pos}{e:Expr}{es:List Expr}{t:TA}(O:Own X.prog X.w X.K X.mg X.base k x ps sp)(hr:Room k X.A)(hg:Gl X x)(ha:PA X (e::es) t)
  (hdb:(x==("__debug__":Str))=false:=by decide) (he:starEach (e::es) X.env=(false,eval e X.env)::starEach es X.env:=by rfl) (hpl:(backTo pos (starEach es X.env)).any (·.1)=false:=by rfl) :
  PE X (.Call (.Name x p) (e::es) [] pos) (Zc4 sp [] E0 t):=by
 obtain⟨f,fd,F,hm,hk,hb⟩:=O.ex
 exact Z7v F hr hg hm hk hb .nil Z5u ha hdb he hpl
structure Blt(mg:Str->Option Value):Prop where
 b_len:mg "len" = none
 b_range:mg "range" = none
 b_sum:mg "sum" = none
 b_all:mg "all" = none
 b_ord:mg "ord" = none
 b_max:mg "max" = none
 b_min:mg "min" = none
 b_int:mg "int" = none
 b_list:mg "list" = none
 b_tuple:mg "tuple" = none
 b_str:mg "str" = none
 b_bool:mg "bool" = none
 b_isinstance:mg "isinstance" = none
structure Gro(S:List Addr)(H H':Hp):Prop where
 keep:∀b o,H b=some o->b∉S->H' b=some o
 tups:∀b xs,H b=some (.tup xs)->H' b=some (.tup xs)
theorem Gro.refl{S:List Addr}{H:Hp}:Gro S H H:=⟨fun _ _ h _=>h,fun _ _ h=>h⟩
theorem Gro.trans{S:List Addr}{H H1 H2:Hp}(a:Gro S H H1)(b:Gro S H1 H2):Gro S H H2:=⟨fun c o h hc=>b.keep c o (a.keep c o h hc) hc,fun c xs h=>b.tups c xs (a.tups c xs h)⟩
theorem Gro.mono{S S':List Addr}{H H':Hp}(a:Gro S H H')(h:∀b∈S,b∈S'):Gro S' H H':=⟨fun c o q hc=>a.keep c o q fun z=>hc (h c z),a.tups⟩
theorem Gro.new{S:List Addr}{H:Hp}{p:Addr}(h:H p=none)(o:HO):Gro S H (Zr H p o):=⟨fun b u q _=>by rw[Zo (Za q h)];exact q,fun b xs q=>by rw[Zo (Za q h)];exact q⟩
theorem Gro.set{S:List Addr}{H:Hp}{p:Addr}{xs:List V}(hp:p∈S)(h:H p=some (.lst xs))(o:HO):Gro S H (Zr H p o) :=
 ⟨fun b u q hb=>by rw[Zo (fun z=>hb (by rw[z];exact hp))];exact q,fun b ys q=>by rw[Zo (Zcb q h (by intro z;cases z))];exact q⟩
def BoxAt(H:Hp)(b:Addr):Prop:=∃ns:List Int,H b=some (.lst (ns.map V.int))/\ns.length<=63
theorem BoxAt.gro{S:List Addr}{H H':Hp}{l:Addr}(h:BoxAt H l)(g:Gro S H H')(hl:l∉S):BoxAt H' l:=by
 obtain⟨x,e,r⟩:=h
 exact⟨x,g.keep _ _ e hl,r⟩
theorem BoxAt.new{H:Hp}{l p:Addr}{o:HO}(h:BoxAt H l)(hp:H p=none):BoxAt (Zr H p o) l:=h.gro (S:=[]) (Gro.new hp o) (by simp)
theorem Yc{n:Nat}(h:n<=1000):n<=sizeLine:=Nat.le_of_lt (Xp h)
inductive How where | much | little | keep
 deriving DecidableEq
def How.text:How->Str
 |.much=>"much" |.little=>"little" |.keep=>"keep"
inductive Lk where | once | ahead | notahead | behind | notbehind
 deriving DecidableEq
def Lk.text:Lk->Str
 |.once=>"once" |.ahead=>"ahead" |.notahead=>"notahead" |.behind=>"behind" |.notbehind=>"notbehind"
inductive Hd where
 |sign (s:Str) | any | inn (rs:List (Str×Str)) | out (rs:List (Str×Str)) | beg | fin | row | alt
 |times (lo:Int) (hi:Option Int) (how:How) | grp (k:Int) | again (k:Int) | hav (k:Int) | look (w:Lk)
inductive Pat where
 |node (h:Hd) (ks:List Pat)
def Hd.word:Hd->Str
 |.sign _=>"sign" |.any=>"any" |.inn _=>"in" |.out _=>"out" |.beg=>"begin" |.fin=>"end" |.row=>"row" |.alt=>"or"
 |.times _ _ _=>"times" |.grp _=>"group" |.again _=>"again" |.hav _=>"have" |.look w=>w.text
def Z9u:Option Int->V
 |some i=>.int i
 |none=>.non
def RunsAt(H:Hp)(r:Addr)(rs:List (Str×Str)):Prop:=∃vs:List V,H r=some (.tup vs)/\Paired (fun(v:V) (p:Str×Str)=>p.1.length=1/\p.2.length=1/\∃a,v=.ref a/\H a=some (.tup [.str p.1,.str p.2])) vs rs/\rs.length<=20
def Lay(H:Hp)(a:Addr):Hd->List V->Prop
 |.sign s,kv=>kv=[]/\s.length=1/\H a=some (.tup [.str "sign",.str s])
 |.any,kv=>kv=[]/\H a=some (.tup [.str "any"])
 |.inn rs,kv=>kv=[]/\∃r,H a=some (.tup [.str "in",.ref r])/\RunsAt H r rs
 |.out rs,kv=>kv=[]/\∃r,H a=some (.tup [.str "out",.ref r])/\RunsAt H r rs
 |.beg,kv=>kv=[]/\H a=some (.tup [.str "begin"])
 |.fin,kv=>kv=[]/\H a=some (.tup [.str "end"])
 |.row,kv=>kv.length<=10/\∃r,H a=some (.tup [.str "row",.ref r])/\H r=some (.tup kv)
 |.alt,kv=>1<=kv.length/\kv.length<=10/\∃r,H a=some (.tup [.str "or",.ref r])/\H r=some (.tup kv)
 |.times lo hi how,kv=>(0<=lo/\lo<=20/\∀h,hi=some h->0<=h/\h<=20)/\∃k,kv=[k]/\H a=some (.tup [.str "times",.int lo,Z9u hi,.str how.text,k])
 |.grp n,kv=>(0<=n/\n<=20)/\∃k,kv=[k]/\H a=some (.tup [.str "group",.int n,k])
 |.again n,kv=>(0<=n/\n<=20)/\kv=[]/\H a=some (.tup [.str "again",.int n])
 |.hav n,kv=>(0<=n/\n<=20)/\∃y z,kv=[y,z]/\H a=some (.tup [.str "have",.int n,y,z])
 |.look w,kv=>∃k,kv=[k]/\H a=some (.tup [.str w.text,k])
def PatAt(H:Hp):Nat->V->Pat->Prop
 |0,_,_=>False
 |d+1,v,.node h ks=>∃a kv,v=.ref a/\Lay H a h kv/\Paired (PatAt H d) kv ks
theorem RunsAt.mono{H H':Hp}(t:∀b xs,H b=some (.tup xs)->H' b=some (.tup xs)){r:Addr}{rs:List (Str×Str)}(h:RunsAt H r rs):RunsAt H' r rs:=by
 obtain⟨vs,e,p,z⟩:=h
 exact⟨vs,t _ _ e,Paired.mapP p fun v q ⟨h1,h2,a,e1,e2⟩=>⟨h1,h2,a,e1,t _ _ e2⟩,z⟩
theorem Lay.mono{H H':Hp}(t:∀b xs,H b=some (.tup xs)->H' b=some (.tup xs)){a:Addr}{kv:List V}:∀ {h:Hd},Lay H a h kv->Lay H' a h kv
 |.sign _,⟨x,y,z⟩=>⟨x,y,t _ _ z⟩
 |.any,⟨x,z⟩=>⟨x,t _ _ z⟩
 |.inn _,⟨x,r,z,q⟩=>⟨x,r,t _ _ z,q.mono t⟩
 |.out _,⟨x,r,z,q⟩=>⟨x,r,t _ _ z,q.mono t⟩
 |.beg,⟨x,z⟩=>⟨x,t _ _ z⟩
 |.fin,⟨x,z⟩=>⟨x,t _ _ z⟩
 |.row,⟨x,r,z,q⟩=>⟨x,r,t _ _ z,t _ _ q⟩
 |.alt,⟨x,y,r,z,q⟩=>⟨x,y,r,t _ _ z,t _ _ q⟩
 |.times _ _ _,⟨x,k,y,z⟩=>⟨x,k,y,t _ _ z⟩
 |.grp _,⟨x,k,y,z⟩=>⟨x,k,y,t _ _ z⟩
 |.again _,⟨x,y,z⟩=>⟨x,y,t _ _ z⟩
 |.hav _,⟨x,k,l,y,z⟩=>⟨x,k,l,y,t _ _ z⟩
 |.look _,⟨k,y,z⟩=>⟨k,y,t _ _ z⟩
theorem PatAt.mono{H H':Hp}(t:∀b xs,H b=some (.tup xs)->H' b=some (.tup xs)):∀ {d:Nat} {v:V} {p:Pat},PatAt H d v p->PatAt H' d v p
 |0,_,_,h=>h.elim
 |d+1,v,.node h ks,⟨a,kv,e,l,p⟩=>⟨a,kv,e,l.mono t,Paired.mapP p fun _ _ q=>PatAt.mono t q⟩
theorem Lay.head{H:Hp}{a:Addr}{kv:List V}:∀ {h:Hd},Lay H a h kv->∃r,H a=some (.tup (.str h.word::r))
 |.sign _,⟨x,y,z⟩=>⟨_,z⟩
 |.any,⟨x,z⟩=>⟨_,z⟩
 |.inn _,⟨x,r,z,q⟩=>⟨_,z⟩
 |.out _,⟨x,r,z,q⟩=>⟨_,z⟩
 |.beg,⟨x,z⟩=>⟨_,z⟩
 |.fin,⟨x,z⟩=>⟨_,z⟩
 |.row,⟨x,r,z,q⟩=>⟨_,z⟩
 |.alt,⟨x,y,r,z,q⟩=>⟨_,z⟩
 |.times _ _ _,⟨x,k,y,z⟩=>⟨_,z⟩
 |.grp _,⟨x,k,y,z⟩=>⟨_,z⟩
 |.again _,⟨x,y,z⟩=>⟨_,z⟩
 |.hav _,⟨x,k,l,y,z⟩=>⟨_,z⟩
 |.look _,⟨k,y,z⟩=>⟨_,z⟩
mutual
def Pat.groups:Pat->Int
 |.node h ks=>(match h with | .grp _=>1 | _=>0)+Xm ks
def Xm:List Pat->Int
 | []=>0
 |k::ks=>k.groups+Xm ks
end
theorem Z14(xs ys:List Pat):Xm (xs++ys)=Xm xs+Xm ys:=by
 induction xs with
 |nil=>simp[Xm]
 |cons k ks ih=>rw[List.cons_append,Xm,Xm,ih];omega
mutual
def Pat.size:Pat->Nat
 |.node _ ks=>1+Yb ks
def Yb:List Pat->Nat
 | []=>0
 |k::ks=>k.size+Yb ks
end
theorem Z2i(h:Hd)(ks:List Pat):(Pat.node h ks).size=1+Yb ks:=by rw[Pat.size]
theorem Tg(xs ys:List Pat):Yb (xs++ys)=Yb xs+Yb ys:=by
 induction xs with
 |nil=>simp[Yb]
 |cons k ks ih=>rw[List.cons_append,Yb,Yb,ih];omega
theorem Vl(p:Pat):Yb [p]=p.size:=by simp[Yb]
def B(n:Nat):Nat:=3 ^ (n+1)
theorem sz{n:Nat}(h:Nat.ble n 1000=true:=by rfl):n<=sizeLine:=Yc (Nat.le_of_ble_eq_true h)
theorem Z0p{x:V}{r:List V}:Z7f (x::r) 0=some x:=Wh (j:=0) rfl
theorem Zkp{x:V}{r:List V}:Zek (x::r).length 0=some 0:=by
 unfold Zek
 rw[if_pos (Int.le_refl 0),if_pos (by rw[List.length_cons];omega)]
 rfl
theorem Gro.tup{S:List Addr}{H H':Hp}{p:Addr}{o:HO}(g:Gro S H H')(hp:H' p=none):Gro S H (Zr H' p o):=g.trans (Gro.new hp o)
section
variable{K:W.Frag}
end
theorem J8{X:Cx}{sts:List Stmt}{t:TS}(t2:TS)(h:PSs X sts t)(imp:∀D σ H,t2 D σ H->t D σ H):PSs X sts t2:=fun Z2 s σ H D I q=>h Z2 s σ H D I (imp D σ H q)
theorem Z92{H H':Hp}{d:Nat}(t:∀b xs,H b=some (.tup xs)->H' b=some (.tup xs)){vs:List V}{ps:List Pat}(h:Paired (PatAt H d) vs ps):Paired (PatAt H' d) vs ps:=Paired.mapP h fun _ _ q=>q.mono t
section
variable{P:Program}{w:World}{K:W.Frag}{mg:Str->Option Value}{base:Heap}{f:Addr}{fd:FuncData}
structure Def(K:W.Frag)(mg:Str->Option Value)(x:Str)(st:Stmt)(ps:List Str):Prop where
 ex:∃f fd,Fun K x x st f fd/\mg x=some (.ref f)/\Binds K fd ps []
theorem Def.own{x:Str}{st:Stmt}{ps:List Str}{k:Nat}{sp:Sp}(D:Def K mg x st ps)(h:∀f fd,Fun K x x st f fd->FnOk P w K mg base Wp k f fd ps sp):Own P w K mg base k x ps sp:=by
 obtain⟨f,fd,F,m,b⟩:=D.ex
 exact⟨f,fd,h f fd F,m,F.kp,b⟩
theorem FnOk.never{ps:List Str}{k:Nat}{sp:Sp}(no:∀vs H Q E,¬sp vs H Q E):FnOk P w K mg base Wp k f fd ps sp :=
 ⟨fun vs H Q E h=>absurd h (no vs H Q E),fun A outer s H args us vs Q E _ _ _ _ h=>absurd h (no vs H Q E)⟩
end
theorem Gro.drop{b c:Addr}{H H2:Hp}{o:HO}(g:Gro [b,c] (Zr H c o) H2)(hc:H c=none):Gro [b] H H2 :=
 ⟨fun x u q hx=>g.keep x u (by rw[Zo (Za q hc)];exact q) (by
   have hxc:x≠c:=Za q hc
   have hxb:x≠b:=by simpa using hx
   simp[hxb,hxc]),fun x xs q=>g.tups x xs (by rw[Zo (Za q hc)];exact q)⟩
theorem Z01{α β:Type}{F:α->β->Prop}:∀ {xs:List α} {ys:List β} (n:Nat),Paired F xs ys->Paired F (xs.take n) (ys.take n)
 |_,_,0,_=>.nil
 |_,_,_+1,.nil=>.nil
 |_,_,n+1,.cons r t=>.cons r (Z01 n t)
theorem Wo{K:W.Frag}{σ:L2.St}{H:Hp}{Q:VK}{i:Nat}{p:Addr}{xs:List V}{j:Int}{v:V}(h:H p=some (.tup xs))(e:Z7f xs j=some v)(q:Q v H)(hs:σ[i]? = some (some (V.ref p)):=by rfl):Z5y (Z47 K) (W8 i) (tC (.int j)) σ H Q:=⟨_,hs,p,xs,j,v,rfl,rfl,SqT.of h,e,q⟩
theorem Zj0{K:W.Frag}{σ:L2.St}{H:Hp}{Q:VK}{i:Nat}{p:Addr}{xs:List V}{j:Int}{v:V}(h:H p=some (.lst xs))(e:Z7f xs j=some v)(q:Q v H)(hs:σ[i]? = some (some (V.ref p)):=by rfl):Z5y (Zia K) (W8 i) (tC (.int j)) σ H Q:=⟨_,hs,p,xs,j,v,rfl,rfl,SqL.of h,e,q⟩
theorem Z6{α:Type}{A R:α->Prop}{v:α}(e:A v)(h:R v):∃x,A x/\R x:=⟨v,e,h⟩
theorem Wc{α β:Type}{A:α->Prop}{B:β->Prop}{R:α->β->Prop}{a:α}{b:β}(e:A a)(e':B b)(h:R a b):∃x y,A x/\B y/\R x y:=⟨a,b,e,e',h⟩
theorem genD{t:TS}{D':Ends}{σ:L2.St}{H:Hp}{Q:VK}(h:∀D:Ends,D.rt=Q->t D σ H)(e:D'.rt=Q:=by rfl):t D' σ H:=h D' e
theorem pS{X:Cx}(i:Nat){x:Str}{e:PySem.Expr}{te:TE}{pos pos':Pos}(hN:X.N.Nodup)(he:PE X e te)(hi:X.N[i]? = some x:=by rfl)(hx:Zha X.env.scope x:=by first | exact .inl rfl | exact .inr rfl)(hs:swapsWith e (some (.Name x pos')) pos.line X.env=pure false:=by rfl)(hf:X.fn x=true∨X.env.scope.names.lookup x=some .local:=by first | exact .inl rfl | exact .inr rfl | assumption):PS X (.Assign [.Name x pos'] e pos) (Zcg te (Z3g i)):=Zfx hN hi hx he hs hf
theorem pN{X:Cx}(i:Nat){x:Str}{pos:Pos}(hN:X.N.Nodup)(hi:X.N[i]? = some x:=by rfl)(hx:Zha X.env.scope x:=by first | exact .inl rfl | exact .inr rfl)(hf:X.fn x=true∨X.env.scope.names.lookup x=some .local:=by first | exact .inl rfl | exact .inr rfl | assumption):PG X (.Name x pos) (Z3g i):=Z7t hN hi hx hf
theorem Vh{N P:List Str}{sc:Scope}(a:sc.kind=.function:=by rfl)(b:sc.isCoroutine=false:=by rfl)(c:sc.isGenerator=false:=by rfl)(d:N.Nodup:=by decide +kernel)(e:N.take P.length=P:=by rfl)(f:∀x∈P,sc.names.lookup x=some .local∨sc.names.lookup x=some .cell:=by decide +kernel)(g:∀y∈sc.names,y.2≠.free:=by decide +kernel):FnScope N P sc:=⟨a,b,c,d,e,f,g⟩
theorem Vf{Y:Cx}{b:List Stmt}{D:Ends}{σ:L2.St}{H:Hp}(h:let X:=Y;∃t,PSs X b t/\t D σ H):∃t,PSs Y b t/\t D σ H:=h
inductive Wd where
 |sign | any | inn | out | beg | fin | row | alt | times | grp | again | hav | once | ahead | notahead | behind | notbehind
def Wd.text:Wd->Str
 |.sign=>"sign" |.any=>"any" |.inn=>"in" |.out=>"out" |.beg=>"begin" |.fin=>"end" |.row=>"row" |.alt=>"or" |.times=>"times" |.grp=>"group" |.again=>"again" |.hav=>"have"
 |.once=>"once" |.ahead=>"ahead" |.notahead=>"notahead" |.behind=>"behind" |.notbehind=>"notbehind"
def Hd.wd:Hd->Wd
 |.sign _=>.sign | .any=>.any | .inn _=>.inn | .out _=>.out | .beg=>.beg | .fin=>.fin | .row=>.row | .alt=>.alt
 |.times _ _ _=>.times | .grp _=>.grp | .again _=>.again | .hav _=>.hav | .look .once=>.once | .look .ahead=>.ahead | .look .notahead=>.notahead | .look .behind=>.behind | .look .notbehind=>.notbehind
theorem Hd.word_wd(h:Hd):h.word=h.wd.text:=by
 cases h with
 |look lk=>cases lk <;> rfl
 |_=>rfl
def Z15(x y:Str):Bool:=decide (V.str x=V.str y)
theorem Zb{c A B:Prop}[Decidable c](h:¬c)(b:B):if c then A else B:=by rw[if_neg h];exact b
theorem Zj{c A B:Prop}[Decidable c](h:c)(a:A):if c then A else B:=by rw[if_pos h];exact a
theorem Y9{α β:Type}{F:α->β->Prop}:∀ {xs:List α} {ys:List β} {i:Nat} {x:α},Paired F xs ys->xs[i]? = some x->∃y,ys[i]? = some y/\F x y
 |_,_,_,_,.nil,e=>by simp at e
 |_,_,0,_,.cons r _,e=>by simp at e;subst e;exact⟨_,rfl,r⟩
 |_,_,i+1,x,.cons _ t,e=>by
  obtain⟨y,h1,h2⟩:=Y9 (i:=i) (x:=x) t (by simpa using e)
  exact⟨y,by simpa using h1,h2⟩
theorem Xo{α:Type}{l:List α}{i:Nat}{x:α}(h:l[i]? = some x):l.take (i+1)=l.take i++[x]:=by rw[List.take_add_one,h];rfl
def Ziy(ns:List Int):Int:=ns.getD (argBest (fun i j=>decide (ns.getD i 0>ns.getD j 0)) (ns.length-1)) 0
theorem Z5b{ps:List (Int×Tok)}{ns:List Int}(e:ps.map (·.1)=ns):numAt ps.toArray=fun i=>ns.getD i 0:=by
 funext i
 subst e
 simp[numAt,List.getD_eq_getElem?_getD,List.getElem?_map]
theorem Ze3{ps:List (Int×Tok)}{ns:List Int}(e:ps.map (·.1)=ns){k:Nat}{v:Value}(h:(intItems ps.toArray)[k]? = some v):∃t,v=.int (ns.getD k 0) t:=by
 obtain⟨t,q⟩:=intItems_at h
 rw[Z5b e]at q
 exact⟨t,q⟩
section
variable{X:Cx}
end
def Zfy:V->Bool
 |.non=>true | .bl _=>true | .int _=>true | .str _=>true | _=>false
def Va(H:Hp):Nat->V->V->Prop
 |0,_,_=>False
 |n+1,x,y=>(x=y/\Zfy x=true)∨(∃(a b:Addr) (xs ys:List V),x=.ref a/\y=.ref b/\H a=some (.tup xs)/\H b=some (.tup ys)/\xs.length<=1000000/\Paired (Va H n) xs ys)
end Seek
namespace L2
open PySem PySem.Spec PyProof.Rows
section
variable{κ:Type}[DecidableEq κ]
def Z2c(kvs:List (κ×V))(k:κ):Option V:=(kvs.find? fun kv=>decide (kv.1=k)).map (·.2)
def Zew(kvs:List (κ×V))(k:κ):List (κ×V):=kvs.filter fun kv=>decide (kv.1≠k)
theorem Z9z{p:κ×V}{r:List (κ×V)}{k:κ}(e:p.1=k):Z2c (p::r) k=some p.2:=by simp[Z2c,List.find?_cons,e]
theorem Za0{p:κ×V}{r:List (κ×V)}{k:κ}(e:¬p.1=k):Z2c (p::r) k=Z2c r k:=by simp[Z2c,List.find?_cons,e]
theorem RelO.getD{o:Option V}{u:Option Value}{d:V}{d':Value}(r:RelO o u)(rd:RelV d d'):RelV (o.getD d) (u.getD d'):=by
 cases o with
 |none=>cases u with
  |none=>exact rd
  |some _=>exact(show False from r).elim
 |some _=>cases u with
  |none=>exact(show False from r).elim
  |some _=>exact r
theorem KV.val{kvs:List (κ×V)}{vs:List (κ×Value)}(r:KV kvs vs)(k:κ):RelO (Z2c kvs k) (valueAt vs k):=by
 unfold KV at r
 induction r with
 |nil=>exact True.intro
 | @cons p q ps qs h t ih =>
  obtain⟨h1,h2⟩:=h
  by_cases e:p.1=k
  ·have e':q.1=k:=h1.symm.trans e
   have b:valueAt (q::qs) k=some q.2:=by simp[valueAt,List.find?_cons,e']
   rw[Z9z e,b];exact h2
  ·have e':¬q.1=k:=fun z=>e (h1.trans z)
   have b:valueAt (q::qs) k=valueAt qs k:=by simp[valueAt,List.find?_cons,e']
   rw[Za0 e,b];exact ih
theorem KV.drop{kvs:List (κ×V)}{vs:List (κ×Value)}(r:KV kvs vs)(k:κ):KV (Zew kvs k) (without vs k):=by
 unfold KV at r ⊢
 unfold Zew without
 induction r with
 |nil=>exact .nil
 | @cons p q ps qs h t ih =>
  obtain⟨h1,h2⟩:=h
  rw[List.filter_cons,List.filter_cons]
  by_cases e:p.1=k
  ·have a:¬decide (p.1≠k)=true:=by simp[e]
   have b:¬decide (q.1≠k)=true:=by simp[h1.symm.trans e]
   rw[if_neg a,if_neg b];exact ih
  ·have e':¬q.1=k:=fun z=>e (h1.trans z)
   have a:decide (p.1≠k)=true:=by simp[e]
   have b:decide (q.1≠k)=true:=by simp[e']
   rw[if_pos a,if_pos b];exact .cons ⟨h1,h2⟩ ih
theorem KV.length{kvs:List (κ×V)}{vs:List (κ×Value)}(r:KV kvs vs):kvs.length=vs.length:=Paired.length r
end
theorem Zhx{P:Program}{w:World}{k:Uh}{u:Value}(r:RelV (kV k) u):(Wz P w).is k u=true:=by
 cases k with
 |inl i=>obtain⟨t,e⟩:=(show ∃t,u=Value.int i t from r);subst e;exact Z4u P w i t
 |inr x=>obtain⟨t,e⟩:=(show ∃t,u=Value.str x t from r);subst e;exact Z4t P w x t
section
variable{P:Program}{w:World}{H:Hp}{h:Heap}{a:Addr}{X:Cx}{Z2:List (Addr×Obj)}{σ:St}{s:Shared}{y v:V}{u r:Value}{o:Option V}{A:Around}{E:Value->Shared->Prop}{kvs:List (Uh×V)}{k:Uh}
end
def Zig(i:Expr):Prop:=∀ov iv,subscripted i false ov iv=operate [ov,iv] (getItem ov iv)
theorem Zcv{prog:Program}{w:World}{A:Around}{E:Value->Shared->Prop}{s:Shared}{env:Env}{value slice:Expr}{pos:Pos}{T id:String}{Q:Value->Shared->Prop}
  (hl:typeLookup (.type T) "__getitem__" = pure (some (.builtin id))) (hs:Zig slice)
  (h:wpAny (model prog w) A (eval value env) (fun o s₁=>wpAny (model prog w) A (eval slice env) (fun i s₂=>s₂.TypeIs o T/\wpAny (model prog w) A (getItem o i) Q E s₂) E s₁) E s) :
  wpAny (model prog w) A (eval (.Subscript value slice pos) env) Q E s:=by
 refine Subscript_ (wpAny_mono h (fun o s₁ h₁=>wpAny_mono h₁ (fun i s₂ h₂=>?_) fun _ _ x=>x) fun _ _ x=>x)
 obtain⟨hT,h₂⟩:=h₂
 unfold subscriptTail
 refine wpAny_bind ?_
 rw[getitemInPython_of_ne hT.not_modules]
 refine wpAny_bind (wpAny_specialOf hT hl ?_)
 have fin:wpAny (model prog w) A (subscripted slice false o i) (fun r s₃=>wpAny (model prog w) A (letTemporaryGo value o r >>= fun _=>pure r) Q E s₃) E s₂:=by
  rw[hs o i]
  exact wpAny_operating (wpAny_mono h₂ (fun r s₃ h₃=>wpAny_bind (wpAny_letTemporaryGo (wpAny_pure h₃))) fun _ _ x=>x)
 first
  |exact wpAny_pure (wpAny_bind fin)
  |exact wpAny_bind (wpAny_pure (wpAny_bind fin))
  |exact wpAny_bind fin
section
variable{X:Cx}{o i e value:Expr}{pos pos' tpos:Pos}{td ty tv:TE}
end
def Zcn(w:World)(e:DictEntry)(kv:Uh×V):Prop:=Z23 kv.1 e.key=true/\e.hash=Zic w kv.1/\RelV kv.2 e.val
def Zem(K:W.Frag)(w:World)(a:Addr)(kvs:List (Uh×V)):Prop:=(a==sysModules)=false/\∃(o:Obj) (es:Array DictEntry) (ep:Nat),K.lookup a=some o/\o.ExactDict/\o.data=.dict es ep/\Paired (Zcn w) es.toList kvs/\(kvs.map (·.1)).Nodup
theorem Z1g{P:Program}{w:World}:∀ {es:List DictEntry} {kvs:List (Uh×V)},Paired (Zcn w) es kvs->∃vs:List (Uh×Value),KV kvs vs/\PySem.Pairs (Wz P w) es vs/\vs.map (·.1)=kvs.map (·.1)/\∀e∈es,∃k,(Wz P w).is k e.key=true/\e.hash=(Wz P w).hash k
 |_,_,.nil=>⟨[],.nil,.nil,rfl,fun e he=>by simp at he⟩
 |e::es,kv::kvs,.cons ⟨h1,h2,h3⟩ t=>by
  obtain⟨vs,r,p,m,k⟩:=Z1g (P:=P) t
  refine⟨(kv.1,e.val)::vs,.cons ⟨rfl,h3⟩ r,.cons h1 rfl p,by simp[m],fun e' he'=>?_⟩
  rcases List.mem_cons.mp he' with rfl | he'
  ·exact⟨kv.1,h1,h2⟩
  ·exact k e' he'
section
variable{X:Cx}{Z2:List (Addr×Obj)}{σ:St}{H:Hp}{s:Shared}{a:Addr}{kvs:List (Uh×V)}
theorem Inv.dcK(I:Inv X Z2 σ H s)(h:Zem X.K X.w a kvs):∃vs:List (Uh×Value),KV kvs vs/\s.heap.DictOf (Wz X.prog X.w) a vs:=by
 obtain⟨_,o,es,ep,l,x,d,p,nd⟩:=h
 obtain⟨vs,r,pr,m,k⟩:=Z1g (P:=X.prog) p
 exact⟨vs,r,o,es,ep,I.kIn a o l,x,d,fun e he=>k e (by simpa using he),pr,by rw[m];exact nd⟩
end
def Zko(K:W.Frag)(w:World):R2:=fun x y H Q=>∃a kvs k v,x=.ref a/\Zem K w a kvs/\y=kV k/\Z2c kvs k=some v/\Q v H
def Zhn(K:W.Frag)(w:World)(td ty:TE):TE:=Z5y (Zko K w) td ty
section
variable{X:Cx}{o i:Expr}{pos:Pos}{td ty:TE}
theorem Z3r(ho:PE X o td)(hi:PE X i ty)(hs:Zig i):PE X (.Subscript o i pos) (Zhn X.K X.w td ty):=by
 intro Z2 s σ H Q I h
 refine Zcv PySem.F.slot_dict_getitem.lookup hs (Xs (ho Z2 s σ H _ I h) fun u s1 ⟨x,H1,I1,rx,q1⟩=>Xs (hi Z2 s1 σ H1 _ I1 q1) fun iv s2 ⟨y,H2,I2,ry,a,kvs,k,v,ex,dc,ey,hv,q2⟩=>?_)
 subst ex ey
 obtain rfl:u=Value.ref a:=rx
 obtain⟨vs,rel,dd⟩:=I2.dcK dc
 obtain⟨w',hw,rw'⟩:=RelO.some_of (v:=v) (o:=valueAt vs k) (by rw[← hv];exact rel.val k)
 exact⟨dd.typeIs,wpAny_getItem_of (Zhx ry) dd.mapOf hw ⟨v,H2,I2.tok _,rw',q2⟩⟩
end
theorem Zbz{K:W.Frag}{w:World}{a:Addr}{es:Array DictEntry}{ep:Nat}{kvs:List (Uh×V)}(l:K.lookup a=some ⟨.type "dict",none,.dict es ep,#[]⟩)(hd:(a==sysModules)=false)(p:Paired (Zcn w) es.toList kvs)(nd:(kvs.map (·.1)).Nodup):Zem K w a kvs :=
 ⟨hd,_,es,ep,l,⟨rfl,rfl,rfl⟩,rfl,p,nd⟩
theorem Ue{w:World}{h:Int}{x y:Str}{t u:Tok}(e:h=PyData.keyHash w.params x):Zcn w ⟨h,.str x t,.str y u⟩ (.inr x,.str y):=⟨Jr x t,e,⟨u,rfl⟩⟩
section
variable{X:Cx}{Z2:List (Addr×Obj)}{σ:St}{H:Hp}{s:Shared}
end
theorem Z16:∀ {xs:List Str} {us:List Value},Vals (xs.map V.str) us->StrsAre us xs
 | [],_,r=>by cases r;exact .nil
 |x::xs,_,r=>by
  rw[List.map_cons]at r
  cases r with
  |cons q t =>
   obtain⟨k,rfl⟩:=q
   exact .cons x k (Z16 t)
def Zhr(K:W.Frag):V->List V->Hp->VK->Prop:=fun x vs H Q=>∃(sep:Str) (l:Addr) (xs:List Str),x=.str sep/\vs=[.ref l]/\SqL K H l (xs.map V.str)/\(xs.map (·.length)).sum+xs.length*sep.length<=16777216/\Q (.str (Txt.join sep xs)) H
section
variable{X:Cx}
theorem Z3v:Zk6 X "str.join" (Zhr X.K):=by
 intro Z2 s σ H x vs v us Q I rx rv h
 obtain⟨sep,l,xs,rfl,rfl,hl,hz,q⟩:=h
 obtain⟨t,rfl⟩:=rx
 obtain⟨u,rfl,ru⟩:=Vals.one rv
 obtain rfl:u=Value.ref l:=ru
 obtain⟨its,r,pl,_⟩:=I.list hl
 exact join_list pl.isList (by simpa using Z16 r) hz fun t' k=>⟨.str (Txt.join sep xs),H,I.tok _,⟨_,rfl⟩,q⟩
end
theorem Xc(a b:Str):(a++b).length=a.length+b.length:=by
 show(a.cps++b.cps).size=_
 rw[Array.size_append]
 rfl
theorem Jx(a b c:Str):(a++b)++c=a++(b++c):=by
 show(⟨(a.cps++b.cps)++c.cps⟩:Str)=⟨a.cps++(b.cps++c.cps)⟩
 rw[Array.append_assoc]
open Builtin
theorem Z13:fillsNumberSlot (.type "tuple") "mul" = pure false :=
 PySem.fillsNumberSlot_seq (id:="tuple.__mul__") (r:=some (.builtin "tuple.__rmul__")) F.slot_tuple_mul.lookup (by decide +kernel) F.slot_tuple_rmul.lookup (by decide +kernel)
theorem Zd5:seqRepeat? (.type "tuple")=pure (some (.builtin "tuple.__mul__")):=by
 unfold seqRepeat?
 rw[PySem.seqSlot_of (T:="tuple") (name:="__mul__") (id:="tuple.__mul__") F.slot_tuple_mul.lookup (by decide +kernel),PySem.seqSlot_of (T:="tuple") (name:="__rmul__") (id:="tuple.__rmul__") F.slot_tuple_rmul.lookup (by decide +kernel)]
 rfl
theorem Za7(a:Int)(t:Tok)(l:Addr)(od:Option Addr)(items:Array Value)(n:Nat)(sl:Array (Option Value)) :
  Meets (Builtin.«int.__rmul__» ⟨[.int a t,.ref l],[]⟩) (fun _ R s=>s.heap.get? l=some ⟨.type "tuple",od,.seq items n,sl⟩/\R (.ok (.ret Value.notImplemented)) s) :=
 .of_wp fun prog w A R s h=>by obtain⟨hp,g,d,tk,os⟩:=s;obtain⟨hl,h⟩:=h;wp_walk;exact⟨_,rfl,h⟩
theorem Zat(k:Int)(t:Tok)(l:Addr)(od:Option Addr)(items:Array Value)(n:Nat)(sl:Array (Option Value))(h1:¬(decide (k < -(2 ^ 63))||decide (k≥2 ^ 63))=true)(h2:¬(items.isEmpty||k==1)=true)(h3:(decide (k<=0)||items.isEmpty)=true) :
  Meets (Builtin.«tuple.__mul__» ⟨[.ref l,.int k t],[]⟩) (fun _ R s=>s.heap.get? l=some ⟨.type "tuple",od,.seq items n,sl⟩/\R (.ok (.ret (Value.ref s.heap.objs.size))) { s with heap:=s.heap.push { cls:=Value.type "tuple",data:=.seq #[] } }) :=
 .of_wp fun prog w A R s h=>by
  obtain⟨hp,g,d,tk,os⟩:=s;obtain⟨hl,h⟩:=h;have f1:=AutoSeq1.idx_int;wp_walk
  rw[if_neg h1]
  wp_walk
  exact⟨_,rfl,h⟩
theorem Zas(k:Int)(t:Tok)(l:Addr)(od:Option Addr)(items:Array Value)(n:Nat)(sl:Array (Option Value))(h1:¬(decide (k < -(2 ^ 63))||decide (k≥2 ^ 63))=true)(h2:(items.isEmpty||k==1)=true) :
  Meets (Builtin.«tuple.__mul__» ⟨[.ref l,.int k t],[]⟩) (fun _ R s=>s.heap.get? l=some ⟨.type "tuple",od,.seq items n,sl⟩/\R (.ok (.ret (Value.ref l))) s) :=
 .of_wp fun prog w A R s h=>by
  obtain⟨hp,g,d,tk,os⟩:=s;obtain⟨hl,h⟩:=h;have f1:=AutoSeq1.idx_int;wp_walk
  rw[if_neg h1]
  wp_walk
  exact⟨_,rfl,h⟩
theorem Zar(k:Int)(t:Tok)(l:Addr)(od:Option Addr)(items:Array Value)(n:Nat)(sl:Array (Option Value))(h1:¬(decide (k < -(2 ^ 63))||decide (k≥2 ^ 63))=true)(h2:¬(items.isEmpty||k==1)=true)(h3:¬(decide (k<=0)||items.isEmpty)=true)
  (h4:¬(items.size:Int)*k>(2 ^ 63-1) / 8) (h5:¬Tuple.tupleTooMany (items.size*k)=true) (h6:(List.foldl (fun x1 x2=>x1++x2) #[] (List.replicate k.toNat items)).size<=sizeLine) :
  Meets (Builtin.«tuple.__mul__» ⟨[.ref l,.int k t],[]⟩) (fun _ R s=>s.heap.get? l=some ⟨.type "tuple",od,.seq items n,sl⟩/\R (.ok (.ret (Value.ref s.heap.objs.size))) { s with heap:=s.heap.push { cls:=Value.type "tuple",data:=.seq (List.foldl (fun x1 x2=>x1++x2) #[] (List.replicate k.toNat items)) } }) :=
 .of_wp fun prog w A R s h=>by
  obtain⟨hp,g,d,tk,os⟩:=s;obtain⟨hl,h⟩:=h;have f1:=AutoSeq1.idx_int;wp_walk
  rw[if_neg h1]
  wp_walk
  rw[if_neg h4]
  wp_walk
  exact⟨_,rfl,h⟩
def Zhq:R2:=fun x y H Q=>∃a k xs,x=.ref a/\y=.int k/\H a=some (.tup xs)/\0<=k/\xs.length*k.toNat<=1000/\k<=1000 /\
 (k=1->Q (.ref a) H)/\((xs=[]->k=1)->k≠1->∀p,H p=none->Q (.ref p) (Zr H p (.tup (List.replicate k.toNat xs).flatten)))/\(xs≠[])
section
variable{X:Cx}{prog:Program}{w:World}{A:Around}{R:Result->Shared->Prop}{it:Addr}{fp wr:List Addr}{m:Nat}{P:Nat->Value->Prop}{St:Nat->Heap->Prop}
theorem Zdf:Z4i X (binaryOp .Mult) Zhq:=by
 intro Z2 s σ H x y v u Q I rx ry h
 obtain⟨a,k,xs,rfl,rfl,hH,h0,hz,hk,q1,q2,hne⟩:=h
 cases rx
 obtain⟨t,rfl⟩:=ry
 obtain⟨its,r,⟨o,ho,hc,n,hd⟩,_⟩:=I.tuple (SqT.of hH)
 obtain⟨oc,od,odt,osl⟩:=o
 cases hc
 cases hd
 have hl:=r.length
 have hlen:0<its.length:=by
  rw[← hl]
  exact List.length_pos_iff.mpr hne
 have hem:its.toArray.isEmpty=false:=by
  cases its with
  |nil=>simp at hlen
  |cons _ _=>rfl
 have c1:¬(decide (k < -(2 ^ 63))||decide (k≥2 ^ 63))=true:=by simp;omega
 refine wpAny_binaryOp_repeat_ref (T:="tuple") (U:="int") (by decide) ⟨_,ho,rfl⟩ (fun s'=>typeIs_int s' k t) Z13 F.fills_int_mul F.slot_int_rmul Zd5 F.slot_int_index.lookup
  (call_meets F.slot_int_rmul (typeIs_int s k t) F.entry_int_rmul (F.args_int_rmul_2 _ _) (Za7 k t a od its.toArray n osl) ⟨ho,rfl,⟨_,ho,rfl⟩,?_⟩)
 by_cases e1:k=1
 ·exact call_meets F.slot_tuple_mul ⟨_,ho,rfl⟩ F.entry_tuple_mul (F.args_tuple_mul_2 _ _) (Zas k t a od its.toArray n osl c1 (by simp[e1])) ⟨ho,.ref a,H,I,rfl,q1 e1⟩
 have c2:¬(its.toArray.isEmpty||k==1)=true:=by rw[hem];simpa using e1
 have q2':=q2 (fun z=>absurd z hne) e1
 by_cases e0:k=0
 ·refine call_meets F.slot_tuple_mul ⟨_,ho,rfl⟩ F.entry_tuple_mul (F.args_tuple_mul_2 _ _) (Zat k t a od its.toArray n osl c1 c2 (by simp[e0])) ⟨ho,?_⟩
  have hn:=I.hok.fresh (Nat.le_refl s.heap.objs.size)
  have:=q2' _ hn
  rw[e0]at this
  refine⟨.ref s.heap.objs.size,_,I.laid (a:=s.heap.objs.size) (o:=.tup []) (t':=s.toks) (fun _ _ q=>Heap.get?_push_of_some _ q) (Nat.le_refl _) ⟨Nat.zero_le _,[],.nil,⟨_,Heap.get?_push_size _ rfl,rfl,0,rfl⟩⟩,rfl,?_⟩
  exact this
 ·have hrep:List.foldl (fun x1 x2=>x1++x2) #[] (List.replicate k.toNat its.toArray)=(List.replicate k.toNat its).flatten.toArray:=by
   have:=Z2x its k.toNat []
   rw[List.nil_append]at this
   exact this
  have hzi:its.length*k.toNat<=1000:=by rw[← hl];exact hz
  have hzk:(its.length:Int)*k<=1000:=by
   have:((its.length*k.toNat:Nat):Int)<=1000:=by omega
   rw[Int.natCast_mul,Int.toNat_of_nonneg h0]at this
   exact this
  have hsl:(sizeLine:Int)=16777216:=by rw[sizeLine_eq];rfl
  refine call_meets F.slot_tuple_mul ⟨_,ho,rfl⟩ F.entry_tuple_mul (F.args_tuple_mul_2 _ _) (Zar k t a od its.toArray n osl c1 c2 (by rw[hem];simp;omega) (by rw[List.size_toArray];omega) (by rw[List.size_toArray];unfold Tuple.tupleTooMany;simp;omega) (by rw[hrep,List.size_toArray,Z82,sizeLine_eq,Nat.mul_comm];omega)) ⟨ho,?_⟩
  have hn:=I.hok.fresh (Nat.le_refl s.heap.objs.size)
  rw[hrep]
  refine⟨.ref s.heap.objs.size,_,I.laid (a:=s.heap.objs.size) (o:=.tup (List.replicate k.toNat xs).flatten) (t':=s.toks) (fun _ _ q=>Heap.get?_push_of_some _ q) (Nat.le_refl _) ⟨by rw[Z82,sizeLine_eq,Nat.mul_comm];omega,_,r.rep k.toNat,⟨_,Heap.get?_push_size _ rfl,rfl,0,rfl⟩⟩,rfl,q2' _ hn⟩
theorem Z2r:Z4i X (compareOp .LtE) (fun x y H Q=>∃i j,x=.str i/\y=.str j/\Q (.bl (!decide (j.cps.toList<i.cps.toList))) H):=by
 intro Z2 s σ H x y v u Q I rx ry h
 obtain⟨i,j,rfl,rfl,q⟩:=h
 obtain⟨t,rfl⟩:=rx
 obtain⟨t',rfl⟩:=ry
 exact PySem.P.le_str (Y4 I q rfl)
def Zj9(P:Program)(w:World)(K:W.Frag)(mg:Str->Option Value)(base:Heap)(k:Nat)(tf:TE)(t:TA):TE:=fun σ H Q=>tf σ H fun x H1=>∃f fd ps sp,x=.ref f/\FnOk P w K mg base Wp k f fd ps sp/\W.keepIn K (.ref f)=true/\Binds K fd ps []/\t σ H1 fun vs H2=>sp vs H2 Q E0
theorem Zg3{k:Nat}{o i e:Expr}{es:List Expr}{p pos:Pos}{tf:TE}{t:TA}(hr:Room k X.A)(hf:PE X (.Subscript o i p) tf)(ha:PA X (e::es) t)(he:starEach (e::es) X.env=(false,eval e X.env)::starEach es X.env:=by rfl)(hpl:(backTo pos (starEach es X.env)).any (·.1)=false:=by rfl) :
  PE X (.Call (.Subscript o i p) (e::es) [] pos) (Zj9 X.prog X.w X.K X.mg X.base k tf t):=by
 intro Z2 s σ H Q I h
 show wpAny _ _ (eval (.Subscript o i p) X.env >>= fun f=>callWith pos f [] (backTo pos (starEach (e::es) X.env)) (backToKw pos (keywordEach [] X.env))) _ _ _
 refine wpAny_bind (Xs (hf Z2 s σ H _ I h) fun u s1 ⟨x,H1,I1,r1,f,fd,ps,sp,ex,F,hk,hb,q1⟩=>?_)
 subst ex
 obtain rfl:u=Value.ref f:=r1
 refine W.callWith_K (h₀:=X.base) I1.ok.mod.kin hk (Xs (ha pos Z2 s1 σ H1 _ I1 q1) fun us s2 ⟨vs,H2,I2,r2,q2⟩=>⟨I2.kIn,?_⟩) he hpl
 exact Z4c F hr hb .nil Z5u I2 r2 (by rw[List.append_nil];exact q2)
theorem Zdz{kw:List (Str×Value)}(Wk:Walks prog w A.in1 it fp wr m P St)(bt:Nat->Nat->Bool)(cmp:CmpOf prog w A.in1 .Gt P bt)(B:Addr)(nB:B∉fp) :
  ∀(k j:Nat) (z:Shared) (u:Value) (c:Nat),m-(j+1)=k->j+1<=m->St (j+1) z.heap->P (argBest bt j) u->z.heap.get? B=some ⟨.type "list",none,.seq #[u,u] c,#[]⟩ ->
  (∀v h' tk,P (argBest bt (m-1)) v->(∀b o,b∉wr->b≠B->z.heap.get? b=some o->h'.get? b=some o)->R (.ok (.ret v)) { z with heap:=h',toks:=tk }) ->
  codeAny (model prog w) A (.builtin "max.loop" ⟨[.ref it,.none,.ref B],kw⟩) R z:=by
 have nW:B∉wr:=fun h=>nB (Wk.sub _ h)
 have nm:(toString "max" ++ toString ".loop":String)="max.loop":=by decide
 intro k
 induction k with
 |zero =>
  intro j z u c ek lej sj pj gB fin
  have ej:j+1=m:=by omega
  refine codeAny_builtin PySem.F.entry_max_loop ?_
  rw[Around.under_plainId PySem.F.plain_max_loop _]
  show wpAny _ A.in1 (seqItems? (.ref B) >>= _) _ _ z
  refine wpAny_bind (wpAny_seqItems gB rfl ?_)
  show wpAny _ A.in1 (tryCatch (pyNext (.ref it)) _ >>= _) _ _ z
  refine wpAny_bind (wpAny_tryCatch (Wk.done z _ _ (ej ▸ sj) fun g tk kp=>?_))
  have gB':=kp B _ nW gB
  show wpAny _ A.in1 (updateSeq B (fun _=>#[]) >>= _) _ _ _
  refine wpAny_bind ?_
  refine wpAny_updateSeq gB' rfl (wpAny_bind (wpAny_letGo (wpAny_pure ?_)))
  exact fin u _ tk (by rw[← ej];exact pj) fun b o b1 b2 e=>(Heap.get?_update_other _ _ (Ne.symm b2)).trans (kp b o b1 e)
 |succ k ih =>
  intro j z u c ek lej sj pj gB fin
  have lt:j+1<m:=by omega
  refine codeAny_builtin PySem.F.entry_max_loop ?_
  rw[Around.under_plainId PySem.F.plain_max_loop _]
  show wpAny _ A.in1 (seqItems? (.ref B) >>= _) _ _ z
  refine wpAny_bind (wpAny_seqItems gB rfl ?_)
  show wpAny _ A.in1 (tryCatch (pyNext (.ref it)) _ >>= _) _ _ z
  refine wpAny_bind (wpAny_tryCatch (Wk.item (j+1) z _ _ lt sj fun v g tk pv sv kp=>?_))
  have gB':=kp B _ nW gB
  show wpAny _ A.in1 (tryCatch (holding [v,v] (richCompare .Gt v u >>= _)) _ >>= _) _ _ _
  refine wpAny_bind (wpAny_tryCatch (wpAny_holding (wpAny_bind (cmp (j+1) (argBest bt j) v u _ _ _ pv pj ?_))))
  refine wpAny_bind (wpAny_holding (wpAny_truthy_bool ?_))
  refine wpAny_bind (wpAny_letGo (wpAny_pure ?_))
  cases eb:bt (j+1) (argBest bt j) with
  |true =>
   simp only[if_true]
   refine wpAny_bind ?_
   refine wpAny_updateSeq gB' rfl (wpAny_bind (wpAny_letGo ?_))
   rw[nm]
   refine wpAny_pure ⟨plainId_quiet PySem.F.plain_max_loop _,ih (j+1) _ v _ (by omega) lt (Wk.frame _ _ _ sv fun b bf o e=>?_) (by simp only[argBest,eb,if_true];exact pv) (Heap.get?_update_self _ gB' rfl) fun v' g' tk' p' k'=>?_⟩
   ·exact(Heap.get?_update_other _ _ (fun q:B=b=>nB (by rw[q];exact bf))).trans e
   ·exact fin v' g' tk' p' fun b o b1 b2 e=>k' b o b1 b2 ((Heap.get?_update_other _ _ (Ne.symm b2)).trans (kp b o b1 e))
  |false =>
   simp only[Bool.false_eq_true,if_false]
   refine wpAny_bind (wpAny_letGo ?_)
   rw[nm]
   refine wpAny_pure ⟨plainId_quiet PySem.F.plain_max_loop _,ih (j+1) _ u c (by omega) lt sv (by simp only[argBest,eb,Bool.false_eq_true,if_false];exact pj) gB' fun v' g' tk' p' k'=>?_⟩
   exact fin v' g' tk' p' fun b o b1 b2 e=>k' b o b1 b2 (kp b o b1 e)
theorem Zaq{kw:List (Str×Value)}{d:Value}(hkw:kw=[(("default":Str),d)])(Wk:Walks prog w A.in1 it fp wr m P St)(bt:Nat->Nat->Bool)(cmp:CmpOf prog w A.in1 .Gt P bt)(B:Addr)(nB:B∉fp){z:Shared}{c:Nat}(s0:St 0 z.heap)(gB:z.heap.get? B=some ⟨.type "list",none,.seq #[] c,#[]⟩)
  (fin:∀v h' tk,((m=0/\v=d)∨(0<m/\P (argBest bt (m-1)) v))->(∀b o,b∉wr->b≠B->z.heap.get? b=some o->h'.get? b=some o)->R (.ok (.ret v)) { z with heap:=h',toks:=tk }) :
  codeAny (model prog w) A (.builtin "max.loop" ⟨[.ref it,.none,.ref B],kw⟩) R z:=by
 subst hkw
 have nW:B∉wr:=fun h=>nB (Wk.sub _ h)
 have nm:(toString "max" ++ toString ".loop":String)="max.loop":=by decide
 refine codeAny_builtin PySem.F.entry_max_loop ?_
 rw[Around.under_plainId PySem.F.plain_max_loop _]
 show wpAny _ A.in1 (seqItems? (.ref B) >>= _) _ _ z
 refine wpAny_bind (wpAny_seqItems gB rfl ?_)
 show wpAny _ A.in1 (tryCatch (pyNext (.ref it)) _ >>= _) _ _ z
 by_cases e0:m=0
 ·refine wpAny_bind (wpAny_tryCatch (Wk.done z _ _ (e0 ▸ s0) fun g tk kp=>?_))
  show wpAny _ A.in1 (rule _ >>= _) _ _ _
  refine wpAny_bind (wpAny_rule (wpAny_pure ?_))
  exact fin d g tk (.inl ⟨e0,rfl⟩) fun b o b1 _ e=>kp b o b1 e
 ·refine wpAny_bind (wpAny_tryCatch (Wk.item 0 z _ _ (by omega) s0 fun v g tk pv sv kp=>?_))
  have gB':=kp B _ nW gB
  show wpAny _ A.in1 (updateSeq B (fun _=>#[v,v]) >>= _) _ _ _
  refine wpAny_bind ?_
  refine wpAny_updateSeq gB' rfl ?_
  rw[nm]
  refine wpAny_pure ⟨plainId_quiet PySem.F.plain_max_loop _,Zdz Wk bt cmp B nB _ 0 _ v _ rfl (by omega) (Wk.frame _ _ _ sv fun b bf o e=>?_) pv (Heap.get?_update_self _ gB' rfl) fun v' g' tk' p' k'=>?_⟩
  ·exact(Heap.get?_update_other _ _ (fun q:B=b=>nB (by rw[q];exact bf))).trans e
  ·exact fin v' g' tk' (.inr ⟨by omega,p'⟩) fun b o b1 b2 e=>k' b o b1 b2 ((Heap.get?_update_other _ _ (Ne.symm b2)).trans (kp b o b1 e))
theorem Zef(a d:Value):argsOk "max" ⟨[a],[(("default":Str),d)]⟩:=by unfold argsOk;kernel_rfl
theorem Z3b{E:Value->Shared->Prop}{s:Shared}{id:String}{b:Builtin}{as:List Value}{kw:List (Str×Value)}{Q:Value->Shared->Prop}(hk:builtinKind id=none)(hp:plainId id=true)(hb:entryFor table id=some b)(ha:argsOk id ⟨as,kw⟩)
  (hc:wpAny (model prog w) A.in1 (b ⟨as,kw⟩) (fun fin s'=>match fin with
   |.done f=>(match(Except.ok f:Result) with | .ok (.ret v)=>Q v s' | .ok _=>False | .error e=>E e s')
   |.again c=>c.quiet=true/\codeAny (model prog w) A c (fun r s'=>match r with | .ok (.ret v)=>Q v s' | .ok _=>False | .error e=>E e s') s') E s):wpAny (model prog w) A (call (.builtin id) as kw) Q E s:=by
 refine wpAny_call (codeAny_call_builtin hp hb ?_)
 simp only[checkBuiltinCall,hk]
 cases sg:Manifest.signature? id with
 |none=>exact wpAny_pure hc
 |some sig =>
  simp only[argsOk,sg]at ha
  have h2:Bind.checkArgs id sig ⟨as,kw⟩=pure ():=ha
  show wpAny _ A.in1 (Bind.checkArgs id sig ⟨as,kw⟩) _ _ s
  rw[h2]
  exact wpAny_pure hc
theorem Z4v{E:Value->Shared->Prop}{s:Shared}{l:Addr}{xs:Array (Int×Tok)}{d:Value}{Q:Value->Shared->Prop}(hh:A.handled=none)(hl:s.heap.IsList l (intItems xs))
  (h:∀v h' tk,((xs.size=0/\v=d)∨(0<xs.size/\(intItems xs)[argBest (fun i j=>decide (numAt xs i>numAt xs j)) (xs.size-1)]? = some v))->(∀b o,s.heap.get? b=some o->h'.get? b=some o)->Q v { s with heap:=h',toks:=tk }) :
  wpAny (model prog w) A (call (.builtin "max") [.ref l] [(("default":Str),d)]) Q E s:=by
 have nm:(toString "max" ++ toString ".loop":String)="max.loop":=by decide
 refine Z3b PySem.F.kind_max PySem.F.plain_max PySem.F.entry_max (Zef _ _) ?_
 show wpAny _ A.in1 (Builtin.Builtins.bindParams "max" ["key","default"] 0 ⟨[],[(("default":Str),d)]⟩ >>= _) _ _ s
 refine wpAny_bind (wpAny_of_eq (show Builtin.Builtins.bindParams "max" ["key","default"] 0 ⟨[],[(("default":Str),d)]⟩=pure [none,some d] from rfl) ?_)
 refine wpAny_bind (wpAny_pure ?_)
 refine wpAny_bind (iter_intList hl fun s₂ e st hfp hlI=>?_)
 subst e
 refine wpAny_bind (wpAny_newObj_type ?_)
 rw[nm]
 have Wk:=Walks.list (prog:=prog) (w:=w) (A:=A.in1) hh _ l hlI (intItems xs)
 refine wpAny_pure ⟨plainId_quiet PySem.F.plain_max_loop _,Zaq (d:=d) (kw:=[(("default":Str),d)]) rfl Wk (fun i j=>decide (numAt xs i>numAt xs j)) (CmpOf.ints_gt (numAt xs) (fun _ _=>intItems_at)) _ (fun hm=>Nat.lt_irrefl _ (hfp _ hm)) (Wk.frame _ _ _ st fun b _ o e=>Heap.get?_push_of_some _ e) (Heap.get?_push_size _ rfl) ?_⟩
 intro v h' tk hv hk
 refine h v h' tk (by simpa[intItems] using hv) fun b o e=>?_
 have lt:=Heap.lt_size e
 refine hk b o (by simpa using Nat.ne_of_lt lt) ?_ (Heap.get?_push_of_some _ (Heap.get?_push_of_some _ e))
 show b≠(s.heap.push _).objs.size
 rw[Heap.size_push]
 exact Nat.ne_of_lt (Nat.lt_succ_of_lt lt)
end
end L2
namespace Seek
open PySem PySem.Spec PyProof.Rows L2
section
variable{X:Cx}
def Zhl(K:W.Frag)(t tk:TA):TE:=fun σ H Q=>t σ H fun vs H1=>tk σ H1 fun zs H2=>∃(l:Addr) (ns:List Int) (z:V),vs=[.ref l]/\zs=[z]/\SqL K H2 l (ns.map V.int)/\Q (if ns=[] then z else .int (Ziy ns)) H2
theorem Zdb{e d:Expr}{t tk:TA}{p pos kp:Pos}(hc:X.calm=true)(hg:Gl X "max")(hm:X.mg "max" = none)(ha:PA X [e] t)(hk:PK X [⟨some "default",d,kp⟩] tk)(he:backTo pos (starEach [e] X.env)=(false,eval e X.env)::backTo pos (starEach [] X.env):=by rfl)(hpl:(backTo pos (starEach [e] X.env)).any (·.1)=false:=by rfl) :
  PE X (.Call (.Name "max" p) [e] [⟨some "default",d,kp⟩] pos) (Zhl X.K t tk):=by
 intro Z2 s σ H Q I h
 refine wpAny_Call_Name_kw (Td I hg hm PyProof.Rows.Boot.«max» ?_)
 refine PyProof.Rows.callWith_kw (Xs (ha pos Z2 s σ H _ I h) fun us s1 ⟨vs,H1,I1,r,q⟩=>Xs (hk pos Z2 s1 σ H1 _ I1 q) fun ws s2 ⟨zs,H2,I2,rz,l,ns,z,ev,ez,hl,q2⟩=>?_) he hpl
 subst ev ez
 obtain⟨u,rfl,ru⟩:=T6 r
 obtain⟨y,rfl,ry⟩:=T6 rz
 obtain rfl:u=Value.ref l:=ru
 obtain⟨its,rv,pl,hz⟩:=I2.list hl
 obtain⟨ps,e1,e2⟩:=Z3h rv
 have hlist:s2.heap.IsList l (intItems ps.toArray):=by
  have e:intItems ps.toArray=its.toArray:=by rw[e1];simp[intItems]
  rw[e];exact pl.isList
 have hlen:ps.length=ns.length:=by rw[← e2,List.length_map]
 refine Z4v (d:=y) (I2.ok.hd hc) hlist fun v h' tk hv hk=>?_
 rcases hv with⟨h0,rfl⟩ | ⟨h0,hv⟩
 ·have hn:ns=[]:=List.length_eq_zero_iff.mp (by rw[← hlen];simpa using h0)
  rw[if_pos hn]at q2
  exact⟨z,H2,I2.kept hk,ry,q2⟩
 ·have hn:ns≠[]:=fun e=>by rw[e]at hlen;simp[hlen]at h0
  rw[if_neg hn]at q2
  obtain⟨t,e⟩:=Ze3 e2 hv
  rw[Z5b e2,show ps.toArray.size=ns.length by simp[hlen]]at e
  exact⟨.int (Ziy ns),H2,I2.kept hk,⟨t,e⟩,q2⟩
end
structure MS where
 rows:V
 text:Str
 row:Int
 place:Int
 groups:V
 held:V
 choices:Addr
 made:Int
 found:Bool
 ended:Bool
def MS.fs(s:MS):List (Str×V):=[("rows",s.rows),("text",.str s.text),("row",.int s.row),("at",.int s.place),("groups",s.groups),("held",s.held),("choices",.ref s.choices),("made",.int s.made),("found",.bl s.found),("ended",.bl s.ended)]
theorem Zp{x y:Str}{v:V}{l:List (Str×V)}(h:(x==y)=false):((y,v)::l).lookup x=l.lookup x:=by rw[List.lookup_cons,h]
theorem Wg{x:Str}{v:V}{l:List (Str×V)}:((x,v)::l).lookup x=some v:=by simp
theorem Zc{x y:Str}{v u:V}{l:List (Str×V)}(h:¬y=x):Y6 x v ((y,u)::l)=(y,u)::Y6 x v l:=by
 show(if y=x then(y,v)::l else(y,u)::Y6 x v l)=_
 rw[if_neg h]
theorem Uw{x:Str}{v u:V}{l:List (Str×V)}:Y6 x v ((x,u)::l)=(x,v)::l:=by
 show(if x=x then(x,v)::l else(x,u)::Y6 x v l)=_
 rw[if_pos rfl]
theorem V9{x:Str}{v:V}:Y6 x v []=[(x,v)]:=rfl
theorem Ze6(s:MS):s.fs.lookup ("rows":Str)=some s.rows:=Wg
theorem Z10(s:MS):s.fs.lookup ("text":Str)=some (.str s.text):=by unfold MS.fs;rw[Zp (by decide +kernel),Wg]
theorem Z4h(s:MS):s.fs.lookup ("row":Str)=some (.int s.row):=by unfold MS.fs;rw[Zp (by decide +kernel),Zp (by decide +kernel),Wg]
theorem Wi(s:MS):s.fs.lookup ("at":Str)=some (.int s.place):=by unfold MS.fs;rw[Zp (by decide +kernel),Zp (by decide +kernel),Zp (by decide +kernel),Wg]
theorem Xr(s:MS):s.fs.lookup ("groups":Str)=some s.groups:=by unfold MS.fs;rw[Zp (by decide +kernel),Zp (by decide +kernel),Zp (by decide +kernel),Zp (by decide +kernel),Wg]
theorem U1(s:MS):s.fs.lookup ("held":Str)=some s.held:=by unfold MS.fs;rw[Zp (by decide +kernel),Zp (by decide +kernel),Zp (by decide +kernel),Zp (by decide +kernel),Zp (by decide +kernel),Wg]
theorem Yo(s:MS):s.fs.lookup ("choices":Str)=some (.ref s.choices):=by unfold MS.fs;rw[Zp (by decide +kernel),Zp (by decide +kernel),Zp (by decide +kernel),Zp (by decide +kernel),Zp (by decide +kernel),Zp (by decide +kernel),Wg]
theorem Z11(s:MS):s.fs.lookup ("made":Str)=some (.int s.made):=by unfold MS.fs;rw[Zp (by decide +kernel),Zp (by decide +kernel),Zp (by decide +kernel),Zp (by decide +kernel),Zp (by decide +kernel),Zp (by decide +kernel),Zp (by decide +kernel),Wg]
theorem Z5g(s:MS):s.fs.lookup ("found":Str)=some (.bl s.found):=by unfold MS.fs;rw[Zp (by decide +kernel),Zp (by decide +kernel),Zp (by decide +kernel),Zp (by decide +kernel),Zp (by decide +kernel),Zp (by decide +kernel),Zp (by decide +kernel),Zp (by decide +kernel),Wg]
theorem Z5h(s:MS):s.fs.lookup ("ended":Str)=some (.bl s.ended):=by unfold MS.fs;rw[Zp (by decide +kernel),Zp (by decide +kernel),Zp (by decide +kernel),Zp (by decide +kernel),Zp (by decide +kernel),Zp (by decide +kernel),Zp (by decide +kernel),Zp (by decide +kernel),Zp (by decide +kernel),Wg]
theorem Z0b(s:MS)(i:Int):Y6 "row" (.int i) s.fs=({ s with row:=i }:MS).fs:=by unfold MS.fs;rw[Zc (by decide +kernel),Zc (by decide +kernel),Uw]
theorem Z8k(s:MS)(i:Int):Y6 "at" (.int i) s.fs=({ s with place:=i }:MS).fs:=by unfold MS.fs;rw[Zc (by decide +kernel),Zc (by decide +kernel),Zc (by decide +kernel),Uw]
theorem Z2p(s:MS)(v:V):Y6 "groups" v s.fs=({ s with groups:=v }:MS).fs:=by unfold MS.fs;rw[Zc (by decide +kernel),Zc (by decide +kernel),Zc (by decide +kernel),Zc (by decide +kernel),Uw]
theorem J9(s:MS)(v:V):Y6 "held" v s.fs=({ s with held:=v }:MS).fs:=by unfold MS.fs;rw[Zc (by decide +kernel),Zc (by decide +kernel),Zc (by decide +kernel),Zc (by decide +kernel),Zc (by decide +kernel),Uw]
theorem Zda(s:MS)(i:Int):Y6 "made" (.int i) s.fs=({ s with made:=i }:MS).fs:=by unfold MS.fs;rw[Zc (by decide +kernel),Zc (by decide +kernel),Zc (by decide +kernel),Zc (by decide +kernel),Zc (by decide +kernel),Zc (by decide +kernel),Zc (by decide +kernel),Uw]
theorem Z56(s:MS)(b:Bool):Y6 "found" (.bl b) s.fs=({ s with found:=b }:MS).fs:=by unfold MS.fs;rw[Zc (by decide +kernel),Zc (by decide +kernel),Zc (by decide +kernel),Zc (by decide +kernel),Zc (by decide +kernel),Zc (by decide +kernel),Zc (by decide +kernel),Zc (by decide +kernel),Uw]
theorem Za9(s:MS)(b:Bool):Y6 "ended" (.bl b) s.fs=({ s with ended:=b }:MS).fs:=by unfold MS.fs;rw[Zc (by decide +kernel),Zc (by decide +kernel),Zc (by decide +kernel),Zc (by decide +kernel),Zc (by decide +kernel),Zc (by decide +kernel),Zc (by decide +kernel),Zc (by decide +kernel),Zc (by decide +kernel),Uw]
theorem Yr(s:MS):s.fs.length<1000:=by show 10<1000;decide
def Zez(m:Str):Prop:=∀s:MS,s.fs.lookup m=none
theorem Zgy{m:Str}(h:(m=="rows")=false/\(m=="text")=false/\(m=="row")=false/\(m=="at")=false/\(m=="groups")=false/\(m=="held")=false/\(m=="choices")=false/\(m=="made")=false/\(m=="found")=false/\(m=="ended")=false):Zez m:=fun s=>by
 obtain⟨h1,h2,h3,h4,h5,h6,h7,h8,h9,h10⟩:=h
 unfold MS.fs
 rw[Zp h1,Zp h2,Zp h3,Zp h4,Zp h5,Zp h6,Zp h7,Zp h8,Zp h9,Zp h10]
 rfl
theorem Yn:Zez "go_back":=Zgy (by decide +kernel)
theorem Ud:Zez "enter":=Zgy (by decide +kernel)
theorem Zdx:Zez "move":=Zgy (by decide +kernel)
theorem Zgd:Zez "way":=Zgy (by decide +kernel)
theorem Z5d:Zez "moves":=Zgy (by decide +kernel)
theorem Z3t:Zez "hold":=Zgy (by decide +kernel)
theorem Vm:Zez "let_go":=Zgy (by decide +kernel)
theorem Z3u:Zez "drop_choices":=Zgy (by decide +kernel)
theorem Z5e:Zez "entry":=Zgy (by decide +kernel)
abbrev Zf0:=Int×Int×V×V
def ChAt(H:Hp)(v:V)(q:Zf0):Prop:=∃t,v=.ref t/\H t=some (.tup [.int q.1,.int q.2.1,q.2.2.1,q.2.2.2])
theorem ChAt.mono{H H':Hp}(t:∀b xs,H b=some (.tup xs)->H' b=some (.tup xs)){v:V}{q:Zf0}(h:ChAt H v q):ChAt H' v q:=by
 obtain⟨a,e,h⟩:=h
 exact⟨a,e,t _ _ h⟩
structure MM where
 s:MS
 cs:List Zf0
def MM.enter(M:MM)(q:Zf0):MM:={ M with s:={ M.s with row:=q.1,place:=q.2.1,groups:=q.2.2.1,held:=q.2.2.2 } }
def MM.back(M:MM):MM:=match M.cs.getLast? with
 |none=>{ M with s:={ M.s with ended:=true } }
 |some q=>MM.enter { M with cs:=M.cs.dropLast } q
structure MAt(C:Addr)(H:Hp)(m:Addr)(M:MM):Prop where
 ob:∃dx,H m=some (.ins C dx M.s.fs)
 ch:∃vs,H M.s.choices=some (.lst vs)/\Paired (ChAt H) vs M.cs
theorem MAt.ne{C:Addr}{H:Hp}{m:Addr}{M:MM}(h:MAt C H m M):m≠M.s.choices:=by
 obtain⟨⟨dx,e⟩,vs,e',_⟩:=h
 exact Zcb e e' (by intro z;cases z)
theorem MAt.gro{S:List Addr}{C:Addr}{H H':Hp}{m:Addr}{M:MM}(h:MAt C H m M)(g:Gro S H H')(h1:m∉S)(h2:M.s.choices∉S):MAt C H' m M:=by
 obtain⟨⟨dx,e⟩,vs,e',p⟩:=h
 exact⟨⟨dx,g.keep _ _ e h1⟩,vs,g.keep _ _ e' h2,Paired.mapP p fun _ _ q=>q.mono g.tups⟩
theorem MAt.new{C:Addr}{H:Hp}{m p:Addr}{M:MM}{o:HO}(h:MAt C H m M)(hp:H p=none):MAt C (Zr H p o) m M:=h.gro (S:=[]) (Gro.new hp o) (by simp) (by simp)
theorem Gro.ins{S:List Addr}{H:Hp}{p C dx:Addr}{fs:List (Str×V)}(hp:p∈S)(h:H p=some (.ins C dx fs))(o:HO):Gro S H (Zr H p o) :=
 ⟨fun b u q hb=>by rw[Zo (fun z=>hb (by rw[z];exact hp))];exact q,fun b ys q=>by rw[Zo (Zcb q h (by intro z;cases z))];exact q⟩
theorem MAt.put{C:Addr}{H:Hp}{m dx:Addr}{M:MM}{s':MS}(h:MAt C H m M)(hx:H m=some (.ins C dx M.s.fs))(hc:s'.choices=M.s.choices):MAt C (Zr H m (.ins C dx s'.fs)) m ⟨s',M.cs⟩:=by
 have hne:=h.ne
 obtain⟨_,vs,e',p⟩:=h
 have g:Gro [m] H (Zr H m (.ins C dx s'.fs)):=Gro.ins (by simp) hx _
 refine⟨⟨dx,Z5⟩,vs,?_,Paired.mapP p fun _ _ q=>q.mono g.tups⟩
 show(Zr H m (.ins C dx s'.fs)) s'.choices=_
 rw[hc,Zo (Ne.symm hne)]
 exact e'
structure Txt(K:W.Frag)(mg:Str->Option Value)(C:Addr):Prop where
 cl:Cls K C
 a1:NoAttr K C "rows"
 a2:NoAttr K C "text"
 a3:NoAttr K C "row"
 a4:NoAttr K C "at"
 a5:NoAttr K C "groups"
 a6:NoAttr K C "held"
 a7:NoAttr K C "choices"
 a8:NoAttr K C "made"
 a9:NoAttr K C "found"
 a10:NoAttr K C "ended"
structure OwnM(P:Program)(w:World)(K:W.Frag)(mg:Str->Option Value)(base:Heap)(k:Nat)(C:Addr)(m:Str)(ps:List Str)(sp:Sp):Prop where
 ex:∃f fd,FnOk P w K mg base Wp k f fd ps sp/\Meth K C m f/\Binds K fd ps []
theorem OwnM.mono{P:Program}{w:World}{K:W.Frag}{mg:Str->Option Value}{base:Heap}{j k:Nat}{C:Addr}{x:Str}{ps:List Str}{sp:Sp}(O:OwnM P w K mg base j C x ps sp)(h:j<=k):OwnM P w K mg base k C x ps sp:=by
 obtain⟨f,fd,F,r⟩:=O.ex
 exact⟨f,fd,F.mono h,r⟩
theorem X9{X:Cx}{k:Nat}{C:Addr}{m:Str}{ps:List Str}{sp:Sp}{o e:Expr}{es:List Expr}{ta:TE}{t:TA}{apos pos:Pos}{pl:Sem Bool}(O:OwnM X.prog X.w X.K X.mg X.base k C m ps sp)(c:Cls X.K C)(hr:Room k X.A)(he:PE X o ta)(ha:PA X (e::es) t)
  (hst:starEach (e::es) X.env=(false,eval e X.env)::starEach es X.env:=by rfl) (hpl:(backTo pos (starEach es X.env)).any (·.1)=false:=by rfl)
  (ht:eval (.Call (.Attribute o m apos) (e::es) [] pos) X.env=(do
   let ov ← eval o X.env
   standAt apos.atName
   let(f,first) ← holding [ov] (getMethod ov m pl)
   callWith pos f first (backTo pos (starEach (e::es) X.env)) (backToKw pos (keywordEach [] X.env))):=by rfl):PE X (.Call (.Attribute o m apos) (e::es) [] pos) (Z5q C m sp [] E0 ta t):=by
 obtain⟨f,fd,F,hm,hb⟩:=O.ex
 exact Z7u he c hm F hr hb .nil Z5u ha hst hpl ht
theorem Yd{X:Cx}{k:Nat}{C:Addr}{m:Str}{ps:List Str}{sp:Sp}{o:Expr}{ta:TE}{apos pos:Pos}{pl:Sem Bool}(O:OwnM X.prog X.w X.K X.mg X.base k C m ps sp)(c:Cls X.K C)(hr:Room k X.A)(he:PE X o ta)
  (ht:eval (.Call (.Attribute o m apos) [] [] pos) X.env=(do
   let ov ← eval o X.env
   standAt apos.atName
   let(f,first) ← holding [ov] (getMethod ov m pl)
   callWith pos f first (backTo pos (starEach [] X.env)) (backToKw pos (keywordEach [] X.env))):=by rfl):PE X (.Call (.Attribute o m apos) [] [] pos) (Z5q C m sp [] E0 ta Z46):=by
 obtain⟨f,fd,F,hm,hb⟩:=O.ex
 exact Zaa he c hm F hr hb .nil Z5u ht
structure OwnC(P:Program)(w:World)(K:W.Frag)(mg:Str->Option Value)(base:Heap)(k:Nat)(C:Addr)(x:Str)(ps:List Str)(sp:Sp):Prop where
 ex:∃f fd,FnOk P w K mg base Wp k f fd ps sp/\Mk K C f/\mg x=some (.ref C)/\Binds K fd ps []
end Seek
namespace L2
open PySem PySem.Spec PyProof.Rows
section
variable{X:Cx}
end
end L2
namespace Seek
open PySem PySem.Spec PyProof.Rows L2
theorem OwnC.mono{P:Program}{w:World}{K:W.Frag}{mg:Str->Option Value}{base:Heap}{j k:Nat}{C:Addr}{x:Str}{ps:List Str}{sp:Sp}(O:OwnC P w K mg base j C x ps sp)(h:j<=k):OwnC P w K mg base k C x ps sp:=by
 obtain⟨f,fd,F,r⟩:=O.ex
 exact⟨f,fd,F.mono h,r⟩
theorem Z3q{X:Cx}{k:Nat}{C:Addr}{x:Str}{ps:List Str}{sp:Sp}{p pos:Pos}{e:Expr}{es:List Expr}{t:TA}(O:OwnC X.prog X.w X.K X.mg X.base k C x ps sp)(hr:Room (k+1) X.A)(hg:Gl X x)(ha:PA X (e::es) t)
  (hdb:(x==("__debug__":Str))=false:=by decide) (he:starEach (e::es) X.env=(false,eval e X.env)::starEach es X.env:=by rfl) (hpl:(backTo pos (starEach es X.env)).any (·.1)=false:=by rfl) :
  PE X (.Call (.Name x p) (e::es) [] pos) (Zes C sp [] E0 t):=by
 obtain⟨f,fd,F,M,hm,hb⟩:=O.ex
 exact Zdc M F hr hg hm hb .nil Z5u ha hdb he hpl
end Seek
namespace L2
open PySem PySem.Spec PyProof.Rows
def sub(x:Str)(a b:Nat):Str:=⟨((x.cps.toList.drop a).take (b-a)).toArray⟩
theorem Zi3{k:Int}{L:Nat}(h:0<=k):min k (L:Int)=min ((min k.toNat L:Nat):Int) (L:Int):=by
 obtain⟨a,rfl⟩:=Int.eq_ofNat_of_zero_le h
 rw[Int.toNat_natCast]
 by_cases e:a<=L
 ·rw[Nat.min_eq_left e]
 ·rw[Nat.min_eq_right (Nat.le_of_not_le e),Int.min_eq_right (Int.ofNat_le.mpr (Nat.le_of_not_le e)),Int.min_self]
theorem Z2t{a b L:Nat}(h:¬min a L<=min b L):b<a/\b<L:=by omega
theorem Xq{x:Str}{i j:Int}(h0:0<=i)(h1:0<=j):Txt.slice x (some i) (some j)=sub x i.toNat j.toNat:=by
 have hl:x.cps.toList.length=x.length:=by simp[Str.length]
 have clip:Builtin.Str.strSliceIndices (some i) (some j) 1 x.length=Builtin.Str.strSliceIndices (some ((min i.toNat x.length:Nat):Int)) (some ((min j.toNat x.length:Nat):Int)) 1 x.length:=by
  unfold Builtin.Str.strSliceIndices
  have e1:¬i<0:=by omega
  have e2:¬j<0:=by omega
  have e3:¬((min i.toNat x.length:Nat):Int)<0:=Int.not_lt.mpr (Int.natCast_nonneg _)
  have e4:¬((min j.toNat x.length:Nat):Int)<0:=Int.not_lt.mpr (Int.natCast_nonneg _)
  simp only[e1,e2,e3,e4,if_false,show(1:Int)>0 by decide,if_true]
  congr 1 <;> rw[Zi3 (by assumption)]
 have ed:(x.cps.toList.drop (min i.toNat x.length)).take (min j.toNat x.length-min i.toNat x.length)=(x.cps.toList.drop i.toNat).take (j.toNat-i.toNat):=by
  by_cases hi:i.toNat<=x.length
  ·rw[Nat.min_eq_left hi]
   by_cases hj:j.toNat<=x.length
   ·rw[Nat.min_eq_left hj]
   ·rw[Nat.min_eq_right (by omega),List.take_of_length_le (by rw[List.length_drop];omega),List.take_of_length_le (by rw[List.length_drop];omega)]
  ·have e5:min i.toNat x.length=x.length:=by omega
   rw[e5,List.drop_of_length_le (show x.cps.toList.length<=x.length by omega),List.drop_of_length_le (show x.cps.toList.length<=i.toNat by omega)]
   simp
 by_cases hab:min i.toNat x.length<=min j.toNat x.length
 ·have e:Txt.slice x (some i) (some j)=StrLaws.sliceText x (some ((min i.toNat x.length:Nat):Int)) (some ((min j.toNat x.length:Nat):Int)):=by
   unfold Txt.slice StrLaws.sliceText
   rw[clip]
  rw[e,StrLaws.sliceText_nat x hab (Nat.min_le_right _ _),ed]
  rfl
 ·have em:Builtin.Str.strSliceIndices (some i) (some j) 1 x.length=[]:=by
   rw[clip]
   unfold Builtin.Str.strSliceIndices sliceRange
   have e3:¬((min i.toNat x.length:Nat):Int)<0:=Int.not_lt.mpr (Int.natCast_nonneg _)
   have e4:¬((min j.toNat x.length:Nat):Int)<0:=Int.not_lt.mpr (Int.natCast_nonneg _)
   simp only[e3,e4,if_false,show(1:Int)>0 by decide,if_true]
   rw[if_neg (by omega)]
   rfl
  have hlt:j.toNat-i.toNat=0:=Nat.sub_eq_zero_of_le (Nat.le_of_lt (Z2t hab).1)
  have hp:0<x.length:=Nat.lt_of_le_of_lt (Nat.zero_le _) (Z2t hab).2
  unfold Txt.slice sub
  rw[em,hlt,if_neg (by simp;omega)]
  simp
theorem Z1j{x:Str}{j:Int}(h1:0<=j):Txt.slice x none (some j)=sub x 0 j.toNat:=by
 have e:Txt.slice x none (some j)=Txt.slice x (some 0) (some j):=by unfold Txt.slice;rw[StrLaws.sliceIdx_none_lo]
 rw[e,Xq (Int.le_refl 0) h1]
 rfl
theorem T1{x:Str}{i:Int}(h0:0<=i):Txt.slice x (some i) none=sub x i.toNat x.length:=by
 have e:Txt.slice x (some i) none=Txt.slice x (some i) (some (x.length:Int)):=by unfold Txt.slice;rw[StrLaws.sliceIdx_none_hi]
 rw[e,Xq h0 (by omega)]
 rfl
def Zjf:V->Option Int->Option Int->Hp->VK->Prop:=fun x lo hi H Q=>∃z:Str,x=.str z/\z.length<=sizeLine/\Q (.str (Txt.slice z lo hi)) H
section
variable{X:Cx}
theorem Wf:Zj3 X Zjf:=by
 intro Z2 s σ H x v vl vu lo hi sl Q I rx hs pl pu h
 obtain⟨z,rfl,hz,q⟩:=h
 obtain⟨t,rfl⟩:=rx
 have part:∀ {v:Value} {o:Option Int},IsPart v o->∃p:Option (Int×Tok),v=partValue p/\p.map (·.1)=o:=by
  intro v o h
  cases h with
  |none=>exact⟨none,rfl,rfl⟩
  |int i t=>exact⟨some (i,t),rfl,rfl⟩
 obtain⟨l,rfl,rfl⟩:=part pl
 obtain⟨u,rfl,rfl⟩:=part pu
 exact⟨"str",_,F.slot_str_getitem.lookup,typeIs_str _ _ _,wpAny_getItem_str_slice (l:=l) (u:=u) (st:=none) hs rfl (post_val_or_str ⟨Nat.le_trans (Txt.slice_le z _ _) hz,fun t' k=>⟨.str _,H,I.tok _,⟨_,rfl⟩,q⟩⟩)⟩
end
end L2
namespace HT
open PySem PySem.Spec PyProof.Rows
section
variable{prog:Program}{w:World}{A:Around}{E:Value->Shared->Prop}{s:Shared}
theorem cat_tup0{t b:Addr}{vs ws:List Value}{Q:Value->Shared->Prop}(ht:IsTup s.heap t vs.toArray)(hb:IsTup s.heap b ws.toArray)(hv:vs=[])(h1:Q (.ref b) s):wpAny (model prog w) A (binaryOp .Add (.ref t) (.ref b)) Q E s:=by
 obtain⟨⟨cls,dd,data,sl⟩,ho,hc,n,hd⟩:=id ht
 obtain⟨⟨cls2,dd2,data2,sl2⟩,ho2,hc2,n2,hd2⟩:=id hb
 simp only at hc hd hc2 hd2
 subst hc hd hc2 hd2
 exact concat_meets ⟨_,ho,rfl⟩ ⟨_,ho2,rfl⟩ noFill_tuple_add seq_tuple_add PySem.F.slot_tuple_add PySem.F.entry_tuple_add (PySem.F.args_tuple_add_2 _ _)
  (tuple_addW0 t b vs.toArray ws.toArray n n2 dd dd2 sl sl2 (by simp[hv])) ⟨ho,ho2,h1⟩
end
end HT
namespace L2
open PySem PySem.Spec PyProof.Rows
section
variable{X:Cx}
def Zeu(K:W.Frag):R2:=fun x y H Q=>∃a b xs ys,x=.ref a/\y=.ref b/\SqT K H a xs/\SqT K H b ys/\xs.length+ys.length<=sizeLine /\
 (xs=[]->Q (.ref b) H)/\(xs≠[]->ys=[]->Q (.ref a) H)/\(xs≠[]->ys≠[]->∀p,H p=none->Q (.ref p) (Zr H p (.tup (xs++ys))))
theorem Z80:Z4i X (binaryOp .Add) (Zeu X.K):=by
 intro Z2 s σ H x y v u Q I rx ry h
 obtain⟨a,b,xs,ys,e1,e2,ha,hb,hz,q0,q1,q2⟩:=h
 by_cases hx:xs=[]
 ·subst e1 e2
  cases rx
  cases ry
  obtain⟨its,r1,p1,_⟩:=I.tuple ha
  obtain⟨its2,r2,p2,_⟩:=I.tuple hb
  exact HT.cat_tup0 p1 p2 (r1.nil_iff.mpr hx) ⟨.ref b,H,I,rfl,q0 hx⟩
 ·exact Zdh Z2 s σ H x y v u Q I rx ry ⟨a,b,xs,ys,e1,e2,ha,hb,hx,hz,q1 hx,q2 hx⟩
end
end L2
namespace Seek
open PySem PySem.Spec PyProof.Rows L2
theorem Zgs{xs:List V}{k:Nat}(h:k<=xs.length):U2 xs none (some (k:Int))=xs.take k:=by
 unfold U2
 rw[HT.sIx_none,HT.sIx_nat,List.drop_zero,Nat.min_eq_left h,Nat.sub_zero]
theorem Zb9{xs:List V}{k:Nat}(h:k<=xs.length):U2 xs (some (k:Int)) none=xs.drop k:=by
 unfold U2
 rw[HT.sIx_none,HT.sIx_nat,Nat.min_eq_left h]
 exact List.take_of_length_le (by rw[List.length_drop];exact Nat.le_refl _)
inductive Rw where
 |pat (h:Hd) | tup (xs:List V)
abbrev Cd:=Nat->List Rw
def T5:List Cd->Cd
 | [],_=>[]
 |c::cs,b=>c b++T5 cs (b+(c b).length)
def X1(g:List V):List Cd->Cd
 | [],_=>[]
 | [c],b=>c b
 |c::d::cs,b=>.tup [.str "try",.int ((b:Int)+(c (b+1)).length+2)]::(c (b+1)++.tup g::X1 g (d::cs) (b+(c (b+1)).length+2))
def goes:List Cd->Nat->Nat->List Nat
 | [],_,_=>[]
 | [_],_,_=>[]
 |c::d::cs,b,s=>(s+1+(c (b+1)).length)::goes (d::cs) (b+(c (b+1)).length+2) (s+(c (b+1)).length+2)
def Z0l(lo:Int)(hi:Option Int)(how:Str)(c:Cd):Cd:=fun b =>
 .tup [.str "turns"]::.tup [.str "turn",.int lo,Z9u hi,.str how,.int ((b:Int)+3+(c (b+2)).length)]::(c (b+2)++[.tup [.str "next",.int lo,.int ((b:Int)+1)]])
def T7(lo:Int)(hi:Option Int)(how:How)(c:Cd):Cd:=match how with
 |.keep=>fun b=>.tup [.str "once"]::(Z0l lo hi "much" c (b+1)++[.tup [.str "kept"]])
 |h=>Z0l lo hi h.text c
def Z8g(k:Int)(y n:Cd):Cd:=fun b =>
 .tup [.str "have",.int k,.int ((b:Int)+(y (b+1)).length+2)]::(y (b+1)++.tup [.str "go",.int ((b:Int)+(y (b+1)).length+2+(n (b+(y (b+1)).length+2)).length)]::n (b+(y (b+1)).length+2))
def Lk.last:Lk->Str
 |.once=>"kept" |.ahead=>"peeked" |.behind=>"peeked" |.notahead=>"barred" |.notbehind=>"barred"
def Lk.leans:Lk->Bool
 |.behind=>true | .notbehind=>true | _=>false
def Lk.inner(l:Lk)(c:Cd):Cd:=fun b=>match l.leans with
 |true=>.tup [.str "lean"]::(c (b+2)++[.tup [.str "here"]])
 |false=>c (b+1)
def U7(l:Lk)(c:Cd):Cd:=fun b=>(match l.last=="barred" with
 |true=>Rw.tup [.str "bar",.int ((b:Int)+2+(l.inner c b).length)]
 |false=>.tup [.str "once"])::(l.inner c b++[.tup [.str l.last]])
def Zce(cs:List Cd):Cd:=cs.headD fun _=>[]
def Zgz(z:Int):List V:=[.str "go",.int z]
def Zgx(cs:List Cd):Cd:=fun b=>X1 (Zgz ((b:Int)+(X1 [] cs b).length)) cs b
def Hd.code(h:Hd)(cs:List Cd):Cd:=match h with
 |.row=>T5 cs
 |.alt=>Zgx cs
 |.times lo hi how=>T7 lo hi how (Zce cs)
 |.grp k=>fun b=>.tup [.str "open"]::(Zce cs (b+1)++[.tup [.str "close",.int k]])
 |.hav k=>Z8g k (Zce cs) (Zce cs.tail)
 |.look l=>U7 l (Zce cs)
 |h=>fun _=>[.pat h]
mutual
def Pat.code:Pat->Cd
 |.node h ks=>h.code (Z8n ks)
def Z8n:List Pat->List Cd
 | []=>[]
 |k::ks=>k.code::Z8n ks
end
theorem Z9n(ks:List Pat):Z8n ks=ks.map Pat.code:=by
 induction ks with
 |nil=>rfl
 |cons k ks ih=>rw[Z8n,ih];rfl
theorem Jv(h:Hd)(ks:List Pat):(Pat.node h ks).code=h.code (ks.map Pat.code):=by rw[Pat.code,Z9n]
def Zcl(c:Cd)(n:Nat):Prop:=∀b,(c b).length+2<=7*n
theorem Z1p(g:List V):∀(cs:List Cd) (b:Nat),(X1 g cs b).length=(X1 [] cs b).length
 | [],_=>rfl
 | [_],_=>rfl
 |c::d::cs,b=>by
  have:=Z1p g (d::cs) (b+(c (b+1)).length+2)
  simp only[X1,List.length_cons,List.length_append]at this ⊢
  omega
theorem Zde(cs:List Cd)(b:Nat):(Zgx cs b).length=(X1 [] cs b).length:=Z1p _ cs b
theorem Ui(lo:Int)(hi:Option Int)(how:Str)(c:Cd)(b:Nat):(Z0l lo hi how c b).length=(c (b+2)).length+3:=by simp[Z0l]
theorem Zb2(l:Lk)(c:Cd)(b:Nat):∃j,(l.inner c b).length<=(c j).length+2:=by
 unfold Lk.inner
 cases l.leans
 ·exact⟨_,Nat.le_add_right _ 2⟩
 ·exact⟨b+2,by simp⟩
theorem Jl:∀ {ks:List Pat},(∀k∈ks,Zcl k.code k.size)->∀b,(T5 (ks.map Pat.code) b).length<=7*Yb ks
 | [],_,b=>by simp[T5,Yb]
 |k::ks,h,b=>by
  have h1:=h k (by simp) b
  have h2:=Jl (ks:=ks) (fun z hz=>h z (by simp[hz])) (b+(k.code b).length)
  rw[List.map_cons,T5,List.length_append,Yb]
  omega
theorem Z34:∀ {ks:List Pat},(∀k∈ks,Zcl k.code k.size)->∀b,(X1 [] (ks.map Pat.code) b).length<=7*Yb ks
 | [],_,b=>by simp[X1,Yb]
 | [k],h,b=>by
  have h1:=h k (by simp) b
  simp only[List.map_cons,List.map_nil,X1,Yb]
  omega
 |k::l::ks,h,b=>by
  have h1:=h k (by simp) (b+1)
  have h2:=Z34 (ks:=l::ks) (fun z hz=>h z (by simp at hz;simp[hz])) (b+(k.code (b+1)).length+2)
  simp only[List.map_cons,X1,List.length_cons,List.length_append]at h2 ⊢
  rw[Yb]
  omega
theorem Z5f{ks:List Pat}(h:∀k∈ks,Zcl k.code k.size):∀b,(Zce (ks.map Pat.code) b).length+2<=7*Yb ks+2:=fun b=>by
 cases ks with
 |nil=>simp[Zce]
 |cons k ks =>
  have h1:=h k (by simp) b
  simp only[Zce,List.map_cons,List.headD_cons,Yb]
  omega
mutual
theorem Pat.code_fits:∀p:Pat,Zcl p.code p.size
 |.node h ks=>by
  have ih:=Z1h ks
  intro b
  rw[Jv,Z2i]
  have hh:=Z5f ih
  cases h with
  |row=>have:=Jl ih b;show(T5 _ b).length+2<=_;omega
  |alt=>have:=Z34 ih b;show(Zgx _ b).length+2<=_;rw[Zde];omega
  |times lo hi how =>
   show(T7 lo hi how (Zce (ks.map Pat.code)) b).length+2<=_
   cases how with
   |keep =>
    have:=hh (b+1+2)
    simp only[T7,List.length_cons,List.length_append,Ui,List.length_nil]
    omega
   |much=>have:=hh (b+2);simp only[T7,Ui];omega
   |little=>have:=hh (b+2);simp only[T7,Ui];omega
  |grp k =>
   have:=hh (b+1)
   simp only[Hd.code,List.length_cons,List.length_append,List.length_nil]
   omega
  |hav k =>
   show(Z8g k _ _ b).length+2<=_
   cases ks with
   |nil=>simp[Z8g,Zce,Yb]
   |cons y r =>
    have h1:=ih y (by simp) (b+1)
    have h2:=Z5f (ks:=r) (fun z hz=>ih z (by simp[hz]))
    have h3:=h2 (b+(y.code (b+1)).length+2)
    simp only[Z8g,List.map_cons,List.length_cons,List.length_append,Yb,List.tail_cons,Zce,List.headD_cons]at h3 ⊢
    omega
  |look l =>
   show(U7 l _ b).length+2<=_
   obtain⟨j,hj⟩:=Zb2 l (Zce (ks.map Pat.code)) b
   have:=hh j
   simp only[U7,List.length_cons,List.length_append,List.length_nil]
   omega
  |_=>simp[Hd.code];omega
theorem Z1h:∀(ks:List Pat),∀k∈ks,Zcl k.code k.size
 | [],k,hk=>by simp at hk
 |k::ks,z,hz=>by
  rcases List.mem_cons.mp hz with e | hz
  ·rw[e];exact Pat.code_fits k
  ·exact Z1h ks z hz
end
def U3(G:Rw)(ps:List Nat)(l:List Rw):List Rw:=ps.foldl (fun l p=>l.set p G) l
theorem Zcz(a b:List Rw)(x G:Rw)(p:Nat)(h:p=a.length):(a++x::b).set p G=a++G::b:=by
 subst h
 simp
theorem Z00(g G:List V):∀(cs:List Cd) (b:Nat) (pre:List Rw),U3 (.tup G) (goes cs b pre.length) (pre++X1 g cs b)=pre++X1 G cs b
 | [],b,pre=>rfl
 | [c],b,pre=>rfl
 |c::d::cs,b,pre=>by
  have ih:=Z00 g G (d::cs) (b+(c (b+1)).length+2) (pre++.tup [.str "try",.int ((b:Int)+(c (b+1)).length+2)]::(c (b+1)++[.tup G]))
  have e:(pre++Rw.tup [.str "try",.int ((b:Int)+(c (b+1)).length+2)]   :: (c (b+1)++[Rw.tup G])).length=pre.length+(c (b+1)).length+2:=by simp;omega
  rw[e]at ih
  simp only[goes,X1]
  show U3 (.tup G) (goes (d::cs) _ _) ((pre++_::(c (b+1)++.tup g::X1 g (d::cs) _)).set _ _)=_
  rw[show pre++Rw.tup [.str "try",.int ((b:Int)+(c (b+1)).length+2)]::(c (b+1)++.tup g::X1 g (d::cs) (b+(c (b+1)).length+2))=(pre++.tup [.str "try",.int ((b:Int)+(c (b+1)).length+2)]::c (b+1))++.tup g::X1 g (d::cs) (b+(c (b+1)).length+2) by simp]
  rw[Zcz _ _ _ _ _ (by simp;omega)]
  simpa using ih
theorem Z87:∀(cs:List Cd) (b s:Nat),∀p∈goes cs b s,s<=p/\p<s+(X1 [] cs b).length
 | [],_,_,p,h=>by simp[goes]at h
 | [_],_,_,p,h=>by simp[goes]at h
 |c::d::cs,b,s,p,h=>by
  simp only[goes]at h
  simp only[X1,List.length_cons,List.length_append]
  rcases List.mem_cons.mp h with e | h
  ·omega
  ·have:=Z87 (d::cs) _ _ p h
   omega
theorem Z1a(G:Rw):∀(ps:List Nat) (l:List Rw),(U3 G ps l).length=l.length
 | [],_=>rfl
 |p::ps,l=>by
  show(U3 G ps (l.set p G)).length=_
  rw[Z1a,List.length_set]
def RowAt(H:Hp)(v:V):Rw->Prop
 |.pat h=>PatAt H 1 v (.node h [])
 |.tup xs=>∃a,v=.ref a/\H a=some (.tup xs)
theorem RowAt.mono{H H':Hp}(t:∀b xs,H b=some (.tup xs)->H' b=some (.tup xs)){v:V}:∀ {r:Rw},RowAt H v r->RowAt H' v r
 |.pat _,h=>PatAt.mono t h
 |.tup _,⟨a,e,q⟩=>⟨a,e,t _ _ q⟩
theorem Y0{H H':Hp}(t:∀b xs,H b=some (.tup xs)->H' b=some (.tup xs)){vs:List V}{rs:List Rw}(h:Paired (RowAt H) vs rs):Paired (RowAt H') vs rs:=Paired.mapP h fun _ _ q=>q.mono t
theorem Z1b{α β:Type}{F:α->β->Prop}{x:α}{y:β}(q:F x y):∀ {xs:List α} {ys:List β} (i:Nat),Paired F xs ys->Paired F (xs.set i x) (ys.set i y)
 |_,_,_,.nil=>.nil
 |_,_,0,.cons _ t=>.cons q t
 |_,_,i+1,.cons r t=>.cons r (Z1b q i t)
theorem Zx{α β:Type}{F:α->β->Prop}:∀ {xs xs':List α} {ys ys':List β},Paired F xs ys->Paired F xs' ys'->Paired F (xs++xs') (ys++ys')
 |_,_,_,_,.nil,s=>s
 |_,_,_,_,.cons r t,s=>.cons r (Zx t s)
def Wm(g:List V):List Cd->Cd
 | [],_=>[]
 |c::cs,b=>.tup [.str "try",.int ((b:Int)+(c (b+1)).length+2)]::(c (b+1)++.tup g::Wm g cs (b+(c (b+1)).length+2))
def Jg:List Cd->Nat->Nat->List Nat
 | [],_,_=>[]
 |c::cs,b,s=>(s+1+(c (b+1)).length)::Jg cs (b+(c (b+1)).length+2) (s+(c (b+1)).length+2)
theorem Z33(g:List V):∀(cs:List Cd) (d:Cd) (b:Nat),X1 g (cs++[d]) b=Wm g cs b++d (b+(Wm g cs b).length)
 | [],d,b=>rfl
 | [c],d,b=>by
  simp only[List.cons_append,List.nil_append,X1,Wm,List.append_assoc,List.length_cons,List.length_append,List.length_nil]
  rw[show b+(c (b+1)).length+2=b+((c (b+1)).length+(0+1)+1) by omega]
 |c::e::cs,d,b=>by
  have ih:=Z33 g (e::cs) d (b+(c (b+1)).length+2)
  rw[List.cons_append]at ih
  have e1:Wm g (c::e::cs) b=.tup [.str "try",.int ((b:Int)+(c (b+1)).length+2)]::(c (b+1)++.tup g::Wm g (e::cs) (b+(c (b+1)).length+2)):=rfl
  rw[List.cons_append,List.cons_append,X1,ih,e1]
  generalize Wm g (e::cs) (b+(c (b+1)).length+2)=Z
  simp only[List.cons_append,List.append_assoc,List.length_cons,List.length_append]
  rw[show b+(c (b+1)).length+2+Z.length=b+((c (b+1)).length+(Z.length+1)+1) by omega]
theorem Z2w:∀(cs:List Cd) (d:Cd) (b s:Nat),goes (cs++[d]) b s=Jg cs b s
 | [],d,b,s=>rfl
 | [c],d,b,s=>rfl
 |c::e::cs,d,b,s=>by
  have ih:=Z2w (e::cs) d (b+(c (b+1)).length+2) (s+(c (b+1)).length+2)
  rw[List.cons_append]at ih
  rw[List.cons_append,List.cons_append,goes,ih]
  rfl
theorem Z2o(g:List V):∀(cs:List Cd) (c:Cd) (b m:Nat),m=b+(Wm g cs b).length->Wm g (cs++[c]) b=Wm g cs b++(.tup [.str "try",.int ((m:Int)+(c (m+1)).length+2)]::(c (m+1)++[.tup g]))
 | [],c,b,m,h=>by rw[show m=b from h];rfl
 |d::cs,c,b,m,h=>by
  have ih:=Z2o g cs c (b+(d (b+1)).length+2) m (by rw[h];simp only[Wm,List.length_cons,List.length_append];omega)
  rw[List.cons_append,Wm,ih,Wm]
  simp
theorem Z2n:∀(cs:List Cd) (c:Cd) (b s m:Nat),m=b+(Wm [] cs b).length->Jg (cs++[c]) b s=Jg cs b s++[s+(Wm [] cs b).length+1+(c (m+1)).length]
 | [],c,b,s,m,h=>by rw[show m=b from h];simp[Jg,Wm]
 |d::cs,c,b,s,m,h=>by
  have ih:=Z2n cs c (b+(d (b+1)).length+2) (s+(d (b+1)).length+2) m (by rw[h];simp only[Wm,List.length_cons,List.length_append];omega)
  rw[List.cons_append,Jg,ih,Jg]
  simp only[List.cons_append,Wm,List.length_cons,List.length_append]
  rw[show s+(d (b+1)).length+2+(Wm [] cs (b+(d (b+1)).length+2)).length+1+(c (m+1)).length=s+((d (b+1)).length+((Wm [] cs (b+(d (b+1)).length+2)).length+1)+1)+1+(c (m+1)).length by omega]
theorem Jn:∀(ks:List Pat) (b:Nat),(Wm [] (ks.map Pat.code) b).length<=7*Yb ks
 | [],b=>by simp[Wm,Yb]
 |k::ks,b=>by
  have h1:=Pat.code_fits k (b+1)
  have h2:=Jn ks (b+(k.code (b+1)).length+2)
  simp only[List.map_cons,Wm,List.length_cons,List.length_append]at h2 ⊢
  rw[Yb]
  omega
theorem Zb5(cs:List Cd)(b:Nat):∀p∈goes cs b 0,p<(X1 [] cs b).length:=fun p h=>by have:=Z87 cs b 0 p h;omega
abbrev Te:List V:=[.str "sign",.str "any",.str "in",.str "out",.str "begin",.str "end",.str "again"]
abbrev V0:List V:=[.str "behind",.str "notbehind"]
abbrev V8:List (Uh×V):=[(.inr "once",.str "kept"),(.inr "ahead",.str "peeked"),(.inr "behind",.str "peeked"),(.inr "notahead",.str "barred"),(.inr "notbehind",.str "barred")]
def Wd.leaf:Wd->Bool
 |.sign=>true | .any=>true | .inn=>true | .out=>true | .beg=>true | .fin=>true | .again=>true | _=>false
theorem Z9y(h:Hd):Zey (.str h.word) Te=h.wd.leaf:=by rw[h.word_wd];cases h.wd <;> decide +kernel
theorem Z83(l:Lk):Zey (.str l.text) V0=l.leans:=by cases l <;> decide +kernel
theorem Z84(l:Lk):Z2c V8 (Sum.inr l.text)=some (.str l.last):=by cases l <;> decide +kernel
theorem Z9d{h:Hd}(e:h.wd.leaf=true)(cs:List Cd)(b:Nat):h.code cs b=[.pat h]:=by
 cases h with
 |look l=>cases l <;> exact absurd e (by decide)
 |row=>exact absurd e (by decide)
 |alt=>exact absurd e (by decide)
 |times _ _ _=>exact absurd e (by simp[Hd.wd,Wd.leaf])
 |grp _=>exact absurd e (by simp[Hd.wd,Wd.leaf])
 |hav _=>exact absurd e (by simp[Hd.wd,Wd.leaf])
 |_=>rfl
theorem PatAt.leafy{H:Hp}{n:Nat}{v:V}{h:Hd}{ks:List Pat}(p:PatAt H (n+1) v (.node h ks))(e:h.wd.leaf=true):PatAt H 1 v (.node h []):=by
 obtain⟨a,kv,rfl,l,k⟩:=p
 have z:kv=[]:=by
  cases h with
  |look lk=>cases lk <;> exact absurd e (by decide)
  |row=>exact absurd e (by decide)
  |alt=>exact absurd e (by decide)
  |times _ _ _=>exact absurd e (by simp[Hd.wd,Wd.leaf])
  |grp _=>exact absurd e (by simp[Hd.wd,Wd.leaf])
  |hav _=>exact absurd e (by simp[Hd.wd,Wd.leaf])
  |again n=>exact l.2.1
  |_=>exact l.1
 subst z
 exact⟨a,[],rfl,l,.nil⟩
theorem Z9q{n:Nat}(h:n<=1000000):n<sizeLine:=Nat.lt_of_le_of_lt h (by rw[sizeLine_eq];decide)
theorem U0{n j:Nat}(h:j<n):Zek n (j:Int)=some j:=by
 unfold Zek
 rw[if_pos (by omega),if_pos (by omega)]
 simp
theorem Xj{H:Hp}{r t:Addr}{xs:List V}{o:HO}(hr:H r=some (.lst xs))(ht:H t=none):(Zr H t o) r=some (.lst xs):=by rw[Zo (Za hr ht)];exact hr
theorem Wl{H:Hp}{r t:Addr}{xs zs:List V}{o:HO}(hr:H r=some (.lst xs))(ht:H t=none):Gro [r] H (Zr (Zr H t o) r (.lst zs)):=(Gro.new ht _).trans (Gro.set (by simp) (Xj hr ht) _)
theorem Wj{H:Hp}{r t:Addr}{xs ys zs:List V}(hr:H r=some (.lst xs))(ht:H t=none):(Zr (Zr H t (.tup ys)) r (.lst zs)) t=some (.tup ys):=by rw[Zo (Ne.symm (Za hr ht))];exact Z5
theorem Z1u{a b:List V}{x y:V}{p:Nat}(h:p=a.length):(a++x::b).set p y=a++y::b:=by subst h;simp
theorem Zb8{kv:List V}(h:1<=kv.length):U2 kv none (some (-1))=kv.take (kv.length-1)/\¬(HT.sIx kv.length 0 none=0/\HT.sIx kv.length kv.length (some (-1))=kv.length):=by
 have e0:HT.sIx kv.length 0 none=0:=rfl
 have e1:HT.sIx kv.length kv.length (some (-1))=kv.length-1:=by
  unfold HT.sIx
  simp
  omega
 refine⟨?_,fun z=>?_⟩
 ·unfold U2
  rw[e0,e1]
  simp
 ·rw[e1]at z
  omega
theorem Zee{kv:List V}{d:V}(h:kv.getLast? = some d):Z7f kv (-1)=some d:=by
 have hl:kv≠[]:=fun z=>by rw[z]at h;simp at h
 have hp:=List.length_pos_iff.mpr hl
 unfold Z7f Zek
 rw[if_neg (by decide),if_pos (by omega)]
 rw[List.getLast?_eq_getElem?]at h
 show kv[((-1:Int)+kv.length).toNat]? = some d
 rw[show((-1:Int)+kv.length).toNat=kv.length-1 by omega]
 exact h
def Jy(t:Str)(i:Nat):Str:=⟨#[t.cps.toList.getD i 0]⟩
def Wv(rs:List (Str×Str))(c:Str):Bool:=rs.any fun r=>!decide (c.cps.toList<r.1.cps.toList) && !decide (r.2.cps.toList<c.cps.toList)
def Hd.one:Hd->Bool
 |.sign _=>true | .any=>true | .inn _=>true | .out _=>true | _=>false
def Hd.eats(h:Hd)(c:Str):Bool:=match h with
 |.sign s=>decide (V.str s=V.str c) | .any=>true | .inn rs=>Wv rs c | .out rs=>!Wv rs c | _=>false
def Yj(h:Hd)(t:Str)(i:Int):Bool:=if i<t.length then h.eats (Jy t i.toNat) else false
theorem Zc0{t:Str}{i:Int}(h0:0<=i)(h1:i<t.length):Z7f t.cps.toList i=some (t.cps.toList.getD i.toNat 0):=by
 have hl:i.toNat<t.cps.toList.length:=by
  have:t.cps.toList.length=t.length:=by simp[Str.length]
  omega
 have:=Wh (xs:=t.cps.toList) (j:=i.toNat) (v:=t.cps.toList.getD i.toNat 0) (by rw[List.getD_eq_getElem?_getD,List.getElem?_eq_getElem hl];rfl)
 rw[Int.toNat_of_nonneg h0]at this
 exact this
abbrev En:=Option (Nat×Nat)
abbrev Gs:=List En
abbrev Hl:=List (Nat×Nat)
abbrev Ch:=Nat×Nat×Gs×Hl
abbrev W7:=Nat×Gs
inductive Op where
 |pat (h:Hd) | try_ (z:Nat) | go (z:Nat) | have_ (k:Int) (z:Nat) | turns | open_ | close (k:Int) | turn (lo:Int) (hi:Option Int) (how:How) (z:Nat) | next (lo:Int) (z:Nat)
 |once | kept | peeked | bar (z:Nat) | barred | lean | here | found
def Op.rw:Op->Rw
 |.pat h=>.pat h
 |.try_ z=>.tup [.str "try",.int z]
 |.go z=>.tup [.str "go",.int z]
 |.have_ k z=>.tup [.str "have",.int k,.int z]
 |.turns=>.tup [.str "turns"]
 |.open_=>.tup [.str "open"]
 |.close k=>.tup [.str "close",.int k]
 |.turn lo hi how z=>.tup [.str "turn",.int lo,Z9u hi,.str how.text,.int z]
 |.next lo z=>.tup [.str "next",.int lo,.int z]
 |.once=>.tup [.str "once"]
 |.kept=>.tup [.str "kept"]
 |.peeked=>.tup [.str "peeked"]
 |.bar z=>.tup [.str "bar",.int z]
 |.barred=>.tup [.str "barred"]
 |.lean=>.tup [.str "lean"]
 |.here=>.tup [.str "here"]
 |.found=>.tup [.str "found"]
structure Cg where
 r:Nat
 i:Nat
 g:Gs
 h:Hl
 cs:List Ch
inductive Cf where
 |run (c:Cg) | ended
def bk(cs:List Ch):Cf:=match cs.getLast? with
 |none=>.ended
 |some q=>.run ⟨q.1,q.2.1,q.2.2.1,q.2.2.2,cs.dropLast⟩
theorem Zec(cs:List Ch)(q:Ch):bk (cs++[q])=.run ⟨q.1,q.2.1,q.2.2.1,q.2.2.2,cs⟩:=by
 unfold bk
 rw[List.getLast?_append,List.dropLast_concat]
 rfl
def ent(g:Gs)(k:Int):En:=(g.getD (k-1).toNat none)
def put(g:Gs)(k:Int)(a b:Nat):Gs:=g.take (k-1).toNat++[some (a,b)]++g.drop k.toNat
def Z8m(hi:Option Int)(n:Nat):Bool:=match hi with
 |none=>true
 |some h=>decide ((n:Int)<h)
def Op.act(t:Str):Op->Cg->Cf
 |.pat .beg,c=>if c.i=0 then .run c else bk c.cs
 |.pat .fin,c=>if c.i=t.length then .run c else bk c.cs
 |.pat (.again k),c=>match ent c.g k with
  |none=>bk c.cs
  |some p=>if sub t c.i (c.i+(p.2-p.1))=sub t p.1 p.2 then .run { c with i:=c.i+(p.2-p.1) } else bk c.cs
 |.pat h,c=>if Yj h t c.i=true then .run { c with i:=c.i+1 } else bk c.cs
 |.try_ z,c=>.run { c with cs:=c.cs++[(z,c.i,c.g,c.h)] }
 |.go z,c=>.run { c with r:=z }
 |.have_ k z,c=>match ent c.g k with
  |none=>.run { c with r:=z }
  |some _=>.run c
 |.turns,c=>.run { c with h:=(0,c.i)::c.h }
 |.open_,c=>.run { c with h:=(0,c.i)::c.h }
 |.close k,c=>match c.h with
  | []=>.ended
  |p::h=>.run { c with h:=h,g:=put c.g k p.2 c.i }
 |.turn lo hi how z,c=>match c.h with
  | []=>.ended
  |p::h=>if Z8m hi p.1=true then
    (if lo<=p.1 then(match how with
     |.little=>.run ⟨z,c.i,c.g,h,c.cs++[(c.r,c.i,c.g,(p.1,c.i)::h)]⟩
     |_=>.run ⟨c.r,c.i,c.g,(p.1,c.i)::h,c.cs++[(z,c.i,c.g,h)]⟩)
    else .run ⟨c.r,c.i,c.g,(p.1,c.i)::h,c.cs⟩)
   else if lo<=p.1 then .run ⟨z,c.i,c.g,h,c.cs⟩ else bk c.cs
 |.next lo z,c=>match c.h with
  | []=>.ended
  |p::h=>if lo<=p.1/\c.i=p.2 then bk c.cs else .run ⟨z,c.i,c.g,(p.1+1,p.2)::h,c.cs⟩
 |.once,c=>.run { c with h:=(c.cs.length,c.i)::c.h }
 |.kept,c=>match c.h with
  | []=>.ended
  |p::h=>.run { c with h:=h,cs:=c.cs.take p.1 }
 |.peeked,c=>match c.h with
  | []=>.ended
  |p::h=>.run { c with i:=p.2,h:=h,cs:=c.cs.take p.1 }
 |.bar z,c=>.run { c with h:=(c.cs.length,c.i)::c.h,cs:=c.cs++[(z,c.i,c.g,c.h)] }
 |.barred,c=>match c.h with
  | []=>.ended
  |p::_=>bk (c.cs.take p.1)
 |.lean,c=>if 0<c.i then .run { c with cs:=c.cs++[(c.r-1,c.i-1,c.g,c.h)] } else .run c
 |.here,c=>match c.h with
  | []=>.ended
  |p::_=>if c.i=p.2 then .run c else bk c.cs
 |.found,c=>.run c
def Op.need(n:Nat)(c:Cg):Op->Prop
 |.close k=>(1<=k/\k<=n)/\c.h≠[]
 |.turn _ _ _ _=>c.h≠[]
 |.next _ _=>c.h≠[]
 |.kept=>c.h≠[]
 |.peeked=>c.h≠[]
 |.barred=>c.h≠[]
 |.here=>c.h≠[]
 |.pat (.again k)=>1<=k/\k<=n
 |.have_ k _=>1<=k/\k<=n
 |.found=>False
 |_=>True
structure GOk(t:Str)(n:Nat)(g:Gs):Prop where
 len:g.length=n
 ok:∀x y,some (x,y)∈g->x<=y/\y<=t.length
structure Lv(es:List Op)(t:Str)(n:Nat)(c:Cg):Prop where
 r:c.r<es.length
 i:c.i<=t.length
 g:GOk t n c.g
 op:(es.getD c.r .found).need n c
def step(es:List Op)(t:Str):Cf->Cf
 |.ended=>.ended
 |.run c=>(es.getD c.r .found).act t { c with r:=c.r+1 }
def run(es:List Op)(t:Str):Nat->Cf->Cf
 |0,M=>M
 |k+1,M=>step es t (run es t k M)
theorem J6(es:List Op)(t:Str)(a:Nat):∀(b:Nat) (M:Cf),run es t (a+b) M=run es t b (run es t a M)
 |0,M=>rfl
 |b+1,M=>by
  show step es t (run es t (a+b) M)=step es t (run es t b (run es t a M))
  rw[J6 es t a b M]
structure Rc(es:List Op)(t:Str)(n:Nat)(M:Cf)(k:Nat)(M':Cf):Prop where
 live:∀j,j<k->∃c,run es t j M=.run c/\Lv es t n c
 eq:run es t k M=M'
section
variable{es:List Op}{t:Str}{n:Nat}
theorem Rc.trans{M M1 M2:Cf}{a b:Nat}(h1:Rc es t n M a M1)(h2:Rc es t n M1 b M2):Rc es t n M (a+b) M2:=by
 refine⟨fun j hj=>?_,by rw[J6,h1.eq,h2.eq]⟩
 by_cases h:j<a
 ·exact h1.live j h
 ·have:=h2.live (j-a) (by omega)
  rw[← h1.eq,← J6,show a+(j-a)=j by omega]at this
  exact this
theorem Rc.one{c:Cg}{M:Cf}{o:Op}(ho:es[c.r]? = some o)(hi:c.i<=t.length)(hg:GOk t n c.g)(hn:o.need n c)(e:o.act t { c with r:=c.r+1 }=M):Rc es t n (.run c) 1 M:=by
 have hd:es.getD c.r .found=o:=by rw[List.getD_eq_getElem?_getD,ho];rfl
 refine⟨fun j hj=>?_,?_⟩
 ·rw[show j=0 by omega]
  exact⟨c,rfl,(List.getElem?_eq_some_iff.mp ho).1,hi,hg,by rw[hd];exact hn⟩
 ·show(es.getD c.r .found).act t _=M
  rw[hd]
  exact e
inductive Yl(es:List Op)(t:Str)(n:Nat)(e:Nat)(h:Hl)(cs:List Ch):Cf->List W7->Nat->Prop where
 |nil {M:Cf} {j k:Nat} (r:Rc es t n M j (bk cs)) (hk:j<=k):Yl es t n e h cs M [] k
 |cons {M:Cf} {j k k':Nat} {w:W7} {ws:List W7} {xs:List Ch} (r:Rc es t n M j (.run ⟨e,w.1,w.2,h,cs++xs⟩)) (y:Yl es t n e h cs (bk (cs++xs)) ws k') (hk:j+k'<=k):Yl es t n e h cs M (w::ws) k
variable{e:Nat}{h:Hl}{cs:List Ch}
end
def Hd.nm(n:Int):Hd->Prop
 |.grp k=>1<=k/\k<=n | .again k=>1<=k/\k<=n | .hav k=>1<=k/\k<=n | _=>True
mutual
def Pat.nm(n:Int):Pat->Prop
 |.node h ks=>h.nm n/\Zkc n ks
def Zkc(n:Int):List Pat->Prop
 | []=>True
 |k::ks=>k.nm n/\Zkc n ks
end
abbrev Co:=Nat->List Op
def Z8e:List Co->Co
 | [],_=>[]
 |c::cs,b=>c b++Z8e cs (b+(c b).length)
def Z5o(e:Nat):List Co->Co
 | [],_=>[]
 | [c],b=>c b
 |c::d::cs,b=>.try_ (b+(c (b+1)).length+2)::(c (b+1)++.go e::Z5o e (d::cs) (b+(c (b+1)).length+2))
def Z0k(lo:Int)(hi:Option Int)(how:How)(c:Co):Co:=fun b=>.turns::.turn lo hi how (b+3+(c (b+2)).length)::(c (b+2)++[.next lo (b+1)])
def Zf4(lo:Int)(hi:Option Int)(how:How)(c:Co):Co:=match how with
 |.keep=>fun b=>.once::(Z0k lo hi .much c (b+1)++[.kept])
 |h=>Z0k lo hi h c
def Zcj(k:Int)(y n:Co):Co:=fun b=>.have_ k (b+(y (b+1)).length+2)::(y (b+1)++.go (b+(y (b+1)).length+2+(n (b+(y (b+1)).length+2)).length)::n (b+(y (b+1)).length+2))
def Z8f(l:Lk)(c:Co):Co:=fun b=>match l.leans with
 |true=>.lean::(c (b+2)++[.here])
 |false=>c (b+1)
def Lk.lastO:Lk->Op
 |.once=>.kept | .ahead=>.peeked | .behind=>.peeked | .notahead=>.barred | .notbehind=>.barred
def Lk.bars:Lk->Bool
 |.notahead=>true | .notbehind=>true | _=>false
def Z5w(l:Lk)(c:Co):Co:=fun b=>(if l.bars=true then .bar (b+2+(Z8f l c b).length) else .once)::(Z8f l c b++[l.lastO])
def Z9r(cs:List Co):Co:=cs.headD fun _=>[]
def Zk3(cs:List Co):Co:=fun b=>Z5o (b+(Z5o 0 cs b).length) cs b
def Hd.ops(h:Hd)(cs:List Co):Co:=match h with
 |.row=>Z8e cs
 |.alt=>Zk3 cs
 |.times lo hi how=>Zf4 lo hi how (Z9r cs)
 |.grp k=>fun b=>.open_::(Z9r cs (b+1)++[.close k])
 |.hav k=>Zcj k (Z9r cs) (Z9r cs.tail)
 |.look l=>Z5w l (Z9r cs)
 |h=>fun _=>[.pat h]
mutual
def Pat.ops:Pat->Co
 |.node h ks=>h.ops (Zeo ks)
def Zeo:List Pat->List Co
 | []=>[]
 |k::ks=>k.ops::Zeo ks
end
theorem Zae(ks:List Pat):Zeo ks=ks.map Pat.ops:=by
 induction ks with
 |nil=>rfl
 |cons k ks ih=>rw[Zeo,ih];rfl
theorem Z58(h:Hd)(ks:List Pat):(Pat.node h ks).ops=h.ops (ks.map Pat.ops):=by rw[Pat.ops,Zae]
def Same2(c:Co)(c':Cd):Prop:=∀b,(c b).map Op.rw=c' b
theorem Same2.len{c:Co}{c':Cd}(h:Same2 c c')(b:Nat):(c' b).length=(c b).length:=by rw[← h b,List.length_map]
section
variable{ks:List Pat}(ih:∀k∈ks,Same2 k.ops k.code)
include ih
theorem Za3:Same2 (Z8e (ks.map Pat.ops)) (T5 (ks.map Pat.code)):=by
 induction ks with
 |nil=>intro b;rfl
 |cons k ks hk =>
  intro b
  have h1:=ih k (by simp)
  have h2:=hk (fun x hx=>ih x (by simp[hx])) (b+(k.ops b).length)
  simp only[List.map_cons,Z8e,T5,List.map_append]
  rw[h1.len b,h2,h1 b]
theorem Z53(e:Nat):∀b,(Z5o e (ks.map Pat.ops) b).map Op.rw=X1 (Zgz (e:Int)) (ks.map Pat.code) b:=by
 induction ks with
 |nil=>intro b;rfl
 |cons k ks hk =>
  intro b
  have h1:=ih k (by simp)
  cases ks with
  |nil=>exact h1 b
  |cons l ks =>
   have h2:=hk (fun x hx=>ih x (by simp at hx;simp[hx])) (b+(k.ops (b+1)).length+2)
   simp only[List.map_cons]at h2
   simp only[List.map_cons,Z5o,X1,List.map_append]
   rw[h1.len (b+1),h2,h1 (b+1)]
   simp only[Op.rw,Zgz]
   congr 1
theorem Zd1:Same2 (Zk3 (ks.map Pat.ops)) (Zgx (ks.map Pat.code)):=by
 intro b
 have hl:(X1 [] (ks.map Pat.code) b).length=(Z5o 0 (ks.map Pat.ops) b).length:=by
  have:=congrArg List.length (Z53 ih 0 b)
  rw[List.length_map,Z1p]at this
  exact this.symm
 unfold Zk3 Zgx
 rw[Z53 ih,hl]
 congr 2
theorem Z7o:Same2 (Z9r (ks.map Pat.ops)) (Zce (ks.map Pat.code)):=by
 cases ks with
 |nil=>intro b;rfl
 |cons k ks=>exact ih k (by simp)
end
theorem Jk{lo:Int}{hi:Option Int}{how:How}{c:Co}{c':Cd}(h:Same2 c c'):Same2 (Z0k lo hi how c) (Z0l lo hi how.text c'):=by
 intro b
 simp only[Z0k,Z0l,List.map_cons,List.map_append,List.map_nil,Op.rw]
 rw[h.len (b+2),h (b+2)]
 congr 2
theorem Z8w{l:Lk}{c:Co}{c':Cd}(h:Same2 c c'):Same2 (Z5w l c) (U7 l c'):=by
 intro b
 have hin:(Z8f l c b).map Op.rw=l.inner c' b:=by
  unfold Z8f Lk.inner
  cases l.leans
  ·exact h _
  ·simp only[List.map_cons,List.map_append,List.map_nil,Op.rw];rw[h]
 have hil:(l.inner c' b).length=(Z8f l c b).length:=by rw[← hin,List.length_map]
 unfold Z5w U7
 rw[List.map_cons,List.map_append,hin,hil]
 cases l <;> simp[Lk.bars,Lk.last,Lk.lastO,Op.rw] <;> first | rfl | omega | skip
mutual
theorem Pat.ops_rw:∀p:Pat,Same2 p.ops p.code
 |.node h ks=>by
  have ih:=Z7y ks
  rw[Z58,Jv]
  have hh:=Z7o ih
  cases h with
  |row=>exact Za3 ih
  |alt=>exact Zd1 ih
  |times lo hi how =>
   cases how with
   |keep =>
    intro b
    have:=Jk (lo:=lo) (hi:=hi) (how:=.much) hh (b+1)
    show(Op.once::(Z0k lo hi .much _ (b+1)++[.kept])).map Op.rw=_
    rw[List.map_cons,List.map_append,this]
    rfl
   |much=>exact Jk hh
   |little=>exact Jk hh
  |grp k =>
   intro b
   show(Op.open_::(Z9r _ (b+1)++[.close k])).map Op.rw=_
   rw[List.map_cons,List.map_append,hh (b+1)]
   rfl
  |hav k =>
   intro b
   have ht:Same2 (Z9r (ks.map Pat.ops).tail) (Zce (ks.map Pat.code).tail):=by
    cases ks with
    |nil=>intro b;rfl
    |cons y r=>exact Z7o fun z hz=>ih z (by simp[hz])
   show(Zcj k _ _ b).map Op.rw=Z8g k _ _ b
   simp only[Zcj,Z8g,List.map_cons,List.map_append,Op.rw]
   rw[hh.len (b+1),ht.len,hh (b+1),ht]
   congr 1
  |look l=>exact Z8w hh
  |_=>intro b;rfl
theorem Z7y:∀ks:List Pat,∀k∈ks,Same2 k.ops k.code
 | [],_,hk=>by simp at hk
 |k::ks,x,hx=>by
  rcases List.mem_cons.mp hx with h | h
  ·rw[h]
   exact Pat.ops_rw k
  ·exact Z7y ks x h
end
def Zjx(es:List Op)(b:Nat)(l:List Op):Prop:=∃r,es.drop b=l++r
abbrev Wk:=Pat->Nat->Gs->List W7->Nat->Prop
structure Gd(t:Str)(n i:Nat)(w:W7):Prop where
 lo:i<=w.1
 hi:w.1<=t.length
 g:GOk t n w.2
structure Gw(t:Str)(n i:Nat)(ws:List W7)(N:Nat):Prop where
 all:∀w∈ws,Gd t n i w
 len:ws.length<=N
 pos:1<=N
def GW(t:Str)(n:Nat)(W:Wk):Prop:=∀p i g ws N,p.nm n->i<=t.length->GOk t n g->W p i g ws N->Gw t n i ws N
theorem Gd.trans{t:Str}{n i j:Nat}{w:W7}(h:Gd t n j w)(hi:i<=j):Gd t n i w:=⟨Nat.le_trans hi h.lo,h.hi,h.g⟩
theorem Zgo{t:Str}{n:Nat}{g:Gs}{k:Int}{p:Nat×Nat}(h:GOk t n g)(e:ent g k=some p):p.1<=p.2/\p.2<=t.length:=by
 unfold ent at e
 rw[List.getD_eq_getElem?_getD]at e
 cases hh:g[(k-1).toNat]? with
 |none=>rw[hh]at e;cases e
 |some x =>
  rw[hh]at e
  have:x=some p:=e
  subst this
  exact h.ok p.1 p.2 (List.mem_of_getElem? hh)
section
variable{t:Str}{n:Nat}{W:Wk}(gw:GW t n W)
include gw
end
section
variable{es:List Op}{t:Str}{n:Nat}
def YW(es:List Op)(t:Str)(n:Nat)(W:Wk)(A:Nat):Prop:=∀p i g ws N,p.nm n->i<=t.length->GOk t n g->W p i g ws N->∀b h cs,Zjx es b (p.ops b)->Yl es t n (b+(p.ops b).length) h cs (.run ⟨b,i,g,h,cs⟩) ws (A*N)
section
variable{W:Wk}{A:Nat}(yw:YW es t n W A)(gw:GW t n W)
include yw gw
end
end
section
variable{es:List Op}{t:Str}{n:Nat}
end
abbrev Tm(H H':Hp):Prop:=∀b xs,H b=some (.tup xs)->H' b=some (.tup xs)
def EnA(H:Hp)(e:V):En->Prop
 |none=>e=.non
 |some p=>∃a,e=.ref a/\H a=some (.tup [.int p.1,.int p.2])
def GsAt(H:Hp)(v:V)(g:Gs):Prop:=∃(a:Addr) (es:List V),v=.ref a/\H a=some (.tup es)/\Paired (EnA H) es g
def HlAt(H:Hp):V->Hl->Prop
 |v,[]=>v=.non
 |v,p::h=>∃(a:Addr) (v':V),v=.ref a/\H a=some (.tup [.int p.1,.int p.2,v'])/\HlAt H v' h
def ChA(H:Hp)(q:Zf0)(c:Ch):Prop:=q.1=c.1/\q.2.1=c.2.1/\GsAt H q.2.2.1 c.2.2.1/\HlAt H q.2.2.2 c.2.2.2
theorem EnA.mono{H H':Hp}(t:Tm H H'){e:V}:∀ {x:En},EnA H e x->EnA H' e x
 |none,h=>h
 |some p,⟨a,e1,e2⟩=>⟨a,e1,t _ _ e2⟩
theorem GsAt.mono{H H':Hp}(t:Tm H H'){v:V}{g:Gs}(h:GsAt H v g):GsAt H' v g:=by
 obtain⟨a,es,e1,e2,e3⟩:=h
 exact⟨a,es,e1,t _ _ e2,Paired.mapP e3 fun _ _ q=>q.mono t⟩
theorem HlAt.mono{H H':Hp}(t:Tm H H'):∀ {h:Hl} {v:V},HlAt H v h->HlAt H' v h
 | [],_,e=>e
 |p::h,_,⟨a,v',e1,e2,e3⟩=>⟨a,v',e1,t _ _ e2,HlAt.mono t e3⟩
theorem ChA.mono{H H':Hp}(t:Tm H H'){q:Zf0}{c:Ch}(h:ChA H q c):ChA H' q c:=⟨h.1,h.2.1,h.2.2.1.mono t,h.2.2.2.mono t⟩
structure Ab(H:Hp)(ra:Addr)(t:Str)(ch:Addr)(M:MM)(c:Cg):Prop where
 rows:M.s.rows=.ref ra
 text:M.s.text=t
 chs:M.s.choices=ch
 en:M.s.ended=false
 row:M.s.row=c.r
 pl:M.s.place=c.i
 gs:GsAt H M.s.groups c.g
 hl:HlAt H M.s.held c.h
 cs:Paired (ChA H) M.cs c.cs
structure AbE(ra:Addr)(t:Str)(ch:Addr)(M:MM):Prop where
 rows:M.s.rows=.ref ra
 text:M.s.text=t
 chs:M.s.choices=ch
 en:M.s.ended=true
 cs:M.cs=[]
def AbF(H:Hp)(ra:Addr)(t:Str)(ch:Addr)(M:MM):Cf->Prop
 |.run c=>Ab H ra t ch M c
 |.ended=>AbE ra t ch M
theorem Ab.mono{H H':Hp}(tm:Tm H H'){ra:Addr}{t:Str}{ch:Addr}{M:MM}{c:Cg}(h:Ab H ra t ch M c):Ab H' ra t ch M c :=
 ⟨h.rows,h.text,h.chs,h.en,h.row,h.pl,h.gs.mono tm,h.hl.mono tm,Paired.mapP h.cs fun _ _ q=>q.mono tm⟩
theorem AbF.mono{H H':Hp}(tm:Tm H H'){ra:Addr}{t:Str}{ch:Addr}{M:MM}:∀ {c:Cf},AbF H ra t ch M c->AbF H' ra t ch M c
 |.run _,h=>Ab.mono tm h
 |.ended,h=>h
theorem Th{α β:Type}{F:α->β->Prop}:∀ {xs:List α} {ys:List β} {y:β},Paired F xs (ys++[y])->∃xs' x,xs=xs'++[x]/\Paired F xs' ys/\F x y
 |_,[],y,.cons h .nil=>⟨[],_,rfl,.nil,h⟩
 |_,z::ys,y,.cons h t=>by
  obtain⟨xs',x,e,p,q⟩:=Th t
  exact⟨_::xs',x,by rw[e];rfl,.cons h p,q⟩
theorem Ab.back{H:Hp}{ra:Addr}{t:Str}{ch:Addr}{M:MM}{c:Cg}(h:Ab H ra t ch M c):AbF H ra t ch M.back (bk c.cs):=by
 rcases List.eq_nil_or_concat c.cs with e | ⟨xs,q,e⟩
 ·have hc:=h.cs
  rw[e]at hc ⊢
  have:M.cs=[]:=by cases hm:M.cs with
   |nil=>rfl
   |cons a b=>rw[hm]at hc;cases hc
  unfold MM.back
  rw[this]
  exact⟨h.rows,h.text,h.chs,rfl,rfl⟩
 ·rw[List.concat_eq_append]at e
  have hc:=h.cs
  rw[e]at hc ⊢
  obtain⟨xs',x,e',p,hx⟩:=Th hc
  unfold MM.back
  rw[e',List.getLast?_append,Zec]
  obtain⟨q1,q2,q3,q4⟩:=hx
  refine⟨h.rows,h.text,h.chs,h.en,q1,q2,q3,q4,?_⟩
  show Paired (ChA H) (xs'++[x]).dropLast xs
  rw[List.dropLast_concat]
  exact p
def Op.fd:Op->Bool->Bool
 |.found,_=>true
 |_,b=>b
def Op.word:Op->Str
 |.pat h=>h.word | .try_ _=>"try" |.go _=>"go" |.have_ _ _=>"have" |.turns=>"turns" |.open_=>"open" |.close _=>"close" |.turn _ _ _ _=>"turn" |.next _ _=>"next" |.once=>"once" |.kept=>"kept" |.peeked=>"peeked"
 |.bar _=>"bar" |.barred=>"barred" |.lean=>"lean" |.here=>"here" |.found=>"found"
def Hd.act:Hd->Bool
 |.sign _=>true | .any=>true | .inn _=>true | .out _=>true | .beg=>true | .fin=>true | .again _=>true | _=>false
def Op.ok:Op->Prop
 |.pat h=>h.act=true
 |_=>True
inductive spDoI(C:Addr)(o:Op)(vs:List V)(H:Hp)(Q:VK):Prop
 |mk (m a ra ch:Addr) (t:Str) (n:Nat) (M:MM) (c:Cg) (_:vs=[.ref m,.ref a]) (_:MAt C H m M) (_:Ab H ra t ch M c) (_:RowAt H (.ref a) o.rw) (_:t.length<=1000) (_:c.i<=t.length) (_:GOk t n c.g) (_:n<=900) (_:(o.need n c∨o=.found)) (_:(c.cs.length<=1000000/\1<=c.r)) (_:∀(H':Hp) (M':MM),MAt C H' m M'->AbF H' ra t ch M' (o.act t c)->M'.s.made=M.s.made->M'.s.found=o.fd M.s.found->Gro [m,ch] H H'->Q .non H')
def T4(C:Addr)(o:Op):Sp:=fun vs H Q _=>spDoI C o vs H Q
theorem Yp(M:MM):M.back.s.made=M.s.made/\M.back.s.found=M.s.found:=by
 unfold MM.back
 split <;> exact⟨rfl,rfl⟩
theorem W9{α β:Type}{F:α->β->Prop}:∀ {xs:List α} {ys:List β} (k:Nat),Paired F xs ys->Paired F (xs.take k) (ys.take k)
 |_,_,0,_=>by simp;exact .nil
 |_,_,_+1,.nil=>by simp;exact .nil
 |_,_,k+1,.cons h t=>by simp only[List.take_succ_cons];exact .cons h (W9 k t)
theorem Z06{α β:Type}{F:α->β->Prop}:∀ {xs:List α} {ys:List β} (k:Nat),Paired F xs ys->Paired F (xs.drop k) (ys.drop k)
 |_,_,0,h=>h
 |_,_,_+1,.nil=>by simp;exact .nil
 |_,_,k+1,.cons h t=>by simp only[List.drop_succ_cons];exact Z06 k t
theorem GsAt.len{H:Hp}{v:V}{g:Gs}(h:GsAt H v g):∃(a:Addr) (es:List V),v=.ref a/\H a=some (.tup es)/\es.length=g.length/\Paired (EnA H) es g:=by
 obtain⟨a,es,e1,e2,e3⟩:=h
 exact⟨a,es,e1,e2,Paired.length e3,e3⟩
theorem GsAt.ent{H:Hp}{v:V}{g:Gs}{k:Int}(h:GsAt H v g)(h1:1<=k)(h2:k<=g.length):∃(a:Addr) (es:List V) (e:V),v=.ref a/\H a=some (.tup es)/\es.length=g.length/\Z7f es (k-1)=some e/\EnA H e (ent g k):=by
 obtain⟨a,es,e1,e2,e3,e4⟩:=h.len
 have hl:(k-1).toNat<es.length:=by omega
 have ha:=Wh (List.getElem?_eq_getElem hl)
 rw[show(((k-1).toNat:Nat):Int)=k-1 by omega]at ha
 obtain⟨y,hy,hE⟩:=Y9 e4 (List.getElem?_eq_getElem hl)
 refine⟨a,es,_,e1,e2,e3,ha,?_⟩
 unfold Seek.ent
 rw[List.getD_eq_getElem?_getD,hy]
 exact hE
theorem GsAt.put{H:Hp}{es:List V}{g:Gs}{k:Int}{a b:Nat}{p r:Addr}(h:Paired (EnA H) es g)(hp:H p=some (.tup [.int a,.int b]))(hr:H r=some (.tup (es.take (k-1).toNat++[.ref p]++es.drop k.toNat))):GsAt H (.ref r) (put g k a b) :=
 ⟨r,_,rfl,hr,Zx (Zx (W9 _ h) (.cons ⟨p,rfl,hp⟩ .nil)) (Z06 _ h)⟩
theorem Z8c{K:W.Frag}{a b:Addr}{xs ys:List V}{H:Hp}{Q:VK}(ha:H a=some (.tup xs))(hb:H b=some (.tup ys))(hz:xs.length+ys.length<=1000)(h:∀(r:Addr) (H':Hp),H' r=some (.tup (xs++ys))->Gro [] H H'->Q (.ref r) H'):Zeu K (.ref a) (.ref b) H Q :=
 ⟨a,b,xs,ys,rfl,rfl,SqT.of ha,SqT.of hb,Yc hz,fun e=>h b H (by rw[e];exact hb) Gro.refl,fun _ e=>h a H (by rw[e,List.append_nil];exact ha) Gro.refl,fun _ _ p hp=>h p _ Z5 (Gro.new hp _)⟩
theorem Z7p{Pr:Op->Prop}:∀ {cs:List Co},(∀c∈cs,∀b,∀o∈c b,Pr o)->∀b,∀o∈Z8e cs b,Pr o
 | [],_,b,o,ho=>by simp[Z8e]at ho
 |c::cs,h,b,o,ho=>by
  rw[Z8e]at ho
  rcases List.mem_append.mp ho with ho | ho
  ·exact h c (by simp) b o ho
  ·exact Z7p (fun d hd=>h d (by simp[hd])) _ o ho
theorem Z8d{Pr:Op->Prop}(h1:∀z,Pr (.try_ z))(h2:∀z,Pr (.go z)){e:Nat}:∀ {cs:List Co},(∀c∈cs,∀b,∀o∈c b,Pr o)->∀b,∀o∈Z5o e cs b,Pr o
 | [],_,b,o,ho=>by simp[Z5o]at ho
 | [c],h,b,o,ho=>h c (by simp) b o ho
 |c::d::cs,h,b,o,ho=>by
  rw[Z5o]at ho
  rcases List.mem_cons.mp ho with rfl | ho
  ·exact h1 _
  ·rcases List.mem_append.mp ho with ho | ho
   ·exact h c (by simp) _ o ho
   ·rcases List.mem_cons.mp ho with rfl | ho
    ·exact h2 _
    ·exact Z8d h1 h2 (fun x hx=>h x (by simp at hx;simp[hx])) _ o ho
theorem Zbw{Pr:Op->Prop}{cs:List Co}(h:∀c∈cs,∀b,∀o∈c b,Pr o)(b:Nat):∀o∈Z9r cs b,Pr o:=by
 cases cs with
 |nil=>intro o ho;simp[Z9r]at ho
 |cons c cs=>exact h c (by simp) b
structure Free(Pr:Op->Prop):Prop where
 f1:∀z,Pr (.try_ z)
 f2:∀z,Pr (.go z)
 f3:∀k z,Pr (.have_ k z)
 f4:Pr .turns
 f5:Pr .open_
 f6:∀lo hi how z,Pr (.turn lo hi how z)
 f7:∀lo z,Pr (.next lo z)
 f8:Pr .once
 f9:Pr .kept
 f10:Pr .peeked
 f11:∀z,Pr (.bar z)
 f12:Pr .barred
 f13:Pr .lean
 f14:Pr .here
theorem Z1i{Pr:Op->Prop}(F:Free Pr){lo:Int}{hi:Option Int}{how:How}{c:Co}(h:∀b,∀o∈c b,Pr o)(b:Nat):∀o∈Z0k lo hi how c b,Pr o:=by
 intro o ho
 unfold Z0k at ho
 rcases List.mem_cons.mp ho with rfl | ho
 ·exact F.f4
 ·rcases List.mem_cons.mp ho with rfl | ho
  ·exact F.f6 _ _ _ _
  ·rcases List.mem_append.mp ho with ho | ho
   ·exact h _ o ho
   ·rw[List.mem_singleton.mp ho];exact F.f7 _ _
theorem Zap{Pr:Op->Prop}(F:Free Pr){h:Hd}{cs:List Co}(hl:h.act=true->Pr (.pat h))(hc:∀k,h=.grp k->Pr (.close k))(ih:∀c∈cs,∀b,∀o∈c b,Pr o)(b:Nat):∀o∈h.ops cs b,Pr o:=by
 intro o ho
 have hh:=Zbw ih
 cases h with
 |row=>exact Z7p ih b o ho
 |alt=>exact Z8d F.f1 F.f2 ih b o ho
 |times lo hi how =>
  cases how with
  |keep =>
   have ho':o∈Op.once::(Z0k lo hi .much (Z9r cs) (b+1)++[.kept]):=ho
   rcases List.mem_cons.mp ho' with rfl | ho
   ·exact F.f8
   ·rcases List.mem_append.mp ho with ho | ho
    ·exact Z1i F hh _ o ho
    ·rw[List.mem_singleton.mp ho];exact F.f9
  |much=>exact Z1i F hh b o ho
  |little=>exact Z1i F hh b o ho
 |grp k =>
  have ho':o∈Op.open_::(Z9r cs (b+1)++[.close k]):=ho
  rcases List.mem_cons.mp ho' with rfl | ho
  ·exact F.f5
  ·rcases List.mem_append.mp ho with ho | ho
   ·exact hh _ o ho
   ·rw[List.mem_singleton.mp ho];exact hc k rfl
 |hav k =>
  have ht:∀b,∀o∈Z9r cs.tail b,Pr o:=fun b=>Zbw (fun c hc'=>ih c (List.mem_of_mem_tail hc')) b
  have ho':o∈Zcj k (Z9r cs) (Z9r cs.tail) b:=ho
  unfold Zcj at ho'
  rcases List.mem_cons.mp ho' with rfl | ho
  ·exact F.f3 _ _
  ·rcases List.mem_append.mp ho with ho | ho
   ·exact hh _ o ho
   ·rcases List.mem_cons.mp ho with rfl | ho
    ·exact F.f2 _
    ·exact ht _ o ho
 |look l =>
  have hin:∀o∈Z8f l (Z9r cs) b,Pr o:=by
   intro o ho
   unfold Z8f at ho
   split at ho
   ·rcases List.mem_cons.mp ho with rfl | ho
    ·exact F.f13
    ·rcases List.mem_append.mp ho with ho | ho
     ·exact hh _ o ho
     ·rw[List.mem_singleton.mp ho];exact F.f14
   ·exact hh _ o ho
  have ho':o∈Z5w l (Z9r cs) b:=ho
  unfold Z5w at ho'
  rcases List.mem_cons.mp ho' with e | ho
  ·rw[e]
   split
   ·exact F.f11 _
   ·exact F.f8
  ·rcases List.mem_append.mp ho with ho | ho
   ·exact hin o ho
   ·rw[List.mem_singleton.mp ho]
    cases l with
    |once=>exact F.f9
    |ahead=>exact F.f10
    |behind=>exact F.f10
    |notahead=>exact F.f12
    |notbehind=>exact F.f12
 |_ =>
  rw[List.mem_singleton.mp ho]
  exact hl rfl
mutual
theorem Zbq:∀(p:Pat) (b:Nat),∀o∈p.ops b,o.ok
 |.node h ks,b=>by
  rw[Z58]
  refine Zap ⟨fun _=>trivial,fun _=>trivial,fun _ _=>trivial,trivial,trivial,fun _ _ _ _=>trivial,fun _ _=>trivial,trivial,trivial,trivial,fun _=>trivial,trivial,trivial,trivial⟩ (fun e=>e) (fun _ _=>trivial) (fun c hc=>?_) b
  obtain⟨p,hp,rfl⟩:=List.mem_map.mp hc
  exact Z7z ks p hp
theorem Z7z:∀(ks:List Pat),∀p∈ks,∀b,∀o∈p.ops b,o.ok
 | [],_,hp=>by simp at hp
 |k::ks,p,hp=>by
  rcases List.mem_cons.mp hp with h | h
  ·rw[h]
   exact Zbq k
  ·exact Z7z ks p h
end
end Seek
namespace L2
open PySem PySem.Spec PyProof.Rows
section
variable{X:Cx}{Z2:List (Addr×Obj)}{σ:List (Option V)}{H H':Hp}{s:Shared}{h':Heap}
theorem Inv.turnedL{t':Nat}{fp:List Addr}(I:Inv X Z2 σ H s)(k:∀b o,b∉fp->s.heap.get? b=some o->h'.get? b=some o)(hf:∀b∈fp,Z0q X Z2 H b):Inv X Z2 σ H { s with heap:=h',toks:=t' }:=by
 have nit:∀b u,H b=some u->b∉fp:=fun b u e z=>by rw[(hf b z).1]at e;cases e
 refine I.step (g':=s.gens) (d':=s.drawn) (ch:=fp) (fun b hb=>?_) (fun b o _ _ hc e _=>k b o hc e) (fun b o _ _ hc e _=>⟨o.slots,k b o hc e⟩) (fun _ _ _ _ n=>n)
  (fun b o hc e=>⟨o,k b o hc e⟩) (fun _ _ e=>e) (fun _ _ _ e=>e) (fun b ps e=>⟨#[],by rw[e];simp⟩) (fun m hm=>?_) (fun b u e=>?_) I.bare
 ·obtain⟨_,f1,_,f3,f4,f5⟩:=hf b hb
  exact⟨f3,f1,f4,f5⟩
 ·obtain⟨o,es,ep,ho,r⟩:=hm
  exact⟨o,es,ep,k _ o (fun z=>(hf _ z).2.1 rfl) ho,r⟩
 ·refine(I.hok b u e).stay (fun c v hc q=>k c v ?_ q) (fun _ q=>q) fun _ _ q=>q
  rcases hc with z | z
  ·rw[z];exact nit b u e
  ·exact nit c _ z
end
def Ziv (K : PySem.W.Frag) (l1 l2 : Addr) : It :=
  ⟨fun i H => ∃ xs ys x y, SqL K H l1 xs ∧ SqL K H l2 ys ∧ xs[i]? = some x ∧ ys[i]? = some y,
   fun i H v H' => ∃ p, v = .ref p ∧ H p = none ∧ ∀ xs ys x y, SqL K H l1 xs → SqL K H l2 ys → xs[i]? = some x → ys[i]? = some y → H' = Zr H p (.tup [x, y]),
   fun i H => ∃ xs ys, SqL K H l1 xs ∧ SqL K H l2 ys ∧ (xs.length ≤ i ∨ ys.length ≤ i)⟩
structure ZipSt(z TI TO i1 i2 l1 l2:Addr)(i:Nat)(h:Heap):Prop where
 zp:IsZip h z TI TO .none
 ti:IsPair h TI (.ref i1) (.ref i2)
 to:∃a b,IsPair h TO a b
 s1:h.IsListIter i1 l1 i
 s2:h.IsListIter i2 l2 i
theorem Za1{P:Program}{w:World}{K:W.Frag}{elts:List Expr}{x1:Nat}{tp:Pos}{z TI TO i1 i2 l1 l2:Addr}(ap:ZipApart z TI TO i1 i2 l1 l2):Turn P w K (.Tuple elts x1 tp) (Ziv K l1 l2) [z,TI,TO,i1,i2] z (ZipSt z TI TO i1 i2 l1 l2) where
 mem:=by simp
 obj:=fun i h st b hb=>by
  simp at hb
  rcases hb with rfl | rfl | rfl | rfl | rfl
  ·exact⟨_,st.zp,fun v q=>by cases q⟩
  ·exact⟨_,st.ti,fun v q=>by cases q⟩
  ·obtain⟨a,b,e⟩:=st.to
   exact⟨_,e,fun v q=>by cases q⟩
  ·obtain⟨o,e,c,d⟩:=st.s1
   exact⟨o,e,fun v q=>by rw[d]at q;cases q⟩
  ·obtain⟨o,e,c,d⟩:=st.s2
   exact⟨o,e,fun v q=>by rw[d]at q;cases q⟩
 keep:=fun i h h' st k=>by
  obtain⟨a,b,e⟩:=st.to
  exact⟨k z (by simp) _ st.zp,k TI (by simp) _ st.ti,⟨a,b,k TO (by simp) _ e⟩,st.s1.at fun o e=>k i1 (by simp) o e,st.s2.at fun o e=>k i2 (by simp) o e⟩
 item:=by
  intro X hP hw hK hc i Z2 s σ H E I hf st hg
  subst hP hw hK
  obtain⟨xs,ys,x,y,hq1,hq2,hx,hy⟩:=hg
  obtain⟨its1,rv1,p1,hz1⟩:=I.list hq1
  obtain⟨its2,rv2,p2,hz2⟩:=I.list hq2
  obtain⟨u,hu,ru⟩:=rv1.get hx
  obtain⟨v,hv,rv⟩:=rv2.get hy
  obtain⟨a,b,hto⟩:=st.to
  have hlt:∀c∈[z,TI,TO,i1,i2],c<s.heap.objs.size:=fun c hc=>by
   simp at hc
   rcases hc with rfl | rfl | rfl | rfl | rfl
   ·exact Heap.lt_size st.zp
   ·exact Heap.lt_size st.ti
   ·exact Heap.lt_size hto
   ·obtain⟨o,e,_⟩:=st.s1
    exact Heap.lt_size e
   ·obtain⟨o,e,_⟩:=st.s2
    exact Heap.lt_size e
  have hn:=I.hok.fresh (Nat.le_refl s.heap.objs.size)
  refine wpAny_pyNext_zip_item ap st.zp st.ti hto st.s1 st.s2 p1.isList p2.isList (x:=u) (y:=v) (by simpa using hu) (by simpa using hv) fun h' z' to' i1' i2' pr sz kp=>⟨_,rfl,?_⟩
  refine wpAny_letOwnedTupleGo_zip (s:={ s with heap:=h' }) z' fun h2 z2 sb=>?_
  have zl:=hlt z (by simp)
  have I1:Inv X Z2 σ (Zr H s.heap.objs.size (.tup [x,y])) { s with heap:=s.heap.push { cls:=.type "tuple",data:=.seq #[u,v] } } :=
   I.laid (t':=s.toks) (fun _ _ q=>Heap.get?_push_of_some _ q) (Nat.le_refl _) ⟨by rw[sizeLine_eq];show 2<=_;decide,[u,v],.cons ru (.cons rv .nil),⟨_,Heap.get?_push_size _ rfl,rfl,0,rfl⟩⟩
  have fresh:∀c∈[z,TI,TO,i1,i2],Zr H s.heap.objs.size (.tup [x,y]) c=none:=fun c hc=>by rw[Zo (Nat.ne_of_lt (hlt c hc))];exact(hf c hc).1
  have I2:Inv X Z2 σ (Zr H s.heap.objs.size (.tup [x,y])) { s with heap:=h2 }:=by
   refine Inv.turnedL (s:={ s with heap:=s.heap.push { cls:=.type "tuple",data:=.seq #[u,v] } }) (fp:=[z,TI,TO,i1,i2]) (t':=s.toks) I1 (fun c o hc e=>?_) (fun c hc=>⟨fresh c hc,(hf c hc).2⟩)
   simp at hc
   rw[sb.2 c hc.1]
   by_cases hcs:c=s.heap.objs.size
   ·subst hcs
    have e2:(s.heap.push { cls:=.type "tuple",data:=.seq #[u,v] }).get? s.heap.objs.size=some o:=e
    rw[Heap.get?_push_size _ rfl]at e2
    cases e2
    exact pr
   ·have e':s.heap.get? c=some o:=by
     have hlt':c<(s.heap.push { cls:=.type "tuple",data:=.seq #[u,v] }).objs.size:=Heap.lt_size e
     have:c<s.heap.objs.size:=by
      have h9:c<s.heap.objs.size+1:=by simpa[Heap.push] using hlt'
      exact Nat.lt_of_le_of_ne (Nat.le_of_lt_succ h9) hcs
     simpa[Heap.get?,Heap.push,Array.getElem?_push,Nat.ne_of_lt this] using e
    exact kp c o hc.1 hc.2.2.1 hc.2.2.2.1 hc.2.2.2.2 e'
  refine⟨.ref s.heap.objs.size,_,I2,rfl,⟨_,rfl,hn,fun xs' ys' x' y' h1 h2 h3 h4=>?_⟩,⟨z2,?_,⟨u,v,?_⟩,?_,?_⟩,fresh⟩
  ·rw[I.list_inj h1 hq1,hx]at h3
   rw[I.list_inj h2 hq2,hy]at h4
   cases h3
   cases h4
   rfl
  ·show h2.get? TI=_
   rw[sb.2 TI ap.TIz]
   exact kp _ _ ap.TIz ap.TITO ap.TIi1 ap.TIi2 st.ti
  ·show h2.get? TO=_
   rw[sb.2 TO ap.TOz]
   exact to'
  ·exact i1'.at fun o e=>by rw[sb.2 i1 ap.i1z];exact e
  ·exact i2'.at fun o e=>by rw[sb.2 i2 ap.i2z];exact e
 done:=by
  intro X hP hw hK hc i Z2 s σ H E I hf st hg
  subst hP hw hK
  obtain⟨xs,ys,hq1,hq2,hx⟩:=hg
  obtain⟨its1,rv1,p1,hz1⟩:=I.list hq1
  obtain⟨its2,rv2,p2,hz2⟩:=I.list hq2
  obtain⟨a,b,hto⟩:=st.to
  have hl1:=rv1.length
  have hl2:=rv2.length
  refine wpAny_pyNext_zip_end (I.ok.hd hc) ap st.zp st.ti hto st.s1 st.s2 p1.isList p2.isList ?_ fun h' kp=>⟨rfl,I.turnedL (fp:=[z,TI,TO,i1,i2]) (t':=s.toks) (fun c o hc e=>?_) hf⟩
  ·rcases hx with hx | hx
   ·exact .inl (by simp;omega)
   ·exact .inr (by simp;omega)
  ·simp at hc
   exact kp c o hc.1 hc.2.2.1 hc.2.2.2.1 hc.2.2.2.2 e
 self:=fun _ _ _ _ _ st h=>wpAny_pyIter_zip st.zp h
section
variable{X:Cx}
def Zjl(K:W.Frag)(ta:TA):TI:=fun σ H R=>ta σ H fun vs H1=>∃a b,vs=[.ref a,.ref b]/\(∃xs,SqL K H1 a xs)/\(∃ys,SqL K H1 b ys)/\R (Ziv K a b) H1
theorem Zg1{elts:List Expr}{x1:Nat}{tp:Pos}{a b:Expr}{ta:TA}{p pos:Pos}(hg:Gl X "zip")(hm:X.mg "zip" = none)(ha:PA X [a,b] ta)(hs:starEach [a,b] X.env=[(false,eval a X.env),(false,eval b X.env)]:=by rfl)(hs2:starEach [b] X.env=[(false,eval b X.env)]:=by rfl) :
  PI X (.Tuple elts x1 tp) (.Call (.Name "zip" p) [a,b] [] pos) (Zjl X.K ta):=by
 intro Z2 s σ H R I h
 refine Call_ (Td I hg hm boot_zip (PyProof.Rows.callWith_type1 (Xs (ha pos Z2 s σ H _ I h) fun us s1 ⟨vs,H1,I1,r1,q1⟩=>?_) (by rw[hs,hs2]) (by rw[hs2];rfl)))
 obtain⟨a,b,e,⟨xs,hx⟩,⟨ys,hy⟩,q⟩:=q1
 subst e
 obtain⟨u,w',rfl,ru,rw'⟩:=Z8h r1
 obtain rfl:u=Value.ref a:=ru
 obtain rfl:w'=Value.ref b:=rw'
 obtain⟨its1,rv1,p1,hz1⟩:=I1.list hx
 obtain⟨its2,rv2,p2,hz2⟩:=I1.list hy
 refine call_zip_2 p1.isList p2.isList fun h' z ti to s1' s2' sz kp=>?_
 refine wpAny_pyIter_zip z ?_
 have I2:Inv X Z2 σ H1 { s1 with heap:=h' }:=I1.kept (t':=s1.toks) kp
 have la:a<s1.heap.objs.size:=by obtain⟨o,n,e,_⟩:=p1;exact Heap.lt_size e
 have lb:b<s1.heap.objs.size:=by obtain⟨o,n,e,_⟩:=p2;exact Heap.lt_size e
 refine⟨_,[s1.heap.objs.size+4,s1.heap.objs.size+2,s1.heap.objs.size+3,s1.heap.objs.size,s1.heap.objs.size+1],_,_,H1,rfl,I2,Za1 (zipApart_new la lb),⟨z,ti,⟨_,_,to⟩,s1',s2'⟩,fun c hc=>?_,q⟩
 have hc':s1.heap.objs.size<=c:=by
  simp at hc
  rcases hc with rfl | rfl | rfl | rfl | rfl <;> omega
 exact I1.fpOk hc' (I1.hok.fresh hc')
theorem Ze7{K:W.Frag}{a b:Addr}{xs ys:List V}{g:TG}{tb:TS}{D:Ends}{σ:St}{H:Hp}(Pv:Nat->St->Hp->Prop)(h0:Pv 0 σ H)(hl:∀i σ H,i<=xs.length->Pv i σ H->SqL K H a xs/\SqL K H b ys)(hxy:ys.length=xs.length)
  (hs:∀i x y σ H p,xs[i]? = some x->ys[i]? = some y->Pv i σ H->H p=none->g (.ref p) σ (Zr H p (.tup [x,y])) fun σ2 H2=>tb { D with nx:=Pv (i+1),ct:=Pv (i+1),bk:=D.nx } σ2 H2) (hd:∀σ H,Pv xs.length σ H->D.nx σ H) :
  ∃W:Nat->Nat->St->Hp->Prop,(∃m,W 0 m σ H)/\∀i m σ H,W i m σ H ->
   ((Ziv K a b).stop i H/\D.nx σ H)∨((Ziv K a b).go i H/\∃N:St->Hp->Prop,(∀σ' H',N σ' H'->∃m',m'<m/\W (i+1) m' σ' H')/\∀x H',(Ziv K a b).yld i H x H'->g x σ H' fun σ2 H2=>tb { D with nx:=N,ct:=N,bk:=D.nx } σ2 H2):=by
 refine⟨fun i m σ H=>m=xs.length-i/\i<=xs.length/\Pv i σ H,⟨xs.length,by simp,Nat.zero_le _,h0⟩,?_⟩
 rintro i m σ H ⟨rfl,hi,p⟩
 obtain⟨ha,hb⟩:=hl i σ H hi p
 by_cases hlt:i<xs.length
 ·have hx:xs[i]? = some xs[i]:=List.getElem?_eq_getElem hlt
  have hy:ys[i]? = some (ys[i]'(by omega)):=List.getElem?_eq_getElem (by omega)
  refine .inr ⟨⟨xs,ys,_,_,ha,hb,hx,hy⟩,Pv (i+1),fun σ' H' p'=>⟨xs.length-(i+1),by omega,rfl,hlt,p'⟩,fun v H' yv=>?_⟩
  obtain⟨q,e,hn,hH⟩:=yv
  subst e
  rw[hH xs ys _ _ ha hb hx hy]
  exact hs i _ _ σ H q hx hy p hn
 ·have e:i=xs.length:=by omega
  subst e
  exact .inl ⟨⟨xs,ys,ha,hb,.inl (Nat.le_refl _)⟩,hd σ H p⟩
theorem Z3d:U8 X (.type "int") (fun xs H Q=>∃(x:Str) (n:Int),xs=[.str x]/\PySem.intText? x=some n/\x.length<=640/\Q (.int n) H):=by
 intro Z2 s σ H xs us Q I r h
 obtain⟨x,n,rfl,hi,hz,q⟩:=h
 obtain⟨u,rfl,t,rfl⟩:=T6 r
 exact W.KIN.call_text hi hz ⟨.int n,H,I.tok _,⟨_,rfl⟩,q⟩
end
end L2
namespace Seek
open PySem PySem.Spec PyProof.Rows L2
theorem Z43(a:Str):a++("":Str)=a:=by
 show(⟨a.cps ++ #[]⟩:Str)=a
 rw[Array.append_empty]
theorem Zdy(a:Str):("":Str)++a=a:=by
 show(⟨#[]++a.cps⟩:Str)=a
 rw[Array.empty_append]
theorem V4(xs:List Str)(y:Str):Txt.join "" (xs++[y])=Txt.join "" xs++y:=by
 cases xs with
 |nil=>exact(Zdy y).symm
 |cons x xs =>
  show(⟨(xs++[y]).foldl (fun a p=>a++("":Str).cps++p.cps) x.cps⟩:Str)=⟨xs.foldl (fun a p=>a++("":Str).cps++p.cps) x.cps++y.cps⟩
  rw[List.foldl_append]
  show(⟨(xs.foldl (fun a p=>a++("":Str).cps++p.cps) x.cps ++ #[])++y.cps⟩:Str)=_
  rw[Array.append_empty]
theorem Z7j(t:Str):sub t 0 t.length=t:=by
 show(⟨((t.cps.toList.drop 0).take (t.length-0)).toArray⟩:Str)=t
 have hl:t.cps.toList.length=t.length:=by simp[Str.length]
 rw[List.drop_zero,List.take_of_length_le (by omega)]
inductive Pc where
 |tx (s:Str) | nm (k:Nat)
def Zhd:Pc->V
 |.tx s=>.str s
 |.nm k=>.int k
def Zel(s:Str):Option Nat:=match s.cps.toList with
 | [c]=>if 48<=c/\c<=57 then some (c-48) else none
 |_=>none
inductive Fkd where
 |sign | dollar | num (k:Nat) | bad
def Zco(f:Str)(p:Nat):Str:=sub f (p+1) (p+2)
def kd(f:Str)(n p:Nat):Fkd:=if Jy f p="$" then(if Zco f p="$" then .dollar else match Zel (Zco f p) with
 |some k=>if k<=n then .num k else .bad
 |none=>.bad) else .sign
def pz(f:Str)(n p:Nat):Option (List Pc) :=
 if p<f.length then(match kd f n p with
  |.sign=>(pz f n (p+1)).map (Pc.tx (Jy f p) :: ·)
  |.dollar=>(pz f n (p+2)).map (Pc.tx "$" :: ·)
  |.num k=>(pz f n (p+2)).map (Pc.nm k :: ·)
  |.bad=>none)
 else some []
termination_by f.length-p
theorem Z4f{f:Str}{n p:Nat}(h:¬p<f.length):pz f n p=some []:=by rw[pz,if_neg h]
theorem J7{f:Str}{n p:Nat}(h:p<f.length)(k:kd f n p=.sign):pz f n p=(pz f n (p+1)).map (Pc.tx (Jy f p) :: ·):=by rw[pz,if_pos h,k]
theorem Jm{f:Str}{n p:Nat}(h:p<f.length)(k:kd f n p=.dollar):pz f n p=(pz f n (p+2)).map (Pc.tx "$" :: ·):=by rw[pz,if_pos h,k]
theorem Z4d{f:Str}{n p k:Nat}(h:p<f.length)(e:kd f n p=.num k):pz f n p=(pz f n (p+2)).map (Pc.nm k :: ·):=by rw[pz,if_pos h,e]
theorem Z79{f:Str}{n p:Nat}(h:p<f.length)(k:kd f n p=.bad):pz f n p=none:=by rw[pz,if_pos h,k]
theorem Z7d{f:Str}{n p:Nat}(h:¬Jy f p="$"):kd f n p=.sign:=by unfold kd;rw[if_neg h]
theorem Zgk{f:Str}{n p:Nat}(h:Jy f p="$")(h':Zco f p="$"):kd f n p=.dollar:=by unfold kd;rw[if_pos h,if_pos h']
theorem Zbu{f:Str}{n p k:Nat}(h:Jy f p="$")(h':¬Zco f p="$")(e:Zel (Zco f p)=some k)(hk:k<=n):kd f n p=.num k:=by unfold kd;rw[if_pos h,if_neg h',e];show(if k<=n then Fkd.num k else .bad)=_;rw[if_pos hk]
theorem Ze1{f:Str}{n p k:Nat}(h:Jy f p="$")(h':¬Zco f p="$")(e:Zel (Zco f p)=some k)(hk:¬k<=n):kd f n p=.bad:=by unfold kd;rw[if_pos h,if_neg h',e];show(if k<=n then Fkd.num k else .bad)=_;rw[if_neg hk]
theorem Ze2{f:Str}{n p:Nat}(h:Jy f p="$")(h':¬Zco f p="$")(e:Zel (Zco f p)=none):kd f n p=.bad:=by unfold kd;rw[if_pos h,if_neg h',e]
abbrev digS:Str:="0123456789"
theorem Zg4{s:Str}(h:s.length=1):∃c,s=⟨#[c]⟩:=by
 have hl:s.cps.toList.length=s.length:=by simp[Str.length]
 rw[h]at hl
 match hc:s.cps.toList,hl with
 | [c],_ =>
  refine⟨c,?_⟩
  obtain⟨⟨x⟩⟩:=s
  have:x=[c]:=hc
  rw[this]
theorem Zgr{s:Str}(h:s.length=1):(!(Builtin.Str.occurrences digS s 0 digS.length 1).isEmpty)=(Zel s).isSome:=by
 obtain⟨c,rfl⟩:=Zg4 h
 rw[PySem.StrLaws.found_one]
 have e:digS.cps.toList=[48,49,50,51,52,53,54,55,56,57]:=by decide +kernel
 rw[e]
 show _=(if 48<=c/\c<=57 then some (c-48) else none).isSome
 by_cases hc:48<=c/\c<=57
 ·rw[if_pos hc]
  refine decide_eq_true ?_
  simp
  omega
 ·rw[if_neg hc]
  refine decide_eq_false ?_
  simp
  omega
theorem Zeb{s:Str}{k:Nat}(h:Zel s=some k):PySem.intText? s=some (k:Int)/\s.length=1/\k<=9:=by
 unfold Zel at h
 split at h
 ·rename_i c hc
  split at h
  ·rename_i hr
   cases h
   have hs:s=⟨#[c]⟩:=by
    obtain⟨⟨x⟩⟩:=s
    have:x=[c]:=hc
    rw[this]
   have:c=48∨c=49∨c=50∨c=51∨c=52∨c=53∨c=54∨c=55∨c=56∨c=57:=by omega
   rcases this with rfl | rfl | rfl | rfl | rfl | rfl | rfl | rfl | rfl | rfl <;> (rw[hs];exact⟨by decide +kernel,rfl,by decide⟩)
  ·cases h
 ·cases h
theorem Zct(f:Str)(p:Nat):(Zco f p).length<=1:=by
 show((f.cps.toList.drop (p+1)).take (p+2-(p+1))).toArray.size<=1
 rw[List.size_toArray,List.length_take]
 omega
theorem Zjk{s:Str}(h:s.length=0):s="":=by
 obtain⟨⟨x⟩⟩:=s
 have:x=[]:=List.eq_nil_of_length_eq_zero h
 rw[this]
 rfl
def Zk4(t:Str):En->Str
 |none=>""
 |some q=>Txt.slice t (some (q.1:Int)) (some (q.2:Int))
def Zih(t:Str)(x:Nat×W7):Pc->Str
 |.tx s=>s
 |.nm 0=>Txt.slice t (some (x.1:Int)) (some (x.2.1:Int))
 |.nm (k+1)=>Zk4 t (x.2.2.getD k none)
def Zcp(t:Str)(x:Nat×W7)(ps:List Pc):Str:=Txt.join "" (ps.map (Zih t x))
end Seek
namespace L2
open PySem PySem.Spec PyProof.Rows
structure Kp(fs xs:List Addr)(h h':Heap):Prop where
 keep:∀b o,h.get? b=some o->b∉fs->b∉xs->h'.get? b=some o
 slot:∀b o,h.get? b=some o->b∈fs->b∉xs->∃sl,h'.get? b=some { o with slots:=sl }
 there:∀b o,h.get? b=some o->∃o',h'.get? b=some o'
theorem Kp.trans{fs xs ys zs:List Addr}{h h1 h2:Heap}(a:Kp fs xs h h1)(b:Kp fs ys h1 h2)(hx:∀c∈xs,c∈zs)(hy:∀c∈ys,c∈zs∨h.get? c=none):Kp fs zs h h2:=by
 have ny:∀c o,h.get? c=some o->c∉zs->c∉ys:=fun c o e n z=>by
  rcases hy c z with y | y
  ·exact n y
  ·rw[e]at y;cases y
 refine⟨fun c o e f n=>b.keep c o (a.keep c o e f fun z=>n (hx c z)) f (ny c o e n),fun c o e f n=>?_,fun c o e=>?_⟩
 ·obtain⟨sl,e1⟩:=a.slot c o e f fun z=>n (hx c z)
  obtain⟨sl2,e2⟩:=b.slot c _ e1 f (ny c o e n)
  exact⟨sl2,e2⟩
 ·obtain⟨o1,e1⟩:=a.there c o e
  exact b.there c o1 e1
theorem Kp.weak{fs fs' xs:List Addr}{h h':Heap}(a:Kp fs xs h h')(hf:∀b∈fs,b∈fs'):Kp fs' xs h h':=by
 refine⟨fun c o e f n=>a.keep c o e (fun z=>f (hf c z)) n,fun c o e f n=>?_,a.there⟩
 by_cases z:c∈fs
 ·exact a.slot c o e z n
 ·exact⟨o.slots,a.keep c o e z n⟩
def Tr(h:Heap)(x:Addr)(vs:Array Value)(fl:Value):Option Addr->Prop
 |none=>vs[1]? = some .none
 |some T=>vs[1]? = some (.ref T)/\T≠x/\∃oT ts,h.get? T=some oT/\oT.data=.fields ts/\ts[3]? = some fl
structure Xa(h:Heap)(x:Addr)(cls fl:Value)(To:Option Addr):Prop where
 ex:∃oe vs,h.get? x=some oe/\(oe.cls=cls/\oe.dict=none/\oe.slots = #[])/\oe.data=.fields vs/\1<vs.size/\Tr h x vs fl To
theorem Z2s(o:Obj)(f:Array Value->Array Value):(o.mapFields f).dict=o.dict/\(o.mapFields f).slots=o.slots:=by
 obtain⟨c,d,dt,sl⟩:=o
 cases dt <;> exact⟨rfl,rfl⟩
section
variable{M:Model}{A:Around}{E:Value->Shared->Prop}{s:Shared}{base:Heap}{env:Env}{outer:List Env}{L x:Addr}{cls:Value}{To:Option Addr}{Q:Unit->Shared->Prop}
theorem Z9j{h:Heap}{l:List Env}{b:Addr}{o:Obj}{vs:Array Value}(hl:h.FunFrames base l)(e:h.get? b=some o)(d:o.data=.fields vs):b∉Z0o l:=fun hm=>by
 obtain⟨_,o',e',n⟩:=hl.mem hm
 rw[e]at e'
 cases e'
 exact n vs d
theorem Z5j{oe:Obj}{vs:Array Value}{head:Value}{hn:Bool}(hfr:A.frames=some (env::outer))(hl:s.heap.FunFrames base (env::outer))(hf:env.frame=some L)(he:s.heap.get? x=some oe)(hds:oe.dict=none/\oe.slots = #[])(hd:oe.data=.fields vs)(hsz:1<vs.size)
  (h:∀h',Kp (Z0o (env::outer)) [x] s.heap h'->Xa h' x oe.cls (rawInt L) (some s.heap.objs.size)->Q () { s with heap:=h' }) :
  wpAny M A (do let a ← frameOf env;let pl ← entryPlaceOf L hn;let b ← EntryCells.newEntry head a .none (rawInt L) .none pl;setField (.ref x) 1 b) Q E s:=by
 have hxf:=Z9j hl he hd
 refine wpAny_bind (wpAny_frameOf_fun hfr hl hf fun h1 hs=>?_)
 refine wpAny_bind (wpAny_entryPlaceOf fun pl hpl=>?_)
 unfold EntryCells.newEntry newFields
 refine wpAny_bind (wpAny_newObj_type ?_ (hpl.sizeOk5 _ _ _ _ _))
 have e1:h1.get? x=some oe:=(hs.2.1 x hxf).trans he
 have e2:=fun o:Obj=>Heap.get?_push_of_some (h:=h1) o e1
 refine wpAny_setField (e2 _) hd hsz (h _ ?_ ?_)
 ·refine⟨fun b o e f n=>?_,fun b o e f n=>?_,fun b o e=>?_⟩
  ·rw[Heap.get?_update_other _ _ fun z=>n (by simp[z])]
   exact Heap.get?_push_of_some _ ((hs.2.1 b f).trans e)
  ·obtain⟨sl,q⟩:=hs.2.2 b o e
   refine⟨sl,?_⟩
   rw[Heap.get?_update_other _ _ fun z=>n (by simp[z])]
   exact Heap.get?_push_of_some _ q
  ·by_cases z:x=b
   ·subst z
    exact⟨_,Heap.get?_update_self _ (e2 _) (Obj.isFreed_of_fields (Obj.data_mapFields hd _))⟩
   ·obtain⟨sl,q⟩:=hs.2.2 b o e
    exact⟨_,by rw[Heap.get?_update_other _ _ z];exact Heap.get?_push_of_some _ q⟩
 ·have hne:h1.objs.size≠x:=Nat.ne_of_gt (Heap.lt_size e1)
  have hd3:=Obj.data_mapFields hd (·.setIfInBounds 1 (Value.ref h1.objs.size))
  refine⟨_,_,Heap.get?_update_self _ (e2 _) (Obj.isFreed_of_fields hd3),⟨Obj.cls_mapFields _ _,(Z2s _ _).1.trans hds.1,(Z2s _ _).2.trans hds.2⟩,hd3,by rw[Array.size_setIfInBounds];exact hsz,?_⟩
  rw[← hs.1]
  have eN:=fun o:Obj=>fun(z:o.isFreed=false)=>(Heap.get?_update_other (h1.push o) (Obj.mapFields (·.setIfInBounds 1 (Value.ref h1.objs.size))) (Ne.symm hne)).trans (Heap.get?_push_size _ z)
  refine⟨by simp[hsz],hne,_,_,eN _ rfl,rfl,?_⟩
  ·first | (simp;done) | (rcases hpl with rfl | ⟨_,_,_,_,_,_,_,rfl⟩ <;> simp)
theorem Z81(hfr:A.frames=some (env::outer))(hl:s.heap.FunFrames base (env::outer))(hf:env.frame=some L)(hx:Xa s.heap x cls .none To)
  (h:∀h',Kp (Z0o (env::outer)) (x::To.toList) s.heap h'->Xa h' x cls (rawInt L) (some s.heap.objs.size)->Q () { s with heap:=h' }):wpAny M A (noteFrame (.ref x) env) Q E s:=by
 obtain⟨oe,vs,he,⟨rfl,hds⟩,hd,hsz,tr⟩:=hx.ex
 unfold noteFrame
 simp only[hf]
 cases To with
 |none =>
  have h1:vs[1]? = some Value.none:=tr
  refine wpAny_bind (wpAny_field he hd h1 ?_)
  rw[if_neg (by decide)]
  exact Z5j hfr hl hf he hds hd hsz fun h' k xa=>h h' k xa
 |some T =>
  obtain⟨h1,hne,oT,ts,eT,dT,h3⟩:=tr
  refine wpAny_bind (wpAny_field he hd h1 ?_)
  rw[if_pos (show(Value.ref T != Value.none)=true from by simp)]
  refine wpAny_bind (wpAny_field eT dT h3 ?_)
  rw[if_neg (show ¬((Value.none==rawInt L)=true) from by simp[rawInt])]
  refine wpAny_bind (wpAny_setField eT dT (Array.getElem?_eq_some_iff.mp h3).1 ?_)
  have other:∀b,b≠T->(s.heap.update T (Obj.mapFields (·.setIfInBounds 3 Value.none))).get? b=s.heap.get? b:=fun b hb=>Heap.get?_update_other _ _ (Ne.symm hb)
  have eT2:=Heap.get?_update_self (Obj.mapFields (·.setIfInBounds 3 Value.none)) eT (Obj.isFreed_of_fields (Obj.data_mapFields dT _))
  have k0:Kp (Z0o (env::outer)) [T] s.heap (s.heap.update T (Obj.mapFields (·.setIfInBounds 3 Value.none))):=by
   refine⟨fun b o e f n=>(other b (by simpa using n)).trans e,fun b o e f n=>⟨o.slots,(other b (by simpa using n)).trans e⟩,fun b o e=>?_⟩
   by_cases z:b=T
   ·subst z;exact⟨_,eT2⟩
   ·exact⟨o,(other b z).trans e⟩
  have hl2:(s.heap.update T (Obj.mapFields (·.setIfInBounds 3 Value.none))).FunFrames base (env::outer):=hl.of_keeps fun b o e n=>⟨o,(other b fun z=>by subst z;rw[eT]at e;cases e;exact n ts dT).trans e,rfl⟩
  refine Z5j (s:={ s with heap:=s.heap.update T (Obj.mapFields (·.setIfInBounds 3 Value.none)) }) hfr hl2 hf ((other x (Ne.symm hne)).trans he) hds hd hsz fun h' k xa=>h h' (k0.trans k (by simp) (by simp)) ?_
  have es:(s.heap.update T (Obj.mapFields (·.setIfInBounds 3 Value.none))).objs.size=s.heap.objs.size:=Heap.size_after_update ..
  rw[es]at xa
  exact xa
theorem Jt{T:Addr}{fl:Value}(hx:Xa s.heap x cls fl (some T))(h:∀h',Kp [] [T] s.heap h'->Xa h' x cls .none (some T)->Q () { s with heap:=h' }):wpAny M A (setFlight (.ref x) none) Q E s:=by
 obtain⟨oe,vs,he,⟨rfl,hds⟩,hd,hsz,h1,hne,oT,ts,eT,dT,h3⟩:=hx.ex
 have h3s:=(Array.getElem?_eq_some_iff.mp h3).1
 unfold setFlight
 refine wpAny_bind (wpAny_field he hd h1 ?_)
 rw[if_pos (show(Value.ref T != Value.none)=true from by simp)]
 refine wpAny_setField eT dT h3s (h _ ?_ ?_)
 ·refine⟨fun b o e f n=>?_,fun b o e f n=>absurd f (by simp),fun b o e=>?_⟩
  ·rw[Heap.get?_update_other _ _ fun z=>n (by simp[z])];exact e
  ·by_cases z:T=b
   ·subst z
    exact⟨_,Heap.get?_update_self _ eT (Obj.isFreed_of_fields (Obj.data_mapFields dT _))⟩
   ·exact⟨o,by rw[Heap.get?_update_other _ _ z];exact e⟩
 ·refine⟨oe,vs,?_,⟨rfl,hds⟩,hd,hsz,h1,hne,_,_,Heap.get?_update_self _ eT (Obj.isFreed_of_fields (Obj.data_mapFields dT _)),Obj.data_mapFields dT _,?_⟩
  ·rw[Heap.get?_update_other _ _ hne];exact he
  ·simp[h3s]
theorem Zay(hfr:A.frames=some (env::outer))(hl:s.heap.FunFrames base (env::outer))(hf:env.frame=some L)(hx:Xa s.heap x cls .none To)
  (h:∀h' T,s.heap.get? T=none->Kp (Z0o (env::outer)) (x::To.toList) s.heap h'->Xa h' x cls .none (some T)->Q () { s with heap:=h' }):wpAny M A (leaving env (.ref x)) Q E s:=by
 unfold leaving
 have hT:s.heap.get? s.heap.objs.size=none:=Heap.get?_none_of_le (Nat.le_refl _)
 refine wpAny_bind (Z81 hfr hl hf hx fun h1 k1 x1=>?_)
 exact Jt (s:={ s with heap:=h1 }) x1 fun h2 k2 x2=>h h2 _ hT (k1.trans (k2.weak (by simp)) (fun c hc=>hc) fun c hc=>.inr (by rw[List.mem_singleton.mp hc];exact hT)) x2
end
theorem Zhw{P:Program}{w:World}{H:Hp}{h:Heap}{a:Addr}{o:HO}(x:ObjOk P w H h a o):∃u,h.get? a=some u:=by
 cases o with
 |lst xs=>obtain⟨_,_,_,_,e⟩:=x;exact⟨_,e⟩
 |tup xs=>obtain⟨_,_,_,_,e,_⟩:=x;exact⟨_,e⟩
 |dK kvs=>obtain⟨_,_,_,_,o,_,_,e,_⟩:=x;exact⟨_,e⟩
 |dT kvs=>obtain⟨_,_,_,_,o,_,_,e,_⟩:=x;exact⟨_,e⟩
 |set S n=>obtain⟨o,_,_,_,e,_⟩:=x;exact⟨_,e⟩
 |ins C dx fs=>obtain⟨_,_,_,e,_⟩:=x;exact⟨_,e⟩
 |own y=>exact x
 |xd fs=>obtain⟨_,⟨_,_,_,e,_⟩,_⟩:=x;exact⟨_,e⟩
 |rng lo hi=>obtain⟨_,_,_,e⟩:=x;exact⟨_,e⟩
 |frz ob u=>obtain⟨e,_⟩:=x;exact⟨_,e⟩
 |tbl ps=>exact⟨_,(show h.get? a=some _ from x)⟩
 |met f y=>exact⟨_,(show h.get? a=some _ from x)⟩
 |ext φ=>obtain⟨_,e,_⟩:=x;exact e
theorem HOk.none_of{P:Program}{w:World}{H:Hp}{h:Heap}{a:Addr}(x:HOk P w H h)(e:h.get? a=none):H a=none:=by
 cases q:H a with
 |none=>rfl
 |some u =>
  obtain⟨o,z⟩:=Zhw (x a u q)
  rw[e]at z
  cases z
theorem Z3x{P:Program}{w:World}{H:Hp}{h h':Heap}{fs xs:List Addr}(ok:HOk P w H h)(k:Kp fs xs h h')(hf:∀b∈fs,H b=none)(hx:∀c∈xs,H c=none):HOk P w H h':=fun a o e=>by
 refine(ok a o e).stay (fun b u c q=>?_) (fun _ q=>q) fun _ _ q=>q
 have t:∃o',H b=some o':=by
  rcases c with rfl | c
  ·exact⟨o,e⟩
  ·exact⟨_,c⟩
 obtain⟨o',t⟩:=t
 refine k.keep b u q (fun z=>?_) fun z=>?_
 ·rw[hf b z]at t;cases t
 ·rw[hx b z]at t;cases t
theorem Z6y{fs fs' xs:List Addr}{H H':Hp}{h h1 h2:Heap}{L:Addr}(u:Un fs [] H H' h h1)(k:Kp fs' xs h1 h2)(hL:h.get? L=none)(hf:∀b∈fs',b=L∨b∈fs)(hx:∀c∈xs,h.get? c=none):Un fs [] H H' h h2:=by
 have nx:∀b o,h.get? b=some o->b∉xs:=fun b o e z=>by rw[hx b z]at e;cases e
 have nf:∀b o,h.get? b=some o->b∈fs'->b∈fs:=fun b o e z=>by
  rcases hf b z with rfl | z
  ·rw[hL]at e;cases e
  ·exact z
 refine⟨fun b o e n f x=>k.keep b o (u.keep b o e n f x) (fun z=>f (nf b o e z)) (nx b o e),fun b o e n f x=>?_,u.free,fun b o e x=>?_,u.tups,u.frzs,u.tbls⟩
 ·obtain⟨sl,e1⟩:=u.slot b o e n f x
  by_cases z:b∈fs'
  ·obtain⟨sl2,e2⟩:=k.slot b _ e1 z (nx b o e)
   exact⟨sl2,e2⟩
  ·exact⟨sl,k.keep b _ e1 z (nx b o e)⟩
 ·obtain⟨o1,e1⟩:=u.there b o e x
  exact k.there b o1 e1
def Z60(P:Program)(w:World):Z9w:=fun outer H s E e s'=>∃(x T:Addr) (cls:Value) (H':Hp),e=.ref x/\s'.os=s.os/\AllBare s'.gens/\Un (Z0o outer) [] H H' s.heap s'.heap/\HOk P w H' s'.heap/\Xa s'.heap x cls .none (some T) /\
 s.heap.get? x=none/\s.heap.get? T=none/\H' x=none/\H' T=none/\E cls none H'
structure LeaveX(X:Cx)(E:XK):Prop where
 xe:X.xe=fun e s'=>wpAny (model X.prog X.w) X.A (leaving X.env e) (fun _ s''=>Z60 X.prog X.w X.outer X.H₀ X.s₀ E e s'') (fun e' s''=>Z60 X.prog X.w X.outer X.H₀ X.s₀ E e' s'') s'
 stk:X.stack=X.env::X.outer
 fr:X.env.frame=some X.env.locals
 ex:X.ex=[]
section
variable{X:Cx}{E:XK}
theorem LeaveX.go{Z2:List (Addr×Obj)}{σ:St}{H:Hp}{s:Shared}{x:Addr}{To:Option Addr}{cls:Value}(L:LeaveX X E)(I:Inv X Z2 σ H s)(hx:Xa s.heap x cls .none To)(h0:X.s₀.heap.get? x=none)(hT:∀T,To=some T->X.s₀.heap.get? T=none/\H T=none)(hn:H x=none)(hE:E cls none H):X.xe (.ref x) s:=by
 rw[L.xe]
 have hfr:=I.ok.frames
 have hl:=I.stack
 have hsf:=I.stkFree
 rw[L.stk]at hfr hl hsf
 refine Zay hfr hl L.fr hx fun h' T' nT k xa=>?_
 have hxs:∀c∈x::To.toList,X.s₀.heap.get? c=none/\H c=none:=fun c hc=>by
  rcases List.mem_cons.mp hc with rfl | hc
  ·exact⟨h0,hn⟩
  ·cases To with
   |none=>simp at hc
   |some T=>rw[show c=T by simpa using hc];exact hT T rfl
 have hu:Un (Z0o X.outer) [] X.H₀ H X.s₀.heap s.heap:=by
  have:=I.base
  rw[L.ex]at this
  exact this
 refine⟨x,T',cls,H,rfl,I.os,I.bare,Z6y hu k (L:=X.env.locals) (Heap.get?_none_of_le I.ok.above) (fun b hb=>?_) (fun c hc=>(hxs c hc).1),Z3x I.hok k hsf fun c hc=>(hxs c hc).2,xa,h0,?_,hn,I.hok.none_of nT,hE⟩
 ·have:Z0o (X.env::X.outer)=X.env.locals::Z0o X.outer:=by
   unfold Z0o
   rw[List.filterMap_cons,L.fr]
  rw[this]at hb
  exact List.mem_cons.mp hb
 ·cases q:X.s₀.heap.get? T' with
  |none=>rfl
  |some o =>
   obtain⟨o',z⟩:=hu.there T' o q (by simp)
   rw[nT]at z
   cases z
theorem LeaveX.pass(L:LeaveX X E):Vb (Z60 X.prog X.w) X E:=by
 rintro Z2 σ H s e s' I ⟨x,T,cls,H',rfl,ho,hb,un,ok,xa,nx,nT,hx,hT,hE⟩
 have I1:Inv X Z2 σ H' s':=I.call' ho un ok hb (ch:=[]) (fun b z=>absurd z (by simp))
 have back:∀b,s.heap.get? b=none->X.s₀.heap.get? b=none:=fun b e=>by
  cases q:X.s₀.heap.get? b with
  |none=>rfl
  |some o =>
   obtain⟨o',z⟩:=I.base.there b o q (by rw[L.ex];simp)
   rw[e]at z
   cases z
 exact L.go I1 xa (back x nx) (fun T' e=>by cases e;exact⟨back T nT,hT⟩) hx hE
end
theorem Fun.okX{P:Program}{w:World}{K:W.Frag}{mg:Str->Option Value}{base:Heap}{x qual:Str}{st:Stmt}{f:Addr}{fd:FuncData}{N ps:List Str}{k:Nat}{sp:Sp}(F:Fun K x qual st f fd)(S:FnScope N ps (Z9 st))(len:∀vs H Q E,sp vs H Q E->vs.length=ps.length)
  (hbody:∀(cdv:Value) (A:Around) (outer:List Env) (s:Shared) (H:Hp) (vs:List V) (Q:VK) (E:XK),Room k (A.deeper (envOfC qual (Z9 st) s.heap.objs.size f cdv))->sp vs H Q E ->
   LeaveX (Z2d (Z60 P w) P w K mg base N qual (Z9 st) f cdv A outer s H E) E->∃t,PSs (Z2d (Z60 P w) P w K mg base N qual (Z9 st) f cdv A outer s H E) (X0 st) t/\t { nx:=fun _ H'=>Q .non H',rt:=Q } (start N vs) H):FnOk P w K mg base (Z60 P w) (k+1) f fd ps sp:=by
 obtain⟨oc,od,kV,doc,pm,an,cdv,ct,osl,rfl,lk,hcd⟩:=F.ex
 exact Zev lk hcd S len fun A outer s H vs Q E hr hsp=>hbody cdv A outer s H vs Q E hr hsp ⟨rfl,rfl,rfl,rfl⟩
theorem LeaveX.own{CX:Z9w}{P:Program}{w:World}{K:W.Frag}{mg:Str->Option Value}{base:Heap}{N:List Str}{qual:Str}{scope:Scope}{f:Addr}{cd:Value}{A:Around}{outer:List Env}{s:Shared}{H:Hp}{E:XK}:PassesOwn (model P w) (Z2d CX P w K mg base N qual scope f cd A outer s H E).A (Z2d CX P w K mg base N qual scope f cd A outer s H E).env (Z2d CX P w K mg base N qual scope f cd A outer s H E).xe:=PassesOwn.leaving
def Zij:List Value:=[.type "ValueError",.type "Exception",.type "BaseException",.type "object"]
structure XC(K:W.Frag)(mg:Str->Option Value)(x:Str)(C C':Addr):Prop where
 mgx:mg x=some (.ref C)
 ob:∃nm q N bs hdct sn sub ab col dd k0 k1 k2 k3 k5 es,K.lookup C=some (excClassObj nm q C N bs (.ref C'::Zij) hdct sn sub ab col dd k0 k1 k2 k3 k5 "ValueError.__new__")/\(∀h,K.In h->h.Ns N (nsFind es))/\nsFind es "__init__" = none/\∀h,K.In h->OwnTail h Zij (.ref C'::Zij)
def Zf5(C:Addr)(E:XK)(t:TA):TS:=fun D σ H=>t σ H fun vs H1=>vs.length<=sizeLine/\E (.ref C) none H1
theorem Tx{X:Cx}{E:XK}{x:Str}{C C':Addr}{e:Expr}{t:TA}{np cpos pos:Pos}(L:LeaveX X E)(hc:X.calm=true)(xc:XC X.K X.mg x C C')(hg:Gl X x)(ha:PA X [e] t)
  (he:starEach [e] X.env=(false,eval e X.env)::starEach [] X.env:=by rfl) (hdb:(x==("__debug__":Str))=false:=by decide):PS X (.Raise (some (.Call (.Name x np) [e] [] cpos)) none pos) (Zf5 C E t):=by
 intro Z2 s σ H D I h
 obtain⟨nm,q,N,bs,hdct,sn,sub,ab,col,dd,k0,k1,k2,k3,k5,es,hC,hN,hi,hT⟩:=xc.ob
 refine wpAny_Raise_call_subT (C:=C) (nm:=nm) (q:=q) (N:=N) (bs:=bs) (bm:=.ref C'::Zij) (hdct:=hdct) (sn:=sn) (sub:=sub) (ab:=ab) (col:=col) (dd:=dd) (k0:=k0) (k1:=k1) (k2:=k2) (k3:=k3) (k5:=k5) PySem.F.excBase_ValueError (mN:=nsFind es) ((hT _ I.kIn).hasType PySem.F.excBase_ValueError.hasBase) (I.ok.hd hc) (by rw[he];rfl) hi (Ja I hg xc.mgx ⟨rfl,?_⟩ hdb)
 have h1:=ha cpos Z2 s σ H _ I h
 rw[he]at h1 ⊢
 refine Calls.evalArgs_plain (wpAny_mono h1 (fun us s2 h2=>?_) fun _ _ y=>y)
 obtain⟨vs,H1,I1,r,hz,hE⟩:=h2
 refine⟨rfl,?_,I1.kIn _ _ hC,hN _ I1.kIn,hT _ I1.kIn,fun h' x' hm=>?_⟩
 ·show us.length<=_
  rw[← r.length]
  exact hz
 ·obtain⟨t',e',nt,_⟩:=hm.there
  have I2:Inv X Z2 σ H1 { s2 with heap:=h' }:=I1.kept (t':=s2.toks) hm.keeps
  have nx:=hm.new
  refine L.go (To:=none) I2 ⟨_,_,e',⟨rfl,rfl,rfl⟩,rfl,by simp,rfl⟩ ?_ (fun T z=>by cases z) (I1.hok.none_of nx) hE
  cases z:X.s₀.heap.get? x' with
  |none=>rfl
  |some o =>
   obtain⟨o',z'⟩:=I1.base.there x' o z (by rw[L.ex];simp)
   rw[nx]at z'
   cases z'
end L2
namespace Seek
open PySem PySem.Spec PyProof.Rows L2
structure OwnX(P:Program)(w:World)(K:W.Frag)(mg:Str->Option Value)(base:Heap)(k:Nat)(x:Str)(ps:List Str)(sp:Sp):Prop where
 ex:∃f fd,FnOk P w K mg base (Z60 P w) k f fd ps sp/\mg x=some (.ref f)/\W.keepIn K (.ref f)=true/\Binds K fd ps []
theorem OwnX.mono{P:Program}{w:World}{K:W.Frag}{mg:Str->Option Value}{base:Heap}{j k:Nat}{x:Str}{ps:List Str}{sp:Sp}(O:OwnX P w K mg base j x ps sp)(h:j<=k):OwnX P w K mg base k x ps sp:=by
 obtain⟨f,fd,F,r⟩:=O.ex
 exact⟨f,fd,F.mono h,r⟩
theorem Vg{X:Cx}{E:XK}{k:Nat}{x:Str}{ps:List Str}{sp:Sp}{p pos:Pos}{e:Expr}{es:List Expr}{t:TA}(hx:Vb (Z60 X.prog X.w) X E)(O:OwnX X.prog X.w X.K X.mg X.base k x ps sp)(hr:Room k X.A)(hg:Gl X x)(ha:PA X (e::es) t)
  (hdb:(x==("__debug__":Str))=false:=by decide) (he:starEach (e::es) X.env=(false,eval e X.env)::starEach es X.env:=by rfl) (hpl:(backTo pos (starEach es X.env)).any (·.1)=false:=by rfl) :
  PE X (.Call (.Name x p) (e::es) [] pos) (Zc4 sp [] E t):=by
 obtain⟨f,fd,F,hm,hk,hb⟩:=O.ex
 exact Z7v F hr hg hm hk hb .nil hx ha hdb he hpl
end Seek
namespace L2
open PySem PySem.Spec PyProof.Rows
abbrev Cx.sub(X:Cx)(x:Addr):Cx:={ X with A:=X.A.mark (some (.ref x)),calm:=false,xe:=fun _ _=>False }
theorem Cx.Ok.sub{X:Cx}(ok:X.Ok)(x:Addr):(X.sub x).Ok :=
 ⟨ok.mod,ok.kind,ok.glob,ok.blt,ok.above,ok.inj,ok.has,ok.cab,fun z=>(by cases z),ok.frames,ok.stk,ok.exf,ok.bs,ok.bsz,ok.noex,ok.exfs,ok.funs,ok.frf⟩
section
variable{X:Cx}{Z2:List (Addr×Obj)}{σ:St}{H:Hp}{s:Shared}
theorem Inv.sub(I:Inv X Z2 σ H s)(x:Addr):Inv (X.sub x) Z2 σ H s:=⟨I.ok.sub x,I.os,I.bare,I.base,I.loc,I.cell,I.free,I.freeC,I.pin,I.hok,I.len⟩
theorem Inv.unsub{x:Addr}(ok:X.Ok)(I:Inv (X.sub x) Z2 σ H s):Inv X Z2 σ H s:=⟨ok,I.os,I.bare,I.base,I.loc,I.cell,I.free,I.freeC,I.pin,I.hok,I.len⟩
theorem SP.unsub{x:Addr}{D:Ends}{f:Flow}{s':Shared}(ok:X.Ok)(h:SP (X.sub x) Z2 D f s'):SP X Z2 D f s':=by
 cases f with
 |next=>obtain⟨σ',H',I,q⟩:=h;exact⟨σ',H',I.unsub ok,q⟩
 |brk=>obtain⟨σ',H',I,q⟩:=h;exact⟨σ',H',I.unsub ok,q⟩
 |cont=>obtain⟨σ',H',I,q⟩:=h;exact⟨σ',H',I.unsub ok,q⟩
 |ret u=>obtain⟨v,σ',H',I,r,q⟩:=h;exact⟨v,σ',H',I.unsub ok,r,q⟩
abbrev Cx.bod(X:Cx)(pn:List (Addr×Obj))(xe:Value->Shared->Prop):Cx:={ X with pn:=pn,xe:=xe }
theorem Cx.Ok.bod{X:Cx}(ok:X.Ok){pn:List (Addr×Obj)}{xe:Value->Shared->Prop}:(X.bod pn xe).Ok :=
 ⟨ok.mod,ok.kind,ok.glob,ok.blt,ok.above,ok.inj,ok.has,ok.cab,ok.hd,ok.frames,ok.stk,ok.exf,ok.bs,ok.bsz,ok.noex,ok.exfs,ok.funs,ok.frf⟩
theorem Cx.Ok.unbod{X:Cx}{pn:List (Addr×Obj)}{xe:Value->Shared->Prop}(ok:(X.bod pn xe).Ok):X.Ok :=
 ⟨ok.mod,ok.kind,ok.glob,ok.blt,ok.above,ok.inj,ok.has,ok.cab,ok.hd,ok.frames,ok.stk,ok.exf,ok.bs,ok.bsz,ok.noex,ok.exfs,ok.funs,ok.frf⟩
theorem Inv.bod(I:Inv X Z2 σ H s){xe:Value->Shared->Prop}:Inv (X.bod (X.pn++Z2) xe) [] σ H s:=⟨I.ok.bod,I.os,I.bare,I.base,I.loc,I.cell,I.free,I.freeC,fun p hp=>I.pin p (by simpa using hp),I.hok,I.len⟩
theorem Inv.unbod{xe:Value->Shared->Prop}{pl:List (Addr×Obj)}(I:Inv (X.bod (X.pn++Z2) xe) pl σ H s):Inv X Z2 σ H s:=⟨I.ok.unbod,I.os,I.bare,I.base,I.loc,I.cell,I.free,I.freeC,fun p hp=>I.pin p (List.mem_append.mpr (.inl hp)),I.hok,I.len⟩
theorem SP.unbod{xe:Value->Shared->Prop}{D:Ends}{f:Flow}{s':Shared}{pl:List (Addr×Obj)}(h:SP (X.bod (X.pn++Z2) xe) pl D f s'):SP X Z2 D f s':=by
 cases f with
 |next=>obtain⟨σ',H',I,q⟩:=h;exact⟨σ',H',I.unbod,q⟩
 |brk=>obtain⟨σ',H',I,q⟩:=h;exact⟨σ',H',I.unbod,q⟩
 |cont=>obtain⟨σ',H',I,q⟩:=h;exact⟨σ',H',I.unbod,q⟩
 |ret u=>obtain⟨v,σ',H',I,r,q⟩:=h;exact⟨v,σ',H',I.unbod,r,q⟩
end
def Zis(K:W.Frag)(C:Addr)(bm:List Value):Prop:=∃nm q N bs hdct sn sub ab col dd k0 k1 k2 k3 k5 newId,K.lookup C=some (excClassObj nm q C N bs bm hdct sn sub ab col dd k0 k1 k2 k3 k5 newId)
theorem XC.co{K:W.Frag}{mg:Str->Option Value}{x:Str}{C C':Addr}(h:XC K mg x C C'):Zis K C (.ref C'::Zij):=by
 obtain⟨nm,q,N,bs,hdct,sn,sub,ab,col,dd,k0,k1,k2,k3,k5,es,hC,_⟩:=h.ob
 exact⟨nm,q,N,bs,hdct,sn,sub,ab,col,dd,k0,k1,k2,k3,k5,_,hC⟩
def Z5x(K:W.Frag)(C Cs:Addr):Prop:=∃bm bs,Zis K C bm/\Zis K Cs bs/\bs.contains (.type "BaseException")=true/\(C=Cs∨bm.contains (.ref Cs)=true)
theorem Ze9{M:Model}{A:Around}{E:Value->Shared->Prop}{K:W.Frag}{s:Shared}{e C Cs:Addr}{oe:Obj}{Q:Bool->Shared->Prop}(X:K.In s.heap)(ca:Z5x K C Cs)(he:s.heap.get? e=some oe)(hcls:oe.cls=.ref C)(hq:Q true s):wpAny M A (excMatches (.ref e) (.ref Cs)) Q E s:=by
 obtain⟨bm,bs,⟨nm,q,N,bs1,hdct,sn,sub,ab,col,dd,k0,k1,k2,k3,k5,newId,lC⟩,⟨nm',q',N',bs',hdct',sn',sub',ab',col',dd',k0',k1',k2',k3',k5',newId',lS⟩,hb,hc⟩:=ca
 have hC:=X _ _ lC
 have hS:=X _ _ lS
 obtain⟨h,g,d,t,os⟩:=s
 by_cases z:C=Cs
 ·subst z
  exact wpAny_excMatches_sub_self hS he hcls hb hq
 ·have hc2:bm.contains (.ref Cs)=true:=by
   rcases hc with y | y
   ·exact absurd y z
   ·exact y
  have hcB:(Value.ref Cs::bs).contains (.type "BaseException")=true:=by rw[List.contains_cons,hb,Bool.or_true]
  have hcC:(Value.ref C::bm).contains (.ref Cs)=true:=by rw[List.contains_cons,hc2,Bool.or_true]
  have f:=tc_notTuple
  unfold excMatches
  repeat (first | (with_reducible refine wpAny_loadPart_at he ?_;rw[hcls]) | with_reducible refine wpAny_loadPart_at hS ?_ | (with_reducible refine wpAny_isSubtype_exc hS ?_;rw[hcB]) | (with_reducible refine wpAny_isSubtype_exc hC ?_;rw[hcC]) | wp_step)
  exact hq
def ExcAt(x C:Addr)(h:Heap):Prop:=∃vs,h.get? x=some { cls:=.ref C,data:=.fields vs }
theorem ExcAt.inst{x C:Addr}{h:Heap}(e:ExcAt x C h):∃vs,W.InstAt h x { cls:=.ref C,data:=.fields vs } C none:=by
 obtain⟨vs,e⟩:=e
 exact⟨vs,e,rfl,rfl,trivial⟩
structure XIs(K:W.Frag)(C:Addr):Prop where
 co:∃bm,Zis K C bm/\bm.contains (.type "BaseException")=true
 cls:(W.clsIn K C).isSome=true
 ga:W.findIn K (.ref C) "__getattribute__" = some (some (.builtin "BaseException.__getattribute__"))
 gt:W.findIn K (.ref C) "__getattr__" = some none
 cl:W.findIn K (.ref C) "__class__" = some (some (.builtin "object.__class__"))
 gs:W.specialIn K (.builtin "object.__class__") "__get__" = some (some (.builtin "getset_descriptor.__get__"))
 tk:W.takesIn K (.builtin "object.__class__")=some true
 mr:W.mroIn K C (.type "object")=some true
section
variable{prog:Program}{w:World}{A:Around}{E:Value->Shared->Prop}{s:Shared}{K:W.Frag}{x C:Addr}
theorem Z9k{Q:Option Value->Shared->Prop}(Z:XIs K C)(X:K.In s.heap)(I:ExcAt x C s.heap)(h:Q (some (.ref C)) { s with toks:=s.toks+1 }):wpAny (model prog w) A (getAttr? (.ref x) "__class__") Q E s:=by
 obtain⟨bm,⟨nm,q,N,bs,hdct,sn,sub,ab,col,dd,k0,k1,k2,k3,k5,newId,lC⟩,hb⟩:=Z.co
 have hC:=X _ _ lC
 obtain⟨vs,J⟩:=I.inst
 obtain⟨cd,hcd⟩:=Option.isSome_iff_exists.mp Z.cls
 have hf:W.findObj K C none "__class__" = some (.bind (.builtin "getset_descriptor.__get__") (.builtin "object.__class__")):=by
  unfold W.findObj
  rw[hcd,Option.bind_some,Z.cl,Option.bind_some]
  simp[Z.gs,Z.tk]
 have hx:=J.at_
 have hc:({ cls:=.ref C,data:=.fields vs }:Obj).cls=.ref C:=rfl
 obtain⟨hh,g,d,t,os⟩:=s
 have L0:=J.type (M:=model prog w)
 have L1:=W.looks_findIn (M:=model prog w) X Z.ga
 have L2:=W.looks_findIn (M:=model prog w) X Z.gt
 have LF:=W.looks_find (M:=model prog w) X J hf
 have FB:=PySem.F.attrBase_ValueError
 have hcB:(Value.ref C::bm).contains (.type "BaseException")=true:=by rw[List.contains_cons,hb,Bool.or_true]
 have hk:builtinKind "BaseException.__getattribute__" = some .slot:=by decide +kernel
 have hsplit:splitId "BaseException.__getattribute__" = some ("BaseException","__getattribute__"):=by decide +kernel
 unfold getAttr? getAttrBy? getAttrBy
 refine wpAny_bind (wpAny_mkText (wpAny_bind (wpAny_attempt (wpAny_holding (wpAny_bind (L0.at (wpAny_bind (L1.at ?_))))))))
 show wpAny _ _ (getAttrByItsOwn (.ref x) (.str "__class__" t) (.ref C) (.builtin "BaseException.__getattribute__") false false) _ _ _
 unfold getAttrByItsOwn
 refine wpAny_bind (show wpAny _ _ (typeLookup (.ref C) "__getattr__") _ _ _ from L2.at ?_)
 refine wpAny_bind (wpAny_attempt (wpAny_holding ?_))
 show wpAny _ _ (boundAndCalled (.builtin "BaseException.__getattribute__") (.ref x) (.str "__class__" t)) _ _ _
 unfold boundAndCalled
 refine wpAny_bind (wpAny_of_eq (FB.ga.bind (.ref x)) ?_)
 refine wpAny_call (codeAny_call_builtin FB.ga.plain PySem.F.entry_bexc_ga ?_)
 have chk:∀ {Q':Unit->Shared->Prop} {A':Around} {E':Value->Shared->Prop},Q' () ⟨hh,g,d,t+1,os⟩->wpAny (model prog w) A' (checkBuiltinCall "BaseException.__getattribute__" ⟨[.ref x,.str "__class__" t],[]⟩) Q' E' ⟨hh,g,d,t+1,os⟩:=fun{Q' A' E'} hq=>by
  have ha:=PySem.F.args_bexc_ga (.ref x) (.str "__class__" t)
  simp only[checkBuiltinCall,hk,hsplit]
  refine wpAny_bind ?_
  ·unfold isInstance
   repeat (first | (with_reducible refine wpAny_loadPart_at hx ?_;rw[hc]) | (with_reducible refine wpAny_isSubtype_exc hC ?_;rw[hcB]) | wp_step)
   exact hq
 refine chk ?_
 unfold Builtin.«object.__getattribute__»
 refine wpAny_bind (wpAny_of_eq (a:=(Value.ref x,[Value.str "__class__" t])) rfl ?_)
 refine wpAny_bind (wpAny_of_eq (a:=("__class__":Str)) rfl ?_)
 refine wpAny_bind (L0.at (wpAny_bind (LF.at ?_)))
 show wpAny _ _ (holding [.builtin "object.__class__"] (call (.builtin "getset_descriptor.__get__") [.builtin "object.__class__",.ref x,.ref C]) >>= ret) _ _ _
 refine wpAny_bind (wpAny_holding (wpAny_call (W.class_get X J Z.mr ?_)))
 refine wpAny_pure ?_
 show wpAny (model prog w) A (pure (Value.ref C)) _ _ _
 exact wpAny_pure (wpAny_pure h)
theorem Zb1(Z:XIs K C):W.KitX K (.ref x) (.ref C) (ExcAt x C) where
 ty:=fun M h X I=>by
  obtain⟨vs,J⟩:=I.inst
  exact J.type
 it:=fun M h X I=>by
  obtain⟨cd,hcd⟩:=Option.isSome_iff_exists.mp Z.cls
  unfold W.clsIn at hcd
  split at hcd
  ·rename_i c' d' cd' sl' ho
   intro A' Q' E' s' k q
   unfold isType loadHead
   exact wpAny_bind (wpAny_loadPart (k _ _ (X _ _ ho)) (wpAny_pure q))
  ·cases hcd
 ne:=fun h tp dd its n sl X htp=>by
  obtain⟨cd,hcd⟩:=Option.isSome_iff_exists.mp Z.cls
  refine Bool.eq_false_iff.mpr fun q=>?_
  have e:C=tp:=Value.ref.inj (beq_iff_eq.mp q)
  subst e
  unfold W.clsIn at hcd
  split at hcd
  ·rename_i c' d' cd' sl' ho
   have z:=(X _ _ ho).symm.trans htp
   cases z
  ·cases hcd
 ca:=fun X I k=>Z9k Z X I k
end
def Z0h(x C:Addr):HO:=.ext (ExcAt x C)
theorem Zea{P:Program}{w:World}{H:Hp}{h:Heap}{x C:Addr}(e:ExcAt x C h):ObjOk P w H h x (Z0h x C):=by
 obtain⟨vs,e1⟩:=id e
 exact⟨e,⟨_,e1⟩,fun h1 h2 ⟨us,q⟩ k=>⟨us,k _ q⟩⟩
theorem Uf{X:Cx}{K:W.Frag}(hK:X.K=K):U8 X (.builtin "isinstance") (fun xs H Q=>∃(x C:Addr) (cv:V) (c:Value) (b:Bool),xs=[.ref x,cv]/\H x=some (Z0h x C)/\XIs K C/\RelV cv c/\W.kitOne K (.ref C) c=some b/\Q (.bl b) H):=by
 subst hK
 intro Z2 s σ H xs us Q I r h
 obtain⟨x,C,cv,c,b,rfl,hx,Z,rc,e,q⟩:=h
 obtain⟨u,w',rfl,r1,r2⟩:=Z8h r
 cases(show u=Value.ref x from r1)
 have hw:w'=c:=by
  cases cv with
  |ref a=>exact(show w'=Value.ref a from r2).trans (show c=Value.ref a from rc).symm
  |ty n=>exact(show w'=Value.type n from r2).trans (show c=Value.type n from rc).symm
  |non=>exact(show w'=Value.none from r2).trans (show c=Value.none from rc).symm
  |bl y=>exact(show w'=Value.bool y from r2).trans (show c=Value.bool y from rc).symm
  |int i =>
   obtain⟨t,rfl⟩:=(show ∃t,c=Value.int i t from rc)
   unfold W.kitOne at e
   rw[if_neg (by intro z;cases beq_iff_eq.mp z)]at e
   cases e
  |str y =>
   obtain⟨t,rfl⟩:=(show ∃t,c=Value.str y t from rc)
   unfold W.kitOne at e
   rw[if_neg (by intro z;cases beq_iff_eq.mp z)]at e
   cases e
  |byt y =>
   obtain⟨t,rfl⟩:=(show ∃t,c=Value.bytes y t from rc)
   unfold W.kitOne at e
   rw[if_neg (by intro z;cases beq_iff_eq.mp z)]at e
   cases e
  |flt y =>
   obtain⟨t,rfl⟩:=(show ∃t,c=Value.float y t from rc)
   unfold W.kitOne at e
   rw[if_neg (by intro z;cases beq_iff_eq.mp z)]at e
   cases e
 subst hw
 exact W.kia_one (Zb1 Z) I.kIn (I.hok x _ hx).1 e (fun z=>nomatch z) fun tk=>⟨.bl b,H,I.tok _,rfl,q⟩
theorem Z86{X:Cx}{M:Model}{A:Around}{E:Value->Shared->Prop}{Z2:List (Addr×Obj)}{σ:St}{H:Hp}{s:Shared}{i:Nat}{n:Str}{pos:Pos}{Q:Unit->Shared->Prop}(I:Inv X Z2 σ H s)(hN:X.N.Nodup)(hi:X.N[i]? = some n)(hl:X.env.kindOf n=some .local)
  (h:∀s',Inv X Z2 (σ.set i none) H s'->Q () s'):wpAny M A (do bindName X.env n .none;unbindBehindTheSuite X.env n pos) Q E s:=by
 have hcls:(X.env.scope.kind==.class||(X.env.scope.kind==.module&&X.env.locals != X.env.globals))=false:=by rw[I.ok.kind];rfl
 have hiσ:i<σ.length:=by rw[I.len];exact(List.getElem?_eq_some_iff.mp hi).1
 refine wpAny_bind (wpAny_bindName (Ua I hN hi (.inl hl) (v:=.non) rfl (fun s1 I1=>?_) (.inr hl)))
 obtain⟨m,hn,hloc⟩:=id I1.loc
 have hm:m n=some .none:=by
  obtain⟨u,r,q⟩:=hloc i n .non hi (List.getElem?_set_self hiσ) (.inl hl)
  cases(show u=Value.none from r)
  rcases q with q | q
  ·exact q.2
  ·rcases q.1 with z | z
   ·rw[hl]at z;cases z
   ·rw[hl]at z;cases z
 unfold unbindBehindTheSuite
 refine wpAny_onRaise ?_
 unfold unbindName
 refine wpAny_bind (wpAny_point (wpAny_bind ?_))
 unfold deleteName
 simp only[hl,hcls]
 rw[if_neg (by decide)]
 refine wpAny_bind (wpAny_nsDel_keeps hn fun h2 v hn2 hs=>?_)
 rw[hm]
 simp only[if_true,Option.isSome_some,Bool.not_true,Bool.false_eq_true,if_false]
 refine wpAny_pure (wpAny_point (h _ ?_))
 have cne:=I1.cne
 have nL:∀b o,X.s₀.heap.get? b=some o->b≠X.env.locals:=fun b o e=>Nat.ne_of_lt (Nat.lt_of_lt_of_le (Heap.lt_size e) I1.ok.above)
 refine⟨I1.ok,I1.os,I1.bare,⟨fun b o e n' hb hx=>(hs.2 b (nL b o e)).trans (I1.base.keep b o e n' hb hx),fun b o e n' hb hx=>?_,I1.base.free,fun b o e hx=>?_,I1.base.tups,I1.base.frzs,I1.base.tbls⟩,⟨_,hn2,fun j y v' e1 e2 e3=>?_⟩,fun y c e=>?_,I1.free,I1.freeC,fun p hp=>?_,fun b ob e=>?_,by have:=I1.len;simpa using this⟩
 ·obtain⟨sl,q⟩:=I1.base.slot b o e n' hb hx
  exact⟨sl,(hs.2 b (nL b o e)).trans q⟩
 ·obtain⟨o',q⟩:=I1.base.there b o e hx
  exact⟨o',(hs.2 b (nL b o e)).trans q⟩
 ·by_cases hj:j=i
  ·subst hj
   rw[List.getElem?_set_self (by simpa using hiσ)]at e2
   cases e2
  ·rw[List.getElem?_set_ne (Ne.symm hj)]at e2
   obtain⟨u',r',q⟩:=hloc j y v' e1 (by rw[List.getElem?_set_ne (Ne.symm hj)];exact e2) e3
   refine⟨u',r',?_⟩
   rcases q with⟨k,e⟩ | ⟨k,c,e,z⟩
   ·refine .inl ⟨k,?_⟩
    have:y≠n:=fun e=>hj (Z1l hN e1 (e ▸ hi))
    simp[this,e]
   ·exact .inr ⟨k,c,e,z.sameBut hs (cne y c e)⟩
 ·obtain⟨w',z⟩:=I1.cell y c e
  exact⟨w',z.sameBut hs (cne y c e)⟩
 ·obtain⟨e,n',ne,nf,d⟩:=I1.pin p hp
  exact⟨(hs.2 p.1 ne).trans e,n',ne,nf,d⟩
 ·refine(I1.hok b ob e).stay (fun c w' hc q=>(hs.2 c ?_).trans q) (fun _ q=>q) fun _ _ q=>q
  intro zc
  have f0:=I1.free
  rw[← zc]at f0
  rcases hc with z | z
  ·rw[z,e]at f0;cases f0
  ·rw[z]at f0;cases f0
theorem Xa.at_{h:Heap}{x C:Addr}{fl:Value}{To:Option Addr}(a:Xa h x (.ref C) fl To):ExcAt x C h:=by
 obtain⟨⟨c,d,dt,sl⟩,vs,e,⟨h1,h2,h3⟩,h4,_⟩:=a.ex
 have h1':c=Value.ref C:=h1
 have h2':d=none:=h2
 have h3':sl = #[]:=h3
 have h4':dt=.fields vs:=h4
 subst h1' h2' h3' h4'
 exact⟨vs,e⟩
def Zer(K:W.Frag)(Cs:Addr)(n i:Nat)(tb:XK->TS)(th:TS):TS:=fun D σ H=>tb (fun cls _ H'=>∃C,cls=.ref C/\Z5x K C Cs/\∀x,H' x=none->th { nx:=fun σ' H''=>D.nx (σ'.set i none) H'',rt:=D.rt } ((List.replicate n none).set i (some (.ref x))) (Zr H' x (Z0h x C))) D σ H
theorem Zd8{X:Cx}{c en:Str}{i:Nat}{Cs:Addr}{body:List Stmt}{b0:Stmt}{suite:List Stmt}{tb:XK->TS}{th:TS}{np hpos pos:Pos}(hN:X.N.Nodup)(hi:X.N[i]? = some en)(hle:X.env.kindOf en=some .local)(hstk:X.stack=X.env::X.outer)(hfrm:X.env.frame=some X.env.locals)(hg:Gl X c)(hm:X.mg c=some (.ref Cs))
  (hb:∀(pn:List (Addr×Obj)) (xe:Value->Shared->Prop) (Eb:XK),Vb (Z60 X.prog X.w) (X.bod pn xe) Eb->PSs (X.bod pn xe) body (tb Eb)) (hs:∀x,PSs (X.sub x) (b0::suite) th) (hdb:(c==("__debug__":Str))=false:=by decide) :
  PS X (.Try body [.ExceptHandler (some (.Name c np)) (some en) (b0::suite) hpos] [] [] pos) (Zer X.K Cs X.N.length i tb th):=by
 intro Z2 s σ H D I h
 refine wpAny_Try_except ?_
 refine wpAny_mono (hb (X.pn++Z2) (fun e s1=>wpAny (model X.prog X.w) X.A (noteFrame e X.env) (fun _ s2=>wpAny (model X.prog X.w) X.A (setFlight e none) (fun _ s3=>wpAny (model X.prog X.w) X.A (handleBy e X.env [.ExceptHandler (some (.Name c np)) (some en) (b0::suite) hpos]) (SP X Z2 D) X.xe s3) X.xe s2) X.xe s1) (fun cls _ H'=>∃C,cls=.ref C/\Z5x X.K C Cs/\∀x,H' x=none->th { nx:=fun σ' H''=>D.nx (σ'.set i none) H'',rt:=D.rt } ((List.replicate X.N.length none).set i (some (.ref x))) (Zr H' x (Z0h x C))) ?_ [] s σ H D I.bod h) (fun f s1 h1=>?_) fun e s1 h1=>h1
 ·rintro pl σ1 H1 s1 e s2 I1 ⟨x,T,cls,H',rfl,ho,hbr,un,ok,xa,nx,nT,hx,hT,C,rfl,hca,hth⟩
  have I2:Inv (X.bod (X.pn++Z2) _) pl σ1 H' s2:=I1.call' ho un ok hbr (ch:=[]) (fun b z=>absurd z (by simp))
  have hfr:X.A.frames=some (X.env::X.outer):=by rw[← hstk];exact I2.ok.frames
  have hl:s2.heap.FunFrames X.base (X.env::X.outer):=by have z:s2.heap.FunFrames X.base X.stack:=I2.stack;rw[hstk]at z;exact z
  have hsf:∀b∈Z0o (X.env::X.outer),H' b=none:=by have z:∀b∈Z0o X.stack,H' b=none:=I2.stkFree;rw[hstk]at z;exact z
  have hLn:s1.heap.get? s1.heap.objs.size=none:=Heap.get?_none_of_le (Nat.le_refl _)
  refine Z81 hfr hl hfrm xa fun h3 k3 xa3=>?_
  have nT3:s2.heap.get? s2.heap.objs.size=none:=Heap.get?_none_of_le (Nat.le_refl _)
  refine Jt (s:={ s2 with heap:=h3 }) xa3 fun h4 k4 xa4=>?_
  have k24:Kp (Z0o (X.env::X.outer)) [x,T] s2.heap h4:=k3.trans (k4.weak (by simp)) (fun c hc=>hc) fun c hc=>.inr (by rw[List.mem_singleton.mp hc];exact nT3)
  have at_:∀(h':Heap) (tk:Nat),Kp (Z0o (X.env::X.outer)) [x,T] s2.heap h'->Inv X Z2 (List.replicate X.N.length none) H' { s2 with heap:=h',toks:=tk }:=fun h' tk k=>by
   have un':Un (Z0o X.stack) [] H1 H' s1.heap h':=Z6y un k (L:=s1.heap.objs.size) hLn (fun b hb=>.inr (by show b∈Z0o X.stack;rw[hstk];exact hb)) fun c hc=>by
    rcases List.mem_cons.mp hc with rfl | hc
    ·exact nx
    ·rw[List.mem_singleton.mp hc];exact nT
   have ok':HOk X.prog X.w H' h':=Z3x ok k hsf fun c hc=>by
    rcases List.mem_cons.mp hc with rfl | hc
    ·exact hx
    ·rw[List.mem_singleton.mp hc];exact hT
   have I3:Inv (X.bod (X.pn++Z2) _) pl σ1 H' { s2 with heap:=h',toks:=tk }:=I1.call' (s':={ s2 with heap:=h',toks:=tk }) ho un' ok' hbr (ch:=[]) (fun b z=>absurd z (by simp))
   refine I3.unbod.weak (by rw[List.length_replicate];exact I3.len.symm) fun i v e=>?_
   rw[List.getElem?_replicate]at e
   split at e <;> cases e
  have atX:∀(h':Heap) (tk:Nat),Kp (Z0o (X.env::X.outer)) [x,T] s2.heap h'->ExcAt x C h'->Inv X Z2 (List.replicate X.N.length none) (Zr H' x (Z0h x C)) { s2 with heap:=h',toks:=tk }:=fun h' tk k ea=>by
   have un0:Un (Z0o X.stack) [] H1 H' s1.heap h':=Z6y un k (L:=s1.heap.objs.size) hLn (fun b hb=>.inr (by show b∈Z0o X.stack;rw[hstk];exact hb)) fun c hc=>by
    rcases List.mem_cons.mp hc with rfl | hc
    ·exact nx
    ·rw[List.mem_singleton.mp hc];exact nT
   have nx':∀b o,s1.heap.get? b=some o->b≠x:=fun b o e z=>by rw[z,nx]at e;cases e
   have tx:∀b o,H' b=some o->Zr H' x (Z0h x C) b=some o:=fun b o e=>by rw[Zo (Za e hx)];exact e
   have un':Un (Z0o X.stack) [] H1 (Zr H' x (Z0h x C)) s1.heap h':=⟨un0.keep,un0.slot,fun b o e n z=>by rw[Zo (nx' b o e)];exact un0.free b o e n z,un0.there,fun b xs e=>tx _ _ (un0.tups b xs e),fun b o u e=>tx _ _ (un0.frzs b o u e),fun b ps e=>by obtain⟨m,q⟩:=un0.tbls b ps e;exact⟨m,tx _ _ q⟩⟩
   have ok0:HOk X.prog X.w H' h':=Z3x ok k hsf fun c hc=>by
    rcases List.mem_cons.mp hc with rfl | hc
    ·exact hx
    ·rw[List.mem_singleton.mp hc];exact hT
   have ok':HOk X.prog X.w (Zr H' x (Z0h x C)) h':=fun b o e=>by
    by_cases z:b=x
    ·subst z
     rw[Z5]at e
     cases e
     exact Zea ea
    ·rw[Zo z]at e
     exact(ok0 b o e).stay (fun _ _ _ q=>q) (fun b' q=>tx _ _ q) fun b' xs q=>tx _ _ q
   have I3:Inv (X.bod (X.pn++Z2) _) pl σ1 (Zr H' x (Z0h x C)) { s2 with heap:=h',toks:=tk }:=I1.call' (s':={ s2 with heap:=h',toks:=tk }) ho un' ok' hbr (ch:=[]) (fun b z=>absurd z (by simp))
   refine I3.unbod.weak (by rw[List.length_replicate];exact I3.len.symm) fun i v e=>?_
   rw[List.getElem?_replicate]at e
   split at e <;> cases e
  have I4:=at_ h4 s2.toks k24
  refine wpAny_handleBy_cons (codeAny_handlers_test (Ja (X:=X.sub x) (I4.sub x) hg hm ?_ hdb)) (by intro q;cases q)
  obtain⟨oe,vs,he,⟨hcl,_⟩,_⟩:=xa4.ex
  refine Ze9 I4.kIn hca he hcl ?_
  refine codeAny_handlers_suite_as ?_
  refine Jt (s:={ s2 with heap:=h4 }) xa4 fun h5 k5 xa5=>?_
  have k25:Kp (Z0o (X.env::X.outer)) [x,T] s2.heap h5:=k24.trans (k5.weak (by simp)) (fun c hc=>hc) fun c hc=>.inr (by rw[List.mem_singleton.mp hc];exact nT3)
  have I5:=atX h5 s2.toks k25 xa5.at_
  refine Ua (X:=X.sub x) (I5.sub x) hN hi (.inl hle) (v:=.ref x) rfl (fun s6 I6=>?_) (.inr hle)
  refine wpAny_mono (hs x Z2 _ _ _ { nx:=fun σ' H''=>D.nx (σ'.set i none) H'',rt:=D.rt } I6 (hth x hx)) (fun f s7 h7=>?_) fun _ _ z=>False.elim z
  have h8:=h7.unsub I5.ok
  cases f with
  |next =>
   obtain⟨σ',H'',I7,q⟩:=h8
   exact Z86 I7 hN hi hle fun s8 I8=>⟨_,_,I8,q⟩
  |ret u =>
   obtain⟨v,σ',H'',I7,r,q⟩:=h8
   exact Z86 I7 hN hi hle fun s8 I8=>⟨v,_,_,I8,r,q⟩
  |brk=>obtain⟨_,_,_,q⟩:=h8;exact False.elim q
  |cont=>obtain⟨_,_,_,q⟩:=h8;exact False.elim q
 ·cases f with
  |next=>exact wpAny_execs_nil (SP.unbod (f:=.next) h1)
  |brk=>exact SP.unbod (f:=.brk) h1
  |cont=>exact SP.unbod (f:=.cont) h1
  |ret u=>exact SP.unbod (f:=.ret u) h1
end L2
namespace Seek
open PySem PySem.Spec PyProof.Rows L2
structure OwnMX(P:Program)(w:World)(K:W.Frag)(mg:Str->Option Value)(base:Heap)(k:Nat)(C:Addr)(m:Str)(ps:List Str)(sp:Sp):Prop where
 ex:∃f fd,FnOk P w K mg base (Z60 P w) k f fd ps sp/\Meth K C m f/\Binds K fd ps []
theorem OwnMX.mono{P:Program}{w:World}{K:W.Frag}{mg:Str->Option Value}{base:Heap}{j k:Nat}{C:Addr}{x:Str}{ps:List Str}{sp:Sp}(O:OwnMX P w K mg base j C x ps sp)(h:j<=k):OwnMX P w K mg base k C x ps sp:=by
 obtain⟨f,fd,F,r⟩:=O.ex
 exact⟨f,fd,F.mono h,r⟩
theorem Tz{X:Cx}{E:XK}{k:Nat}{C:Addr}{m:Str}{ps:List Str}{sp:Sp}{o e:Expr}{es:List Expr}{ta:TE}{t:TA}{apos pos:Pos}{pl:Sem Bool}(hx:Vb (Z60 X.prog X.w) X E)(O:OwnMX X.prog X.w X.K X.mg X.base k C m ps sp)(c:Cls X.K C)(hr:Room k X.A)(he:PE X o ta)(ha:PA X (e::es) t)
  (hst:starEach (e::es) X.env=(false,eval e X.env)::starEach es X.env:=by rfl) (hpl:(backTo pos (starEach es X.env)).any (·.1)=false:=by rfl)
  (ht:eval (.Call (.Attribute o m apos) (e::es) [] pos) X.env=(do
   let ov ← eval o X.env
   standAt apos.atName
   let(f,first) ← holding [ov] (getMethod ov m pl)
   callWith pos f first (backTo pos (starEach (e::es) X.env)) (backToKw pos (keywordEach [] X.env))):=by rfl):PE X (.Call (.Attribute o m apos) (e::es) [] pos) (Z5q C m sp [] E ta t):=by
 obtain⟨f,fd,F,hm,hb⟩:=O.ex
 exact Z7u he c hm F hr hb .nil hx ha hst hpl ht
theorem Zfi(h:let E:=D;let A1:=a1;let A2:=a4;let A3:=a5;let A4:=Z8 (Zt c2 A2 Zm) A3;let A5:=Z8 a3 A4;let A6:=Z8 a2 A5;(Z8 (Zt c1 A1 Zm) A6) E σ H):(Z8 (Zt c1 a1 Zm) (Z8 a2 (Z8 a3 (Z8 (Zt c2 a4 Zm) a5)))) D σ H:=h
theorem Z1v(h:let E:=D;let A1:=a3;let A2:=Z8 a2 A1;(Z8 a1 A2) E σ H):(Z8 a1 (Z8 a2 a3)) D σ H:=h
theorem Z78(h:let E:=D;let A1:=a4;let A2:=Z8 a3 A1;let A3:=Z8 a2 A2;(Z8 a1 A3) E σ H):(Z8 a1 (Z8 a2 (Z8 a3 a4))) D σ H:=h
theorem Zbm(h:let E:=D;let A1:=a1;let A2:=a2;(Zt c1 A1 A2) E σ H):(Zt c1 a1 a2) D σ H:=h
theorem Zfd(h:let E:=D;let A1:=a1;let A2:=Zt c1 A1 Zm;let A3:=a2;(Z8 (T3 i1 g1 A2) A3) E σ H):(Z8 (T3 i1 g1 (Zt c1 a1 Zm)) a2) D σ H:=h
theorem Zff(h:let E:=D;let A1:=a1;let A2:=a3;let A3:=a4;let A4:=a5;let A5:=Z8 (Zt c3 A3 Zm) A4;let A6:=Z8 (Zt c2 A2 Zm) A5;let A7:=Z8 a2 A6;(Z8 (Zt c1 A1 Zm) A7) E σ H):(Z8 (Zt c1 a1 Zm) (Z8 a2 (Z8 (Zt c2 a3 Zm) (Z8 (Zt c3 a4 Zm) a5)))) D σ H:=h
theorem Z1w(h:let E:=D;let A1:=a1;(Zt c1 A1 Zm) E σ H):(Zt c1 a1 Zm) D σ H:=h
theorem Zfn(h:let E:=D;let A1:=a3;let A2:=Zt c2 A1 Zm;let A3:=Z8 a2 A2;let A4:=a4;let A5:=Z8 (Vj c1 A3) A4;(Z8 a1 A5) E σ H):(Z8 a1 (Z8 (Vj c1 (Z8 a2 (Zt c2 a3 Zm))) a4)) D σ H:=h
theorem Zf7(h:let E:=D;let A1:=a2;let A2:=Z8 a1 A1;let A3:=a3;(Z8 (Zt c1 A2 Zm) A3) E σ H):(Z8 (Zt c1 (Z8 a1 a2) Zm) a3) D σ H:=h
theorem Zfp(h:let E:=D;let A1:=a10;let A2:=Z8 a9 A1;let A3:=Z8 a8 A2;let A4:=Z8 a7 A3;let A5:=Z8 a6 A4;let A6:=Z8 a5 A5;let A7:=Z8 a4 A6;let A8:=Z8 a3 A7;let A9:=Z8 a2 A8;(Z8 a1 A9) E σ H):(Z8 a1 (Z8 a2 (Z8 a3 (Z8 a4 (Z8 a5 (Z8 a6 (Z8 a7 (Z8 a8 (Z8 a9 a10))))))))) D σ H:=h
theorem Zfr(h:let E:=D;let A1:=a1;(Vj c1 A1) E σ H):(Vj c1 a1) D σ H:=h
theorem Zfg(h:let E:=D;let A1:=a3;let A2:=Z8 a2 A1;let A3:=a5;let A4:=a6;let A5:=Zt c2 A3 A4;let A6:=Z8 a4 A5;let A7:=Z8 (Zt c1 A2 Zm) A6;(Z8 a1 A7) E σ H):(Z8 a1 (Z8 (Zt c1 (Z8 a2 a3) Zm) (Z8 a4 (Zt c2 a5 a6)))) D σ H:=h
theorem Z09(h:let E:=D;let A1:=a2;(Z8 a1 A1) E σ H):(Z8 a1 a2) D σ H:=h
theorem Zfh(h:let E:=D;let A1:=a2;let A2:=a4;let A3:=Z8 a3 A2;let A4:=Zt c1 A1 A3;(Z8 a1 A4) E σ H):(Z8 a1 (Zt c1 a2 (Z8 a3 a4))) D σ H:=h
theorem Zfq(h:let E:=D;let A1:=a9;let A2:=Z8 a8 A1;let A3:=Z8 a7 A2;let A4:=a10;let A5:=a11;let A6:=a12;let A7:=Zt c3 A5 A6;let A8:=Zt c2 A4 A7;let A9:=Zt c1 A3 A8;let A10:=Z8 a6 A9;let A11:=Z8 a5 A10;let A12:=Z8 a4 A11;let A13:=Z8 a3 A12;let A14:=Z8 a2 A13;(Z8 a1 A14) E σ H):(Z8 a1 (Z8 a2 (Z8 a3 (Z8 a4 (Z8 a5 (Z8 a6 (Zt c1 (Z8 a7 (Z8 a8 a9)) (Zt c2 a10 (Zt c3 a11 a12))))))))) D σ H:=h
theorem Zf8(h:let E:=D;let A1:=a4;let A2:=Z8 a3 A1;let A3:=Z8 a2 A2;let A4:=Z8 a1 A3;let A5:=a9;let A6:=Z8 a8 A5;let A7:=Z8 a7 A6;let A8:=Z8 a6 A7;let A9:=Z8 a5 A8;(Z8 (Zt c1 A4 Zm) A9) E σ H):(Z8 (Zt c1 (Z8 a1 (Z8 a2 (Z8 a3 a4))) Zm) (Z8 a5 (Z8 a6 (Z8 a7 (Z8 a8 a9))))) D σ H:=h
theorem Zfb(h:let E:=D;let A1:=a6;let A2:=Z8 a5 A1;let A3:=Z8 a4 A2;let A4:=Z8 a3 A3;let A5:=Z8 a2 A4;(Z8 a1 A5) E σ H):(Z8 a1 (Z8 a2 (Z8 a3 (Z8 a4 (Z8 a5 a6))))) D σ H:=h
theorem Zbk(h:let E:=D;let A1:=a2;let A2:=a3;let A3:=Z8 (Zt c1 A1 Zm) A2;(Z8 a1 A3) E σ H):(Z8 a1 (Z8 (Zt c1 a2 Zm) a3)) D σ H:=h
theorem Zfv(h:let E:=D;let A1:=a2;let A2:=T3 i1 g1 A1;(Z8 a1 A2) E σ H):(Z8 a1 (T3 i1 g1 a2)) D σ H:=h
theorem Zfl(h:let E:=D;let A1:=a5;let A2:=Z8 a4 A1;let A3:=Z8 a3 A2;let A4:=Z8 a2 A3;let A5:=a6;let A6:=Z8 (T3 i1 g1 A4) A5;(Z8 a1 A6) E σ H):(Z8 a1 (Z8 (T3 i1 g1 (Z8 a2 (Z8 a3 (Z8 a4 a5)))) a6)) D σ H:=h
theorem Zf9(h:let E:=D;let A1:=a2;let A2:=a3;let A3:=T3 i1 g1 A2;let A4:=a4;let A5:=a5;let A6:=a8;let A7:=Z8 a7 A6;let A8:=Z8 a6 A7;let A9:=a9;let A10:=a10;let A11:=Zt c6 A9 A10;let A12:=Zt c5 A8 A11;let A13:=Zt c4 A5 A12;let A14:=Zt c3 A4 A13;let A15:=Zt c2 A3 A14;let A16:=Zt c1 A1 A15;(Z8 a1 A16) E σ H):(Z8 a1 (Zt c1 a2 (Zt c2 (T3 i1 g1 a3) (Zt c3 a4 (Zt c4 a5 (Zt c5 (Z8 a6 (Z8 a7 a8)) (Zt c6 a9 a10))))))) D σ H:=h
theorem Zbl(h:let E:=D;let A1:=a1;let A2:=a2;let A3:=a3;let A4:=a4;let A5:=a5;let A6:=a6;let A7:=a7;let A8:=Zt c7 A7 Zm;let A9:=a8;let A10:=Z8 (T3 i1 g1 A8) A9;let A11:=Z8 (Zt c6 A6 Zm) A10;let A12:=Z8 (Zt c5 A5 Zm) A11;let A13:=Z8 (Zt c4 A4 Zm) A12;let A14:=Z8 (Zt c3 A3 Zm) A13;let A15:=Z8 (Zt c2 A2 Zm) A14;(Z8 (Zt c1 A1 Zm) A15) E σ H):(Z8 (Zt c1 a1 Zm) (Z8 (Zt c2 a2 Zm) (Z8 (Zt c3 a3 Zm) (Z8 (Zt c4 a4 Zm) (Z8 (Zt c5 a5 Zm) (Z8 (Zt c6 a6 Zm) (Z8 (T3 i1 g1 (Zt c7 a7 Zm)) a8))))))) D σ H:=h
theorem Zfk(h:let E:=D;let A1:=a1;let A2:=a5;let A3:=a6;let A4:=Z8 (Zt c2 A2 Zm) A3;let A5:=Z8 a4 A4;let A6:=Z8 a3 A5;let A7:=Z8 a2 A6;(Z8 (Zt c1 A1 Zm) A7) E σ H):(Z8 (Zt c1 a1 Zm) (Z8 a2 (Z8 a3 (Z8 a4 (Z8 (Zt c2 a5 Zm) a6))))) D σ H:=h
theorem Zfe(h:let E:=D;let A1:=a2;let A2:=Zt c1 A1 Zm;let A3:=Z8 a1 A2;let A4:=a3;(Z8 (T3 i1 g1 A3) A4) E σ H):(Z8 (T3 i1 g1 (Z8 a1 (Zt c1 a2 Zm))) a3) D σ H:=h
theorem Zfc(h:let E:=D;let A1:=a6;let A2:=Z8 a5 A1;let A3:=Z8 a4 A2;let A4:=a7;let A5:=Z8 (Vj c1 A3) A4;let A6:=Z8 a3 A5;let A7:=Z8 a2 A6;(Z8 a1 A7) E σ H):(Z8 a1 (Z8 a2 (Z8 a3 (Z8 (Vj c1 (Z8 a4 (Z8 a5 a6))) a7)))) D σ H:=h
theorem Zfw(h:let E:=D;let A1:=a2;let A2:=a3;let A3:=a4;let A4:=a5;let A5:=Z8 (Zt c3 A3 Zm) A4;let A6:=Z8 (Zt c2 A2 Zm) A5;let A7:=Z8 (Zt c1 A1 Zm) A6;(Z8 a1 A7) E σ H):(Z8 a1 (Z8 (Zt c1 a2 Zm) (Z8 (Zt c2 a3 Zm) (Z8 (Zt c3 a4 Zm) a5)))) D σ H:=h
theorem Zfu(h:let E:=D;let A1:=a1;let A2:=a2;let A3:=a4;let A4:=a5;let A5:=Z8 (Zt c3 A3 Zm) A4;let A6:=Z8 a3 A5;let A7:=Z8 (Zt c2 A2 Zm) A6;(Z8 (Zt c1 A1 Zm) A7) E σ H):(Z8 (Zt c1 a1 Zm) (Z8 (Zt c2 a2 Zm) (Z8 a3 (Z8 (Zt c3 a4 Zm) a5)))) D σ H:=h
theorem Zft(h:let E:=D;let A1:=a4;let A2:=Z8 a3 A1;let A3:=a6;let A4:=Z8 a5 A3;let A5:=Zt c2 A2 A4;let A6:=a7;let A7:=Z8 (Vj c1 A5) A6;let A8:=Z8 a2 A7;(Z8 a1 A8) E σ H):(Z8 a1 (Z8 a2 (Z8 (Vj c1 (Zt c2 (Z8 a3 a4) (Z8 a5 a6))) a7))) D σ H:=h
theorem Zfo(h:let E:=D;let A1:=a1;let A2:=a3;let A3:=Z8 a2 A2;(Z8 (Zt c1 A1 Zm) A3) E σ H):(Z8 (Zt c1 a1 Zm) (Z8 a2 a3)) D σ H:=h
theorem Zfm(h:let E:=D;let A1:=a4;let A2:=Z8 a3 A1;let A3:=a6;let A4:=Z8 a5 A3;let A5:=Z8 (T3 i1 g1 A2) A4;let A6:=Z8 a2 A5;(Z8 a1 A6) E σ H):(Z8 a1 (Z8 a2 (Z8 (T3 i1 g1 (Z8 a3 a4)) (Z8 a5 a6)))) D σ H:=h
theorem Zfs(h:let E:=D;let A1:=a6;let A2:=Z8 a5 A1;let A3:=a7;let A4:=Z8 (T3 i1 g1 A2) A3;let A5:=Z8 a4 A4;let A6:=Z8 a3 A5;let A7:=Z8 a2 A6;(Z8 a1 A7) E σ H):(Z8 a1 (Z8 a2 (Z8 a3 (Z8 a4 (Z8 (T3 i1 g1 (Z8 a5 a6)) a7))))) D σ H:=h
theorem Zfj(h:let E:=D;let A1:=a2;let A2:=a3;let A3:=a4;let A4:=a5;let A5:=a6;let A6:=a7;let A7:=a8;let A8:=Z8 (Zt c6 A6 Zm) A7;let A9:=Z8 (Zt c5 A5 Zm) A8;let A10:=Z8 (Zt c4 A4 Zm) A9;let A11:=Z8 (Zt c3 A3 Zm) A10;let A12:=Z8 (Zt c2 A2 Zm) A11;let A13:=Z8 (Zt c1 A1 Zm) A12;(Z8 a1 A13) E σ H):(Z8 a1 (Z8 (Zt c1 a2 Zm) (Z8 (Zt c2 a3 Zm) (Z8 (Zt c3 a4 Zm) (Z8 (Zt c4 a5 Zm) (Z8 (Zt c5 a6 Zm) (Z8 (Zt c6 a7 Zm) a8))))))) D σ H:=h
theorem Zfa(h:let E:=D;let A1:=a4;let A2:=a6;let A3:=a10;let A4:=Z8 a9 A3;let A5:=a13;let A6:=a15;let A7:=a16;let A8:=Zt c6 A7 Zm;let A9:=a19;let A10:=a20;let A11:=Z8 (Zt c7 A9 Zm) A10;let A12:=Z8 a18 A11;let A13:=Z8 a17 A12;let A14:=Z8 (Zt c5 A6 A8) A13;let A15:=Z8 a14 A14;let A16:=Z8 (Zt c4 A5 Zm) A15;let A17:=Z8 a12 A16;let A18:=Z8 a11 A17;let A19:=Z8 (Zt c3 A4 Zm) A18;let A20:=Z8 a8 A19;let A21:=Z8 a7 A20;let A22:=Z8 (Zt c2 A2 Zm) A21;let A23:=Z8 a5 A22;let A24:=Z8 (Zt c1 A1 Zm) A23;let A25:=Z8 a3 A24;let A26:=Z8 a2 A25;(Z8 a1 A26) E σ H):(Z8 a1 (Z8 a2 (Z8 a3 (Z8 (Zt c1 a4 Zm) (Z8 a5 (Z8 (Zt c2 a6 Zm) (Z8 a7 (Z8 a8 (Z8 (Zt c3 (Z8 a9 a10) Zm) (Z8 a11 (Z8 a12 (Z8 (Zt c4 a13 Zm) (Z8 a14 (Z8 (Zt c5 a15 (Zt c6 a16 Zm)) (Z8 a17 (Z8 a18 (Z8 (Zt c7 a19 Zm) a20))))))))))))))))) D σ H:=h
def top(i:Nat):Stmt:=PySem.Challenge.pw_seek_k25_over_refused.main.body.getD i (.Pass ⟨0,0,0,0⟩)
section
variable{P:Program}{w:World}{K:W.Frag}{mg:Str->Option Value}{base:Heap}{f:Addr}{fd:FuncData}{C:Addr}
inductive spTakeI(vs:List V)(H:Hp)(Q:VK):Prop
 |mk (b:Addr) (m:Int) (_:vs=[.ref b,.int m]) (_:BoxAt H b) (_:0<m) (_:m<1073741824) (_:∀(r:Int) (H':Hp),0<=r->r<m->BoxAt H' b->Gro [b] H H'->Q (.int r) H')
def Z70:Sp:=fun vs H Q _=>spTakeI vs H Q
abbrev Tq:Stmt:=top 59
theorem sc_l_take:FnScope ["_law_box","_law_many","_law_number"] ["_law_box","_law_many"] (Z9 Tq):=Vh
theorem Zdk(F:Fun K "_law_take" "_law_take" Tq f fd):FnOk P w K mg base Wp 1 f fd ["_law_box","_law_many"] Z70:=by
 refine F.ok sc_l_take (fun vs H Q E h=>?_) (fun cdv A outer s H vs Q E hr h=>?_)
 ·obtain⟨b,m,rfl,_⟩:=h
  rfl
 obtain⟨b,m,rfl,⟨ns,hb,hl⟩,h0,h1,q⟩:=h
 refine Vf ?_
 intro Xz
 refine⟨_,(Z1 (Zu (Zd (Zaf hr.units0) (pv 0) (Wt Z3) (Zh _)) (Z4 (Zk Z7)) Zi)
  (Z1 (pS 2 sc_l_take.nd (Zl Vz (pv 0) Z7 (fun _ _=>rfl)))
  (Z1 (Tb (Y7 Zdg (pv 2) (pv 1)) (Tc (pv 0) Z7 V7))
  (Z1 (Zu (PW.pt (Z5s (Zd Y2 (Zl Vz (pv 0) Z7 (fun _ _=>rfl)) Z7 (Zh _)) (Z1x (Zd Y2 (Zl Vz (pv 0) Z7 (fun _ _=>rfl)) (Z5t Z1q Z7) (Zh _))))) (Z4 (Zf (Yt PySem.F.plainAttrs_list PySem.F.slot_list_pop PySem.F.type_list_pop Zau (pv 0) (Z0 Z7 Z3)))) Zi)
  (Z4 (Zk (Y7 Zbr (pv 2) (pv 1)))))))),?_⟩
 refine Zfi ?_
 intro Ez Az1 Az2 Az3 Az4 Az5 Az6
 refine(Z6 rfl ⟨sz,fun p hp=>?_⟩)
 have np:b≠p:=Za hb hp
 have g1:Gro [b] H (Zr H p (.lst [])):=Gro.new hp _
 have hb1:(Zr H p (.lst [])) b=some (.lst (ns.map V.int)):=by rw[Zo np];exact hb
 refine⟨b,p,ns.map V.int,rfl,rfl,SqL.of hb1,SqL.of Z5,Z6 rfl (?_)⟩
 cases ns with
 |nil=>exact Z0g (q 0 _ (Int.le_refl 0) h0 ⟨[],hb1,hl⟩ g1)
 |cons n r =>
  refine Z9v ?_
  refine(Zj0 hb1 Z0p (?_))
  refine(Z6 rfl (Z6 rfl (Wc rfl rfl ⟨⟨h0,h1⟩,?_⟩)))
  refine(Z6 rfl ⟨b,_,_,0,rfl,rfl,hb1,Zkp,?_⟩)
  have hm0:0<=n % m:=Int.emod_nonneg _ (by omega)
  have hm1:n % m<m:=Int.emod_lt_of_pos _ h0
  generalize hH2:Zr (Zr H p (.lst [])) b (.lst ((List.map V.int (n::r)).set 0 (V.int (n / m))))=H2
  have hb2:H2 b=some (.lst (V.int (n / m)::r.map V.int)):=by rw[← hH2,Z5];rfl
  have g2:Gro [b] H H2:=g1.trans (by rw[← hH2];exact Gro.set (by simp) hb1 _)
  have box2:BoxAt H2 b:=⟨n / m::r,hb2,by simpa using hl⟩
  have hpop:∀Q':V->Hp->Prop,Q' (.int (n / m)) (Zr H2 b (.lst (r.map V.int)))->Zbj (.ref b) [.int 0] H2 Q':=fun Q' hq =>
   ⟨b,_,0,0,Z6 rfl ⟨rfl,hb2,by decide,by decide,seqIndex_of (by omega) (by rw[List.length_cons];omega),rfl,hq⟩⟩
  have box3:BoxAt (Zr H2 b (.lst (r.map V.int))) b:=⟨r,Z5,by simp at hl;omega⟩
  have g3:Gro [b] H (Zr H2 b (.lst (r.map V.int))):=g2.trans (Gro.set (by simp) hb2 _)
  have ty2:Ziw K "list" (.ref b) H2:=.inl ⟨rfl,_,SqL.of hb2⟩
  refine(Zj0 hb2 Z0p ⟨rfl,_,rfl,?_⟩)
  refine Wq (fun c=>?_) (fun c=>?_)
  ·refine Z0g (Z6 rfl ⟨ty2,?_⟩)
   refine hpop _ ?_
   refine(Z6 rfl (Z6 rfl (Wc rfl rfl ⟨h0,?_⟩)))
   exact q _ _ hm0 hm1 box3 g3
  ·refine(Zj0 hb2 Z0p ⟨_,rfl,rfl,_,rfl,?_⟩)
   refine Wq (fun c=>?_) (fun c=>?_)
   ·refine(Z6 rfl ⟨ty2,?_⟩)
    refine hpop _ ?_
    refine(Z6 rfl (Z6 rfl (Wc rfl rfl ⟨h0,?_⟩)))
    exact q _ _ hm0 hm1 box3 g3
   ·refine(Z6 rfl (Z6 rfl (Wc rfl rfl ⟨h0,?_⟩)))
    exact q _ _ hm0 hm1 box2 g2
inductive spSignI(vs:List V)(H:Hp)(Q:VK):Prop
 |mk (c:Int) (_:vs=[.int c]) (_:∀s:Str,s.length=1->Q (.str s) H)
def Z71:Sp:=fun vs H Q _=>spSignI vs H Q
abbrev Ts:Stmt:=top 60
theorem sc_l_sign:FnScope ["_law_cell","_law_some"] ["_law_cell"] (Z9 Ts):=Vh
theorem Zdl(F:Fun K "_law_sign" "_law_sign" Ts f fd):FnOk P w K mg base Wp 1 f fd ["_law_cell"] Z71:=by
 refine F.ok sc_l_sign (fun vs H Q E h=>?_) (fun cdv A outer s H vs Q E hr h=>?_)
 ·obtain⟨c,rfl,_⟩:=h
  rfl
 obtain⟨c,rfl,q⟩:=h
 refine Vf ?_
 intro Xz
 refine⟨_,(Z1 (pS 1 sc_l_sign.nd Zq)
  (Z1 (pS 1 sc_l_sign.nd (Y7 Xk (pv 1) Zq))
  (Z4 (Zk (Zl Z20 (pv 1) (Y7 Zbr (pv 0) Z7) (fun _ _=>rfl)))))),?_⟩
 refine Z1v ?_
 intro Ez Az1 Az2
 refine(Z6 rfl (Wc rfl rfl ⟨sz,?_⟩))
 refine(Z6 rfl (Z6 rfl (Wc rfl rfl ⟨(by decide:(0:Int)<94),?_⟩)))
 generalize hz:(Str.ofString _++Str.ofString _:Str)=z
 have hlen:z.cps.toList.length=94:=by rw[← hz];decide +kernel
 have h0:0<=c % 94:=Int.emod_nonneg _ (by omega)
 have h1:c % 94<94:=Int.emod_lt_of_pos _ (by omega)
 have hlt:(c % 94).toNat<z.cps.toList.length:=by omega
 have e:Z7f z.cps.toList (c % 94)=some (z.cps.toList[(c % 94).toNat]):=by
  have:=Wh (xs:=z.cps.toList) (j:=(c % 94).toNat) (List.getElem?_eq_getElem hlt)
  rw[Int.toNat_of_nonneg h0]at this
  exact this
 refine⟨z,_,_,rfl,rfl,?_,e,q _ rfl⟩
 have:z.length=94:=by rw[← hlen];simp[Str.length]
 rw[this];exact sz
def Zh7(C:Addr)(Q:VK)(H:Hp)(m c:Addr)(M:MM):Prop:=∀H':Hp,MAt C H' m M->Gro [m,c] H H'->Q .non H'
inductive spEnterI(C:Addr)(vs:List V)(H:Hp)(Q:VK):Prop
 |mk (m t:Addr) (M:MM) (q:Zf0) (_:vs=[.ref m,.ref t]) (_:MAt C H m M) (_:H t=some (.tup [.int q.1,.int q.2.1,q.2.2.1,q.2.2.2])) (_:Zh7 C Q H m M.s.choices (M.enter q))
def Vx(C:Addr):Sp:=fun vs H Q _=>spEnterI C vs H Q
abbrev Xh:Stmt:=Xd (top 41) 4
theorem Jf:FnScope ["self","state"] ["self","state"] (Z9 Xh):=Vh
theorem Z5a(MT:Txt K mg C)(F:Fun K "enter" "Machine.enter" Xh f fd):FnOk P w K mg base Wp 1 f fd ["self","state"] (Vx C):=by
 refine F.ok Jf (fun vs H Q E h=>?_) (fun cdv A outer s H vs Q E hr h=>?_)
 ·obtain⟨m,t,M,q,rfl,_⟩:=h
  rfl
 obtain⟨m,t,M,⟨r,a,g,hd⟩,rfl,hM,ht,q⟩:=h
 refine Vf ?_
 intro Xz
 refine⟨_,(Z1 (Ya (pv 0) (Zl Zg (pv 1) Z7 (fun _ _=>rfl)) rfl)
  (Z1 (Ya (pv 0) (Zl Zg (pv 1) Z7 (fun _ _=>rfl)) rfl)
  (Z1 (Ya (pv 0) (Zl Zg (pv 1) Z7 (fun _ _=>rfl)) rfl)
  (Z4 (Ya (pv 0) (Zl Zg (pv 1) Z7 (fun _ _=>rfl)) rfl))))),?_⟩
 refine Z78 ?_
 intro Ez Az1 Az2 Az3
 obtain⟨⟨dx,h1⟩,_⟩:=id hM
 refine(Wo ht Z0p ⟨_,rfl,m,C,dx,_,rfl,h1,MT.cl,MT.a3,Yr _,?_⟩)
 rw[Z0b]
 have M1:MAt C _ m ⟨{ M.s with row:=r },M.cs⟩:=hM.put (s':={ M.s with row:=r }) h1 rfl
 have g1:Gro [m] H (Zr H m (.ins C dx ({ M.s with row:=r }:MS).fs)):=Gro.ins (by simp) h1 _
 have e1:(Zr H m (.ins C dx ({ M.s with row:=r }:MS).fs)) m=some (.ins C dx ({ M.s with row:=r }:MS).fs):=Z5
 generalize Zr H m (.ins C dx ({ M.s with row:=r }:MS).fs)=H1 at *
 refine(Wo (g1.tups _ _ ht) rfl ⟨_,rfl,m,C,dx,_,rfl,e1,MT.cl,MT.a4,Yr _,?_⟩)
 rw[Z8k]
 have M2:MAt C _ m ⟨{ M.s with row:=r,place:=a },M.cs⟩:=M1.put (s':={ M.s with row:=r,place:=a }) e1 rfl
 have g2:Gro [m] H1 (Zr H1 m (.ins C dx ({ M.s with row:=r,place:=a }:MS).fs)):=Gro.ins (by simp) e1 _
 have e2:(Zr H1 m (.ins C dx ({ M.s with row:=r,place:=a }:MS).fs)) m=some (.ins C dx ({ M.s with row:=r,place:=a }:MS).fs):=Z5
 generalize Zr H1 m (.ins C dx ({ M.s with row:=r,place:=a }:MS).fs)=H2 at *
 have g12:=g1.trans g2
 refine(Wo (g12.tups _ _ ht) rfl ⟨_,rfl,m,C,dx,_,rfl,e2,MT.cl,MT.a5,Yr _,?_⟩)
 rw[Z2p]
 have M3:MAt C _ m ⟨{ M.s with row:=r,place:=a,groups:=g },M.cs⟩:=M2.put (s':={ M.s with row:=r,place:=a,groups:=g }) e2 rfl
 have g3:Gro [m] H2 (Zr H2 m (.ins C dx ({ M.s with row:=r,place:=a,groups:=g }:MS).fs)):=Gro.ins (by simp) e2 _
 have e3:(Zr H2 m (.ins C dx ({ M.s with row:=r,place:=a,groups:=g }:MS).fs)) m=some (.ins C dx ({ M.s with row:=r,place:=a,groups:=g }:MS).fs):=Z5
 generalize Zr H2 m (.ins C dx ({ M.s with row:=r,place:=a,groups:=g }:MS).fs)=H3 at *
 have g13:=g12.trans g3
 refine(Wo (g13.tups _ _ ht) rfl ⟨_,rfl,m,C,dx,_,rfl,e3,MT.cl,MT.a6,Yr _,?_⟩)
 rw[J9]
 have M4:MAt C _ m ⟨{ M.s with row:=r,place:=a,groups:=g,held:=hd },M.cs⟩:=M3.put (s':={ M.s with row:=r,place:=a,groups:=g,held:=hd }) e3 rfl
 have g4:Gro [m] H3 (Zr H3 m (.ins C dx ({ M.s with row:=r,place:=a,groups:=g,held:=hd }:MS).fs)):=Gro.ins (by simp) e3 _
 exact q _ M4 ((g13.trans g4).mono (by simp))
inductive spBackI(C:Addr)(vs:List V)(H:Hp)(Q:VK):Prop
 |mk (m:Addr) (M:MM) (_:vs=[.ref m]) (_:MAt C H m M) (_:M.cs.length<=1000000) (_:Zh7 C Q H m M.s.choices M.back)
def We(C:Addr):Sp:=fun vs H Q _=>spBackI C vs H Q
theorem Z4l{α β:Type}{F:α->β->Prop}{xs:List α}{ys:List β}(h:Paired F xs ys){y:β}(e:ys.getLast? = some y):∃x,xs[xs.length-1]? = some x/\F x y:=by
 have hl:=Paired.length h
 have hne:ys≠[]:=fun z=>by rw[z]at e;simp at e
 have hp:=List.length_pos_iff.mpr hne
 obtain⟨x,hx⟩:∃x,xs[xs.length-1]? = some x:=⟨xs[xs.length-1]'(by omega),List.getElem?_eq_getElem (by omega)⟩
 obtain⟨y',hy',q⟩:=Y9 h hx
 rw[List.getLast?_eq_getElem?]at e
 rw[hl,e]at hy'
 cases hy'
 exact⟨x,hx,q⟩
theorem Z02{α β:Type}{F:α->β->Prop}{xs:List α}{ys:List β}(h:Paired F xs ys):Paired F xs.dropLast ys.dropLast:=by
 rw[List.dropLast_eq_take,List.dropLast_eq_take,Paired.length h]
 exact Z01 _ h
abbrev Yx:Stmt:=Xd (top 41) 5
theorem T0:FnScope ["self"] ["self"] (Z9 Yx):=Vh
theorem Z1d(T:Blt mg)(MT:Txt K mg C)(O_Machine_enter:OwnM P w K mg base 1 C "enter" ["self","state"] (Vx C))(F:Fun K "go_back" "Machine.go_back" Yx f fd):FnOk P w K mg base Wp 2 f fd ["self"] (We C):=by
 refine F.ok T0 (fun vs H Q E h=>?_) (fun cdv A outer s H vs Q E hr h=>?_)
 ·obtain⟨m,M,rfl,_⟩:=h
  rfl
 obtain⟨m,M,rfl,hM,hz,q⟩:=h
 refine Vf ?_
 intro Xz
 refine⟨_,(Z4 (Zu (Zd Y2 (Ze Zw rfl T.b_len PyProof.Rows.Boot.«len» (Z0 (Zn (pv 0) rfl) Z3)) Z7 (Zh _)) (Z4 (Ya (pv 0) W1 rfl)) (Z4 (Zf (X9 (O_Machine_enter.mono (by omega)) MT.cl hr (pv 0) (Z0 (Zbp PySem.F.plainAttrs_list PySem.F.slot_list_pop PySem.F.type_list_pop Zbt (Zn (pv 0) rfl)) Z3)))))),?_⟩
 refine Zbm ?_
 intro Ez Az1 Az2
 have hne:=hM.ne
 obtain⟨⟨dx,h1⟩,vs,hv,hp⟩:=id hM
 have hl:=Paired.length hp
 refine(Z6 rfl ⟨m,C,dx,_,_,rfl,h1,MT.cl,MT.a7,Yo _,M.s.choices,vs,rfl,.inl (SqL.of hv),rfl,Z6 rfl (Wq (fun z=>?_) (fun z=>?_))⟩)
 ·have h0:M.cs=[]:=by
   have:V.int ((vs.length:Nat):Int)=V.int 0:=of_decide_eq_true z
   injection this with this
   exact List.length_eq_zero_iff.mp (by omega)
  refine(Z6 rfl ⟨m,C,dx,Z6 rfl ⟨h1,MT.cl,MT.a10,Yr _,?_⟩⟩)
  rw[Za9]
  have hb:M.back=⟨{ M.s with ended:=true },M.cs⟩:=by unfold MM.back;rw[h0];rfl
  refine q _ ?_ (Gro.ins (by simp) h1 _)
  rw[hb]
  exact hM.put (s':={ M.s with ended:=true }) h1 rfl
 ·have h0:M.cs≠[]:=fun e=>z (by
   rw[e]at hl
   rw[hl]
   exact decide_eq_true rfl)
  obtain⟨y,hy⟩:∃y,M.cs.getLast? = some y:=⟨M.cs.getLast h0,List.getLast?_eq_some_getLast h0⟩
  obtain⟨x,hx,t,rfl,ht⟩:=Z4l hp hy
  have hb:M.back=MM.enter ⟨M.s,M.cs.dropLast⟩ y:=by unfold MM.back;rw[hy]
  refine(Z6 rfl ⟨m,dx,Z6 rfl ⟨h1,Ud _,Z6 rfl ⟨m,C,dx,_,_,rfl,h1,MT.cl,MT.a7,Yo _,.inl ⟨rfl,_,SqL.of hv⟩,M.s.choices,vs,Z6 rfl ⟨rfl,hv,hx,?_⟩⟩⟩⟩)
  have g1:Gro [M.s.choices] H (Zr H M.s.choices (.lst vs.dropLast)):=Gro.set (by simp) hv _
  have M1:MAt C (Zr H M.s.choices (.lst vs.dropLast)) m ⟨M.s,M.cs.dropLast⟩:=⟨⟨dx,by rw[Zo hne];exact h1⟩,vs.dropLast,Z5,Paired.mapP (Z02 hp) fun _ _ q=>q.mono g1.tups⟩
  refine⟨m,t,_,y,rfl,M1,g1.tups _ _ ht,fun H2 M2 g2=>q H2 (by rw[hb];exact M2) ((g1.mono (by simp)).trans g2)⟩
inductive spLiesI(vs:List V)(H:Hp)(Q:VK):Prop
 |mk (r:Addr) (rs:List (Str×Str)) (c:Str) (_:vs=[.ref r,.str c]) (_:RunsAt H r rs) (_:Q (.bl (Wv rs c)) H)
def Z73:Sp:=fun vs H Q _=>spLiesI vs H Q
abbrev V1:Stmt:=top 12
theorem sc_lies_in:FnScope ["runs","sign","low","high"] ["runs","sign"] (Z9 V1):=Vh
theorem Z6e(F:Fun K "lies_in" "lies_in" V1 f fd):FnOk P w K mg base Wp 1 f fd ["runs","sign"] Z73:=by
 refine F.ok sc_lies_in (fun vs H Q E h=>?_) (fun cdv A outer s H vs Q E hr h=>?_)
 ·obtain⟨r,rs,c,rfl,_⟩:=h
  rfl
 obtain⟨r,rs,c,rfl,⟨vs,hv,hp,hz⟩,q⟩:=h
 refine Vf ?_
 intro Xz
 refine⟨_,(Z1 (U4 PassesOwn.never rfl (Z1y (pv 0)) (Zbo rfl (Ty (pN 2 sc_lies_in.nd) (Ty (pN 3 sc_lies_in.nd) Z7s))) (Z4 (Zu (PW.pt (T9 (Zd Z2r (pv 2) (pv 1) (Zh _)) (Vy (Zd Z2r (pv 1) (pv 3) (Zh _))))) (Z4 (Zk W1)) Zi)))
  (Z4 (Zk W1))),?_⟩
 refine Zfd ?_
 intro Ez Az1 Az2 Az3
 have hl:=Paired.length hp
 refine(Z6 rfl ⟨r,rfl,⟨vs,SqT.of hv⟩,?_⟩)
 refine Z3y (xs:=vs) (fun i σ H'=>∃lo hi:Option V,σ=[some (.ref r),some (.str c),lo,hi]/\H'=H/\(rs.take i).any (fun r=>!decide (c.cps.toList<r.1.cps.toList) && !decide (r.2.cps.toList<c.cps.toList))=false) ⟨none,none,rfl,rfl,rfl⟩ (fun i σ H' _ ⟨_,_,_,e,_⟩=>by rw[e];exact SqT.of hv) ?_ ?_
 ·rintro i x σ H1 hx ⟨lo,hi,rfl,rfl,hno⟩
  obtain⟨p,hpi,_,_,a,rfl,ha⟩:=Y9 hp hx
  refine⟨a,_,rfl,SqT.of ha,rfl,_,_,rfl,_,_,rfl,rfl,?_⟩
  have yes:(!decide (c.cps.toList<p.1.cps.toList) && !decide (p.2.cps.toList<c.cps.toList))=true->Wv rs c=true:=fun h=>by
   unfold Wv
   rw[List.any_eq_true]
   exact⟨p,List.mem_of_getElem? hpi,h⟩
  have no:(!decide (c.cps.toList<p.1.cps.toList) && !decide (p.2.cps.toList<c.cps.toList))=false->(rs.take (i+1)).any (fun r=>!decide (c.cps.toList<r.1.cps.toList) && !decide (r.2.cps.toList<c.cps.toList))=false:=fun h=>by
   rw[Xo hpi,List.any_append,hno]
   simpa using h
  refine(Z6 rfl (Z6 rfl (Wc rfl rfl (Z6 rfl (Wq (fun z1=>?_) (fun z1=>?_))))))
  ·refine(Z6 rfl (Z6 rfl (Wc rfl rfl (Z6 rfl (Wq (fun z2=>?_) (fun z2=>?_))))))
   ·rw[yes (by rw[z1,z2];rfl)]at q
    exact q
   ·exact⟨_,_,rfl,rfl,no (by rw[z1,Bool.eq_false_iff.mpr z2];rfl)⟩
  ·exact Z9v ⟨_,_,rfl,rfl,no (by rw[Bool.eq_false_iff.mpr z1];rfl)⟩
 ·rintro σ H1 ⟨lo,hi,rfl,rfl,hno⟩
  rw[hl,List.take_length]at hno
  rw[show Wv rs c=false from hno]at q
  exact q
inductive spTakesI(vs:List V)(H:Hp)(Q:VK):Prop
 |mk (a:Addr) (h:Hd) (t:Str) (i:Int) (_:vs=[.ref a,.str t,.int i]) (_:PatAt H 1 (.ref a) (.node h [])) (_:h.one=true) (_:0<=i) (_:t.length<=1000) (_:Q (.bl (Yj h t i)) H)
def Z3j:Sp:=fun vs H Q _=>spTakesI vs H Q
abbrev X6:Stmt:=top 11
theorem sc_takes_sign:FnScope ["row","text","at","kind"] ["row","text","at"] (Z9 X6):=Vh
theorem Z28(T:Blt mg)(O_lies_in:Own P w K mg base 1 "lies_in" ["runs","sign"] Z73)(F:Fun K "takes_sign" "takes_sign" X6 f fd):FnOk P w K mg base Wp 2 f fd ["row","text","at"] Z3j:=by
 refine F.ok sc_takes_sign (fun vs H Q E h=>?_) (fun cdv A outer s H vs Q E hr h=>?_)
 ·obtain⟨a,h,t,i,rfl,_⟩:=h
  rfl
 obtain⟨a,h,t,i,rfl,hp,h1,h0,ht,q⟩:=h
 refine Vf ?_
 intro Xz
 refine⟨_,(Z1 (Zu (Zd Z3f (pv 2) (Ze X7 rfl T.b_len PyProof.Rows.Boot.«len» (Z0 (pv 1) Z3)) (Zh _)) (Z4 (Zk W1)) Zi)
  (Z1 (pS 3 sc_takes_sign.nd (Zl Zg (pv 0) Z7 (fun _ _=>rfl)))
  (Z1 (Zu (Zd Y2 (pv 3) Zq (Zh _)) (Z4 (Zk (Yz Y2 (Zl Zg (pv 0) Z7 (fun _ _=>rfl)) (Zl Z20 (pv 1) (pv 2) (fun _ _=>rfl)) (Zh _)))) Zi)
  (Z1 (Zu (Zd Y2 (pv 3) Zq (Zh _)) (Z4 (Zk W1)) Zi)
  (Z4 (Zk (Yz Y2 (Zv (O_lies_in.mono (by omega)) hr rfl (Z0 (Zl Zg (pv 0) Z7 (fun _ _=>rfl)) (Z0 (Zl Z20 (pv 1) (pv 2) (fun _ _=>rfl)) Z3))) (Yz Y2 (pv 3) Zq (Zh _)) (Zh _)))))))),?_⟩
 refine Zff ?_
 intro Ez Az1 Az2 Az3 Az4 Az5 Az6 Az7
 obtain⟨a',kv,e,lay,hk⟩:=hp
 cases e
 cases hk
 obtain⟨r0,ea⟩:=lay.head
 unfold Yj at q
 refine(Z6 rfl (Z6 rfl ⟨t,rfl,Yc ht,Wc rfl rfl (Z6 rfl (Wq (fun z=>?_) (fun z=>?_)))⟩))
 ·have:¬i<t.length:=by
   have:=of_decide_eq_true z
   omega
  rw[if_neg this]at q
  exact q
 have hlt:i<t.length:=by
  have:¬((t.length:Nat):Int)<=i:=fun e=>z (decide_eq_true e)
  omega
 rw[if_pos hlt]at q
 have hc:=Zc0 h0 hlt
 refine(Wo ea Z0p (?_))
 cases h with
 |sign x =>
  refine(Z6 rfl ⟨rfl,Z6 rfl (Zj (show Z15 "sign" "sign" = true by decide +kernel) ?_)⟩)
  exact(Wo lay.2.2 rfl ⟨_,rfl,_,rfl,t,i,_,rfl,rfl,Yc ht,hc,rfl,q⟩)
 |any =>
  refine(Z6 rfl ⟨rfl,Z6 rfl (Zb (show ¬Z15 "any" "sign" = true by decide +kernel) ?_)⟩)
  exact(Z6 rfl ⟨rfl,Z6 rfl (Zj (show Z15 "any" "any" = true by decide +kernel) q)⟩)
 |inn rs =>
  obtain⟨_,r,e,hr'⟩:=lay
  refine(Z6 rfl ⟨rfl,Z6 rfl (Zb (show ¬Z15 "in" "sign" = true by decide +kernel) ?_)⟩)
  refine(Z6 rfl ⟨rfl,Z6 rfl (Zb (show ¬Z15 "in" "any" = true by decide +kernel) ?_)⟩)
  refine(Wo e rfl ⟨_,rfl,_,rfl,t,i,_,rfl,rfl,Yc ht,hc,r,rs,_,rfl,hr',_,rfl,rfl,rfl,?_⟩)
  have e2:decide (V.str (Hd.inn rs).word=V.str "in")=true:=by show decide (V.str "in" = V.str "in")=true;decide +kernel
  rw[e2]
  have q':Q (.bl (Wv rs (Jy t i.toNat))) H:=q
  show Q (.bl (decide (V.bl (Wv rs (Jy t i.toNat))=V.bl true))) H
  cases hb:Wv rs (Jy t i.toNat) <;> rw[hb]at q' <;> exact q'
 |out rs =>
  obtain⟨_,r,e,hr'⟩:=lay
  refine(Z6 rfl ⟨rfl,Z6 rfl (Zb (show ¬Z15 "out" "sign" = true by decide +kernel) ?_)⟩)
  refine(Z6 rfl ⟨rfl,Z6 rfl (Zb (show ¬Z15 "out" "any" = true by decide +kernel) ?_)⟩)
  refine(Wo e rfl ⟨_,rfl,_,rfl,t,i,_,rfl,rfl,Yc ht,hc,r,rs,_,rfl,hr',_,rfl,rfl,rfl,?_⟩)
  have e2:decide (V.str (Hd.out rs).word=V.str "in")=false:=by show decide (V.str "out" = V.str "in")=false;decide +kernel
  rw[e2]
  have q':Q (.bl (!Wv rs (Jy t i.toNat))) H:=q
  show Q (.bl (decide (V.bl (Wv rs (Jy t i.toNat))=V.bl false))) H
  cases hb:Wv rs (Jy t i.toNat) <;> rw[hb]at q' <;> exact q'
 |_=>exact absurd h1 (by simp[Hd.one])
end
def MM.doSign(h:Hd)(M:MM):MM:=if Yj h M.s.text M.s.place=true then⟨{ M.s with place:=M.s.place+1 },M.cs⟩ else M.back
def MM.doBegin(M:MM):MM:=if M.s.place=0 then M else M.back
def MM.doEnd(M:MM):MM:=if M.s.place=M.s.text.length then M else M.back
def MM.doFound(M:MM):MM:=⟨{ M.s with found:=true },M.cs⟩
section
variable{P:Program}{w:World}{K:W.Frag}{mg:Str->Option Value}{base:Heap}{f C:Addr}{fd:FuncData}
inductive spRowI(C:Addr)(pre:MM->Prop)(row:Hp->Addr->Prop)(go:MM->MM)(vs:List V)(H:Hp)(Q:VK):Prop
 |mk (m a:Addr) (M:MM) (_:vs=[.ref m,.ref a]) (_:MAt C H m M) (_:M.cs.length<=1000000) (_:pre M) (_:row H a) (_:Zh7 C Q H m M.s.choices (go M))
def Z21(C:Addr)(pre:MM->Prop)(row:Hp->Addr->Prop)(go:MM->MM):Sp:=fun vs H Q _=>spRowI C pre row go vs H Q
abbrev Z9t:MM->Prop:=fun M=>0<=M.s.place/\M.s.text.length<=1000
def Zh1(h:Hd):Hp->Addr->Prop:=fun H a=>PatAt H 1 (.ref a) (.node h [])
abbrev Ys:Stmt:=top 21
theorem Z64:FnScope ["machine","row"] ["machine","row"] (Z9 Ys):=Vh
theorem Z6g{h:Hd}(h1:h.one=true)(MT:Txt K mg C)(O_takes_sign:Own P w K mg base 2 "takes_sign" ["row","text","at"] Z3j)(O_Machine_go_back:OwnM P w K mg base 2 C "go_back" ["self"] (We C))(F:Fun K "do_sign" "do_sign" Ys f fd) :
  FnOk P w K mg base Wp 3 f fd ["machine","row"] (Z21 C Z9t (Zh1 h) (MM.doSign h)):=by
 refine F.ok Z64 (fun vs H Q E h=>?_) (fun cdv A outer s H vs Q E hr h=>?_)
 ·obtain⟨m,a,M,rfl,_⟩:=h
  rfl
 obtain⟨m,a,M,rfl,hM,hz,⟨p0,p1⟩,hrow,q⟩:=h
 refine Vf ?_
 intro Xz
 refine⟨_,(Z4 (Zu (Yh (Zv (O_takes_sign.mono (by omega)) hr rfl (Z0 (pv 1) (Z0 (Zn (pv 0) rfl) (Z0 (Zn (pv 0) rfl) Z3))))) (Z4 (Us (pv 0) Z7 Z7e)) (Z4 (Zf (Yd (O_Machine_go_back.mono (by omega)) MT.cl hr (pv 0)))))),?_⟩
 refine Zbm ?_
 intro Ez Az1 Az2
 obtain⟨⟨dx,e1⟩,_⟩:=id hM
 refine(Z6 rfl (Z6 rfl ⟨m,C,dx,_,_,rfl,e1,MT.cl,MT.a2,Z10 _,Z6 rfl ⟨m,C,dx,_,_,rfl,e1,MT.cl,MT.a4,Wi _,a,_,M.s.text,M.s.place,rfl,hrow,h1,p0,p1,Z6 rfl (?_)⟩⟩))
 unfold MM.doSign at q
 refine Wq (fun z=>?_) (fun z=>?_)
 ·rw[if_pos z]at q
  refine(Z6 rfl ⟨m,C,dx,_,_,rfl,e1,MT.cl,MT.a4,Wi _,Wc rfl rfl ⟨dx,_,e1,Yr _,?_⟩⟩)
  rw[Z8k]
  exact q _ (hM.put (s':={ M.s with place:=M.s.place+1 }) e1 rfl) (Gro.ins (by simp) e1 _)
 ·rw[if_neg z]at q
  exact(Z6 rfl ⟨m,dx,Z6 rfl ⟨e1,Yn _,m,M,rfl,hM,hz,q⟩⟩)
abbrev Vt:Stmt:=top 22
theorem Z4k:FnScope ["machine","row"] ["machine","row"] (Z9 Vt):=Vh
theorem Z4r(MT:Txt K mg C)(O_Machine_go_back:OwnM P w K mg base 2 C "go_back" ["self"] (We C))(F:Fun K "do_begin" "do_begin" Vt f fd):FnOk P w K mg base Wp 3 f fd ["machine","row"] (Z21 C Z9t (Zh1 .beg) MM.doBegin):=by
 refine F.ok Z4k (fun vs H Q E h=>?_) (fun cdv A outer s H vs Q E hr h=>?_)
 ·obtain⟨m,a,M,rfl,_⟩:=h
  rfl
 obtain⟨m,a,M,rfl,hM,hz,_,_,q⟩:=h
 refine Vf ?_
 intro Xz
 refine⟨_,(Z4 (Zu (Zd Ji (Zn (pv 0) rfl) Z7 (Zh _)) (Z4 (Zf (Yd (O_Machine_go_back.mono (by omega)) MT.cl hr (pv 0)))) Zi)),?_⟩
 refine Z1w ?_
 intro Ez Az1
 obtain⟨⟨dx,e1⟩,_⟩:=id hM
 unfold MM.doBegin at q
 refine(Z6 rfl ⟨m,C,dx,_,_,rfl,e1,MT.cl,MT.a4,Wi _,rfl,Z6 rfl (Wq (fun z=>?_) (fun z=>?_))⟩)
 ·have:¬M.s.place=0:=fun e=>by rw[e]at z;exact absurd z (by decide)
  rw[if_neg this]at q
  exact(Z6 rfl ⟨m,dx,Z6 rfl ⟨e1,Yn _,m,M,rfl,hM,hz,q⟩⟩)
 ·have:M.s.place=0:=by
   have:(!decide (V.int M.s.place=V.int 0))=false:=Bool.eq_false_iff.mpr z
   simpa using this
  rw[if_pos this]at q
  exact q H hM Gro.refl
abbrev Tu:Stmt:=top 23
theorem Z8v:FnScope ["machine","row"] ["machine","row"] (Z9 Tu):=Vh
theorem Z98(T:Blt mg)(MT:Txt K mg C)(O_Machine_go_back:OwnM P w K mg base 2 C "go_back" ["self"] (We C))(F:Fun K "do_end" "do_end" Tu f fd):FnOk P w K mg base Wp 3 f fd ["machine","row"] (Z21 C Z9t (Zh1 .fin) MM.doEnd):=by
 refine F.ok Z8v (fun vs H Q E h=>?_) (fun cdv A outer s H vs Q E hr h=>?_)
 ·obtain⟨m,a,M,rfl,_⟩:=h
  rfl
 obtain⟨m,a,M,rfl,hM,hz,⟨p0,p1⟩,_,q⟩:=h
 refine Vf ?_
 intro Xz
 refine⟨_,(Z4 (Zu (Zd Ji (Zn (pv 0) rfl) (Ze X7 rfl T.b_len PyProof.Rows.Boot.«len» (Z0 (Zn (pv 0) rfl) Z3)) (Zh _)) (Z4 (Zf (Yd (O_Machine_go_back.mono (by omega)) MT.cl hr (pv 0)))) Zi)),?_⟩
 refine Z1w ?_
 intro Ez Az1
 obtain⟨⟨dx,e1⟩,_⟩:=id hM
 unfold MM.doEnd at q
 refine(Z6 rfl ⟨m,C,dx,_,_,rfl,e1,MT.cl,MT.a4,Wi _,Z6 rfl ⟨m,C,dx,_,_,rfl,e1,MT.cl,MT.a2,Z10 _,M.s.text,rfl,Yc p1,rfl,Z6 rfl (Wq (fun z=>?_) (fun z=>?_))⟩⟩)
 ·have:¬M.s.place=M.s.text.length:=fun e=>by rw[e]at z;simp at z
  rw[if_neg this]at q
  exact(Z6 rfl ⟨m,dx,Z6 rfl ⟨e1,Yn _,m,M,rfl,hM,hz,q⟩⟩)
 ·have:M.s.place=M.s.text.length:=by
   have:(!decide (V.int M.s.place=V.int ((M.s.text.length:Nat):Int)))=false:=Bool.eq_false_iff.mpr z
   simpa using this
  rw[if_pos this]at q
  exact q H hM Gro.refl
def Zjd:Hp->Addr->Prop:=fun H a=>H a=some (.tup [.str "found"])
abbrev Vr:Stmt:=top 39
theorem Z4j:FnScope ["machine","row"] ["machine","row"] (Z9 Vr):=Vh
theorem Z4p(MT:Txt K mg C)(F:Fun K "do_found" "do_found" Vr f fd):FnOk P w K mg base Wp 1 f fd ["machine","row"] (Z21 C (fun _=>True) Zjd MM.doFound):=by
 refine F.ok Z4j (fun vs H Q E h=>?_) (fun cdv A outer s H vs Q E hr h=>?_)
 ·obtain⟨m,a,M,rfl,_⟩:=h
  rfl
 obtain⟨m,a,M,rfl,hM,hz,_,_,q⟩:=h
 refine Vf ?_
 intro Xz
 refine⟨_,(Z4 (Ya (pv 0) W1 rfl)),?_⟩
 obtain⟨⟨dx,e1⟩,_⟩:=id hM
 refine(Z6 rfl ⟨m,C,dx,Z6 rfl ⟨e1,MT.cl,MT.a9,Yr _,?_⟩⟩)
 rw[Z56]
 exact q _ (hM.put (s':={ M.s with found:=true }) e1 rfl) (Gro.ins (by simp) e1 _)
inductive spMovesI(C:Addr)(vs:List V)(H:Hp)(Q:VK):Prop
 |mk (m:Addr) (M:MM) (_:vs=[.ref m]) (_:MAt C H m M) (_:Q (.int M.s.made) H)
def Z3m(C:Addr):Sp:=fun vs H Q _=>spMovesI C vs H Q
abbrev Xf:Stmt:=Xd (top 41) 2
theorem Jd:FnScope ["self"] ["self"] (Z9 Xf):=Vh
theorem Zak(MT:Txt K mg C)(F:Fun K "moves" "Machine.moves" Xf f fd):FnOk P w K mg base Wp 1 f fd ["self"] (Z3m C):=by
 refine F.ok Jd (fun vs H Q E h=>?_) (fun cdv A outer s H vs Q E hr h=>?_)
 ·obtain⟨m,M,rfl,_⟩:=h
  rfl
 obtain⟨m,M,rfl,hM,q⟩:=h
 refine Vf ?_
 intro Xz
 refine⟨_,(Z4 (Zk (Zn (pv 0) rfl))),?_⟩
 obtain⟨⟨dx,e1⟩,_⟩:=id hM
 exact(Z6 rfl ⟨m,C,dx,_,_,rfl,e1,MT.cl,MT.a8,Z11 _,q⟩)
structure Tells(P:Program)(w:World)(K:W.Frag)(mg:Str->Option Value)(base:Heap)(k:Nat)(ds:List (Uh×V))(wd:Str)(sp:Sp):Prop where
 ex:∃f fd ps,Z2c ds (Sum.inr wd)=some (.ref f)/\FnOk P w K mg base Wp k f fd ps sp/\W.keepIn K (.ref f)=true/\Binds K fd ps []
def MM.next(M:MM):MM:=⟨{ M.s with row:=M.s.row+1,made:=M.s.made+1 },M.cs⟩
inductive spMoveI(P:Program)(w:World)(K:W.Frag)(mg:Str->Option Value)(base:Heap)(k:Nat)(ds:List (Uh×V))(C:Addr)(vs:List V)(H:Hp)(Q:VK):Prop
 |mk (m ra a:Addr) (ys:List V) (wd:Str) (r:List V) (M:MM) (sp:Sp) (_:vs=[.ref m]) (_:MAt C H m M) (_:M.s.rows=.ref ra) (_:H ra=some (.tup ys)) (_:Z7f ys M.s.row=some (.ref a)) (_:H a=some (.tup (.str wd::r))) (_:Tells P w K mg base k ds wd sp) (_:∀H1:Hp,MAt C H1 m M.next->Gro [m] H H1->sp [.ref m,.ref a] H1 (fun _ H2=>Q .non H2) E0)
def Z1r(P:Program)(w:World)(K:W.Frag)(mg:Str->Option Value)(base:Heap)(k:Nat)(ds:List (Uh×V))(C:Addr):Sp:=fun vs H Q _=>spMoveI P w K mg base k ds C vs H Q
abbrev Xv:Stmt:=Xd (top 41) 3
theorem sc_Machine_move:FnScope ["self","row"] ["self"] (Z9 Xv):=Vh
theorem Zdm{k:Nat}{dn:Addr}{ds:List (Uh×V)}(MT:Txt K mg C)(Ug:mg "DOINGS" = some (.ref dn))(hDN:Zem K w dn ds)(F:Fun K "move" "Machine.move" Xv f fd):FnOk P w K mg base Wp (k+1) f fd ["self"] (Z1r P w K mg base k ds C):=by
 refine F.ok sc_Machine_move (fun vs H Q E h=>?_) (fun cdv A outer s H vs Q E hr h=>?_)
 ·obtain⟨m,ra,a,ys,wd,r,M,sp,rfl,_⟩:=h
  rfl
 obtain⟨m,ra,a,ys,wd,r,M,sp,rfl,hM,hrows,hra,hat,ha,⟨g,gd,ps,hv,G,kp,hb⟩,q⟩:=h
 refine Vf ?_
 intro Xz
 refine⟨_,(Z1 (pS 1 sc_Machine_move.nd (Zl Zg (Zn (pv 0) rfl) (Zn (pv 0) rfl) (fun _ _=>rfl)))
  (Z1 (Us (pv 0) Z7 Z7e)
  (Z1 (Us (pv 0) Z7 Z7e)
  (Z4 (Zf (Zg3 hr (Z3r (Xl (v:=.ref _) rfl Ug rfl) (Zl Zg (pv 1) Z7 (fun _ _=>rfl)) (fun _ _=>rfl)) (Z0 (pv 0) (Z0 (pv 1) Z3)))))))),?_⟩
 refine Z78 ?_
 intro Ez Az1 Az2 Az3
 obtain⟨⟨dx,e1⟩,_⟩:=id hM
 have hrr:M.s.fs.lookup ("rows":Str)=some (.ref ra):=by rw[Ze6,hrows]
 refine⟨_,rfl,m,C,dx,_,_,rfl,e1,MT.cl,MT.a1,hrr,_,rfl,m,C,dx,_,_,rfl,e1,MT.cl,MT.a3,Z4h _,ra,ys,_,_,rfl,rfl,SqT.of hra,hat,?_⟩
 refine(Z6 rfl ⟨m,C,dx,_,_,rfl,e1,MT.cl,MT.a3,Z4h _,Wc rfl rfl ⟨dx,_,e1,Yr _,?_⟩⟩)
 rw[Z0b]
 have M1:=hM.put (s':={ M.s with row:=M.s.row+1 }) e1 rfl
 have g1:Gro [m] H (Zr H m (.ins C dx ({ M.s with row:=M.s.row+1 }:MS).fs)):=Gro.ins (by simp) e1 _
 have e2:(Zr H m (.ins C dx ({ M.s with row:=M.s.row+1 }:MS).fs)) m=some (.ins C dx ({ M.s with row:=M.s.row+1 }:MS).fs):=Z5
 generalize Zr H m (.ins C dx ({ M.s with row:=M.s.row+1 }:MS).fs)=H1 at *
 refine(Z6 rfl ⟨m,C,dx,_,_,rfl,e2,MT.cl,MT.a8,Z11 _,Wc rfl rfl ⟨dx,_,e2,Yr _,?_⟩⟩)
 rw[Zda]
 have M2:MAt C _ m M.next:=M1.put (s':={ M.s with row:=M.s.row+1,made:=M.s.made+1 }) e2 rfl
 have g2:Gro [m] H1 (Zr H1 m (.ins C dx ({ M.s with row:=M.s.row+1,made:=M.s.made+1 }:MS).fs)):=Gro.ins (by simp) e2 _
 have q2:=q _ M2 (g1.trans g2)
 refine(Wo (g2.tups _ _ (g1.tups _ _ ha)) Z0p ⟨dn,ds,Sum.inr wd,_,rfl,hDN,rfl,hv,g,gd,ps,sp,rfl,G,kp,hb,?_⟩)
 exact(Z6 rfl (Z6 rfl q2))
end
def MM.fresh(M:MM):MM:=if M.s.found=true then MM.back ⟨{ M.s with found:=false },M.cs⟩ else M
section
variable{P:Program}{w:World}{K:W.Frag}{mg:Str->Option Value}{base:Heap}{f C:Addr}{fd:FuncData}
structure Runs(P:Program)(w:World)(K:W.Frag)(mg:Str->Option Value)(base:Heap)(kk:Nat)(ds:List (Uh×V))(C m:Addr)(M:MM)(H:Hp)(most:Int)(Q:VK)(J:Nat->MM->Hp->Prop):Prop where
 start:∀H',MAt C H' m M.fresh->Gro [m,M.s.choices] H H'->J 0 M.fresh H'
 at_:∀k M' H',J k M' H'->MAt C H' m M'/\M'.s.made=M.s.made+k/\M'.s.found=false/\(k:Int)<=most
 none_:∀k M' H',J k M' H'->M'.s.ended=true->∀t,H' t=none->Q (.ref t) (Zr H' t (.tup [.str "none"]))
 over:∀k M' H',J k M' H'->M'.s.ended=false->(k:Int)=most->∀t,H' t=none->Q (.ref t) (Zr H' t (.tup [.str "over"]))
 turn:∀k M' H',J k M' H'->M'.s.ended=false->(k:Int)<most->∀Q':VK,(∀(v:V) (H2:Hp) (M2:MM),MAt C H2 m M2->((M2.s.found=true/\∀t,H2 t=none->Q (.ref t) (Zr H2 t (.tup [.str "way",.int M2.s.place,M2.s.groups])))∨(M2.s.found=false/\J (k+1) M2 H2))->Q' v H2)->Z1r P w K mg base kk ds C [.ref m] H' Q' E0
inductive spWayI(P:Program)(w:World)(K:W.Frag)(mg:Str->Option Value)(base:Heap)(kk:Nat)(ds:List (Uh×V))(C:Addr)(vs:List V)(H:Hp)(Q:VK):Prop
 |mk (m:Addr) (most:Int) (M:MM) (J:Nat->MM->Hp->Prop) (_:vs=[.ref m,.int most]) (_:MAt C H m M) (_:1<=most) (_:M.cs.length<=1000000) (_:Runs P w K mg base kk ds C m M H most Q J)
def Zet(P:Program)(w:World)(K:W.Frag)(mg:Str->Option Value)(base:Heap)(kk:Nat)(ds:List (Uh×V))(C:Addr):Sp:=fun vs H Q _=>spWayI P w K mg base kk ds C vs H Q
def Zjq(m:Addr)(most:Int)(M:MM)(J:Nat->MM->Hp->Prop):TS:=fun D σ H1=>σ=[some (.ref m),some (.int most),none]/\J 0 M.fresh H1
abbrev W6:Stmt:=Xd (top 41) 1
theorem sc_Machine_way:FnScope ["self","most","last"] ["self","most"] (Z9 W6):=Vh
theorem Zg5{kk:Nat}{ds:List (Uh×V)}(MT:Txt K mg C)(O_Machine_move:OwnM P w K mg base (kk+1) C "move" ["self"] (Z1r P w K mg base kk ds C))(O_Machine_go_back:OwnM P w K mg base 2 C "go_back" ["self"] (We C))(F:Fun K "way" "Machine.way" W6 f fd) :
  FnOk P w K mg base Wp (kk+3) f fd ["self","most"] (Zet P w K mg base kk ds C):=by
 refine F.ok sc_Machine_way (fun vs H Q E h=>?_) (fun cdv A outer s H vs Q E hr h=>?_)
 ·obtain⟨m,most,M,J,rfl,_⟩:=h
  rfl
 obtain⟨m,most,M,J,rfl,hM,h1,hz,R⟩:=h
 refine Vf ?_
 intro Xz
 refine⟨_,(Z1 (Zu (Yh (Zn (pv 0) rfl)) (Z1 (Ya (pv 0) W1 rfl)
  (Z4 (Zf (Yd (O_Machine_go_back.mono (by omega)) MT.cl hr (pv 0))))) Zi)
  (J8 (fun D σ H1=>Zjq m most M J D σ H1/\D.rt=Q) (Z1 (pS 2 sc_Machine_way.nd (Y7 Yv (Zn (pv 0) rfl) (pv 1)))
  (Z1 (Tw PassesOwn.never (PW.pt (T9 (Z7a (Yh (Zn (pv 0) rfl))) (Vy (Zd Z5v (Zn (pv 0) rfl) (pv 2) (Zh _))))) (Z1 (Zf (Yd (O_Machine_move.mono (by omega)) MT.cl hr (pv 0)))
  (Z4 (Zu (Yh (Zn (pv 0) rfl)) (Z4 (Zk (Zz (Z0 Zq (Z0 (Zn (pv 0) rfl) (Z0 (Zn (pv 0) rfl) Z3)))))) Zi))))
  (Z4 (Zk (Xi (Yh (Zn (pv 0) rfl)) (Zz (Z0 Zq Z3)) (Zz (Z0 Zq Z3))))))) (fun D1 σ1 H1 hcut=>?cut1))),?_⟩
 case cut1 =>
  refine Zfn ?_
  intro Ez Az1 Az2 Az3 Az4 Az5
  obtain⟨⟨rfl,hJ⟩,hD⟩:=hcut
  obtain⟨M0,hm0,_,_⟩:=R.at_ _ _ _ hJ
  obtain⟨⟨dx,e1⟩,_⟩:=id M0
  refine(Z6 rfl ⟨m,C,dx,_,_,rfl,e1,MT.cl,MT.a8,Z11 _,Z6 rfl (Wc rfl rfl (?_))⟩)
  have hlast:M.fresh.s.made=M.s.made:=by rw[hm0];simp
  refine⟨fun n σ H'=>∃(k:Nat) (M':MM),(n:Int)=most-k/\σ=[some (.ref m),some (.int most),some (.int (M.fresh.s.made+most))]/\J k M' H',⟨most.toNat,0,_,by omega,rfl,hJ⟩,?_⟩
  rintro n σ H2 ⟨k,M',hn,rfl,hJ2⟩
  obtain⟨M2,hm2,hf2,hk2⟩:=R.at_ _ _ _ hJ2
  obtain⟨⟨dx2,e2⟩,_⟩:=id M2
  have rest:(M'.s.ended=false->¬(k:Int)<most)->(Z45 (Zk9 (tB (Zi7 K (W8 0) "ended")) (Zcf (Z8i (tC (.str "none")) Z46)) (Zcf (Z8i (tC (.str "over")) Z46)))) D1 [some (.ref m),some (.int most),some (.int (M.fresh.s.made+most))] H2:=by
   intro hk
   refine(Z6 rfl ⟨m,C,dx2,_,_,rfl,e2,MT.cl,MT.a10,Z5h _,Z6 rfl (Wq (fun z=>?_) (fun z=>?_))⟩)
   ·refine⟨sz,fun t ht=>?_⟩
    rw[hD]
    exact R.none_ _ _ _ hJ2 z t ht
   ·refine⟨sz,fun t ht=>?_⟩
    rw[hD]
    have z':M'.s.ended=false:=Bool.eq_false_iff.mpr z
    exact R.over _ _ _ hJ2 z' (by have:=hk z';omega) t ht
  refine(Z6 rfl ⟨m,C,dx2,_,_,rfl,e2,MT.cl,MT.a10,Z5h _,Z6 rfl (?_)⟩)
  cases he:M'.s.ended with
  |true=>exact Z9v (Z9v (rest (fun z=>absurd (he.symm.trans z) (by decide))))
  |false =>
   refine Z0g ?_
   refine(Z6 rfl ⟨m,C,dx2,_,_,rfl,e2,MT.cl,MT.a8,Z11 _,Z6 rfl (Wc rfl rfl (Z6 rfl (?_)))⟩)
   by_cases hlt:(k:Int)<most
   ·have hd:decide (M'.s.made<M.fresh.s.made+most)=true:=decide_eq_true (by omega)
    rw[hd]
    refine Z0g ⟨fun σ' H'=>∃M3,σ'=[some (.ref m),some (.int most),some (.int (M.fresh.s.made+most))]/\J (k+1) M3 H',fun σ' H' ⟨M3,e3,j3⟩=>⟨n-1,by omega,k+1,M3,by omega,e3,j3⟩,?_⟩
    refine(Z6 rfl ⟨m,dx2,Z6 rfl ⟨e2,Zdx _,?_⟩⟩)
    unfold Z46
    refine R.turn _ _ _ hJ2 he hlt _ fun v H3 M3 hM3 h3=>?_
    obtain⟨⟨dx3,e3⟩,_⟩:=id hM3
    refine(Z6 rfl ⟨m,C,dx3,_,_,rfl,e3,MT.cl,MT.a9,Z5g _,Z6 rfl (?_)⟩)
    rcases h3 with⟨hf,hq⟩ | ⟨hf,hj⟩
    ·rw[hf]
     refine Z0g (Z6 rfl ⟨m,C,dx3,_,_,rfl,e3,MT.cl,MT.a4,Wi _,Z6 rfl ⟨m,C,dx3,_,_,rfl,e3,MT.cl,MT.a5,Xr _,sz,fun t ht=>?_⟩⟩)
     show D1.rt _ _
     rw[hD]
     exact hq t ht
    ·rw[hf]
     exact Z9v ⟨M3,rfl,hj⟩
   ·have hd:decide (M'.s.made<M.fresh.s.made+most)=false:=decide_eq_false (by omega)
    rw[hd]
    exact Z9v (rest (fun _=>hlt))
 refine Zf7 ?_
 intro Ez Az1 Az2 Az3
 obtain⟨⟨dx,e1⟩,_⟩:=id hM
 have fr:∀H',MAt C H' m M.fresh->Gro [m,M.s.choices] H H'->J 0 M.fresh H':=R.start
 unfold MM.fresh at fr
 refine(Z6 rfl ⟨m,C,dx,_,_,rfl,e1,MT.cl,MT.a9,Z5g _,Z6 rfl (Wq (fun z=>?_) (fun z=>?_))⟩)
 ·rw[if_pos z]at fr
  refine(Z6 rfl ⟨m,C,dx,Z6 rfl ⟨e1,MT.cl,MT.a9,Yr _,?_⟩⟩)
  rw[Z56]
  have M1:=hM.put (s':={ M.s with found:=false }) e1 rfl
  have g1:Gro [m] H (Zr H m (.ins C dx ({ M.s with found:=false }:MS).fs)):=Gro.ins (by simp) e1 _
  refine(Z6 rfl ⟨m,dx,Z6 rfl ⟨Z5,Yn _,m,_,rfl,M1,hz,fun H2 M2 g2=>⟨⟨rfl,?_⟩,rfl⟩⟩⟩)
  have:=fr H2 M2 ((g1.mono (by simp)).trans g2)
  unfold MM.fresh
  rw[if_pos z]
  exact this
 ·rw[if_neg z]at fr
  refine⟨⟨rfl,?_⟩,rfl⟩
  unfold MM.fresh
  rw[if_neg z]
  exact fr H hM Gro.refl
end
def Rw.close:Rw->Option Int
 |.tup [.str x,.int k]=>if x="close" then some k else none
 |_=>none
def Wx(rs:List Rw):List Int:=rs.filterMap Rw.close
def Tj(rs:List Rw):Int:=if Wx rs=[] then 0 else Ziy (Wx rs)
def Rw.tame:Rw->Prop
 |.pat _=>True
 |.tup xs=>∃(x:Str) (r:List V),xs=.str x::r/\(x="close"->∃k,r=[.int k])
theorem Z93(h:Hd):decide (V.str h.word=V.str "close")=false:=by
 rw[h.word_wd]
 cases h.wd <;> decide +kernel
def Ziz(ra:Addr)(t:Str)(i:Int)(g:V)(c:Addr):MM:=⟨{ rows:=.ref ra,text:=t,row:=0,place:=i,groups:=g,held:=.non,choices:=c,made:=0,found:=false,ended:=false },[]⟩
section
variable{P:Program}{w:World}{K:W.Frag}{mg:Str->Option Value}{base:Heap}{f C:Addr}{fd:FuncData}
inductive spInitI(C:Addr)(vs:List V)(H:Hp)(Q:VK):Prop
 |mk (m dx ra:Addr) (t:Str) (i:Int) (ys:List V) (rs:List Rw) (_:vs=[.ref m,.ref ra,.str t,.int i]) (_:H m=some (.ins C dx [])) (_:H ra=some (.tup ys)) (_:Paired (RowAt H) ys rs) (_:ys.length<=1000000) (_:(∀r∈rs,r.tame)) (_:0<=Tj rs) (_:Tj rs<=1000) (_:∀(c g:Addr) (H':Hp),H c=none->MAt C H' m (Ziz ra t i (.ref g) c)->H' g=some (.tup (List.replicate (Tj rs).toNat .non))->Gro [m] H H'->Q .non H')
def Z74(C:Addr):Sp:=fun vs H Q _=>spInitI C vs H Q
theorem Z6b{H:Hp}{v:V}{r:Rw}(h:RowAt H v r)(ht:r.tame):∃(a:Addr) (x:Str) (xs:List V),v=.ref a/\H a=some (.tup (.str x::xs))/\((decide (V.str x=V.str "close")=false/\r.close=none)∨(decide (V.str x=V.str "close")=true/\∃k,xs=[.int k]/\r.close=some k)):=by
 cases r with
 |pat hd =>
  obtain⟨a,kv,rfl,l,_⟩:=h
  obtain⟨xs,e⟩:=l.head
  exact⟨a,_,xs,rfl,e,.inl ⟨Z93 hd,rfl⟩⟩
 |tup ys =>
  obtain⟨a,rfl,e⟩:=h
  obtain⟨x,xs,rfl,hc⟩:=ht
  refine⟨a,x,xs,rfl,e,?_⟩
  by_cases hx:x="close"
  ·obtain⟨k,rfl⟩:=hc hx
   exact .inr ⟨decide_eq_true (by rw[hx]),k,rfl,by show(if x="close" then some k else none)=some k;rw[if_pos hx]⟩
  ·refine .inl ⟨decide_eq_false (fun z=>hx (by injection z)),?_⟩
   unfold Rw.close
   split
   ·rename_i heq
    injection heq with heq
    injection heq with h1 h2
    injection h1 with h1
    subst h1
    rw[if_neg hx]
   ·rfl
theorem Gro.obj{H:Hp}{m C dx:Addr}{fs fs':List (Str×V)}(h:H m=some (.ins C dx fs)):Gro [m] H (Zr H m (.ins C dx fs')):=Gro.ins (by simp) h _
abbrev Yg:Stmt:=Xd (top 41) 0
theorem Uv:FnScope ["self","rows","text","at"] ["self","rows","text","at"] (Z9 Yg):=Vh
theorem Zdo(T:Blt mg)(MT:Txt K mg C)(F:Fun K "__init__" "Machine.__init__" Yg f fd):FnOk P w K mg base Wp 1 f fd ["self","rows","text","at"] (Z74 C):=by
 refine F.ok Uv (fun vs H Q E h=>?_) (fun cdv A outer s H vs Q E hr h=>?_)
 ·obtain⟨m,dx,ra,t,i,ys,rs,rfl,_⟩:=h
  rfl
 obtain⟨m,dx,ra,t,i,ys,rs,rfl,h0,hra,hp,hz,htm,hc0,hc1,q⟩:=h
 refine Vf ?_
 intro Xz
 refine⟨_,(Z1 (Ya (pv 0) (pv 1) rfl)
  (Z1 (Ya (pv 0) (pv 2) rfl)
  (Z1 (Ya (pv 0) Z7 rfl)
  (Z1 (Ya (pv 0) (pv 3) rfl)
  (Z1 (Ya (pv 0) (Y7 Zdf (Zz (Z0 Z0c Z3)) (Zdb rfl rfl T.b_max (Z0 (J0 rfl (show CScope _ ["self","rows","text","at"] (Z9 Yg) _ from⟨rfl,by decide +kernel,rfl,by decide +kernel,by decide +kernel,by decide +kernel,by decide +kernel⟩) (Z1y (pv 1)) (fun _ _ _ _=>(Zd7 (Zd Y2 (Zl (r:=Z47 K) Zg (pv 0) Z7 (fun _ _=>rfl)) Zq (Zh _)))) (fun _ _ _ _=>(Zl (r:=Z47 K) Zg (pv 0) Z7 (fun _ _=>rfl)))) Z3) (Zd9 Z7 Zg0))) rfl)
  (Z1 (Ya (pv 0) Z0c rfl)
  (Z1 (Ya (pv 0) (Wt Z3) rfl)
  (Z1 (Ya (pv 0) Z7 rfl)
  (Z1 (Ya (pv 0) W1 rfl)
  (Z4 (Ya (pv 0) W1 rfl))))))))))),?_⟩
 refine Zfp ?_
 intro Ez Az1 Az2 Az3 Az4 Az5 Az6 Az7 Az8 Az9
 have hl:=Paired.length hp
 refine(Z6 rfl (Z6 rfl ⟨m,C,dx,Z6 rfl ⟨h0,MT.cl,MT.a1,by simp,?_⟩⟩))
 have g1:Gro [m] H (Zr H m (.ins C dx (Y6 "rows" (.ref ra) []))):=Gro.obj h0
 have e1:(Zr H m (.ins C dx (Y6 "rows" (.ref ra) []))) m=some (.ins C dx [("rows",.ref ra)]):=Z5
 generalize Zr H m (.ins C dx (Y6 "rows" (.ref ra) []))=H1 at *
 refine(Z6 rfl (Z6 rfl ⟨m,C,dx,Z6 rfl ⟨e1,MT.cl,MT.a2,by simp,?_⟩⟩))
 have g2:Gro [m] H1 (Zr H1 m (.ins C dx (Y6 "text" (.str t) [("rows",.ref ra)]))):=Gro.obj e1
 have e2:(Zr H1 m (.ins C dx (Y6 "text" (.str t) [("rows",.ref ra)]))) m=some (.ins C dx [("rows",.ref ra),("text",.str t)]):=by rw[Z5,Zc (by decide +kernel),V9]
 generalize Zr H1 m (.ins C dx (Y6 "text" (.str t) [("rows",.ref ra)]))=H2 at *
 refine(Z6 rfl ⟨m,C,dx,Z6 rfl ⟨e2,MT.cl,MT.a3,by simp,?_⟩⟩)
 have g3:Gro [m] H2 (Zr H2 m (.ins C dx (Y6 "row" (.int 0) [("rows",.ref ra),("text",.str t)]))):=Gro.obj e2
 have e3:(Zr H2 m (.ins C dx (Y6 "row" (.int 0) [("rows",.ref ra),("text",.str t)]))) m=some (.ins C dx [("rows",.ref ra),("text",.str t),("row",.int 0)]):=by rw[Z5,Zc (by decide +kernel),Zc (by decide +kernel),V9]
 generalize Zr H2 m (.ins C dx (Y6 "row" (.int 0) [("rows",.ref ra),("text",.str t)]))=H3 at *
 refine(Z6 rfl (Z6 rfl ⟨m,C,dx,Z6 rfl ⟨e3,MT.cl,MT.a4,by simp,?_⟩⟩))
 have g4:Gro [m] H3 (Zr H3 m (.ins C dx (Y6 "at" (.int i) [("rows",.ref ra),("text",.str t),("row",.int 0)]))):=Gro.obj e3
 have e4:(Zr H3 m (.ins C dx (Y6 "at" (.int i) [("rows",.ref ra),("text",.str t),("row",.int 0)]))) m=some (.ins C dx [("rows",.ref ra),("text",.str t),("row",.int 0),("at",.int i)]):=by rw[Z5,Zc (by decide +kernel),Zc (by decide +kernel),Zc (by decide +kernel),V9]
 generalize Zr H3 m (.ins C dx (Y6 "at" (.int i) [("rows",.ref ra),("text",.str t),("row",.int 0)]))=H4 at *
 have g14:=((g1.trans g2).trans g3).trans g4
 refine⟨sz,fun t1 ht1=>?_⟩
 have g5:Gro [m] H4 (Zr H4 t1 (.tup [.non])):=Gro.new ht1 _
 have f5:(Zr H4 t1 (.tup [.non])) t1=some (.tup [.non]):=Z5
 have e5:(Zr H4 t1 (.tup [.non])) m=some (.ins C dx [("rows",.ref ra),("text",.str t),("row",.int 0),("at",.int i)]):=by rw[Zo (Za e4 ht1)];exact e4
 generalize Zr H4 t1 (.tup [.non])=H5 at *
 have g15:=g14.trans g5
 have hra5:=g15.tups _ _ hra
 have hp5:=Y0 g15.tups hp
 refine(Z6 rfl ⟨ra,rfl,⟨ys,SqT.of hra5⟩,?_⟩)
 refine Z4g (n:=ys.length) (fun j zs H'=>H'=H5/\zs=(Wx (rs.take j)).map V.int/\zs.length<=j) ⟨rfl,rfl,Nat.le_refl _⟩ (Z9q hz) (fun j zs H' ⟨_,_,h⟩=>h) (fun j zs H' hj ⟨e,_⟩=>by rw[e];exact⟨ys,ys[j],SqT.of hra5,by simp[hj]⟩) (fun zs H' ⟨e,_⟩=>by rw[e];exact⟨ys,SqT.of hra5,Nat.le_refl _⟩) ?_ ?_
 ·rintro j zs H' x H'' hj ⟨rfl,rfl,hzl⟩ ⟨rfl,hx⟩
  have hx':=hx ys (SqT.of hra5)
  obtain⟨r,hri,hr'⟩:=Y9 hp5 hx'
  obtain⟨a,wd,xs,rfl,ha,hcl⟩:=Z6b hr' (htm r (List.mem_of_getElem? hri))
  have snoc:Wx (rs.take (j+1))=Wx (rs.take j)++r.close.toList:=by
   unfold Wx
   rw[Xo hri,List.filterMap_append]
   congr 1
  refine(Wo ha Z0p ⟨rfl,_,rfl,?_⟩)
  rcases hcl with⟨h1,h2⟩ | ⟨h1,k,rfl,h2⟩
  ·rw[h1,if_neg (by decide)]
   refine⟨rfl,?_,by omega⟩
   rw[snoc,h2]
   simp
  ·rw[h1,if_pos rfl]
   refine(Wo ha rfl ⟨rfl,?_,by simp at hzl ⊢;omega⟩)
   rw[snoc,h2]
   simp
 ·rintro zs H' ⟨rfl,rfl,_⟩ l6 hl6
  rw[hl,List.take_length]
  have g6:Gro [m] H' (Zr H' l6 (.lst ((Wx rs).map V.int))):=Gro.new hl6 _
  refine⟨l6,Wx rs,.int 0,rfl,rfl,SqL.of Z5,?_⟩
  have ev:(if Wx rs=[] then V.int 0 else V.int (Ziy (Wx rs)))=V.int (Tj rs):=by unfold Tj;split <;> rfl
  rw[ev]
  have f6:=g6.tups _ _ f5
  have e6:(Zr H' l6 (.lst ((Wx rs).map V.int))) m=some (.ins C dx [("rows",.ref ra),("text",.str t),("row",.int 0),("at",.int i)]):=by rw[Zo (Za e5 hl6)];exact e5
  generalize Zr H' l6 (.lst ((Wx rs).map V.int))=H6 at *
  have g16:=g15.trans g6
  have fin:∀(g:Addr) (H7:Hp),H7 g=some (.tup (List.replicate (Tj rs).toNat .non))->H7 m=some (.ins C dx [("rows",.ref ra),("text",.str t),("row",.int 0),("at",.int i)])->Gro [m] H H7 ->
    (W8 0) [some (.ref m),some (.ref ra),some (.str t),some (.int i)] H7 (fun x H2=>∃a C dx fs,x=.ref a/\H2 a=some (.ins C dx fs)/\Cls K C/\NoAttr K C "groups"/\fs.length<1000 /\
     (Z8 (Z9s K (W8 0) (tC .non) "held") (Z8 (Z9s K (W8 0) (Zi5 Z46) "choices") (Z8 (Z9s K (W8 0) (tC (.int 0)) "made") (Z8 (Z9s K (W8 0) (tC (.bl false)) "found") (Z9s K (W8 0) (tC (.bl false)) "ended"))))) { nx:=fun _ H'=>Q .non H',rt:=Q } [some (.ref m),some (.ref ra),some (.str t),some (.int i)] (Zr H2 a (.ins C dx (Y6 "groups" (.ref g) fs)))):=by
   intro g H7 hg e7 g17
   refine(Z6 rfl ⟨m,C,dx,Z6 rfl ⟨e7,MT.cl,MT.a5,by simp,?_⟩⟩)
   have g8:Gro [m] H7 (Zr H7 m (.ins C dx (Y6 "groups" (.ref g) [("rows",.ref ra),("text",.str t),("row",.int 0),("at",.int i)]))):=Gro.obj e7
   have e8:(Zr H7 m (.ins C dx (Y6 "groups" (.ref g) [("rows",.ref ra),("text",.str t),("row",.int 0),("at",.int i)]))) m=some (.ins C dx [("rows",.ref ra),("text",.str t),("row",.int 0),("at",.int i),("groups",.ref g)]):=by
    rw[Z5,Zc (by decide +kernel),Zc (by decide +kernel),Zc (by decide +kernel),Zc (by decide +kernel),V9]
   generalize Zr H7 m (.ins C dx (Y6 "groups" (.ref g) [("rows",.ref ra),("text",.str t),("row",.int 0),("at",.int i)]))=H8 at *
   refine(Z6 rfl ⟨m,C,dx,Z6 rfl ⟨e8,MT.cl,MT.a6,by simp,?_⟩⟩)
   have g9:Gro [m] H8 (Zr H8 m (.ins C dx (Y6 "held" .non [("rows",.ref ra),("text",.str t),("row",.int 0),("at",.int i),("groups",.ref g)]))):=Gro.obj e8
   have e9:(Zr H8 m (.ins C dx (Y6 "held" .non [("rows",.ref ra),("text",.str t),("row",.int 0),("at",.int i),("groups",.ref g)]))) m=some (.ins C dx [("rows",.ref ra),("text",.str t),("row",.int 0),("at",.int i),("groups",.ref g),("held",.non)]):=by
    rw[Z5,Zc (by decide +kernel),Zc (by decide +kernel),Zc (by decide +kernel),Zc (by decide +kernel),Zc (by decide +kernel),V9]
   generalize Zr H8 m (.ins C dx (Y6 "held" .non [("rows",.ref ra),("text",.str t),("row",.int 0),("at",.int i),("groups",.ref g)]))=H9 at *
   refine⟨sz,fun c hc=>?_⟩
   have gA:Gro [m] H9 (Zr H9 c (.lst [])):=Gro.new hc _
   have fA:(Zr H9 c (.lst [])) c=some (.lst []):=Z5
   have mc:m≠c:=Za e9 hc
   have eA:(Zr H9 c (.lst [])) m=some (.ins C dx [("rows",.ref ra),("text",.str t),("row",.int 0),("at",.int i),("groups",.ref g),("held",.non)]):=by rw[Zo mc];exact e9
   generalize Zr H9 c (.lst [])=HA at *
   refine(Z6 rfl ⟨m,C,dx,Z6 rfl ⟨eA,MT.cl,MT.a7,by simp,?_⟩⟩)
   have gB:Gro [m] HA (Zr HA m (.ins C dx (Y6 "choices" (.ref c) [("rows",.ref ra),("text",.str t),("row",.int 0),("at",.int i),("groups",.ref g),("held",.non)]))):=Gro.obj eA
   have eB:(Zr HA m (.ins C dx (Y6 "choices" (.ref c) [("rows",.ref ra),("text",.str t),("row",.int 0),("at",.int i),("groups",.ref g),("held",.non)]))) m=some (.ins C dx [("rows",.ref ra),("text",.str t),("row",.int 0),("at",.int i),("groups",.ref g),("held",.non),("choices",.ref c)]):=by
    rw[Z5,Zc (by decide +kernel),Zc (by decide +kernel),Zc (by decide +kernel),Zc (by decide +kernel),Zc (by decide +kernel),Zc (by decide +kernel),V9]
   generalize Zr HA m (.ins C dx (Y6 "choices" (.ref c) [("rows",.ref ra),("text",.str t),("row",.int 0),("at",.int i),("groups",.ref g),("held",.non)]))=HB at *
   refine(Z6 rfl ⟨m,C,dx,Z6 rfl ⟨eB,MT.cl,MT.a8,by simp,?_⟩⟩)
   have gC:Gro [m] HB (Zr HB m (.ins C dx (Y6 "made" (.int 0) [("rows",.ref ra),("text",.str t),("row",.int 0),("at",.int i),("groups",.ref g),("held",.non),("choices",.ref c)]))):=Gro.obj eB
   have eC:(Zr HB m (.ins C dx (Y6 "made" (.int 0) [("rows",.ref ra),("text",.str t),("row",.int 0),("at",.int i),("groups",.ref g),("held",.non),("choices",.ref c)]))) m=some (.ins C dx [("rows",.ref ra),("text",.str t),("row",.int 0),("at",.int i),("groups",.ref g),("held",.non),("choices",.ref c),("made",.int 0)]):=by
    rw[Z5,Zc (by decide +kernel),Zc (by decide +kernel),Zc (by decide +kernel),Zc (by decide +kernel),Zc (by decide +kernel),Zc (by decide +kernel),Zc (by decide +kernel),V9]
   generalize Zr HB m (.ins C dx (Y6 "made" (.int 0) [("rows",.ref ra),("text",.str t),("row",.int 0),("at",.int i),("groups",.ref g),("held",.non),("choices",.ref c)]))=HC at *
   refine(Z6 rfl ⟨m,C,dx,Z6 rfl ⟨eC,MT.cl,MT.a9,by simp,?_⟩⟩)
   have gD:Gro [m] HC (Zr HC m (.ins C dx (Y6 "found" (.bl false) [("rows",.ref ra),("text",.str t),("row",.int 0),("at",.int i),("groups",.ref g),("held",.non),("choices",.ref c),("made",.int 0)]))):=Gro.obj eC
   have eD:(Zr HC m (.ins C dx (Y6 "found" (.bl false) [("rows",.ref ra),("text",.str t),("row",.int 0),("at",.int i),("groups",.ref g),("held",.non),("choices",.ref c),("made",.int 0)]))) m=some (.ins C dx [("rows",.ref ra),("text",.str t),("row",.int 0),("at",.int i),("groups",.ref g),("held",.non),("choices",.ref c),("made",.int 0),("found",.bl false)]):=by
    rw[Z5,Zc (by decide +kernel),Zc (by decide +kernel),Zc (by decide +kernel),Zc (by decide +kernel),Zc (by decide +kernel),Zc (by decide +kernel),Zc (by decide +kernel),Zc (by decide +kernel),V9]
   generalize Zr HC m (.ins C dx (Y6 "found" (.bl false) [("rows",.ref ra),("text",.str t),("row",.int 0),("at",.int i),("groups",.ref g),("held",.non),("choices",.ref c),("made",.int 0)]))=HD at *
   refine(Z6 rfl ⟨m,C,dx,Z6 rfl ⟨eD,MT.cl,MT.a10,by simp,?_⟩⟩)
   have gE:Gro [m] HD (Zr HD m (.ins C dx (Y6 "ended" (.bl false) [("rows",.ref ra),("text",.str t),("row",.int 0),("at",.int i),("groups",.ref g),("held",.non),("choices",.ref c),("made",.int 0),("found",.bl false)]))):=Gro.obj eD
   have eE:(Zr HD m (.ins C dx (Y6 "ended" (.bl false) [("rows",.ref ra),("text",.str t),("row",.int 0),("at",.int i),("groups",.ref g),("held",.non),("choices",.ref c),("made",.int 0),("found",.bl false)]))) m=some (.ins C dx (Ziz ra t i (.ref g) c).s.fs):=by
    rw[Z5,Zc (by decide +kernel),Zc (by decide +kernel),Zc (by decide +kernel),Zc (by decide +kernel),Zc (by decide +kernel),Zc (by decide +kernel),Zc (by decide +kernel),Zc (by decide +kernel),Zc (by decide +kernel),V9]
    rfl
   have gAE:=((gB.trans gC).trans gD).trans gE
   have fE:=gAE.keep c _ fA (by simpa using Ne.symm mc)
   have gg:=(((g17.trans g8).trans g9).trans gA).trans gAE
   have hnc:H c=none:=by
    cases hh:H c with
    |none=>rfl
    |some o =>
     exfalso
     have:=((g17.trans g8).trans g9).keep c o hh (by simpa using Ne.symm mc)
     rw[hc]at this
     cases this
   exact q c g _ hnc ⟨⟨dx,eE⟩,[],fE,.nil⟩ (gAE.tups _ _ (gA.tups _ _ (g9.tups _ _ (g8.tups _ _ hg)))) gg
  refine⟨t1,Tj rs,[.non],rfl,rfl,f6,hc0,by simp;omega,hc1,fun hk1=>?_,fun _ _ p hp'=>?_,by simp⟩
  ·exact fin t1 H6 (by rw[f6,hk1];rfl) e6 g16
  ·refine fin p _ ?_ (by rw[Zo (Za e6 hp')];exact e6) (g16.tup hp')
   rw[Z5]
   congr 2
   induction (Tj rs).toNat with
   |zero=>rfl
   |succ n ih=>rw[List.replicate_succ,List.flatten_cons,ih];rfl
end
inductive Ez where
 |pat (h:Hd) | try_ (z:Int) | go (z:Int) | found
def Ez.rw:Ez->Rw
 |.pat h=>.pat h | .try_ z=>.tup [.str "try",.int z] | .go z=>.tup [.str "go",.int z] | .found=>.tup [.str "found"]
def MM.push(z:Int)(M:MM):MM:=⟨M.s,M.cs++[(z,M.s.place,M.s.groups,M.s.held)]⟩
def MM.goTo(z:Int)(M:MM):MM:=⟨{ M.s with row:=z },M.cs⟩
def Zjv:Hd->MM->MM
 |.beg=>MM.doBegin
 |.fin=>MM.doEnd
 |h=>MM.doSign h
def Ez.act:Ez->MM->MM
 |.pat h=>Zjv h
 |.try_ z=>MM.push z
 |.go z=>MM.goTo z
 |.found=>MM.doFound
theorem Z03{α β:Type}{F:α->β->Prop}:∀ {xs:List α} {ys:List β} {i:Nat} {y:β},Paired F xs ys->ys[i]? = some y->∃x,xs[i]? = some x/\F x y
 |_,_,_,_,.nil,h=>by simp at h
 |_,_,0,_,.cons r _,h=>by
  simp only[List.getElem?_cons_zero,Option.some.injEq]at h
  subst h
  exact(Z6 rfl r)
 |_,_,i+1,_,.cons _ t,h=>by
  rw[List.getElem?_cons_succ]at h
  obtain⟨x,e,q⟩:=Z03 t h
  exact⟨x,by rw[List.getElem?_cons_succ];exact e,q⟩
section
variable{P:Program}{w:World}{K:W.Frag}{mg:Str->Option Value}{base:Heap}{f C:Addr}{fd:FuncData}{h:Heap}
abbrev Zi9(e:Ez):Hp->Addr->Prop:=fun H a=>RowAt H (.ref a) e.rw
abbrev Tt:Stmt:=top 25
theorem Z8u:FnScope ["machine","row"] ["machine","row"] (Z9 Tt):=Vh
theorem Z97{z:Int}(MT:Txt K mg C)(F:Fun K "do_try" "do_try" Tt f fd):FnOk P w K mg base Wp 1 f fd ["machine","row"] (Z21 C Z9t (Zi9 (.try_ z)) (MM.push z)):=by
 refine F.ok Z8u (fun vs H Q E h=>?_) (fun cdv A outer s H vs Q E hr h=>?_)
 ·obtain⟨m,a,M,rfl,_⟩:=h
  rfl
 obtain⟨m,a,M,rfl,hM,hz,_,⟨a',e,ha⟩,q⟩:=h
 cases e
 refine Vf ?_
 intro Xz
 refine⟨_,(Z4 (Zf (Yt PySem.F.plainAttrs_list PySem.F.slot_list_append PySem.F.type_list_append Zy (Zn (pv 0) rfl) (Z0 (Zz (Z0 (Zl Zg (pv 1) Z7 (fun _ _=>rfl)) (Z0 (Zn (pv 0) rfl) (Z0 (Zn (pv 0) rfl) (Z0 (Zn (pv 0) rfl) Z3))))) Z3)))),?_⟩
 have hne:=hM.ne
 obtain⟨⟨dx,e1⟩,vs,hv,hp⟩:=id hM
 have hl:=Paired.length hp
 refine(Z6 rfl ⟨m,C,dx,_,_,rfl,e1,MT.cl,MT.a7,Yo _,.inl ⟨rfl,_,SqL.of hv⟩,Wo ha rfl ⟨_,rfl,m,C,dx,_,_,rfl,e1,MT.cl,MT.a4,Wi _,_,rfl,m,C,dx,_,_,rfl,e1,MT.cl,MT.a5,Xr _,_,rfl,m,C,dx,_,_,rfl,e1,MT.cl,MT.a6,U1 _,sz,fun t ht=>?_⟩⟩)
 refine⟨M.s.choices,vs,Z6 rfl ⟨rfl,Xj hv ht,Z9q (by omega),?_⟩⟩
 have g1:Gro [M.s.choices] H _:=Wl (zs:=vs++[V.ref t]) (o:=.tup [.int z,.int M.s.place,M.s.groups,M.s.held]) hv ht
 refine q _ ⟨⟨dx,?_⟩,vs++[.ref t],Z5,?_⟩ (g1.mono (by simp))
 ·rw[Zo hne,Zo (Za e1 ht)]
  exact e1
 ·exact(Paired.mapP hp fun _ _ q=>q.mono g1.tups).snoc ⟨t,rfl,Wj hv ht⟩
abbrev Z0w:Stmt:=top 26
theorem Za2:FnScope ["machine","row"] ["machine","row"] (Z9 Z0w):=Vh
theorem Zan{z:Int}(MT:Txt K mg C)(F:Fun K "do_go" "do_go" Z0w f fd):FnOk P w K mg base Wp 1 f fd ["machine","row"] (Z21 C Z9t (Zi9 (.go z)) (MM.goTo z)):=by
 refine F.ok Za2 (fun vs H Q E h=>?_) (fun cdv A outer s H vs Q E hr h=>?_)
 ·obtain⟨m,a,M,rfl,_⟩:=h
  rfl
 obtain⟨m,a,M,rfl,hM,hz,_,⟨a',e,ha⟩,q⟩:=h
 cases e
 refine Vf ?_
 intro Xz
 refine⟨_,(Z4 (Ya (pv 0) (Zl Zg (pv 1) Z7 (fun _ _=>rfl)) rfl)),?_⟩
 obtain⟨⟨dx,e1⟩,_⟩:=id hM
 refine(Wo ha rfl ⟨_,rfl,m,C,dx,_,rfl,e1,MT.cl,MT.a3,Yr _,?_⟩)
 rw[Z0b]
 exact q _ (hM.put (s':={ M.s with row:=z }) e1 rfl) (Gro.ins (by simp) e1 _)
def Zkm(es:List Ez)(M:MM):MM:=(es.getD M.s.row.toNat .found).act M.next
def its(es:List Ez):Nat->MM->MM
 |0,M=>M
 |k+1,M=>Zkm es (its es k M)
theorem Z8y{H:Hp}{v:V}{r:Rw}(h:RowAt H v r):∃a,v=.ref a:=by
 cases r with
 |pat hd=>obtain⟨a,kv,e,_⟩:=h;exact⟨a,e⟩
 |tup xs=>obtain⟨a,e,_⟩:=h;exact⟨a,e⟩
def MDef(K:W.Frag)(C:Addr)(m qual:Str)(st:Stmt)(ps:List Str):Prop:=∃f fd,Fun K m qual st f fd/\Meth K C m f/\Binds K fd ps []
theorem Xb{C f:Addr}{m qual:Str}{st:Stmt}{ps:List Str}{oc:Value}{od an:Option Addr}{osl:Array (Option Value)}{kV doc pm cdv ct:Value}(a:W.findIn K (.ref C) m=some (some (.ref f)))(i:W.isFn K (.ref f)=true)
  (l:K.lookup f=some ⟨oc,od,.func (W.fnOf m qual (Xn st) (X0 st) (Z9 st) .none kV doc pm an cdv ct),osl⟩) (c:W.codeIn K cdv qual=true) (k:W.keepIn K (.ref f)=true)
  (hb:∀(kV doc pm:Value) (an:Option Addr) (cdv ct:Value) (us:List Value),us.length=ps.length->bindArgs (W.fnOf m qual (Xn st) (X0 st) (Z9 st) .none kV doc pm an cdv ct) ⟨us,[]⟩=pure (ps.zip us)):MDef K C m qual st ps :=
 ⟨f,_,Tf (st:=st) l c k,⟨a,i,k⟩,(Tf (st:=st) l c k).binds hb⟩
theorem Zf1{C:Addr}(pg:W.plainGet K C Str.empty=true)(hd:W.hasDictIn K C=true)(po:W.plainOver K C=true)(sa:W.findIn K (.ref C) "__setattr__" = some (some (.builtin "object.__setattr__")))
  (a1:W.findIn K (.ref C) "rows" = some none) (a2:W.findIn K (.ref C) "text" = some none) (a3:W.findIn K (.ref C) "row" = some none) (a4:W.findIn K (.ref C) "at" = some none) (a5:W.findIn K (.ref C) "groups" = some none) (a6:W.findIn K (.ref C) "held" = some none)
  (a7:W.findIn K (.ref C) "choices" = some none) (a8:W.findIn K (.ref C) "made" = some none) (a9:W.findIn K (.ref C) "found" = some none) (a10:W.findIn K (.ref C) "ended" = some none):Txt K mg C:=⟨⟨pg,hd,po,sa⟩,a1,a2,a3,a4,a5,a6,a7,a8,a9,a10⟩
structure MachDefs(K:W.Frag)(mg:Str->Option Value)(C:Addr):Prop where
 mg_:mg "Machine" = some (.ref C)
 tx:Txt K mg C
 mks:W.makesIn K C=true
 kc:W.keepIn K (.ref C)=true
 init:MDef K C "__init__" "Machine.__init__" Yg ["self","rows","text","at"]
 way:MDef K C "way" "Machine.way" W6 ["self","most"]
 moves:MDef K C "moves" "Machine.moves" Xf ["self"]
 move:MDef K C "move" "Machine.move" Xv ["self"]
 enter:MDef K C "enter" "Machine.enter" Xh ["self","state"]
 go_back:MDef K C "go_back" "Machine.go_back" Yx ["self"]
def Dn(K:W.Frag)(ds:List (Uh×V))(wd x:Str)(st:Stmt)(ps:List Str):Prop:=∃f fd,Z2c ds (Sum.inr wd)=some (.ref f)/\Fun K x x st f fd/\Binds K fd ps []
theorem Xe{ds:List (Uh×V)}{wd x:Str}{st:Stmt}{ps:List Str}{f:Addr}{oc:Value}{od an:Option Addr}{osl:Array (Option Value)}{kV doc pm cdv ct:Value}(v:Z2c ds (Sum.inr wd)=some (.ref f))
  (l:K.lookup f=some ⟨oc,od,.func (W.fnOf x x (Xn st) (X0 st) (Z9 st) .none kV doc pm an cdv ct),osl⟩) (c:W.codeIn K cdv x=true) (k:W.keepIn K (.ref f)=true)
  (hb:∀(kV doc pm:Value) (an:Option Addr) (cdv ct:Value) (us:List Value),us.length=ps.length->bindArgs (W.fnOf x x (Xn st) (X0 st) (Z9 st) .none kV doc pm an cdv ct) ⟨us,[]⟩=pure (ps.zip us)):Dn K ds wd x st ps :=
 ⟨f,_,v,Tf (st:=st) l c k,(Tf (st:=st) l c k).binds hb⟩
theorem Dn.tells{P:Program}{w:World}{base:Heap}{k:Nat}{ds:List (Uh×V)}{wd x:Str}{st:Stmt}{ps:List Str}{sp:Sp}(D:Dn K ds wd x st ps)(h:∀f fd,Fun K x x st f fd->FnOk P w K mg base Wp k f fd ps sp):Tells P w K mg base k ds wd sp:=by
 obtain⟨f,fd,v,F,b⟩:=D
 exact⟨f,fd,ps,v,h f fd F,F.kp,b⟩
theorem Y1{w:World}{h:Int}{x:Str}{t:Tok}{a:Addr}(e:h=PyData.keyHash w.params x):Zcn w ⟨h,.str x t,.ref a⟩ (.inr x,.ref a):=⟨Jr x t,e,rfl⟩
theorem MDef.own{m qual:Str}{st:Stmt}{ps:List Str}{k:Nat}{sp:Sp}(D:MDef K C m qual st ps)(h:∀f fd,Fun K m qual st f fd->FnOk P w K mg base Wp k f fd ps sp):OwnM P w K mg base k C m ps sp:=by
 obtain⟨f,fd,F,M,b⟩:=D
 exact⟨f,fd,h f fd F,M,b⟩
theorem Zac(T:Blt mg)(MD:MachDefs K mg C):OwnC P w K mg base 1 C "Machine" ["self","rows","text","at"] (Z74 C):=by
 obtain⟨f,fd,F,M,b⟩:=MD.init
 exact⟨f,fd,Zdo T MD.tx F,⟨MD.mks,M.at_,M.fn,MD.kc⟩,MD.mg_,b⟩
theorem Z94(MD:MachDefs K mg C):OwnM P w K mg base 1 C "moves" ["self"] (Z3m C):=MD.moves.own fun _ _ F=>Zak MD.tx F
inductive spHoldMI(C:Addr)(vs:List V)(H:Hp)(Q:VK):Prop
 |mk (m:Addr) (k:Int) (M:MM) (_:vs=[.ref m,.int k]) (_:MAt C H m M) (_:∀(H':Hp) (p:Addr),MAt C H' m ⟨{ M.s with held:=.ref p },M.cs⟩->H' p=some (.tup [.int k,.int M.s.place,M.s.held])->Gro [m] H H'->Q .non H')
def J4(C:Addr):Sp:=fun vs H Q _=>spHoldMI C vs H Q
inductive spLetMI(C:Addr)(vs:List V)(H:Hp)(Q:VK):Prop
 |mk (m p:Addr) (M:MM) (a b v:V) (_:vs=[.ref m]) (_:MAt C H m M) (_:M.s.held=.ref p) (_:H p=some (.tup [a,b,v])) (_:∀H':Hp,MAt C H' m ⟨{ M.s with held:=v },M.cs⟩->Gro [m] H H'->Q (.ref p) H')
def T8(C:Addr):Sp:=fun vs H Q _=>spLetMI C vs H Q
inductive spDropMI(C:Addr)(vs:List V)(H:Hp)(Q:VK):Prop
 |mk (m:Addr) (k:Nat) (M:MM) (_:vs=[.ref m,.int k]) (_:MAt C H m M) (_:M.cs.length<=1000000) (_:∀H':Hp,MAt C H' m ⟨M.s,M.cs.take k⟩->Gro [M.s.choices] H H'->Q .non H')
def J5(C:Addr):Sp:=fun vs H Q _=>spDropMI C vs H Q
inductive spEntMI(C:Addr)(vs:List V)(H:Hp)(Q:VK):Prop
 |mk (m g:Addr) (k:Int) (M:MM) (es:List V) (e:V) (_:vs=[.ref m,.int k]) (_:MAt C H m M) (_:M.s.groups=.ref g) (_:H g=some (.tup es)) (_:k<=es.length) (_:es.length<=1000) (_:Z7f es (k-1)=some e) (_:Q e H)
def Z4a(C:Addr):Sp:=fun vs H Q _=>spEntMI C vs H Q
inductive spWithI(vs:List V)(H:Hp)(Q:VK):Prop
 |mk (g:Addr) (k:Int) (x y:V) (es:List V) (_:vs=[.ref g,.int k,x,y]) (_:H g=some (.tup es)) (_:1<=k) (_:k<=es.length) (_:es.length<=900) (_:∀(r p:Addr) (H':Hp),H' p=some (.tup [x,y])->H' r=some (.tup (es.take (k-1).toNat++[.ref p]++es.drop k.toNat))->Gro [] H H'->Q (.ref r) H')
def Z6z:Sp:=fun vs H Q _=>spWithI vs H Q
abbrev Xw:Stmt:=Xd (top 41) 7
theorem Z0i:FnScope ["self","number"] ["self","number"] (Z9 Xw):=Vh
theorem Zdp(MT:Txt K mg C)(F:Fun K "hold" "Machine.hold" Xw f fd):FnOk P w K mg base Wp 1 f fd ["self","number"] (J4 C):=by
 refine F.ok Z0i (fun vs H Q E h=>?_) (fun cdv A outer s H vs Q E hr h=>?_)
 ·obtain⟨m,k,M,rfl,_⟩:=h
  rfl
 obtain⟨m,k,M,rfl,hM,q⟩:=h
 refine Vf ?_
 intro Xz
 refine⟨_,(Z4 (Ya (pv 0) (Zz (Z0 (pv 1) (Z0 (Zn (pv 0) rfl) (Z0 (Zn (pv 0) rfl) Z3)))) rfl)),?_⟩
 obtain⟨⟨dx,h1⟩,_⟩:=id hM
 refine(Z6 rfl (Z6 rfl ⟨m,C,dx,_,_,rfl,h1,MT.cl,MT.a4,Wi _,Z6 rfl ⟨m,C,dx,_,_,rfl,h1,MT.cl,MT.a6,U1 _,sz,fun p hp=>?_⟩⟩))
 have hM1:=hM.new (o:=.tup [.int k,.int M.s.place,M.s.held]) hp
 have e1:(Zr H p (.tup [.int k,.int M.s.place,M.s.held])) m=some (.ins C dx M.s.fs):=by rw[Zo (Za h1 hp)];exact h1
 have ep:(Zr H p (.tup [.int k,.int M.s.place,M.s.held])) p=some (.tup [.int k,.int M.s.place,M.s.held]):=Z5
 have g1:=Gro.new (S:=[m]) hp (.tup [.int k,.int M.s.place,M.s.held])
 generalize Zr H p (.tup [.int k,.int M.s.place,M.s.held])=H1 at *
 refine(Z6 rfl ⟨m,C,dx,Z6 rfl ⟨e1,MT.cl,MT.a6,Yr _,?_⟩⟩)
 rw[J9]
 have g2:Gro [m] H1 (Zr H1 m (.ins C dx ({ M.s with held:=.ref p }:MS).fs)):=Gro.ins (by simp) e1 _
 exact q _ p (hM1.put (s':={ M.s with held:=.ref p }) e1 rfl) (g2.tups _ _ ep) (g1.trans g2)
abbrev X4:Stmt:=Xd (top 41) 8
theorem sc_Machine_let_go:FnScope ["self","pair"] ["self"] (Z9 X4):=Vh
theorem Z96(MT:Txt K mg C)(F:Fun K "let_go" "Machine.let_go" X4 f fd):FnOk P w K mg base Wp 1 f fd ["self"] (T8 C):=by
 refine F.ok sc_Machine_let_go (fun vs H Q E h=>?_) (fun cdv A outer s H vs Q E hr h=>?_)
 ·obtain⟨m,p,M,a,b,v,rfl,_⟩:=h
  rfl
 obtain⟨m,p,M,a,b,v,rfl,hM,hh,hp,q⟩:=h
 refine Vf ?_
 intro Xz
 refine⟨_,(Z1 (pS 1 sc_Machine_let_go.nd (Zn (pv 0) rfl))
  (Z1 (Ya (pv 0) (Zl Zg (pv 1) Z7 (fun _ _=>rfl)) rfl)
  (Z4 (Zk (pv 1))))),?_⟩
 refine Z1v ?_
 intro Ez Az1 Az2
 obtain⟨⟨dx,h1⟩,_⟩:=id hM
 refine(Z6 rfl ⟨m,C,dx,_,_,rfl,h1,MT.cl,MT.a6,(by rw[U1,hh]),?_⟩)
 refine(Wo hp rfl ⟨_,rfl,m,C,dx,_,rfl,h1,MT.cl,MT.a6,Yr _,?_⟩)
 rw[J9]
 exact(Z6 rfl (q _ (hM.put (s':={ M.s with held:=v }) h1 rfl) (Gro.ins (by simp) h1 _)))
abbrev Yf:Stmt:=Xd (top 41) 6
theorem Vi:FnScope ["self","size"] ["self","size"] (Z9 Yf):=Vh
theorem Zdt(T:Blt mg)(MT:Txt K mg C)(F:Fun K "drop_choices" "Machine.drop_choices" Yf f fd):FnOk P w K mg base Wp 1 f fd ["self","size"] (J5 C):=by
 refine F.ok Vi (fun vs H Q E h=>?_) (fun cdv A outer s H vs Q E hr h=>?_)
 ·obtain⟨m,k,M,rfl,_⟩:=h
  rfl
 obtain⟨m,k,M,rfl,hM,hz,q⟩:=h
 refine Vf ?_
 intro Xz
 refine⟨_,(Z4 (Tw PassesOwn.never (Zd Zca (Ze Zw rfl T.b_len PyProof.Rows.Boot.«len» (Z0 (Zn (pv 0) rfl) Z3)) (pv 1) (Zh _)) (Z4 (Zf (Zbp PySem.F.plainAttrs_list PySem.F.slot_list_pop PySem.F.type_list_pop Zbt (Zn (pv 0) rfl)))))),?_⟩
 refine Zfr ?_
 intro Ez Az1
 refine Z9x (fun σ H'=>∃j,σ=[some (.ref m),some (.int k)]/\MAt C H' m ⟨M.s,M.cs.take j⟩/\(k<=j∨j=M.cs.length)/\j<=M.cs.length/\Gro [M.s.choices] H H') (fun σ H'=>match H' M.s.choices with | some (.lst vs)=>vs.length | _=>0) ⟨M.cs.length,rfl,by rw[List.take_length];exact hM,.inr rfl,Nat.le_refl _,Gro.refl⟩ ?_ ?_
 ·rintro σ H1 ⟨j,rfl,hM1,hj,hjl,g1⟩
  have hne:=hM1.ne
  obtain⟨⟨dx,h1⟩,vs,hv,hp⟩:=id hM1
  have hl:=Paired.length hp
  have hv':H1 M.s.choices=some (.lst vs):=hv
  have hvl:vs.length=j:=by rw[hl];show(M.cs.take j).length=j;rw[List.length_take];omega
  refine(Z6 rfl ⟨m,C,dx,_,_,rfl,h1,MT.cl,MT.a7,Yo _,M.s.choices,vs,rfl,.inl (SqL.of hv'),Z6 rfl (Wc rfl rfl (Z6 rfl (Wq (fun z=>?_) (fun z=>?_))))⟩)
  ·have hkj:k<j:=by have:=of_decide_eq_true z;omega
   have hx:vs[vs.length-1]? = some (vs[vs.length-1]'(by omega)):=List.getElem?_eq_getElem _
   refine(Z6 rfl ⟨m,C,dx,_,_,rfl,h1,MT.cl,MT.a7,Yo _,.inl ⟨rfl,_,SqL.of hv'⟩,M.s.choices,vs,Z6 rfl ⟨rfl,hv',hx,?_⟩⟩)
   have g2:Gro [M.s.choices] H1 (Zr H1 M.s.choices (.lst vs.dropLast)):=Gro.set (by simp) hv' _
   refine⟨⟨j-1,rfl,⟨⟨dx,by rw[Zo hne];exact h1⟩,vs.dropLast,Z5,?_⟩,.inl (by omega),by omega,g1.trans g2⟩,?_⟩
   ·have:=Paired.mapP (Z02 hp) fun _ _ q=>q.mono g2.tups
    have e:(M.cs.take j).dropLast=M.cs.take (j-1):=by rw[List.dropLast_eq_take,List.take_take,List.length_take];congr 1;omega
    show Paired _ _ (M.cs.take (j-1))
    rw[← e]
    exact this
   ·show(match(Zr H1 M.s.choices (.lst vs.dropLast)) M.s.choices with | some (.lst vs)=>vs.length | _=>0)<(match H1 M.s.choices with | some (.lst vs)=>vs.length | _=>0)
    rw[Z5,hv']
    show vs.dropLast.length<vs.length
    rw[List.length_dropLast]
    omega
  ·have hkj:j<=k:=by
    have:¬(k:Int)<vs.length:=fun z'=>z (decide_eq_true z')
    omega
   refine q H1 ?_ g1
   have:M.cs.take k=M.cs.take j:=by
    rcases hj with h | h
    ·rw[show k=j by omega]
    ·rw[List.take_of_length_le (by omega),List.take_of_length_le (by omega)]
   rw[this]
   exact hM1
 ·intro σ H1 Q1 Q2 hQ h
  obtain⟨x,hx,a,b,d,e,f',r1,r2,r3,r4,r5,p,ys,r6,r7,x2,r8,i,j,r9,r10,b2,r11,r12⟩:=h
  exact⟨x,hx,a,b,d,e,f',r1,r2,r3,r4,r5,p,ys,r6,r7,x2,r8,i,j,r9,r10,b2,r11,hQ _ _ r12⟩
abbrev Xg:Stmt:=Xd (top 41) 9
theorem Je:FnScope ["self","number"] ["self","number"] (Z9 Xg):=Vh
theorem Zam(T:Blt mg)(MT:Txt K mg C)(F:Fun K "entry" "Machine.entry" Xg f fd):FnOk P w K mg base Wp 1 f fd ["self","number"] (Z4a C):=by
 refine F.ok Je (fun vs H Q E h=>?_) (fun cdv A outer s H vs Q E hr h=>?_)
 ·obtain⟨m,g,k,M,es,e,rfl,_⟩:=h
  rfl
 obtain⟨m,g,k,M,es,e,rfl,hM,hg,hge,hk,hl,hat,q⟩:=h
 refine Vf ?_
 intro Xz
 refine⟨_,(Z4 (Zk (Xi (Zd Zhv (pv 1) (Ze Zw rfl T.b_len PyProof.Rows.Boot.«len» (Z0 (Zn (pv 0) rfl) Z3)) (Zh _)) (Zl Zg (Zn (pv 0) rfl) (Y7 Vk (pv 1) Z7) (fun _ _=>rfl)) Z0c))),?_⟩
 obtain⟨⟨dx,h1⟩,_⟩:=id hM
 have hfs:M.s.fs.lookup ("groups":Str)=some (.ref g):=by rw[Xr,hg]
 refine(Z6 rfl (Z6 rfl ⟨m,C,dx,_,_,rfl,h1,MT.cl,MT.a5,hfs,g,es,rfl,.inr (SqT.of hge),Wc rfl rfl (Z6 rfl (Zj (decide_eq_true hk) ?_))⟩))
 exact⟨_,rfl,m,C,dx,_,_,rfl,h1,MT.cl,MT.a5,hfs,_,rfl,_,_,rfl,rfl,g,es,_,_,rfl,rfl,SqT.of hge,hat,q⟩
abbrev X5:Stmt:=top 13
theorem Z25:FnScope ["groups","number","begin","end"] ["groups","number","begin","end"] (Z9 X5):=Vh
theorem Zdj(F:Fun K "with_entry" "with_entry" X5 f fd):FnOk P w K mg base Wp 1 f fd ["groups","number","begin","end"] Z6z:=by
 refine F.ok Z25 (fun vs H Q E h=>?_) (fun cdv A outer s H vs Q E hr h=>?_)
 ·obtain⟨g,k,x,y,es,rfl,_⟩:=h
  rfl
 obtain⟨g,k,x,y,es,rfl,hg,hk1,hk2,hl,q⟩:=h
 obtain⟨j,rfl⟩:∃j:Nat,k=((j+1:Nat):Int):=⟨(k-1).toNat,by omega⟩
 refine Vf ?_
 intro Xz
 refine⟨_,(Z4 (Zk (Y7 Z80 (Y7 Z80 (Y5 Z1t (pv 0) Yy (Y3 (Y7 Vk (pv 1) Z7))) (Zz (Z0 (Zz (Z0 (pv 2) (Z0 (pv 3) Z3))) Z3))) (Y5 Z1t (pv 0) (Y3 (pv 1)) Yy)))),?_⟩
 refine(Z6 rfl (Z6 rfl (Wc rfl rfl (Z6 rfl ⟨g,es,rfl,SqT.of hg,?nw1,fun p1 hp1=>?_⟩))))
 case nw1 =>
  rw[show((j+1:Nat):Int)-1=(j:Nat) by omega,HT.sIx_nat]
  omega
 rw[show((j+1:Nat):Int)-1=(j:Nat) by omega,Zgs (by omega)]
 have g1:=Gro.new (S:=[]) hp1 (.tup (es.take j))
 have e1:(Zr H p1 (.tup (es.take j))) p1=some (.tup (es.take j)):=Z5
 generalize Zr H p1 (.tup (es.take j))=H1 at *
 refine(Z6 rfl (Z6 rfl ⟨sz,fun p2 hp2=>⟨sz,fun p3 hp3=>?_⟩⟩))
 have g2:Gro [] H1 (Zr (Zr H1 p2 (.tup [x,y])) p3 (.tup [.ref p2])):=(Gro.new hp2 _).tup hp3
 have e2:(Zr (Zr H1 p2 (.tup [x,y])) p3 (.tup [.ref p2])) p3=some (.tup [.ref p2]):=Z5
 have e3:(Zr (Zr H1 p2 (.tup [x,y])) p3 (.tup [.ref p2])) p2=some (.tup [x,y]):=by rw[Zo (Za Z5 hp3)];exact Z5
 generalize Zr (Zr H1 p2 (.tup [x,y])) p3 (.tup [.ref p2])=H2 at *
 refine Z8c (g2.tups _ _ e1) e2 (by rw[List.length_take,List.length_singleton];omega) fun r4 H4 hr4 g4=>?_
 have t4:Tm H H4:=fun b xs h=>g4.tups _ _ (g2.tups _ _ (g1.tups _ _ h))
 refine(Z6 rfl (Z6 rfl (Z6 rfl ⟨g,es,rfl,SqT.of (t4 _ _ hg),?nw2,fun p5 hp5=>?_⟩)))
 case nw2 =>
  rw[HT.sIx_nat]
  omega
 rw[Zb9 (by omega)]
 have g5:=Gro.new (S:=[]) hp5 (.tup (es.drop (j+1)))
 refine Z8c (g5.tups _ _ hr4) Z5 (by simp only[List.length_append,List.length_take,List.length_drop,List.length_singleton];omega) fun r6 H6 hr6 g6=>?_
 refine q r6 p2 H6 (g6.tups _ _ (g5.tups _ _ (g4.tups _ _ e3))) ?_ ((((g1.trans g2).trans g4).trans g5).trans g6)
 rw[show(((j+1:Nat):Int)-1).toNat=j by omega,show((j+1:Nat):Int).toNat=j+1 from rfl]
 exact hr6
end
theorem Ab.cslen{H:Hp}{ra:Addr}{t:Str}{ch:Addr}{M:MM}{c:Cg}(h:Ab H ra t ch M c):M.cs.length=c.cs.length:=Paired.length h.cs
theorem MAt.push{C:Addr}{H:Hp}{m tp:Addr}{M:MM}{vs:List V}{q:Zf0}(h:MAt C H m M)(hv:H M.s.choices=some (.lst vs))(hp:Paired (ChAt H) vs M.cs)(ht:H tp=some (.tup [.int q.1,.int q.2.1,q.2.2.1,q.2.2.2])) :
  MAt C (Zr H M.s.choices (.lst (vs++[.ref tp]))) m ⟨M.s,M.cs++[q]⟩/\Gro [M.s.choices] H (Zr H M.s.choices (.lst (vs++[.ref tp]))):=by
 have hne:=h.ne
 obtain⟨⟨dx,e1⟩,_⟩:=h
 have g1:Gro [M.s.choices] H (Zr H M.s.choices (.lst (vs++[.ref tp]))):=Gro.set (by simp) hv _
 exact⟨⟨⟨dx,by rw[Zo hne];exact e1⟩,vs++[.ref tp],Z5,(Paired.mapP hp fun _ _ q=>q.mono g1.tups).snoc ⟨tp,rfl,g1.tups _ _ ht⟩⟩,g1⟩
section
variable{P:Program}{w:World}{K:W.Frag}{mg:Str->Option Value}{base:Heap}{f C:Addr}{fd:FuncData}
abbrev Vu:Stmt:=top 24
theorem sc_do_again:FnScope ["machine","row","entry","end"] ["machine","row"] (Z9 Vu):=Vh
theorem Z4s{k:Int}(MT:Txt K mg C)(O_Machine_go_back:OwnM P w K mg base 2 C "go_back" ["self"] (We C))(O_Machine_entry:OwnM P w K mg base 1 C "entry" ["self","number"] (Z4a C))(F:Fun K "do_again" "do_again" Vu f fd):FnOk P w K mg base Wp 3 f fd ["machine","row"] (T4 C (.pat (.again k))):=by
 refine F.ok sc_do_again (fun vs H Q E h=>?_) (fun cdv A outer s H vs Q E hr h=>?_)
 ·obtain⟨m,a,ra,ch,t,n,M,c,rfl,_⟩:=h
  rfl
 obtain⟨m,a,ra,ch,t,n,M,c,rfl,hM,hA,hrow,ht,hci,hgo,hn,X8,hcs,q⟩:=h
 refine Vf ?_
 intro Xz
 refine⟨_,(Z1 (pS 2 sc_do_again.nd (X9 (O_Machine_entry.mono (by omega)) MT.cl hr (pv 0) (Z0 (Zl Zg (pv 1) Z7 (fun _ _=>rfl)) Z3)))
  (Z1 (Zu (Ta (Ux (pv 2))) (Z1 (Zf (Yd (O_Machine_go_back.mono (by omega)) MT.cl hr (pv 0)))
  (Z4 Z7q)) Zi)
  (Z1 (pS 3 sc_do_again.nd (Y7 Vk (Y7 Yv (Zn (pv 0) rfl) (Zl Zg (pv 2) Z7 (fun _ _=>rfl))) (Zl Zg (pv 2) Z7 (fun _ _=>rfl))))
  (Z4 (Zu (Zd Y2 (Y5 Wf (Zn (pv 0) rfl) (Y3 (Zn (pv 0) rfl)) (Y3 (pv 3))) (Y5 Wf (Zn (pv 0) rfl) (Y3 (Zl Zg (pv 2) Z7 (fun _ _=>rfl))) (Y3 (Zl Zg (pv 2) Z7 (fun _ _=>rfl)))) (Zh _)) (Z4 (Ya (pv 0) (pv 3) rfl)) (Z4 (Zf (Yd (O_Machine_go_back.mono (by omega)) MT.cl hr (pv 0))))))))),?_⟩
 refine Zfg ?_
 intro Ez Az1 Az2 Az3 Az4 Az5 Az6 Az7
 obtain rfl:=hA.chs
 obtain rfl:=hA.text
 obtain⟨⟨dx,e1⟩,_⟩:=id hM
 obtain⟨a',kv,e,⟨hk,_,ha⟩,_⟩:=hrow
 cases e
 obtain⟨hk1,hk2⟩:1<=k/\k<=n:=by
  rcases X8 with h | h
  ·exact h
  ·cases h
 have hcl:=hA.cslen
 have hgl:=hgo.len
 obtain⟨g,es,en,hg,hge,hel,hat,hen⟩:=hA.gs.ent hk1 (by omega)
 refine(Z6 rfl ⟨m,dx,Z6 rfl ⟨e1,Z5e _,Wo ha rfl ⟨m,g,k,M,es,en,rfl,hM,hg,hge,by omega,by omega,hat,?_⟩⟩⟩)
 refine(Z6 rfl (Z6 rfl (?_)))
 cases he:ent c.g k with
 |none =>
  rw[he]at hen
  have hen':en=.non:=hen
  have Yi:(Op.pat (.again k)).act M.s.text c=bk c.cs:=by
   show(match ent c.g k with | none=>bk c.cs | some p=>_)=_
   rw[he]
  refine Zj (decide_eq_true hen') (Z6 rfl ⟨m,dx,Z6 rfl ⟨e1,Yn _,m,M,rfl,hM,by omega,fun H' hM' g'=>?_⟩⟩)
  have bf:=Yp M
  exact q H' _ hM' (by rw[Yi];exact hA.back.mono g'.tups) bf.1 bf.2 g'
 |some p =>
  rw[he]at hen
  obtain⟨pa,rfl,hpa⟩:=hen
  obtain⟨p1,p2⟩:=Zgo hgo he
  refine Zb (by intro z;have z':=of_decide_eq_true z;cases z') ?_
  refine(Z6 rfl ⟨m,C,dx,_,_,rfl,e1,MT.cl,MT.a4,Wi _,Wo hpa rfl ⟨_,_,rfl,rfl,Wo hpa Z0p ⟨_,_,rfl,rfl,?_⟩⟩⟩)
  have hend:M.s.place+(p.2:Int)-(p.1:Int)=((c.i+(p.2-p.1):Nat):Int):=by rw[hA.pl];omega
  refine(Z6 rfl ⟨m,C,dx,_,_,rfl,e1,MT.cl,MT.a2,Z10 _,Z6 rfl ⟨m,C,dx,_,_,rfl,e1,MT.cl,MT.a4,Wi _,Z6 rfl (Z6 rfl (Z6 rfl ⟨M.s.text,rfl,Yc ht,?_⟩))⟩⟩)
  refine(Z6 rfl ⟨m,C,dx,_,_,rfl,e1,MT.cl,MT.a2,Z10 _,Wo hpa Z0p ⟨_,rfl,Wo hpa rfl ⟨_,rfl,M.s.text,rfl,Yc ht,rfl,_,rfl,?_⟩⟩⟩)
  have hs1:Txt.slice M.s.text (some M.s.place) (some (M.s.place+(p.2:Int)-(p.1:Int)))=sub M.s.text c.i (c.i+(p.2-p.1)):=by
   rw[hend,hA.pl,Xq (by omega) (by omega)]
   rfl
  have hs2:Txt.slice M.s.text (some (p.1:Int)) (some (p.2:Int))=sub M.s.text p.1 p.2:=by
   rw[Xq (by omega) (by omega)]
   rfl
  have Yi:(Op.pat (.again k)).act M.s.text c=if sub M.s.text c.i (c.i+(p.2-p.1))=sub M.s.text p.1 p.2 then .run { c with i:=c.i+(p.2-p.1) } else bk c.cs:=by
   show(match ent c.g k with | none=>bk c.cs | some p=>_)=_
   rw[he]
  show if decide (V.str (Txt.slice M.s.text (some M.s.place) (some (M.s.place+(p.2:Int)-(p.1:Int))))=V.str (Txt.slice M.s.text (some (p.1:Int)) (some (p.2:Int))))=true then _ else _
  rw[hs1,hs2]
  refine Wq (fun z=>?_) (fun z=>?_)
  ·have z':sub M.s.text c.i (c.i+(p.2-p.1))=sub M.s.text p.1 p.2:=by
    have:=of_decide_eq_true z
    injection this
   rw[if_pos z']at Yi
   refine(Z6 rfl (Z6 rfl ⟨m,C,dx,Z6 rfl ⟨e1,MT.cl,MT.a4,Yr _,?_⟩⟩))
   rw[Z8k]
   have g1:Gro [m,M.s.choices] H (Zr H m (.ins C dx ({ M.s with place:=M.s.place+(p.2:Int)-(p.1:Int) }:MS).fs)):=Gro.ins (by simp) e1 _
   refine q _ _ (hM.put (s':={ M.s with place:=M.s.place+(p.2:Int)-(p.1:Int) }) e1 rfl) ?_ rfl rfl g1
   rw[Yi]
   have hA1:=hA.mono g1.tups
   exact⟨hA1.rows,rfl,rfl,hA1.en,hA1.row,hend,hA1.gs,hA1.hl,hA1.cs⟩
  ·have z':¬sub M.s.text c.i (c.i+(p.2-p.1))=sub M.s.text p.1 p.2:=fun e=>z (decide_eq_true (by rw[e]))
   rw[if_neg z']at Yi
   refine(Z6 rfl ⟨m,dx,Z6 rfl ⟨e1,Yn _,m,M,rfl,hM,by omega,fun H' hM' g'=>?_⟩⟩)
   have bf:=Yp M
   exact q H' _ hM' (by rw[Yi];exact hA.back.mono g'.tups) bf.1 bf.2 g'
abbrev Ur:Stmt:=top 27
theorem Z6a:FnScope ["machine","row"] ["machine","row"] (Z9 Ur):=Vh
theorem Z6m{k:Int}{z:Nat}(MT:Txt K mg C)(O_Machine_entry:OwnM P w K mg base 1 C "entry" ["self","number"] (Z4a C))(F:Fun K "do_have" "do_have" Ur f fd):FnOk P w K mg base Wp 2 f fd ["machine","row"] (T4 C (.have_ k z)):=by
 refine F.ok Z6a (fun vs H Q E h=>?_) (fun cdv A outer s H vs Q E hr h=>?_)
 ·obtain⟨m,a,ra,ch,t,n,M,c,rfl,_⟩:=h
  rfl
 obtain⟨m,a,ra,ch,t,n,M,c,rfl,hM,hA,hrow,ht,hci,hgo,hn,X8,hcs,q⟩:=h
 refine Vf ?_
 intro Xz
 refine⟨_,(Z4 (Zu (Ta (Ux (X9 (O_Machine_entry.mono (by omega)) MT.cl hr (pv 0) (Z0 (Zl Zg (pv 1) Z7 (fun _ _=>rfl)) Z3)))) (Z4 (Ya (pv 0) (Zl Zg (pv 1) Z7 (fun _ _=>rfl)) rfl)) Zi)),?_⟩
 refine Z1w ?_
 intro Ez Az1
 obtain rfl:=hA.chs
 obtain rfl:=hA.text
 obtain⟨⟨dx,e1⟩,_⟩:=id hM
 obtain⟨a',e,ha⟩:=hrow
 cases e
 obtain⟨hk1,hk2⟩:1<=k/\k<=n:=by
  rcases X8 with h | h
  ·exact h
  ·cases h
 have hgl:=hgo.len
 obtain⟨g,es,en,hg,hge,hel,hat,hen⟩:=hA.gs.ent hk1 (by omega)
 refine(Z6 rfl ⟨m,dx,Z6 rfl ⟨e1,Z5e _,Wo ha rfl ⟨m,g,k,M,es,en,rfl,hM,hg,hge,by omega,by omega,hat,_,rfl,?_⟩⟩⟩)
 cases he:ent c.g k with
 |none =>
  rw[he]at hen
  have hen':en=.non:=hen
  have Yi:(Op.have_ k z).act M.s.text c=.run { c with r:=z }:=by
   show(match ent c.g k with | none=>Cf.run _ | some _=>_)=_
   rw[he]
  refine Zj (decide_eq_true hen') ?_
  refine(Wo ha rfl ⟨_,rfl,m,C,dx,_,rfl,e1,MT.cl,MT.a3,Yr _,?_⟩)
  rw[Z0b]
  have g1:Gro [m,M.s.choices] H (Zr H m (.ins C dx ({ M.s with row:=(z:Int) }:MS).fs)):=Gro.ins (by simp) e1 _
  refine q _ _ (hM.put (s':={ M.s with row:=(z:Int) }) e1 rfl) ?_ rfl rfl g1
  rw[Yi]
  have hA1:=hA.mono g1.tups
  exact⟨hA1.rows,rfl,rfl,hA1.en,rfl,hA1.pl,hA1.gs,hA1.hl,hA1.cs⟩
 |some p =>
  rw[he]at hen
  obtain⟨pa,rfl,hpa⟩:=hen
  have Yi:(Op.have_ k z).act M.s.text c=.run c:=by
   show(match ent c.g k with | none=>Cf.run _ | some _=>_)=_
   rw[he]
  refine Zb (by intro z;have z':=of_decide_eq_true z;cases z') ?_
  exact q H M hM (by rw[Yi];exact hA) rfl rfl Gro.refl
abbrev V3:Stmt:=top 28
theorem Z68:FnScope ["machine","row"] ["machine","row"] (Z9 V3):=Vh
theorem Z1e{o:Op}(ho:o=.turns∨o=.open_)(MT:Txt K mg C)(O_Machine_hold:OwnM P w K mg base 1 C "hold" ["self","number"] (J4 C))(F:Fun K "do_hold" "do_hold" V3 f fd):FnOk P w K mg base Wp 2 f fd ["machine","row"] (T4 C o):=by
 refine F.ok Z68 (fun vs H Q E h=>?_) (fun cdv A outer s H vs Q E hr h=>?_)
 ·obtain⟨m,a,ra,ch,t,n,M,c,rfl,_⟩:=h
  rfl
 obtain⟨m,a,ra,ch,t,n,M,c,rfl,hM,hA,hrow,ht,hci,hgo,hn,X8,hcs,q⟩:=h
 refine Vf ?_
 intro Xz
 refine⟨_,(Z4 (Zf (X9 (O_Machine_hold.mono (by omega)) MT.cl hr (pv 0) (Z0 Z7 Z3)))),?_⟩
 obtain rfl:=hA.chs
 obtain rfl:=hA.text
 obtain⟨⟨dx,e1⟩,_⟩:=id hM
 refine(Z6 rfl ⟨m,dx,Z6 rfl ⟨e1,Z3t _,m,0,M,rfl,hM,fun H' p hM' hp g'=>?_⟩⟩)
 have hA1:=hA.mono g'.tups
 have hres:Ab H' ra M.s.text M.s.choices ⟨{ M.s with held:=.ref p },M.cs⟩ { c with h:=(0,c.i)::c.h }:=⟨hA1.rows,rfl,rfl,hA1.en,hA1.row,hA1.pl,hA1.gs,⟨p,Z6 rfl ⟨by rw[hp,hA.pl];rfl,hA1.hl⟩⟩,hA1.cs⟩
 rcases ho with rfl | rfl
 ·exact q H' _ hM' hres rfl rfl (g'.mono (by simp))
 ·exact q H' _ hM' hres rfl rfl (g'.mono (by simp))
abbrev Vs:Stmt:=top 29
theorem sc_do_close:FnScope ["machine","row","pair"] ["machine","row"] (Z9 Vs):=Vh
theorem Z4q{k:Int}(MT:Txt K mg C)(O_Machine_let_go:OwnM P w K mg base 1 C "let_go" ["self"] (T8 C))(O_with_entry:Own P w K mg base 1 "with_entry" ["groups","number","begin","end"] Z6z)(F:Fun K "do_close" "do_close" Vs f fd):FnOk P w K mg base Wp 2 f fd ["machine","row"] (T4 C (.close k)):=by
 refine F.ok sc_do_close (fun vs H Q E h=>?_) (fun cdv A outer s H vs Q E hr h=>?_)
 ·obtain⟨m,a,ra,ch,t,n,M,c,rfl,_⟩:=h
  rfl
 obtain⟨m,a,ra,ch,t,n,M,c,rfl,hM,hA,hrow,ht,hci,hgo,hn,X8,hcs,q⟩:=h
 refine Vf ?_
 intro Xz
 refine⟨_,(Z1 (pS 2 sc_do_close.nd (Yd (O_Machine_let_go.mono (by omega)) MT.cl hr (pv 0)))
  (Z4 (Ya (pv 0) (Zv (O_with_entry.mono (by omega)) hr rfl (Z0 (Zn (pv 0) rfl) (Z0 (Zl Zg (pv 1) Z7 (fun _ _=>rfl)) (Z0 (Zl Zg (pv 2) Z7 (fun _ _=>rfl)) (Z0 (Zn (pv 0) rfl) Z3))))) rfl))),?_⟩
 refine Z09 ?_
 intro Ez Az1
 obtain rfl:=hA.chs
 obtain rfl:=hA.text
 obtain⟨⟨dx,e1⟩,_⟩:=id hM
 obtain⟨a',e,ha⟩:=hrow
 cases e
 obtain⟨⟨hk1,hk2⟩,hh⟩:(1<=k/\k<=n)/\c.h≠[]:=by
  rcases X8 with h | h
  ·exact h
  ·cases h
 obtain⟨x,hrest,hch⟩:∃x r,c.h=x::r:=by
  cases hc:c.h with
  |nil=>exact absurd hc hh
  |cons x r=>exact⟨x,r,rfl⟩
 have hl:=hA.hl
 rw[hch]at hl
 obtain⟨pa,v',hheld,hpa,hl'⟩:=hl
 have hgl:=hgo.len
 obtain⟨g,es,hg,hge,hel,hpe⟩:=hA.gs.len
 refine(Z6 rfl ⟨m,dx,Z6 rfl ⟨e1,Vm _,m,pa,M,_,_,_,rfl,hM,hheld,hpa,fun H1 hM1 g1=>?_⟩⟩)
 obtain⟨⟨dx1,f1⟩,_⟩:=id hM1
 have hfg:({ M.s with held:=v' }:MS).fs.lookup ("groups":Str)=some (.ref g):=by rw[Xr];exact congrArg some hg
 refine(Z6 rfl ⟨m,C,dx1,_,_,rfl,f1,MT.cl,MT.a5,hfg,Wo (g1.tups _ _ ha) rfl (Wo (g1.tups _ _ hpa) rfl ⟨_,rfl,m,C,dx1,_,_,rfl,f1,MT.cl,MT.a4,Wi _,g,k,_,_,es,rfl,g1.tups _ _ hge,hk1,by omega,by omega,fun r p H2 hp2 hr2 g2=>?_⟩)⟩)
 have hM2:=hM1.gro g2 (by simp) (by simp)
 obtain⟨⟨dx2,f2⟩,_⟩:=id hM2
 refine(Z6 rfl ⟨m,C,dx2,Z6 rfl ⟨f2,MT.cl,MT.a5,Yr _,?_⟩⟩)
 rw[Z2p]
 have g3:Gro [m,M.s.choices] H2 (Zr H2 m (.ins C dx2 ({ M.s with held:=v',groups:=.ref r }:MS).fs)):=Gro.ins (by simp) f2 _
 have gg:Gro [m,M.s.choices] H (Zr H2 m (.ins C dx2 ({ M.s with held:=v',groups:=.ref r }:MS).fs)):=((g1.mono (by simp)).trans (g2.mono (by simp))).trans g3
 refine q _ _ (hM2.put (s':={ M.s with held:=v',groups:=.ref r }) f2 rfl) ?_ rfl rfl gg
 have Yi:(Op.close k).act M.s.text c=.run { c with h:=hrest,g:=put c.g k x.2 c.i }:=by
  show(match c.h with | []=>Cf.ended | p::h=>Cf.run { c with h:=h,g:=put c.g k p.2 c.i })=_
  rw[hch]
 rw[Yi]
 have hA1:=hA.mono gg.tups
 refine⟨hA1.rows,rfl,rfl,hA1.en,hA1.row,hA1.pl,?_,hl'.mono gg.tups,hA1.cs⟩
 refine GsAt.put (Paired.mapP hpe fun _ _ h=>h.mono gg.tups) (g3.tups _ _ ?_) (g3.tups _ _ hr2)
 rw[hp2]
 show some (HO.tup [.int x.2,.int M.s.place])=_
 rw[hA.pl]
theorem Ab.top{H:Hp}{ra:Addr}{t:Str}{ch:Addr}{M:MM}{c:Cg}(h:Ab H ra t ch M c)(hh:c.h≠[]):∃(x:Nat×Nat) (r:Hl) (pa:Addr) (v':V),c.h=x::r/\M.s.held=.ref pa/\H pa=some (.tup [.int x.1,.int x.2,v'])/\HlAt H v' r:=by
 have hl:=h.hl
 cases hc:c.h with
 |nil=>exact absurd hc hh
 |cons x r =>
  rw[hc]at hl
  obtain⟨pa,v',h1,h2,h3⟩:=hl
  exact⟨x,r,pa,v',rfl,h1,h2,h3⟩
theorem Z0d{n:Nat}{c:Cg}{o:Op}(h:o.need n c∨o=.found)(e:o.need n c=(c.h≠[]))(hf:o≠.found):c.h≠[]:=by
 rcases h with h | h
 ·rw[e]at h;exact h
 ·exact absurd h hf
abbrev Ul:Stmt:=top 32
theorem Z65:FnScope ["machine","row"] ["machine","row"] (Z9 Ul):=Vh
theorem Z6h(T:Blt mg)(MT:Txt K mg C)(O_Machine_hold:OwnM P w K mg base 1 C "hold" ["self","number"] (J4 C))(F:Fun K "do_once" "do_once" Ul f fd):FnOk P w K mg base Wp 2 f fd ["machine","row"] (T4 C .once):=by
 refine F.ok Z65 (fun vs H Q E h=>?_) (fun cdv A outer s H vs Q E hr h=>?_)
 ·obtain⟨m,a,ra,ch,t,n,M,c,rfl,_⟩:=h
  rfl
 obtain⟨m,a,ra,ch,t,n,M,c,rfl,hM,hA,hrow,ht,hci,hgo,hn,X8,hcs,q⟩:=h
 refine Vf ?_
 intro Xz
 refine⟨_,(Z4 (Zf (X9 (O_Machine_hold.mono (by omega)) MT.cl hr (pv 0) (Z0 (Ze Zw rfl T.b_len PyProof.Rows.Boot.«len» (Z0 (Zn (pv 0) rfl) Z3)) Z3)))),?_⟩
 obtain rfl:=hA.chs
 obtain rfl:=hA.text
 obtain⟨⟨dx,e1⟩,vs,hv,hp⟩:=id hM
 have hl:=Paired.length hp
 have hcl:=hA.cslen
 refine(Z6 rfl ⟨m,dx,Z6 rfl ⟨e1,Z3t _,Z6 rfl ⟨m,C,dx,_,_,rfl,e1,MT.cl,MT.a7,Yo _,M.s.choices,vs,rfl,.inl (SqL.of hv),m,_,M,rfl,hM,fun H' p hM' hp' g'=>?_⟩⟩⟩)
 have hA1:=hA.mono g'.tups
 refine q H' _ hM' ⟨hA1.rows,rfl,rfl,hA1.en,hA1.row,hA1.pl,hA1.gs,⟨p,Z6 rfl ⟨?_,hA1.hl⟩⟩,hA1.cs⟩ rfl rfl (g'.mono (by simp))
 rw[hp',hA.pl,show vs.length=c.cs.length by omega]
abbrev Up:Stmt:=top 33
theorem Z67:FnScope ["machine","row"] ["machine","row"] (Z9 Up):=Vh
theorem Z6k(MT:Txt K mg C)(O_Machine_let_go:OwnM P w K mg base 1 C "let_go" ["self"] (T8 C))(O_Machine_drop_choices:OwnM P w K mg base 1 C "drop_choices" ["self","size"] (J5 C))(F:Fun K "do_kept" "do_kept" Up f fd):FnOk P w K mg base Wp 2 f fd ["machine","row"] (T4 C .kept):=by
 refine F.ok Z67 (fun vs H Q E h=>?_) (fun cdv A outer s H vs Q E hr h=>?_)
 ·obtain⟨m,a,ra,ch,t,n,M,c,rfl,_⟩:=h
  rfl
 obtain⟨m,a,ra,ch,t,n,M,c,rfl,hM,hA,hrow,ht,hci,hgo,hn,X8,hcs,q⟩:=h
 refine Vf ?_
 intro Xz
 refine⟨_,(Z4 (Zf (X9 (O_Machine_drop_choices.mono (by omega)) MT.cl hr (pv 0) (Z0 (Zl Zg (Yd (O_Machine_let_go.mono (by omega)) MT.cl hr (pv 0)) Z7 (fun _ _=>rfl)) Z3)))),?_⟩
 obtain rfl:=hA.chs
 obtain rfl:=hA.text
 obtain⟨⟨dx,e1⟩,_⟩:=id hM
 have hcl:=hA.cslen
 obtain⟨x,r,pa,v',hch,hheld,hpa,hl'⟩:=hA.top (Z0d X8 rfl (by intro z;cases z))
 refine(Z6 rfl ⟨m,dx,Z6 rfl ⟨e1,Z3u _,Z6 rfl ⟨m,dx,Z6 rfl ⟨e1,Vm _,m,pa,M,_,_,_,rfl,hM,hheld,hpa,fun H1 hM1 g1=>?_⟩⟩⟩⟩)
 refine⟨pa,_,_,_,rfl,rfl,SqT.of (g1.tups _ _ hpa),Z0p,m,x.1,_,rfl,hM1,by show M.cs.length<=_;omega,fun H2 hM2 g2=>?_⟩
 have gg:Gro [m,M.s.choices] H H2:=(g1.mono (by simp)).trans (g2.mono (by simp))
 have hA1:=hA.mono gg.tups
 refine q H2 _ hM2 ?_ rfl rfl gg
 have Yi:Op.kept.act M.s.text c=.run { c with h:=r,cs:=c.cs.take x.1 }:=by
  show(match c.h with | []=>Cf.ended | p::h=>Cf.run { c with h:=h,cs:=c.cs.take p.1 })=_
  rw[hch]
 rw[Yi]
 exact⟨hA1.rows,rfl,rfl,hA1.en,hA1.row,hA1.pl,hA1.gs,hl'.mono gg.tups,W9 _ hA1.cs⟩
abbrev Vc:Stmt:=top 34
theorem sc_do_peeked:FnScope ["machine","row","pair"] ["machine","row"] (Z9 Vc):=Vh
theorem Z39(MT:Txt K mg C)(O_Machine_let_go:OwnM P w K mg base 1 C "let_go" ["self"] (T8 C))(O_Machine_drop_choices:OwnM P w K mg base 1 C "drop_choices" ["self","size"] (J5 C))(F:Fun K "do_peeked" "do_peeked" Vc f fd):FnOk P w K mg base Wp 2 f fd ["machine","row"] (T4 C .peeked):=by
 refine F.ok sc_do_peeked (fun vs H Q E h=>?_) (fun cdv A outer s H vs Q E hr h=>?_)
 ·obtain⟨m,a,ra,ch,t,n,M,c,rfl,_⟩:=h
  rfl
 obtain⟨m,a,ra,ch,t,n,M,c,rfl,hM,hA,hrow,ht,hci,hgo,hn,X8,hcs,q⟩:=h
 refine Vf ?_
 intro Xz
 refine⟨_,(Z1 (pS 2 sc_do_peeked.nd (Yd (O_Machine_let_go.mono (by omega)) MT.cl hr (pv 0)))
  (Z1 (Zf (X9 (O_Machine_drop_choices.mono (by omega)) MT.cl hr (pv 0) (Z0 (Zl Zg (pv 2) Z7 (fun _ _=>rfl)) Z3)))
  (Z4 (Ya (pv 0) (Zl Zg (pv 2) Z7 (fun _ _=>rfl)) rfl)))),?_⟩
 refine Z1v ?_
 intro Ez Az1 Az2
 obtain rfl:=hA.chs
 obtain rfl:=hA.text
 obtain⟨⟨dx,e1⟩,_⟩:=id hM
 have hcl:=hA.cslen
 obtain⟨x,r,pa,v',hch,hheld,hpa,hl'⟩:=hA.top (Z0d X8 rfl (by intro z;cases z))
 refine(Z6 rfl ⟨m,dx,Z6 rfl ⟨e1,Vm _,m,pa,M,_,_,_,rfl,hM,hheld,hpa,fun H1 hM1 g1=>?_⟩⟩)
 obtain⟨⟨dx1,f1⟩,_⟩:=id hM1
 refine(Z6 rfl ⟨m,dx1,Z6 rfl ⟨f1,Z3u _,Wo (g1.tups _ _ hpa) Z0p ⟨m,x.1,_,rfl,hM1,by show M.cs.length<=_;omega,fun H2 hM2 g2=>?_⟩⟩⟩)
 obtain⟨⟨dx2,f2⟩,_⟩:=id hM2
 refine(Wo (g2.tups _ _ (g1.tups _ _ hpa)) rfl ⟨_,rfl,m,C,dx2,_,rfl,f2,MT.cl,MT.a4,Yr _,?_⟩)
 rw[Z8k]
 have g3:Gro [m,M.s.choices] H2 (Zr H2 m (.ins C dx2 ({ M.s with held:=v',place:=(x.2:Int) }:MS).fs)):=Gro.ins (by simp) f2 _
 have gg:Gro [m,M.s.choices] H (Zr H2 m (.ins C dx2 ({ M.s with held:=v',place:=(x.2:Int) }:MS).fs)):=((g1.mono (by simp)).trans (g2.mono (by simp))).trans g3
 have hA1:=hA.mono gg.tups
 refine q _ _ (hM2.put (s':={ M.s with held:=v',place:=(x.2:Int) }) f2 rfl) ?_ rfl rfl gg
 have Yi:Op.peeked.act M.s.text c=.run { c with i:=x.2,h:=r,cs:=c.cs.take x.1 }:=by
  show(match c.h with | []=>Cf.ended | p::h=>Cf.run { c with i:=p.2,h:=h,cs:=c.cs.take p.1 })=_
  rw[hch]
 rw[Yi]
 exact⟨hA1.rows,rfl,rfl,hA1.en,hA1.row,rfl,hA1.gs,hl'.mono gg.tups,W9 _ hA1.cs⟩
abbrev Vd:Stmt:=top 36
theorem Z36:FnScope ["machine","row"] ["machine","row"] (Z9 Vd):=Vh
theorem Z3a(MT:Txt K mg C)(O_Machine_let_go:OwnM P w K mg base 1 C "let_go" ["self"] (T8 C))(O_Machine_drop_choices:OwnM P w K mg base 1 C "drop_choices" ["self","size"] (J5 C))(O_Machine_go_back:OwnM P w K mg base 2 C "go_back" ["self"] (We C))(F:Fun K "do_barred" "do_barred" Vd f fd):FnOk P w K mg base Wp 3 f fd ["machine","row"] (T4 C .barred):=by
 refine F.ok Z36 (fun vs H Q E h=>?_) (fun cdv A outer s H vs Q E hr h=>?_)
 ·obtain⟨m,a,ra,ch,t,n,M,c,rfl,_⟩:=h
  rfl
 obtain⟨m,a,ra,ch,t,n,M,c,rfl,hM,hA,hrow,ht,hci,hgo,hn,X8,hcs,q⟩:=h
 refine Vf ?_
 intro Xz
 refine⟨_,(Z1 (Zf (X9 (O_Machine_drop_choices.mono (by omega)) MT.cl hr (pv 0) (Z0 (Zl Zg (Yd (O_Machine_let_go.mono (by omega)) MT.cl hr (pv 0)) Z7 (fun _ _=>rfl)) Z3)))
  (Z4 (Zf (Yd (O_Machine_go_back.mono (by omega)) MT.cl hr (pv 0))))),?_⟩
 refine Z09 ?_
 intro Ez Az1
 obtain rfl:=hA.chs
 obtain rfl:=hA.text
 obtain⟨⟨dx,e1⟩,_⟩:=id hM
 have hcl:=hA.cslen
 obtain⟨x,r,pa,v',hch,hheld,hpa,hl'⟩:=hA.top (Z0d X8 rfl (by intro z;cases z))
 refine(Z6 rfl ⟨m,dx,Z6 rfl ⟨e1,Z3u _,Z6 rfl ⟨m,dx,Z6 rfl ⟨e1,Vm _,m,pa,M,_,_,_,rfl,hM,hheld,hpa,fun H1 hM1 g1=>?_⟩⟩⟩⟩)
 refine⟨pa,_,_,_,rfl,rfl,SqT.of (g1.tups _ _ hpa),Z0p,m,x.1,_,rfl,hM1,by show M.cs.length<=_;omega,fun H2 hM2 g2=>?_⟩
 have gg:Gro [m,M.s.choices] H H2:=(g1.mono (by simp)).trans (g2.mono (by simp))
 have hA1:=hA.mono gg.tups
 have hA2:Ab H2 ra M.s.text M.s.choices ⟨{ M.s with held:=v' },M.cs.take x.1⟩ { c with h:=r,cs:=c.cs.take x.1 }:=⟨hA1.rows,rfl,rfl,hA1.en,hA1.row,hA1.pl,hA1.gs,hl'.mono gg.tups,W9 _ hA1.cs⟩
 obtain⟨⟨dx2,f2⟩,_⟩:=id hM2
 refine(Z6 rfl ⟨m,dx2,Z6 rfl ⟨f2,Yn _,m,_,rfl,hM2,by show(M.cs.take x.1).length<=_;rw[List.length_take];omega,fun H3 hM3 g3=>?_⟩⟩)
 have bf:=Yp ⟨{ M.s with held:=v' },M.cs.take x.1⟩
 have Yi:Op.barred.act M.s.text c=bk (c.cs.take x.1):=by
  show(match c.h with | []=>Cf.ended | p::_=>bk (c.cs.take p.1))=_
  rw[hch]
 exact q H3 _ hM3 (by rw[Yi];exact hA2.back.mono g3.tups) bf.1 bf.2 (gg.trans g3)
abbrev Uq:Stmt:=top 38
theorem Z69:FnScope ["machine","row"] ["machine","row"] (Z9 Uq):=Vh
theorem Z6l(MT:Txt K mg C)(O_Machine_go_back:OwnM P w K mg base 2 C "go_back" ["self"] (We C))(F:Fun K "do_here" "do_here" Uq f fd):FnOk P w K mg base Wp 3 f fd ["machine","row"] (T4 C .here):=by
 refine F.ok Z69 (fun vs H Q E h=>?_) (fun cdv A outer s H vs Q E hr h=>?_)
 ·obtain⟨m,a,ra,ch,t,n,M,c,rfl,_⟩:=h
  rfl
 obtain⟨m,a,ra,ch,t,n,M,c,rfl,hM,hA,hrow,ht,hci,hgo,hn,X8,hcs,q⟩:=h
 refine Vf ?_
 intro Xz
 refine⟨_,(Z4 (Zu (Zd Ji (Zn (pv 0) rfl) (Zl Zg (Zn (pv 0) rfl) Z7 (fun _ _=>rfl)) (Zh _)) (Z4 (Zf (Yd (O_Machine_go_back.mono (by omega)) MT.cl hr (pv 0)))) Zi)),?_⟩
 refine Z1w ?_
 intro Ez Az1
 obtain rfl:=hA.chs
 obtain rfl:=hA.text
 obtain⟨⟨dx,e1⟩,_⟩:=id hM
 have hcl:=hA.cslen
 obtain⟨x,r,pa,v',hch,hheld,hpa,hl'⟩:=hA.top (Z0d X8 rfl (by intro z;cases z))
 have hfh:M.s.fs.lookup ("held":Str)=some (.ref pa):=by rw[U1,hheld]
 have Yi:Op.here.act M.s.text c=if c.i=x.2 then .run c else bk c.cs:=by
  show(match c.h with | []=>Cf.ended | p::_=>if c.i=p.2 then Cf.run c else bk c.cs)=_
  rw[hch]
 refine(Z6 rfl ⟨m,C,dx,_,_,rfl,e1,MT.cl,MT.a4,Wi _,Z6 rfl ⟨m,C,dx,_,_,rfl,e1,MT.cl,MT.a6,hfh,pa,_,_,_,rfl,rfl,SqT.of hpa,rfl,rfl,Z6 rfl (?_)⟩⟩)
 by_cases e:c.i=x.2
 ·rw[if_pos e]at Yi
  refine Zb (fun z=>?_) (q H M hM (by rw[Yi];exact hA) rfl rfl Gro.refl)
  have:V.int M.s.place=V.int (x.2:Int):=by rw[hA.pl,e]
  rw[decide_eq_true this]at z
  cases z
 ·rw[if_neg e]at Yi
  refine Zj ?_ (Z6 rfl ⟨m,dx,Z6 rfl ⟨e1,Yn _,m,M,rfl,hM,by omega,fun H' hM' g'=>?_⟩⟩)
  ·have:¬V.int M.s.place=V.int (x.2:Int):=fun z=>by
    injection z with z
    rw[hA.pl]at z
    omega
   rw[decide_eq_false this]
   rfl
  ·have bf:=Yp M
   exact q H' _ hM' (by rw[Yi];exact hA.back.mono g'.tups) bf.1 bf.2 g'
abbrev Uo:Stmt:=top 37
theorem Z66:FnScope ["machine","row"] ["machine","row"] (Z9 Uo):=Vh
theorem Z6j(MT:Txt K mg C)(F:Fun K "do_lean" "do_lean" Uo f fd):FnOk P w K mg base Wp 1 f fd ["machine","row"] (T4 C .lean):=by
 refine F.ok Z66 (fun vs H Q E h=>?_) (fun cdv A outer s H vs Q E hr h=>?_)
 ·obtain⟨m,a,ra,ch,t,n,M,c,rfl,_⟩:=h
  rfl
 obtain⟨m,a,ra,ch,t,n,M,c,rfl,hM,hA,hrow,ht,hci,hgo,hn,X8,hcs,q⟩:=h
 refine Vf ?_
 intro Xz
 refine⟨_,(Z4 (Zu (Zd Zca (Zn (pv 0) rfl) Z7 (Zh _)) (Z4 (Zf (Yt PySem.F.plainAttrs_list PySem.F.slot_list_append PySem.F.type_list_append Zy (Zn (pv 0) rfl) (Z0 (Zz (Z0 (Y7 Vk (Zn (pv 0) rfl) Z7) (Z0 (Y7 Vk (Zn (pv 0) rfl) Z7) (Z0 (Zn (pv 0) rfl) (Z0 (Zn (pv 0) rfl) Z3))))) Z3)))) Zi)),?_⟩
 refine Z1w ?_
 intro Ez Az1
 obtain rfl:=hA.chs
 obtain rfl:=hA.text
 obtain⟨⟨dx,e1⟩,vs,hv,hp⟩:=id hM
 have hl:=Paired.length hp
 have hcl:=hA.cslen
 have Yi:Op.lean.act M.s.text c=if 0<c.i then .run { c with cs:=c.cs++[(c.r-1,c.i-1,c.g,c.h)] } else .run c:=rfl
 refine(Z6 rfl ⟨m,C,dx,_,_,rfl,e1,MT.cl,MT.a4,Wi _,Wc rfl rfl (Z6 rfl (?_))⟩)
 by_cases e:0<c.i
 ·rw[if_pos e]at Yi
  refine Zj (decide_eq_true (by rw[hA.pl];omega)) ?_
  refine(Z6 rfl ⟨m,C,dx,_,_,rfl,e1,MT.cl,MT.a7,Yo _,.inl ⟨rfl,_,SqL.of hv⟩,Z6 rfl ⟨m,C,dx,_,_,rfl,e1,MT.cl,MT.a3,Z4h _,Wc rfl rfl (Z6 rfl ⟨m,C,dx,_,_,rfl,e1,MT.cl,MT.a4,Wi _,Wc rfl rfl (Z6 rfl ⟨m,C,dx,_,_,rfl,e1,MT.cl,MT.a5,Xr _,Z6 rfl ⟨m,C,dx,_,_,rfl,e1,MT.cl,MT.a6,U1 _,sz,fun tp htp=>?_⟩⟩)⟩)⟩⟩)
  have g2:=Gro.new (S:=[m,M.s.choices]) htp (.tup [.int (M.s.row-1),.int (M.s.place-1),M.s.groups,M.s.held])
  have hM2:=hM.new (o:=.tup [.int (M.s.row-1),.int (M.s.place-1),M.s.groups,M.s.held]) htp
  have hv2:(Zr H tp (.tup [.int (M.s.row-1),.int (M.s.place-1),M.s.groups,M.s.held])) M.s.choices=some (.lst vs):=by rw[Zo (Za hv htp)];exact hv
  have hq2:=Paired.mapP hp fun _ _ q=>q.mono g2.tups
  have et:(Zr H tp (.tup [.int (M.s.row-1),.int (M.s.place-1),M.s.groups,M.s.held])) tp=some (.tup [.int (M.s.row-1),.int (M.s.place-1),M.s.groups,M.s.held]):=Z5
  refine⟨M.s.choices,vs,Z6 rfl ⟨rfl,hv2,Z9q (by omega),?_⟩⟩
  obtain⟨hM3,g3⟩:=hM2.push (q:=(M.s.row-1,M.s.place-1,M.s.groups,M.s.held)) hv2 hq2 et
  have gg:Gro [m,M.s.choices] H _:=g2.trans (g3.mono (by simp))
  have hA1:=hA.mono gg.tups
  refine q _ _ hM3 ?_ rfl rfl gg
  rw[Yi]
  refine⟨hA1.rows,rfl,rfl,hA1.en,hA1.row,hA1.pl,hA1.gs,hA1.hl,hA1.cs.snoc ⟨?_,?_,hA1.gs,hA1.hl⟩⟩
  ·show M.s.row-1=((c.r-1:Nat):Int)
   rw[hA.row]
   omega
  ·show M.s.place-1=((c.i-1:Nat):Int)
   rw[hA.pl]
   omega
 ·rw[if_neg e]at Yi
  refine Zb (fun z=>?_) (q H M hM (by rw[Yi];exact hA) rfl rfl Gro.refl)
  have:=of_decide_eq_true z
  rw[hA.pl]at this
  omega
abbrev Tv:Stmt:=top 35
theorem sc_do_bar:FnScope ["machine","row","held"] ["machine","row"] (Z9 Tv):=Vh
theorem Z99{z:Nat}(T:Blt mg)(MT:Txt K mg C)(O_Machine_hold:OwnM P w K mg base 1 C "hold" ["self","number"] (J4 C))(F:Fun K "do_bar" "do_bar" Tv f fd):FnOk P w K mg base Wp 2 f fd ["machine","row"] (T4 C (.bar z)):=by
 refine F.ok sc_do_bar (fun vs H Q E h=>?_) (fun cdv A outer s H vs Q E hr h=>?_)
 ·obtain⟨m,a,ra,ch,t,n,M,c,rfl,_⟩:=h
  rfl
 obtain⟨m,a,ra,ch,t,n,M,c,rfl,hM,hA,hrow,ht,hci,hgo,hn,X8,hcs,q⟩:=h
 refine Vf ?_
 intro Xz
 refine⟨_,(Z1 (pS 2 sc_do_bar.nd (Zn (pv 0) rfl))
  (Z1 (Zf (X9 (O_Machine_hold.mono (by omega)) MT.cl hr (pv 0) (Z0 (Ze Zw rfl T.b_len PyProof.Rows.Boot.«len» (Z0 (Zn (pv 0) rfl) Z3)) Z3)))
  (Z4 (Zf (Yt PySem.F.plainAttrs_list PySem.F.slot_list_append PySem.F.type_list_append Zy (Zn (pv 0) rfl) (Z0 (Zz (Z0 (Zl Zg (pv 1) Z7 (fun _ _=>rfl)) (Z0 (Zn (pv 0) rfl) (Z0 (Zn (pv 0) rfl) (Z0 (pv 2) Z3))))) Z3)))))),?_⟩
 refine Z1v ?_
 intro Ez Az1 Az2
 obtain rfl:=hA.chs
 obtain rfl:=hA.text
 obtain⟨⟨dx,e1⟩,vs,hv,hp⟩:=id hM
 obtain⟨a',e,ha⟩:=hrow
 cases e
 have hl:=Paired.length hp
 have hcl:=hA.cslen
 refine(Z6 rfl ⟨m,C,dx,_,_,rfl,e1,MT.cl,MT.a6,U1 _,?_⟩)
 refine(Z6 rfl ⟨m,dx,Z6 rfl ⟨e1,Z3t _,Z6 rfl ⟨m,C,dx,_,_,rfl,e1,MT.cl,MT.a7,Yo _,M.s.choices,vs,rfl,.inl (SqL.of hv),m,_,M,rfl,hM,fun H1 p hM1 hp1 g1=>?_⟩⟩⟩)
 obtain⟨⟨dx1,f1⟩,vs1,hv1,hq1⟩:=id hM1
 have hv1':H1 M.s.choices=some (.lst vs1):=hv1
 have hl1:vs1.length=M.cs.length:=Paired.length hq1
 refine(Z6 rfl ⟨m,C,dx1,_,_,rfl,f1,MT.cl,MT.a7,Yo _,.inl ⟨rfl,_,SqL.of hv1'⟩,Wo (g1.tups _ _ ha) rfl ⟨_,rfl,m,C,dx1,_,_,rfl,f1,MT.cl,MT.a4,Wi _,_,rfl,m,C,dx1,_,_,rfl,f1,MT.cl,MT.a5,Xr _,_,rfl,sz,fun tp htp=>?_⟩⟩)
 have g2:=Gro.new (S:=[m,M.s.choices]) htp (.tup [.int z,.int M.s.place,M.s.groups,M.s.held])
 have hM2:=hM1.new (o:=.tup [.int z,.int M.s.place,M.s.groups,M.s.held]) htp
 have hv2:(Zr H1 tp (.tup [.int z,.int M.s.place,M.s.groups,M.s.held])) M.s.choices=some (.lst vs1):=by rw[Zo (Za hv1' htp)];exact hv1'
 have hq2:=Paired.mapP hq1 fun _ _ q=>q.mono g2.tups
 have et:(Zr H1 tp (.tup [.int z,.int M.s.place,M.s.groups,M.s.held])) tp=some (.tup [.int z,.int M.s.place,M.s.groups,M.s.held]):=Z5
 refine⟨M.s.choices,vs1,Z6 rfl ⟨rfl,hv2,Z9q (by omega),?_⟩⟩
 obtain⟨hM3,g3⟩:=hM2.push (q:=((z:Int),M.s.place,M.s.groups,M.s.held)) hv2 hq2 et
 have gg:Gro [m,M.s.choices] H _:=((g1.mono (by simp)).trans g2).trans (g3.mono (by simp))
 have hA1:=hA.mono gg.tups
 refine q _ _ hM3 ⟨hA1.rows,rfl,rfl,hA1.en,hA1.row,hA1.pl,hA1.gs,⟨p,Z6 rfl ⟨?_,hA1.hl⟩⟩,hA1.cs.snoc ⟨rfl,hA1.pl,hA1.gs,hA1.hl⟩⟩ rfl rfl gg
 rw[g3.tups _ _ (g2.tups _ _ hp1),hA.pl,show vs.length=c.cs.length by omega]
abbrev Um:Stmt:=top 31
theorem sc_do_next:FnScope ["machine","row","pair"] ["machine","row"] (Z9 Um):=Vh
theorem Z6i{lo:Int}{z:Nat}(MT:Txt K mg C)(O_Machine_let_go:OwnM P w K mg base 1 C "let_go" ["self"] (T8 C))(O_Machine_go_back:OwnM P w K mg base 2 C "go_back" ["self"] (We C))(F:Fun K "do_next" "do_next" Um f fd):FnOk P w K mg base Wp 3 f fd ["machine","row"] (T4 C (.next lo z)):=by
 refine F.ok sc_do_next (fun vs H Q E h=>?_) (fun cdv A outer s H vs Q E hr h=>?_)
 ·obtain⟨m,a,ra,ch,t,n,M,c,rfl,_⟩:=h
  rfl
 obtain⟨m,a,ra,ch,t,n,M,c,rfl,hM,hA,hrow,ht,hci,hgo,hn,X8,hcs,q⟩:=h
 refine Vf ?_
 intro Xz
 refine⟨_,(Z1 (pS 2 sc_do_next.nd (Yd (O_Machine_let_go.mono (by omega)) MT.cl hr (pv 0)))
  (Z4 (Zu (PW.pt (T9 (Zd Z3f (Zl Zg (pv 2) Z7 (fun _ _=>rfl)) (Zl Zg (pv 1) Z7 (fun _ _=>rfl)) (Zh _)) (Vy (Zd Y2 (Zn (pv 0) rfl) (Zl Zg (pv 2) Z7 (fun _ _=>rfl)) (Zh _))))) (Z4 (Zf (Yd (O_Machine_go_back.mono (by omega)) MT.cl hr (pv 0)))) (Z1 (Ya (pv 0) (Zz (Z0 (Y7 Yv (Zl Zg (pv 2) Z7 (fun _ _=>rfl)) Z7) (Z0 (Zl Zg (pv 2) Z7 (fun _ _=>rfl)) (Z0 (Zl Zg (pv 2) Z7 (fun _ _=>rfl)) Z3)))) rfl)
  (Z4 (Ya (pv 0) (Zl Zg (pv 1) Z7 (fun _ _=>rfl)) rfl)))))),?_⟩
 refine Zfh ?_
 intro Ez Az1 Az2 Az3 Az4
 obtain rfl:=hA.chs
 obtain rfl:=hA.text
 obtain⟨⟨dx,e1⟩,_⟩:=id hM
 obtain⟨a',e,ha⟩:=hrow
 cases e
 have hcl:=hA.cslen
 obtain⟨x,r,pa,v',hch,hheld,hpa,hl'⟩:=hA.top (Z0d X8 rfl (by intro z;cases z))
 have Yi:(Op.next lo z).act M.s.text c=if lo<=x.1/\c.i=x.2 then bk c.cs else .run ⟨z,c.i,c.g,(x.1+1,x.2)::r,c.cs⟩:=by
  show(match c.h with | []=>Cf.ended | p::h=>if lo<=p.1/\c.i=p.2 then bk c.cs else .run ⟨z,c.i,c.g,(p.1+1,p.2)::h,c.cs⟩)=_
  rw[hch]
 refine(Z6 rfl ⟨m,dx,Z6 rfl ⟨e1,Vm _,m,pa,M,_,_,_,rfl,hM,hheld,hpa,fun H1 hM1 g1=>?_⟩⟩)
 obtain⟨⟨dx1,f1⟩,_⟩:=id hM1
 have hpa1:=g1.tups _ _ hpa
 have ha1:=g1.tups _ _ ha
 have hA1:=hA.mono g1.tups
 have hA2:Ab H1 ra M.s.text M.s.choices ⟨{ M.s with held:=v' },M.cs⟩ { c with h:=r }:=⟨hA1.rows,rfl,rfl,hA1.en,hA1.row,hA1.pl,hA1.gs,hl'.mono g1.tups,hA1.cs⟩
 have goback:lo<=x.1/\c.i=x.2->We C [.ref m] H1 (fun _ H'=>Q .non H') E:=fun hc=>by
  rw[if_pos hc]at Yi
  refine⟨m,_,rfl,hM1,by show M.cs.length<=_;omega,fun H' hM' g'=>?_⟩
  have bf:=Yp ⟨{ M.s with held:=v' },M.cs⟩
  exact q H' _ hM' (by rw[Yi];exact hA2.back.mono g'.tups) bf.1 bf.2 ((g1.mono (by simp)).trans g')
 have onward:¬(lo<=x.1/\c.i=x.2)->∀p:Addr,H1 p=none->Q .non (Zr (Zr H1 p (.tup [.int ((x.1:Int)+1),.int x.2,v'])) m (.ins C dx1 ({ M.s with held:=.ref p,row:=(z:Int) }:MS).fs)):=fun hc p hp=>by
  rw[if_neg hc]at Yi
  have hM2:=hM1.new (o:=.tup [.int ((x.1:Int)+1),.int x.2,v']) hp
  have f2:(Zr H1 p (.tup [.int ((x.1:Int)+1),.int x.2,v'])) m=some (.ins C dx1 ({ M.s with held:=v' }:MS).fs):=by rw[Zo (Za f1 hp)];exact f1
  have g2:=Gro.new (S:=[m,M.s.choices]) hp (.tup [.int ((x.1:Int)+1),.int x.2,v'])
  have g3:Gro [m,M.s.choices] (Zr H1 p (.tup [.int ((x.1:Int)+1),.int x.2,v'])) (Zr (Zr H1 p (.tup [.int ((x.1:Int)+1),.int x.2,v'])) m (.ins C dx1 ({ M.s with held:=.ref p,row:=(z:Int) }:MS).fs)):=Gro.ins (by simp) f2 _
  have gg:=((g1.mono (S':=[m,M.s.choices]) (by simp)).trans g2).trans g3
  have hA3:=hA.mono gg.tups
  refine q _ _ (hM2.put (s':={ M.s with held:=.ref p,row:=(z:Int) }) f2 rfl) ?_ rfl rfl gg
  rw[Yi]
  exact⟨hA3.rows,rfl,rfl,hA3.en,rfl,hA3.pl,hA3.gs,⟨p,v',rfl,g3.tups _ _ Z5,hl'.mono gg.tups⟩,hA3.cs⟩
 refine(Wo hpa1 Z0p (Wo ha1 rfl ⟨_,_,rfl,rfl,_,rfl,?_⟩))
 have rest:¬(lo<=x.1/\c.i=x.2)->_:=onward
 by_cases hlo:lo<=x.1
 ·refine Zj (decide_eq_true hlo) ?_
  refine(Z6 rfl ⟨m,C,dx1,_,_,rfl,f1,MT.cl,MT.a4,Wi _,Wo hpa1 rfl ⟨rfl,_,rfl,?_⟩⟩)
  by_cases hi:c.i=x.2
  ·refine Zj (decide_eq_true ?_) (Z6 rfl ⟨m,dx1,Z6 rfl ⟨f1,Yn _,goback ⟨hlo,hi⟩⟩⟩)
   show V.int M.s.place=V.int (x.2:Int)
   rw[hA.pl,hi]
  ·refine Zb (fun z=>?_) ?_
   ·have z':V.int M.s.place=V.int (x.2:Int):=of_decide_eq_true z
    injection z' with z'
    rw[hA.pl]at z'
    omega
   ·refine(Wo hpa1 Z0p ⟨_,_,rfl,rfl,Wo hpa1 rfl (Wo hpa1 rfl ⟨sz,fun p hp=>?_⟩)⟩)
    have f2:(Zr H1 p (.tup [.int ((x.1:Int)+1),.int x.2,v'])) m=some (.ins C dx1 ({ M.s with held:=v' }:MS).fs):=by rw[Zo (Za f1 hp)];exact f1
    refine(Z6 rfl ⟨m,C,dx1,Z6 rfl ⟨f2,MT.cl,MT.a6,Yr _,?_⟩⟩)
    rw[J9]
    have ha2:=(Gro.ins (S:=[m]) (by simp) f2 (.ins C dx1 ({ M.s with held:=.ref p }:MS).fs)).tups _ _ ((Gro.new (S:=[]) hp (.tup [.int ((x.1:Int)+1),.int x.2,v'])).tups _ _ ha1)
    refine(Wo ha2 rfl ⟨_,rfl,m,C,dx1,_,rfl,Z5,MT.cl,MT.a3,Yr _,?_⟩)
    rw[Z0b,Z7h]
    exact onward (fun h=>hi h.2) p hp
 ·refine Zb (fun z=>hlo (of_decide_eq_true z)) (Zb (by decide) ?_)
  refine(Wo hpa1 Z0p ⟨_,_,rfl,rfl,Wo hpa1 rfl (Wo hpa1 rfl ⟨sz,fun p hp=>?_⟩)⟩)
  have f2:(Zr H1 p (.tup [.int ((x.1:Int)+1),.int x.2,v'])) m=some (.ins C dx1 ({ M.s with held:=v' }:MS).fs):=by rw[Zo (Za f1 hp)];exact f1
  refine(Z6 rfl ⟨m,C,dx1,Z6 rfl ⟨f2,MT.cl,MT.a6,Yr _,?_⟩⟩)
  rw[J9]
  have ha2:=(Gro.ins (S:=[m]) (by simp) f2 (.ins C dx1 ({ M.s with held:=.ref p }:MS).fs)).tups _ _ ((Gro.new (S:=[]) hp (.tup [.int ((x.1:Int)+1),.int x.2,v'])).tups _ _ ha1)
  refine(Wo ha2 rfl ⟨_,rfl,m,C,dx1,_,rfl,Z5,MT.cl,MT.a3,Yr _,?_⟩)
  rw[Z0b,Z7h]
  exact onward (fun h=>hlo h.1) p hp
theorem Zaw{K:W.Frag}{σ:L2.St}{H:Hp}{Q:VK}{a:Addr}{n:Nat}{hi:Option Int}{xs:List V}(h1:σ[1]? = some (some (.ref a)))(h2:σ[2]? = some (some (.int n)))(ha:H a=some (.tup xs))(hx:Z7f xs 2=some (Z9u hi))(q:Q (.bl (Z8m hi n)) H) :
  Zi4 (Zi6 (Z5y (Z47 K) (W8 1) (tC (.int 2)))) (Z5y (Zgw fun i j=>V.bl (decide (i<j))) (W8 2) (Z5y (Z47 K) (W8 1) (tC (.int 2)))) σ H Q:=by
 refine⟨_,h1,a,_,_,_,rfl,rfl,SqT.of ha,hx,Z6 rfl (?_)⟩
 cases hi with
 |none=>exact Zj (by decide) q
 |some y=>exact Zb (by intro z;have z':=of_decide_eq_true z;cases z') ⟨_,h2,_,h1,a,_,_,_,rfl,rfl,SqT.of ha,hx,Wc rfl rfl q⟩
abbrev Uk:Stmt:=top 30
theorem sc_do_turn:FnScope ["machine","row","turns","below","going","stopping","may_go","may_stop","little"] ["machine","row"] (Z9 Uk):=Vh
theorem Z6f{lo:Int}{hi:Option Int}{how:How}{z:Nat}(MT:Txt K mg C)(O_Machine_enter:OwnM P w K mg base 1 C "enter" ["self","state"] (Vx C))(O_Machine_go_back:OwnM P w K mg base 2 C "go_back" ["self"] (We C))(F:Fun K "do_turn" "do_turn" Uk f fd):FnOk P w K mg base Wp 3 f fd ["machine","row"] (T4 C (.turn lo hi how z)):=by
 refine F.ok sc_do_turn (fun vs H Q E h=>?_) (fun cdv A outer s H vs Q E hr h=>?_)
 ·obtain⟨m,a,ra,ch,t,n,M,c,rfl,_⟩:=h
  rfl
 obtain⟨m,a,ra,ch,t,n,M,c,rfl,hM,hA,hrow,ht,hci,hgo,hn,X8,hcs,q⟩:=h
 refine Vf ?_
 intro Xz
 refine⟨_,(Z1 (pS 2 sc_do_turn.nd (Zl Zg (Zn (pv 0) rfl) Z7 (fun _ _=>rfl)))
  (Z1 (pS 3 sc_do_turn.nd (Zl Zg (Zn (pv 0) rfl) Z7 (fun _ _=>rfl)))
  (Z1 (pS 4 sc_do_turn.nd (Zz (Z0 (Zn (pv 0) rfl) (Z0 (Zn (pv 0) rfl) (Z0 (Zn (pv 0) rfl) (Z0 (Zz (Z0 (pv 2) (Z0 (Zn (pv 0) rfl) (Z0 (pv 3) Z3)))) Z3))))))
  (Z1 (pS 5 sc_do_turn.nd (Zz (Z0 (Zl Zg (pv 1) Z7 (fun _ _=>rfl)) (Z0 (Zn (pv 0) rfl) (Z0 (Zn (pv 0) rfl) (Z0 (pv 3) Z3))))))
  (Z1 (pS 6 sc_do_turn.nd (Zhu (Z7b (Ux (Zl Zg (pv 1) Z7 (fun _ _=>rfl)))) (U5 (Yz Z5v (pv 2) (Zl Zg (pv 1) Z7 (fun _ _=>rfl)) (Zh _)))))
  (Z1 (pS 7 sc_do_turn.nd (Yz Z3f (pv 2) (Zl Zg (pv 1) Z7 (fun _ _=>rfl)) (Zh _)))
  (Z4 (Zu (PW.pt (T9 (Yh (pv 6)) (Vy (Yh (pv 7))))) (Z1 (pS 8 sc_do_turn.nd (Yz Y2 (Zl Zg (pv 1) Z7 (fun _ _=>rfl)) Zq (Zh _)))
  (Z1 (Zf (Yt PySem.F.plainAttrs_list PySem.F.slot_list_append PySem.F.type_list_append Zy (Zn (pv 0) rfl) (Z0 (Xi (Yh (pv 8)) (pv 4) (pv 5)) Z3)))
  (Z4 (Zf (X9 (O_Machine_enter.mono (by omega)) MT.cl hr (pv 0) (Z0 (Xi (Yh (pv 8)) (pv 5) (pv 4)) Z3)))))) (Z4 (Zu (Yh (pv 6)) (Z4 (Zf (X9 (O_Machine_enter.mono (by omega)) MT.cl hr (pv 0) (Z0 (pv 4) Z3)))) (Z4 (Zu (Yh (pv 7)) (Z4 (Zf (X9 (O_Machine_enter.mono (by omega)) MT.cl hr (pv 0) (Z0 (pv 5) Z3)))) (Z4 (Zf (Yd (O_Machine_go_back.mono (by omega)) MT.cl hr (pv 0)))))))))))))))),?_⟩
 refine Zfq ?_
 intro Ez Az1 Az2 Az3 Az4 Az5 Az6 Az7 Az8 Az9 Az10 Az11 Az12 Az13 Az14
 obtain rfl:=hA.chs
 obtain rfl:=hA.text
 obtain⟨⟨dx,e1⟩,vs,hv,hvp⟩:=id hM
 obtain⟨a',e,ha⟩:=hrow
 cases e
 have hcl:=hA.cslen
 have hvl:=Paired.length hvp
 obtain⟨x,r,pa,v',hch,hheld,hpa,hl'⟩:=hA.top (Z0d X8 rfl (by intro z;cases z))
 have hfh:M.s.fs.lookup ("held":Str)=some (.ref pa):=by rw[U1,hheld]
 refine(Z6 rfl ⟨m,C,dx,_,_,rfl,e1,MT.cl,MT.a6,hfh,pa,_,_,_,rfl,rfl,SqT.of hpa,Z0p,?_⟩)
 refine(Z6 rfl ⟨m,C,dx,_,_,rfl,e1,MT.cl,MT.a6,hfh,pa,_,_,_,rfl,rfl,SqT.of hpa,rfl,?_⟩)
 refine(Z6 rfl ⟨m,C,dx,_,_,rfl,e1,MT.cl,MT.a3,Z4h _,Z6 rfl ⟨m,C,dx,_,_,rfl,e1,MT.cl,MT.a4,Wi _,Z6 rfl ⟨m,C,dx,_,_,rfl,e1,MT.cl,MT.a5,Xr _,Z6 rfl (Z6 rfl ⟨m,C,dx,_,_,rfl,e1,MT.cl,MT.a4,Wi _,Z6 rfl ⟨sz,fun p1 hp1=>⟨sz,fun p2 hp2=>?_⟩⟩⟩)⟩⟩⟩)
 have g1:Gro [] H (Zr (Zr H p1 (.tup [.int x.1,.int M.s.place,v'])) p2 (.tup [.int M.s.row,.int M.s.place,M.s.groups,.ref p1])):=(Gro.new hp1 _).tup hp2
 have t1:(Zr (Zr H p1 (.tup [.int x.1,.int M.s.place,v'])) p2 (.tup [.int M.s.row,.int M.s.place,M.s.groups,.ref p1])) p1=some (.tup [.int x.1,.int M.s.place,v']):=by rw[Zo (Za Z5 hp2)];exact Z5
 have t2:(Zr (Zr H p1 (.tup [.int x.1,.int M.s.place,v'])) p2 (.tup [.int M.s.row,.int M.s.place,M.s.groups,.ref p1])) p2=some (.tup [.int M.s.row,.int M.s.place,M.s.groups,.ref p1]):=Z5
 have hM1:=hM.gro g1 (by simp) (by simp)
 have f1:=g1.keep _ _ e1 (by simp)
 have ha1:=g1.tups _ _ ha
 generalize Zr (Zr H p1 (.tup [.int x.1,.int M.s.place,v'])) p2 (.tup [.int M.s.row,.int M.s.place,M.s.groups,.ref p1])=H1 at *
 refine(Wo ha1 rfl ⟨_,rfl,m,C,dx,_,_,rfl,f1,MT.cl,MT.a4,Wi _,_,rfl,m,C,dx,_,_,rfl,f1,MT.cl,MT.a5,Xr _,_,rfl,sz,fun p3 hp3=>?_⟩)
 have g2:=Gro.new (S:=[]) hp3 (.tup [.int z,.int M.s.place,M.s.groups,v'])
 have t3:(Zr H1 p3 (.tup [.int z,.int M.s.place,M.s.groups,v'])) p3=some (.tup [.int z,.int M.s.place,M.s.groups,v']):=Z5
 have hM2:=hM1.new (o:=.tup [.int z,.int M.s.place,M.s.groups,v']) hp3
 have f2:=g2.keep _ _ f1 (by simp)
 have ha2:=g2.tups _ _ ha1
 have t1':=g2.tups _ _ t1
 have t2':=g2.tups _ _ t2
 have g12:=g1.trans g2
 have hv2:=g12.keep _ _ hv (by simp)
 have hvp2:=Paired.mapP hvp fun _ _ q=>q.mono g12.tups
 generalize Zr H1 p3 (.tup [.int z,.int M.s.place,M.s.groups,v'])=H2 at *
 have hA2:=hA.mono g12.tups
 have hHl:HlAt H2 (.ref p1) ((x.1,c.i)::r):=⟨p1,v',rfl,by rw[t1',hA.pl],hl'.mono g12.tups⟩
 have Yi:(Op.turn lo hi how z).act M.s.text c=if Z8m hi x.1=true then
    (if lo<=x.1 then(match how with
     |.little=>.run ⟨z,c.i,c.g,r,c.cs++[(c.r,c.i,c.g,(x.1,c.i)::r)]⟩
     |_=>.run ⟨c.r,c.i,c.g,(x.1,c.i)::r,c.cs++[(z,c.i,c.g,r)]⟩)
    else .run ⟨c.r,c.i,c.g,(x.1,c.i)::r,c.cs⟩)
   else if lo<=x.1 then .run ⟨z,c.i,c.g,r,c.cs⟩ else bk c.cs:=by
  cases how <;> simp only[Op.act,hch]
 have goG:∀(H3:Hp) (cs:List Zf0) (cs':List Ch),MAt C H3 m ⟨M.s,cs⟩->Gro [m,M.s.choices] H2 H3->Paired (ChA H3) cs cs'->(Op.turn lo hi how z).act M.s.text c=.run ⟨c.r,c.i,c.g,(x.1,c.i)::r,cs'⟩->Vx C [.ref m,.ref p2] H3 (fun _ H'=>Q .non H') E:=fun H3 cs cs' hM3 g3 hcs' hact' =>
  ⟨m,p2,⟨M.s,cs⟩,(M.s.row,M.s.place,M.s.groups,.ref p1),rfl,hM3,g3.tups _ _ t2',fun H' hM' g'=>by
   have gg:=(g12.mono (S':=[m,M.s.choices]) (by simp)).trans (g3.trans g')
   have hA3:=hA.mono gg.tups
   refine q H' _ hM' ?_ rfl rfl gg
   rw[hact']
   exact⟨hA3.rows,rfl,rfl,hA3.en,hA3.row,hA3.pl,hA3.gs,hHl.mono fun b xs h=>g'.tups _ _ (g3.tups _ _ h),Paired.mapP hcs' fun _ _ h=>h.mono g'.tups⟩⟩
 have goS:∀(H3:Hp) (cs:List Zf0) (cs':List Ch),MAt C H3 m ⟨M.s,cs⟩->Gro [m,M.s.choices] H2 H3->Paired (ChA H3) cs cs'->(Op.turn lo hi how z).act M.s.text c=.run ⟨z,c.i,c.g,r,cs'⟩->Vx C [.ref m,.ref p3] H3 (fun _ H'=>Q .non H') E:=fun H3 cs cs' hM3 g3 hcs' hact' =>
  ⟨m,p3,⟨M.s,cs⟩,((z:Int),M.s.place,M.s.groups,v'),rfl,hM3,g3.tups _ _ t3,fun H' hM' g'=>by
   have gg:=(g12.mono (S':=[m,M.s.choices]) (by simp)).trans (g3.trans g')
   have hA3:=hA.mono gg.tups
   refine q H' _ hM' ?_ rfl rfl gg
   rw[hact']
   exact⟨hA3.rows,rfl,rfl,hA3.en,rfl,hA3.pl,hA3.gs,hl'.mono gg.tups,Paired.mapP hcs' fun _ _ h=>h.mono g'.tups⟩⟩
 refine Zaw rfl rfl ha2 rfl ?_
 refine(Z6 rfl (Wo ha2 rfl ⟨_,_,rfl,rfl,?_⟩))
 refine(Z6 rfl (Z6 rfl (?_)))
 cases hG:Z8m hi x.1 with
 |true =>
  rw[hG,if_pos rfl]at Yi
  refine Zj rfl (Z6 rfl (Z6 rfl (?_)))
  by_cases hlo:lo<=x.1
  ·rw[if_pos hlo]at Yi
   refine Zj (decide_eq_true hlo) ?_
   refine(Wo ha2 rfl ⟨rfl,?_⟩)
   refine(Z6 rfl ⟨m,C,dx,_,_,rfl,f2,MT.cl,MT.a7,Yo _,.inl ⟨rfl,_,SqL.of hv2⟩,Z6 rfl (Z6 rfl (?_))⟩)
   by_cases hl:how=.little
   ·subst hl
    refine Zj (show Z15 "little" "little" = true by decide +kernel) (Z6 rfl ⟨M.s.choices,vs,Z6 rfl ⟨rfl,hv2,Z9q (by omega),?_⟩⟩)
    obtain⟨hM3,g3⟩:=hM2.push (q:=(M.s.row,M.s.place,M.s.groups,.ref p1)) hv2 hvp2 t2'
    obtain⟨⟨dx3,f3⟩,_⟩:=id hM3
    refine(Z6 rfl ⟨m,dx3,Z6 rfl ⟨f3,Ud _,Z6 rfl (Z6 rfl (Zj (show Z15 "little" "little" = true by decide +kernel) (Z6 rfl (?_))))⟩⟩)
    exact goS _ _ _ hM3 (g3.mono (by simp)) ((Paired.mapP hA2.cs fun _ _ h=>h.mono g3.tups).snoc ⟨hA.row,hA.pl,hA2.gs.mono g3.tups,hHl.mono g3.tups⟩) Yi
   ·have hn':¬Z15 how.text "little" = true:=by
     cases how with
     |little=>exact absurd rfl hl
     |much=>decide +kernel
     |keep=>decide +kernel
    have hact':(Op.turn lo hi how z).act M.s.text c=.run ⟨c.r,c.i,c.g,(x.1,c.i)::r,c.cs++[(z,c.i,c.g,r)]⟩:=by
     cases how with
     |little=>exact absurd rfl hl
     |much=>exact Yi
     |keep=>exact Yi
    refine Zb hn' (Z6 rfl ⟨M.s.choices,vs,Z6 rfl ⟨rfl,hv2,Z9q (by omega),?_⟩⟩)
    obtain⟨hM3,g3⟩:=hM2.push (q:=((z:Int),M.s.place,M.s.groups,v')) hv2 hvp2 t3
    obtain⟨⟨dx3,f3⟩,_⟩:=id hM3
    refine(Z6 rfl ⟨m,dx3,Z6 rfl ⟨f3,Ud _,Z6 rfl (Z6 rfl (Zb hn' (Z6 rfl (?_))))⟩⟩)
    exact goG _ _ _ hM3 (g3.mono (by simp)) ((Paired.mapP hA2.cs fun _ _ h=>h.mono g3.tups).snoc ⟨rfl,hA.pl,hA2.gs.mono g3.tups,(hl'.mono g12.tups).mono g3.tups⟩) hact'
  ·rw[if_neg hlo]at Yi
   refine Zb (fun z=>hlo (of_decide_eq_true z)) (Z6 rfl (Z6 rfl (Zj rfl ?_)))
   exact(Z6 rfl ⟨m,dx,Z6 rfl ⟨f2,Ud _,Z6 rfl (goG H2 M.cs c.cs hM2 Gro.refl hA2.cs Yi)⟩⟩)
 |false =>
  rw[hG,if_neg (by decide)]at Yi
  refine Zb (by decide) (Zb (by decide) (Z6 rfl (Z6 rfl (Zb (by decide) (Z6 rfl (Z6 rfl (?_)))))))
  by_cases hlo:lo<=x.1
  ·rw[if_pos hlo]at Yi
   refine Zj (decide_eq_true hlo) ?_
   exact(Z6 rfl ⟨m,dx,Z6 rfl ⟨f2,Ud _,Z6 rfl (goS H2 M.cs c.cs hM2 Gro.refl hA2.cs Yi)⟩⟩)
  ·rw[if_neg hlo]at Yi
   refine Zb (fun z=>hlo (of_decide_eq_true z)) (Z6 rfl ⟨m,dx,Z6 rfl ⟨f2,Yn _,m,M,rfl,hM2,by omega,fun H' hM' g'=>?_⟩⟩)
   have bf:=Yp M
   exact q H' _ hM' (by rw[Yi];exact hA2.back.mono g'.tups) bf.1 bf.2 ((g12.mono (by simp)).trans g')
end
theorem Za6{H:Hp}{a:Addr}{o:Op}(h:RowAt H (.ref a) o.rw):∃r,H a=some (.tup (.str o.word::r)):=by
 cases o with
 |pat hd =>
  obtain⟨a',kv,e',l,_⟩:=h
  cases e'
  exact l.head
 |_=>obtain⟨a',e',h⟩:=h;cases e';exact⟨_,h⟩
def Cf.csl:Cf->Nat
 |.run c=>c.cs.length
 |.ended=>0
theorem Zc1(cs:List Ch):(bk cs).csl<=cs.length:=by
 unfold bk
 split
 ·exact Nat.zero_le _
 ·show cs.dropLast.length<=_
  rw[List.length_dropLast]
  omega
theorem Zeh(t:Str)(o:Op)(c:Cg):(o.act t c).csl<=c.cs.length+1:=by
 have b:=Zc1 c.cs
 have one:∀q:Ch,(c.cs++[q]).length<=c.cs.length+1:=fun q=>by rw[List.length_append];exact Nat.le_refl _
 have tk:∀k,(c.cs.take k).length<=c.cs.length+1:=fun k=>by rw[List.length_take];omega
 cases o with
 |pat h =>
  cases h with
  |beg=>simp only[Op.act];split <;> first | exact Nat.le_succ _ | omega
  |fin=>simp only[Op.act];split <;> first | exact Nat.le_succ _ | omega
  |again k =>
   simp only[Op.act]
   split
   ·omega
   ·split <;> first | exact Nat.le_succ _ | omega
  |_=>simp only[Op.act];split <;> first | exact Nat.le_succ _ | omega
 |try_ z=>exact one _
 |go z=>exact Nat.le_succ _
 |have_ k z=>simp only[Op.act];split <;> exact Nat.le_succ _
 |turns=>exact Nat.le_succ _
 |open_=>exact Nat.le_succ _
 |close k=>simp only[Op.act];split <;> first | exact Nat.zero_le _ | exact Nat.le_succ _
 |turn lo hi how z =>
  simp only[Op.act]
  split
  ·exact Nat.zero_le _
  ·split
   ·split
    ·split <;> exact one _
    ·exact Nat.le_succ _
   ·split
    ·exact Nat.le_succ _
    ·omega
 |next lo z =>
  simp only[Op.act]
  split
  ·exact Nat.zero_le _
  ·split
   ·omega
   ·exact Nat.le_succ _
 |once=>exact Nat.le_succ _
 |kept=>simp only[Op.act];split <;> first | exact Nat.zero_le _ | exact tk _
 |peeked=>simp only[Op.act];split <;> first | exact Nat.zero_le _ | exact tk _
 |bar z=>exact one _
 |barred =>
  simp only[Op.act]
  split
  ·exact Nat.zero_le _
  ·rename_i p _ _
   have h1:=Zc1 (c.cs.take p.1)
   have h2:=tk p.1
   omega
 |lean=>simp only[Op.act];split <;> first | exact one _ | exact Nat.le_succ _
 |here =>
  simp only[Op.act]
  split
  ·exact Nat.zero_le _
  ·split
   ·exact Nat.le_succ _
   ·omega
 |found=>exact Nat.le_succ _
theorem Uy(es:List Op)(t:Str)(M:Cf):∀k,(run es t k M).csl<=M.csl+k
 |0=>Nat.le_refl _
 |k+1=>by
  have ih:=Uy es t M k
  show(step es t (run es t k M)).csl<=_
  cases h:run es t k M with
  |ended=>exact Nat.zero_le _
  |run c =>
   rw[h]at ih
   have:=Zeh t (es.getD c.r .found) { c with r:=c.r+1 }
   show((es.getD c.r .found).act t { c with r:=c.r+1 }).csl<=_
   have ih':c.cs.length<=M.csl+k:=ih
   have th':_<=c.cs.length+1:=this
   omega
section
variable{P:Program}{w:World}{K:W.Frag}{mg:Str->Option Value}{base:Heap}{C:Addr}
theorem Z0f{o:Op}{row:Hp->Addr->Prop}{go:MM->MM}(hrow:∀H a,RowAt H (.ref a) o.rw->row H a)(hgo:∀(H:Hp) (ra ch:Addr) (t:Str) (n:Nat) (M:MM) (c:Cg),Ab H ra t ch M c->AbF H ra t ch (go M) (o.act t c)/\(go M).s.made=M.s.made/\(go M).s.found=o.fd M.s.found) :
  ∀vs H Q E,T4 C o vs H Q E->Z21 C Z9t row go vs H Q E:=by
 rintro vs H Q E ⟨m,a,ra,ch,t,n,M,c,rfl,hM,hA,hr,ht,hci,hg,hn,X8,hcs,q⟩
 have hl:=hA.cslen
 refine⟨m,a,M,rfl,hM,by omega,⟨by rw[hA.pl];omega,by rw[hA.text];exact ht⟩,hrow H a hr,fun H' hM' g'=>?_⟩
 obtain⟨h1,h2,h3⟩:=hgo H ra ch t n M c hA
 have g'':Gro [m,ch] H H':=by rw[← hA.chs];exact g'
 exact q H' _ hM' (h1.mono g'.tups) h2 h3 g''
theorem Zei{h:Hd}(h1:h.one=true)(H:Hp)(ra ch:Addr)(t:Str)(n:Nat)(M:MM)(c:Cg)(hA:Ab H ra t ch M c):AbF H ra t ch (MM.doSign h M) ((Op.pat h).act t c)/\(MM.doSign h M).s.made=M.s.made/\(MM.doSign h M).s.found=(Op.pat h).fd M.s.found:=by
 have Yi:(Op.pat h).act t c=if Yj h t c.i=true then .run { c with i:=c.i+1 } else bk c.cs:=by
  cases h <;> first | rfl | cases h1
 have b:=Yp M
 unfold MM.doSign
 rw[Yi,hA.text,hA.pl]
 split
 ·exact⟨⟨hA.rows,hA.text,hA.chs,hA.en,hA.row,by show(c.i:Int)+1=((c.i+1:Nat):Int);omega,hA.gs,hA.hl,hA.cs⟩,rfl,rfl⟩
 ·exact⟨hA.back,b.1,b.2⟩
theorem Zgv(H:Hp)(ra ch:Addr)(t:Str)(n:Nat)(M:MM)(c:Cg)(hA:Ab H ra t ch M c):AbF H ra t ch (MM.doBegin M) ((Op.pat .beg).act t c)/\(MM.doBegin M).s.made=M.s.made/\(MM.doBegin M).s.found=(Op.pat .beg).fd M.s.found:=by
 have b:=Yp M
 have Yi:(Op.pat .beg).act t c=if c.i=0 then .run c else bk c.cs:=rfl
 have hp:=hA.pl
 unfold MM.doBegin
 rw[Yi]
 by_cases e:c.i=0
 ·rw[if_pos e,if_pos (by omega)]
  exact⟨hA,rfl,rfl⟩
 ·rw[if_neg e,if_neg (by omega)]
  exact⟨hA.back,b.1,b.2⟩
theorem Zgu(H:Hp)(ra ch:Addr)(t:Str)(n:Nat)(M:MM)(c:Cg)(hA:Ab H ra t ch M c):AbF H ra t ch (MM.doEnd M) ((Op.pat .fin).act t c)/\(MM.doEnd M).s.made=M.s.made/\(MM.doEnd M).s.found=(Op.pat .fin).fd M.s.found:=by
 have b:=Yp M
 have Yi:(Op.pat .fin).act t c=if c.i=t.length then .run c else bk c.cs:=rfl
 have hp:=hA.pl
 unfold MM.doEnd
 rw[Yi,hA.text]
 by_cases e:c.i=t.length
 ·rw[if_pos e,if_pos (by omega)]
  exact⟨hA,rfl,rfl⟩
 ·rw[if_neg e,if_neg (by omega)]
  exact⟨hA.back,b.1,b.2⟩
structure DoesA(P:Program)(w:World)(K:W.Frag)(mg:Str->Option Value)(base:Heap)(kk:Nat)(ds:List (Uh×V))(C:Addr):Prop where
 all:∀o:Op,o.ok->Tells P w K mg base kk ds o.word (T4 C o)
def AM(H:Hp)(ra:Addr)(t:Str)(ch:Addr)(M:MM)(cf:Cf):Prop:=(M.s.found=false/\AbF H ra t ch M cf)∨(M.s.found=true/\∃c,Ab H ra t ch M c/\cf=bk c.cs)
theorem AM.fresh{H:Hp}{ra:Addr}{t:Str}{ch:Addr}{M:MM}{cf:Cf}(h:AM H ra t ch M cf):AbF H ra t ch M.fresh cf/\M.fresh.s.found=false/\M.fresh.s.made=M.s.made/\M.s.choices=ch:=by
 unfold MM.fresh
 rcases h with⟨h1,h2⟩ | ⟨h1,c,h2,rfl⟩
 ·rw[if_neg (by rw[h1];decide)]
  refine⟨h2,h1,rfl,?_⟩
  cases cf with
  |run c=>exact Ab.chs h2
  |ended=>exact AbE.chs h2
 ·rw[if_pos h1]
  have h3:Ab H ra t ch ⟨{ M.s with found:=false },M.cs⟩ c:=⟨h2.rows,h2.text,h2.chs,h2.en,h2.row,h2.pl,h2.gs,h2.hl,h2.cs⟩
  have b:=Yp ⟨{ M.s with found:=false },M.cs⟩
  exact⟨h3.back,b.2,b.1,h2.chs⟩
end
structure MachDefsA(K:W.Frag)(mg:Str->Option Value)(C:Addr):Prop where
 base_:MachDefs K mg C
 hold:MDef K C "hold" "Machine.hold" Xw ["self","number"]
 let_go:MDef K C "let_go" "Machine.let_go" X4 ["self"]
 drop:MDef K C "drop_choices" "Machine.drop_choices" Yf ["self","size"]
 entry:MDef K C "entry" "Machine.entry" Xg ["self","number"]
structure DoingsA(K:W.Frag)(ds:List (Uh×V)):Prop where
 sign:Dn K ds "sign" "do_sign" Ys ["machine","row"]
 any:Dn K ds "any" "do_sign" Ys ["machine","row"]
 inn:Dn K ds "in" "do_sign" Ys ["machine","row"]
 out:Dn K ds "out" "do_sign" Ys ["machine","row"]
 beg:Dn K ds "begin" "do_begin" Vt ["machine","row"]
 fin:Dn K ds "end" "do_end" Tu ["machine","row"]
 again:Dn K ds "again" "do_again" Vu ["machine","row"]
 try_:Dn K ds "try" "do_try" Tt ["machine","row"]
 go:Dn K ds "go" "do_go" Z0w ["machine","row"]
 have_:Dn K ds "have" "do_have" Ur ["machine","row"]
 turns:Dn K ds "turns" "do_hold" V3 ["machine","row"]
 open_:Dn K ds "open" "do_hold" V3 ["machine","row"]
 close:Dn K ds "close" "do_close" Vs ["machine","row"]
 turn:Dn K ds "turn" "do_turn" Uk ["machine","row"]
 next:Dn K ds "next" "do_next" Um ["machine","row"]
 once:Dn K ds "once" "do_once" Ul ["machine","row"]
 kept:Dn K ds "kept" "do_kept" Up ["machine","row"]
 peeked:Dn K ds "peeked" "do_peeked" Vc ["machine","row"]
 bar:Dn K ds "bar" "do_bar" Tv ["machine","row"]
 barred:Dn K ds "barred" "do_barred" Vd ["machine","row"]
 lean:Dn K ds "lean" "do_lean" Uo ["machine","row"]
 here:Dn K ds "here" "do_here" Uq ["machine","row"]
 found:Dn K ds "found" "do_found" Vr ["machine","row"]
section
variable{P:Program}{w:World}{K:W.Frag}{mg:Str->Option Value}{base:Heap}{C f:Addr}{fd:FuncData}
theorem Zb7{ds:List (Uh×V)}(T:Blt mg)(MA:MachDefsA K mg C)(DD:DoingsA K ds)(p1:Def K mg "takes_sign" X6 ["row","text","at"])(p2:Def K mg "lies_in" V1 ["runs","sign"])(p3:Def K mg "with_entry" X5 ["groups","number","begin","end"]):DoesA P w K mg base 3 ds C:=by
 have MD:=MA.base_
 have li:Own P w K mg base 1 "lies_in" ["runs","sign"] Z73:=p2.own fun _ _ F=>Z6e F
 have ta:Own P w K mg base 2 "takes_sign" ["row","text","at"] Z3j:=p1.own fun _ _ F=>Z28 T li F
 have we:Own P w K mg base 1 "with_entry" ["groups","number","begin","end"] Z6z:=p3.own fun _ _ F=>Zdj F
 have en:OwnM P w K mg base 1 C "enter" ["self","state"] (Vx C):=MD.enter.own fun _ _ F=>Z5a MD.tx F
 have gb:OwnM P w K mg base 2 C "go_back" ["self"] (We C):=MD.go_back.own fun _ _ F=>Z1d T MD.tx en F
 have ho:OwnM P w K mg base 1 C "hold" ["self","number"] (J4 C):=MA.hold.own fun _ _ F=>Zdp MD.tx F
 have lg:OwnM P w K mg base 1 C "let_go" ["self"] (T8 C):=MA.let_go.own fun _ _ F=>Z96 MD.tx F
 have dr:OwnM P w K mg base 1 C "drop_choices" ["self","size"] (J5 C):=MA.drop.own fun _ _ F=>Zdt T MD.tx F
 have et:OwnM P w K mg base 1 C "entry" ["self","number"] (Z4a C):=MA.entry.own fun _ _ F=>Zam T MD.tx F
 have sg:∀h:Hd,h.one=true->∀f fd,Fun K "do_sign" "do_sign" Ys f fd->FnOk P w K mg base Wp 3 f fd ["machine","row"] (T4 C (.pat h)):=fun h h1 f fd F =>
  (Z6g (P:=P) (w:=w) (base:=base) h1 MD.tx ta gb F).imp (Z0f (fun _ _ h=>h) (Zei h1))
 refine⟨fun o hok=>?_⟩
 cases o with
 |pat h =>
  cases h with
  |sign x=>exact DD.sign.tells (sg (.sign x) rfl)
  |any=>exact DD.any.tells (sg .any rfl)
  |inn x=>exact DD.inn.tells (sg (.inn x) rfl)
  |out x=>exact DD.out.tells (sg (.out x) rfl)
  |beg=>exact DD.beg.tells fun _ _ F=>(Z4r MD.tx gb F).imp (Z0f (fun _ _ h=>h) Zgv)
  |fin=>exact DD.fin.tells fun _ _ F=>(Z98 T MD.tx gb F).imp (Z0f (fun _ _ h=>h) Zgu)
  |again k=>exact DD.again.tells fun _ _ F=>Z4s MD.tx gb et F
  |_=>cases hok
 |try_ z=>exact DD.try_.tells fun _ _ F=>((Z97 (z:=(z:Int)) MD.tx F).mono (by decide)).imp (Z0f (fun _ _ h=>h) fun H ra ch t n M c hA=>⟨⟨hA.rows,hA.text,hA.chs,hA.en,hA.row,hA.pl,hA.gs,hA.hl,hA.cs.snoc ⟨rfl,hA.pl,hA.gs,hA.hl⟩⟩,rfl,rfl⟩)
 |go z=>exact DD.go.tells fun _ _ F=>((Zan (z:=(z:Int)) MD.tx F).mono (by decide)).imp (Z0f (fun _ _ h=>h) fun H ra ch t n M c hA=>⟨⟨hA.rows,hA.text,hA.chs,hA.en,rfl,hA.pl,hA.gs,hA.hl,hA.cs⟩,rfl,rfl⟩)
 |have_ k z=>exact DD.have_.tells fun _ _ F=>(Z6m MD.tx et F).mono (by decide)
 |turns=>exact DD.turns.tells fun _ _ F=>(Z1e (.inl rfl) MD.tx ho F).mono (by decide)
 |open_=>exact DD.open_.tells fun _ _ F=>(Z1e (.inr rfl) MD.tx ho F).mono (by decide)
 |close k=>exact DD.close.tells fun _ _ F=>(Z4q MD.tx lg we F).mono (by decide)
 |turn lo hi how z=>exact DD.turn.tells fun _ _ F=>Z6f MD.tx en gb F
 |next lo z=>exact DD.next.tells fun _ _ F=>Z6i MD.tx lg gb F
 |once=>exact DD.once.tells fun _ _ F=>(Z6h T MD.tx ho F).mono (by decide)
 |kept=>exact DD.kept.tells fun _ _ F=>(Z6k MD.tx lg dr F).mono (by decide)
 |peeked=>exact DD.peeked.tells fun _ _ F=>(Z39 MD.tx lg dr F).mono (by decide)
 |bar z=>exact DD.bar.tells fun _ _ F=>(Z99 T MD.tx ho F).mono (by decide)
 |barred=>exact DD.barred.tells fun _ _ F=>Z3a MD.tx lg dr gb F
 |lean=>exact DD.lean.tells fun _ _ F=>(Z6j MD.tx F).mono (by decide)
 |here=>exact DD.here.tells fun _ _ F=>Z6l MD.tx gb F
 |found =>
  refine DD.found.tells fun _ _ F=>((Z4p MD.tx F).mono (by decide)).imp fun vs H Q E h=>?_
  obtain⟨m,a,M,rfl,hM,hz,_,⟨a',e',ha⟩,q⟩:=Z0f (C:=C) (o:=.found) (row:=fun H a=>RowAt H (.ref a) (Op.rw .found)) (go:=MM.doFound) (fun _ _ h=>h) (fun H ra ch t n M c hA=>⟨⟨hA.rows,hA.text,hA.chs,hA.en,hA.row,hA.pl,hA.gs,hA.hl,hA.cs⟩,rfl,rfl⟩) vs H Q E h
  cases e'
  exact⟨m,a,M,rfl,hM,hz,trivial,ha,q⟩
def Zie(C:Addr)(Q:VK)(H:Hp)(m ra ch:Addr)(t:Str)(n:Nat)(es:List Op)(most:Int)(cf:Cf)(made:Int):Prop :=
 (∃(k:Nat) (c:Cg),Rc es t n cf k (.run c)/\es[c.r]? = some .found/\c.i<=t.length/\GOk t n c.g/\(k:Int)<most/\cf.csl+k<=999999 /\
  ∀(H':Hp) (tt:Addr) (gv:V) (M':MM),MAt C H' m M'->AM H' ra t ch M' (bk c.cs)->M'.cs.length=c.cs.length->M'.s.made=made+k+1->H' tt=some (.tup [.str "way",.int c.i,gv])->GsAt H' gv c.g->Gro [m,ch] H H'->Q (.ref tt) H') ∨
 (∃k:Nat,Rc es t n cf k .ended/\(k:Int)<=most/\cf.csl+k<=999999 /\
  ∀(H':Hp) (tt:Addr) (M':MM),MAt C H' m M'->AM H' ra t ch M' .ended->M'.cs.length=0->M'.s.made=made+k->H' tt=some (.tup [.str "none"])->Gro [m,ch] H H'->Q (.ref tt) H') ∨
 (∃(k:Nat) (c:Cg),Rc es t n cf k (.run c)/\(k:Int)=most/\cf.csl+k<=999999 /\
  ∀(H':Hp) (tt:Addr) (M':MM),MAt C H' m M'->AM H' ra t ch M' (.run c)->M'.cs.length=c.cs.length->M'.s.made=made+k->H' tt=some (.tup [.str "over"])->Gro [m,ch] H H'->Q (.ref tt) H')
inductive spWayCI(C:Addr)(vs:List V)(H:Hp)(Q:VK):Prop
 |mk (m ra ch:Addr) (most:Int) (t:Str) (n:Nat) (es:List Op) (ys:List V) (M:MM) (cf:Cf) (_:vs=[.ref m,.int most]) (_:1<=most) (_:MAt C H m M) (_:AM H ra t ch M cf) (_:M.cs.length<=1000000) (_:H ra=some (.tup ys)) (_:Paired (RowAt H) ys (es.map Op.rw)) (_:(∀o∈es,o.ok)) (_:t.length<=1000) (_:n<=900) (_:Zie C Q H m ra ch t n es most cf M.s.made)
def Z49(C:Addr):Sp:=fun vs H Q _=>spWayCI C vs H Q
theorem Zhh{kk:Nat}{ds:List (Uh×V)}(D:DoesA P w K mg base kk ds C):∀vs H Q E,Z49 C vs H Q E->Zet P w K mg base kk ds C vs H Q E:=by
 rintro vs H Q E ⟨m,ra,ch,most,t,n,es,ys,M,cf,rfl,h1,hM,hAM,hz,hra,hp,hok,ht,hn,hw⟩
 obtain⟨hF,hff,hfm,hch⟩:=hAM.fresh
 subst hch
 have mv:∀(j:Nat) (M':MM) (H':Hp) (c:Cg) (o:Op),es[c.r]? = some o->MAt C H' m M'->Ab H' ra t M.s.choices M' c->c.i<=t.length->GOk t n c.g->(o.need n { c with r:=c.r+1 }∨o=.found)->c.cs.length<=1000000->Gro [m,M.s.choices] H H'->∀Q':VK,
   (∀(H2:Hp) (M2:MM),MAt C H2 m M2->AbF H2 ra t M.s.choices M2 (o.act t { c with r:=c.r+1 })->M2.s.made=M'.s.made+1->M2.s.found=o.fd M'.s.found->Gro [m,M.s.choices] H H2->Q' .non H2)->Z1r P w K mg base kk ds C [.ref m] H' Q' E0:=by
  intro j M' H' c o ho hM' hA' hi hg X8 hcs g Q' hQ
  have hge:(es.map Op.rw)[c.r]? = some o.rw:=by rw[List.getElem?_map,ho];rfl
  obtain⟨v,hv,hrow⟩:=Z03 hp hge
  have hrow':=hrow.mono g.tups
  obtain⟨a,rfl⟩:=Z8y hrow
  obtain⟨r,ha⟩:=Za6 hrow'
  have hat:Z7f ys M'.s.row=some (.ref a):=by rw[hA'.row];exact Wh hv
  refine⟨m,ra,a,ys,_,r,M',T4 C o,rfl,hM',hA'.rows,g.tups _ _ hra,hat,ha,D.all o (hok o (List.mem_of_getElem? ho)),fun H1 hM1 g1=>?_⟩
  have hA1:=hA'.mono g1.tups
  refine⟨m,a,ra,M.s.choices,t,n,M'.next,{ c with r:=c.r+1 },rfl,hM1,⟨hA1.rows,hA1.text,hA1.chs,hA1.en,by show M'.s.row+1=((c.r+1:Nat):Int);rw[hA'.row];omega,hA1.pl,hA1.gs,hA1.hl,hA1.cs⟩,hrow'.mono g1.tups,ht,hi,hg,hn,X8,⟨hcs,Nat.le_add_left 1 _⟩,fun H2 M2 hM2 hA2 hm2 hf2 g2=>?_⟩
  exact hQ H2 M2 hM2 hA2 hm2 hf2 (g.trans ((g1.mono (by simp)).trans g2))
 have getD_of:∀(r:Nat),r<es.length->es[r]? = some (es.getD r .found):=fun r h=>by rw[List.getD_eq_getElem?_getD,List.getElem?_eq_getElem h];rfl
 have noF:∀(o:Op) (c:Cg),o.need n c->∀b,o.fd b=b:=fun o c h b=>by cases o <;> first | rfl | exact h.elim
 rcases hw with⟨k,c0,rc,hfd,hi0,hg0,hkm,hcsb,fin⟩ | ⟨k,rc,hkm,hcsb,fin⟩ | ⟨k,c0,rc,hkm,hcsb,fin⟩
 ·refine⟨m,most,M,fun j M' H'=>j<=k/\MAt C H' m M'/\AbF H' ra t M.s.choices M' (run es t j cf)/\M'.s.made=M.s.made+j/\M'.s.found=false/\Gro [m,M.s.choices] H H',rfl,hM,h1,hz,⟨?_,?_,?_,?_,?_⟩⟩
  ·exact fun H' hM' g=>⟨Nat.zero_le _,hM',hF.mono g.tups,by rw[hfm];simp,hff,g⟩
  ·rintro j M' H' ⟨hj,hM',_,hm,hf,_⟩
   exact⟨hM',hm,hf,by omega⟩
  ·rintro j M' H' ⟨hj,hM',hA',hm,hf,g⟩ he
   exfalso
   have:∃c,run es t j cf=.run c:=by
    by_cases hlt:j<k
    ·obtain⟨c,h,_⟩:=rc.live j hlt
     exact⟨c,h⟩
    ·rw[show j=k by omega]
     exact⟨c0,rc.eq⟩
   obtain⟨c,h⟩:=this
   rw[h]at hA'
   have:=Ab.en hA'
   rw[he]at this
   cases this
  ·rintro j M' H' ⟨hj,_⟩ _ hjm
   omega
  ·rintro j M' H' ⟨hj,hM',hA',hm,hf,g⟩ he hjm Q' hQ
   have hcl:=Uy es t cf j
   by_cases hlt:j<k
   ·obtain⟨c,h,lv⟩:=rc.live j hlt
    rw[h]at hA' hcl
    have ho:=getD_of c.r lv.r
    have hcl':c.cs.length<=cf.csl+j:=hcl
    refine mv j M' H' c _ ho hM' hA' lv.i lv.g (.inl lv.op) (by omega) g Q' fun H2 M2 hM2 hA2 hm2 hf2 g2=>hQ _ H2 M2 hM2 (.inr ⟨?_,by omega,hM2,?_,by rw[hm2,hm];omega,?_,g2⟩)
    ·rw[hf2,noF _ _ lv.op,hf]
    ·show AbF H2 ra t M.s.choices M2 (step es t (run es t j cf))
     rw[h]
     exact hA2
    ·rw[hf2,noF _ _ lv.op,hf]
   ·have hjk:j=k:=by omega
    subst hjk
    rw[rc.eq]at hA' hcl
    have hcl':c0.cs.length<=cf.csl+j:=hcl
    refine mv j M' H' c0 _ hfd hM' hA' hi0 hg0 (.inr rfl) (by omega) g Q' fun H2 M2 hM2 hA2 hm2 hf2 g2=>hQ _ H2 M2 hM2 (.inl ⟨hf2,fun tt htt=>?_⟩)
    have hA3:Ab H2 ra t M.s.choices M2 { c0 with r:=c0.r+1 }:=hA2
    have g3:=Gro.new (S:=[]) htt (.tup [.str "way",.int M2.s.place,M2.s.groups])
    have hA4:=hA3.mono g3.tups
    exact fin _ tt M2.s.groups M2 (hM2.new htt) (.inr ⟨hf2,_,hA4,rfl⟩) hA4.cslen (by omega) (by rw[Z5,hA3.pl]) hA4.gs (g2.trans (g3.mono (by simp)))
 ·refine⟨m,most,M,fun j M' H'=>j<=k/\MAt C H' m M'/\AbF H' ra t M.s.choices M' (run es t j cf)/\M'.s.made=M.s.made+j/\M'.s.found=false/\Gro [m,M.s.choices] H H',rfl,hM,h1,hz,⟨?_,?_,?_,?_,?_⟩⟩
  ·exact fun H' hM' g=>⟨Nat.zero_le _,hM',hF.mono g.tups,by rw[hfm];simp,hff,g⟩
  ·rintro j M' H' ⟨hj,hM',_,hm,hf,_⟩
   exact⟨hM',hm,hf,by omega⟩
  ·rintro j M' H' ⟨hj,hM',hA',hm,hf,g⟩ he tt htt
   have hjk:j=k:=by
    by_cases hlt:j<k
    ·obtain⟨c,h,_⟩:=rc.live j hlt
     rw[h]at hA'
     have:=Ab.en hA'
     rw[he]at this
     cases this
    ·omega
   subst hjk
   rw[rc.eq]at hA'
   have g3:=Gro.new (S:=[]) htt (.tup [.str "none"])
   have hE:AbE ra t M.s.choices M':=hA'
   exact fin _ tt M' (hM'.new htt) (.inl ⟨hf,hE⟩) (by rw[hE.cs];rfl) hm Z5 (g.trans (g3.mono (by simp)))
  ·rintro j M' H' ⟨hj,hM',hA',hm,hf,g⟩ he hjm
   exfalso
   have hjk:j=k:=by omega
   subst hjk
   rw[rc.eq]at hA'
   have hE:AbE ra t M.s.choices M':=hA'
   rw[hE.en]at he
   cases he
  ·rintro j M' H' ⟨hj,hM',hA',hm,hf,g⟩ he hjm Q' hQ
   have hcl:=Uy es t cf j
   have hlt:j<k:=by
    by_cases hlt:j<k
    ·exact hlt
    ·exfalso
     have hjk:j=k:=by omega
     subst hjk
     rw[rc.eq]at hA'
     have hE:AbE ra t M.s.choices M':=hA'
     rw[hE.en]at he
     cases he
   obtain⟨c,h,lv⟩:=rc.live j hlt
   rw[h]at hA' hcl
   have ho:=getD_of c.r lv.r
   have hcl':c.cs.length<=cf.csl+j:=hcl
   refine mv j M' H' c _ ho hM' hA' lv.i lv.g (.inl lv.op) (by omega) g Q' fun H2 M2 hM2 hA2 hm2 hf2 g2=>hQ _ H2 M2 hM2 (.inr ⟨?_,by omega,hM2,?_,by rw[hm2,hm];omega,?_,g2⟩)
   ·rw[hf2,noF _ _ lv.op,hf]
   ·show AbF H2 ra t M.s.choices M2 (step es t (run es t j cf))
    rw[h]
    exact hA2
   ·rw[hf2,noF _ _ lv.op,hf]
 ·have lives:∀j,j<=k->∃c,run es t j cf=.run c:=fun j hj=>by
   by_cases hlt:j<k
   ·obtain⟨c,h,_⟩:=rc.live j hlt
    exact⟨c,h⟩
   ·rw[show j=k by omega]
    exact⟨c0,rc.eq⟩
  refine⟨m,most,M,fun j M' H'=>j<=k/\MAt C H' m M'/\AbF H' ra t M.s.choices M' (run es t j cf)/\M'.s.made=M.s.made+j/\M'.s.found=false/\Gro [m,M.s.choices] H H',rfl,hM,h1,hz,⟨?_,?_,?_,?_,?_⟩⟩
  ·exact fun H' hM' g=>⟨Nat.zero_le _,hM',hF.mono g.tups,by rw[hfm];simp,hff,g⟩
  ·rintro j M' H' ⟨hj,hM',_,hm,hf,_⟩
   exact⟨hM',hm,hf,by omega⟩
  ·rintro j M' H' ⟨hj,hM',hA',hm,hf,g⟩ he
   exfalso
   obtain⟨c,h⟩:=lives j hj
   rw[h]at hA'
   have:=Ab.en hA'
   rw[he]at this
   cases this
  ·rintro j M' H' ⟨hj,hM',hA',hm,hf,g⟩ he hjm tt htt
   have hjk:j=k:=by omega
   subst hjk
   rw[rc.eq]at hA'
   have hA3:Ab H' ra t M.s.choices M' c0:=hA'
   have g3:=Gro.new (S:=[]) htt (.tup [.str "over"])
   exact fin _ tt M' (hM'.new htt) (.inl ⟨hf,hA3.mono g3.tups⟩) hA3.cslen hm Z5 (g.trans (g3.mono (by simp)))
  ·rintro j M' H' ⟨hj,hM',hA',hm,hf,g⟩ he hjm Q' hQ
   have hcl:=Uy es t cf j
   have hlt:j<k:=by omega
   obtain⟨c,h,lv⟩:=rc.live j hlt
   rw[h]at hA' hcl
   have ho:=getD_of c.r lv.r
   have hcl':c.cs.length<=cf.csl+j:=hcl
   refine mv j M' H' c _ ho hM' hA' lv.i lv.g (.inl lv.op) (by omega) g Q' fun H2 M2 hM2 hA2 hm2 hf2 g2=>hQ _ H2 M2 hM2 (.inr ⟨?_,by omega,hM2,?_,by rw[hm2,hm];omega,?_,g2⟩)
   ·rw[hf2,noF _ _ lv.op,hf]
   ·show AbF H2 ra t M.s.choices M2 (step es t (run es t j cf))
    rw[h]
    exact hA2
   ·rw[hf2,noF _ _ lv.op,hf]
theorem Zab{dn:Addr}{ds:List (Uh×V)}(T:Blt mg)(MA:MachDefsA K mg C)(Ug:mg "DOINGS" = some (.ref dn))(hDN:Zem K w dn ds)(DD:DoingsA K ds)(p1:Def K mg "takes_sign" X6 ["row","text","at"])(p2:Def K mg "lies_in" V1 ["runs","sign"])(p3:Def K mg "with_entry" X5 ["groups","number","begin","end"]):OwnM P w K mg base 6 C "way" ["self","most"] (Z49 C):=by
 have MD:=MA.base_
 have en:OwnM P w K mg base 1 C "enter" ["self","state"] (Vx C):=MD.enter.own fun _ _ F=>Z5a MD.tx F
 have gb:OwnM P w K mg base 2 C "go_back" ["self"] (We C):=MD.go_back.own fun _ _ F=>Z1d T MD.tx en F
 have mv:OwnM P w K mg base (3+1) C "move" ["self"] (Z1r P w K mg base 3 ds C):=MD.move.own fun _ _ F=>Zdm MD.tx Ug hDN F
 exact MD.way.own fun _ _ F=>(Zg5 (kk:=3) MD.tx mv gb F).imp (Zhh (Zb7 T MA DD p1 p2 p3))
inductive spHoldI(vs:List V)(H:Hp)(Q:VK):Prop
 |mk (r:Addr) (xs:List V) (_:vs=[.ref r]) (_:H r=some (.lst xs)) (_:xs.length<=1000000) (_:∀(t:Addr) (H':Hp),H' r=some (.lst (xs++[.ref t]))->H' t=some (.tup [])->Gro [r] H H'->Q (.int xs.length) H')
def Z08:Sp:=fun vs H Q _=>spHoldI vs H Q
def Zck(Q:VK)(H:Hp)(r:Addr)(xs:List V)(rs:List Rw):Prop:=∀(ys:List V) (H':Hp),H' r=some (.lst (xs++ys))->Paired (RowAt H') ys rs->Gro [r] H H'->Q .non H'
inductive spPutI(n:Nat)(vs:List V)(H:Hp)(Q:VK):Prop
 |mk (r:Addr) (v:V) (xs:List V) (p:Pat) (_:vs=[.ref r,v]) (_:PatAt H n v p) (_:H r=some (.lst xs)) (_:xs.length+7*p.size<=1000000) (_:Zck Q H r xs (p.code xs.length))
def Z0m(n:Nat):Sp:=fun vs H Q _=>spPutI n vs H Q
inductive spPutOrI(n:Nat)(vs:List V)(H:Hp)(Q:VK):Prop
 |mk (r b:Addr) (xs kv:List V) (ks:List Pat) (_:vs=[.ref r,.ref b]) (_:H b=some (.tup kv)) (_:Paired (PatAt H n) kv ks) (_:1<=kv.length) (_:kv.length<=10) (_:H r=some (.lst xs)) (_:xs.length+7*(Yb ks+1)<=1000000) (_:Zck Q H r xs (Zgx (ks.map Pat.code) xs.length))
def Z7l(n:Nat):Sp:=fun vs H Q _=>spPutOrI n vs H Q
def How.ext:How->Nat
 |.keep=>7 | _=>6
inductive spPutTimesI(ok:How->Prop)(n:Nat)(vs:List V)(H:Hp)(Q:VK):Prop
 |mk (r:Addr) (lo:Int) (hi:Option Int) (how:How) (v:V) (xs:List V) (p:Pat) (_:vs=[.ref r,.int lo,Z9u hi,.str how.text,v]) (_:ok how) (_:PatAt H n v p) (_:H r=some (.lst xs)) (_:xs.length+7*p.size+how.ext<=1000000) (_:Zck Q H r xs (T7 lo hi how p.code xs.length))
def W2(ok:How->Prop)(n:Nat):Sp:=fun vs H Q _=>spPutTimesI ok n vs H Q
inductive spPutHaveI(n:Nat)(vs:List V)(H:Hp)(Q:VK):Prop
 |mk (r:Addr) (k:Int) (y z:V) (xs:List V) (p q:Pat) (_:vs=[.ref r,.int k,y,z]) (_:PatAt H n y p) (_:PatAt H n z q) (_:H r=some (.lst xs)) (_:xs.length+7*(p.size+q.size+1)<=1000000) (_:Zck Q H r xs (Z8g k p.code q.code xs.length))
def Z2h(n:Nat):Sp:=fun vs H Q _=>spPutHaveI n vs H Q
inductive spPutLookI(n:Nat)(vs:List V)(H:Hp)(Q:VK):Prop
 |mk (r:Addr) (lk:Lk) (v:V) (xs:List V) (p:Pat) (_:vs=[.ref r,.str lk.text,v]) (_:PatAt H n v p) (_:H r=some (.lst xs)) (_:xs.length+7*(p.size+1)<=1000000) (_:Zck Q H r xs (U7 lk p.code xs.length))
def Z2g(n:Nat):Sp:=fun vs H Q _=>spPutLookI n vs H Q
abbrev Xy:Stmt:=top 6
theorem Z26:FnScope ["rows"] ["rows"] (Z9 Xy):=Vh
theorem Z29(T:Blt mg)(F:Fun K "hold_place" "hold_place" Xy f fd):FnOk P w K mg base Wp 1 f fd ["rows"] Z08:=by
 refine F.ok Z26 (fun vs H Q E h=>?_) (fun cdv A outer s H vs Q E hr h=>?_)
 ·obtain⟨r,xs,rfl,_⟩:=h
  rfl
 obtain⟨r,xs,rfl,hr0,hz,q⟩:=h
 refine Vf ?_
 intro Xz
 refine⟨_,(Z1 (Zf (Yt PySem.F.plainAttrs_list PySem.F.slot_list_append PySem.F.type_list_append Zy (pv 0) (Z0 (Zz Z3) Z3)))
  (Z4 (Zk (Y7 Vk (Ze Zw rfl T.b_len PyProof.Rows.Boot.«len» (Z0 (pv 0) Z3)) Z7)))),?_⟩
 refine Z09 ?_
 intro Ez Az1
 refine(Z6 rfl ⟨.inl ⟨rfl,_,SqL.of hr0⟩,sz,fun t ht=>⟨r,xs,Z6 rfl ⟨rfl,Xj hr0 ht,Z9q hz,?_⟩⟩⟩)
 refine(Z6 rfl ⟨r,Z6 rfl ⟨.inl (SqL.of Z5),Wc rfl rfl (?_)⟩⟩)
 have e:((xs++[V.ref t]).length:Int)-1=xs.length:=by simp
 show Q (V.int (((xs++[V.ref t]).length:Int)-1)) _
 rw[e]
 exact q t _ Z5 (Wj hr0 ht) (Wl hr0 ht)
abbrev Wa:Stmt:=top 8
theorem sc_put_times:FnScope ["rows","low","high","how","part","turn"] ["rows","low","high","how","part"] (Z9 Wa):=Vh
theorem Ti{n k:Nat}{ok ok':How->Prop}(hk:∀how,ok how->how=.keep->ok' .much)(T:Blt mg)(O_hold_place:Own P w K mg base 1 "hold_place" ["rows"] Z08)(O_put:Own P w K mg base (2+k) "put" ["rows","pattern"] (Z0m n))(O_put_times:Own P w K mg base (2+k) "put_times" ["rows","low","high","how","part"] (W2 ok' n))
  (F:Fun K "put_times" "put_times" Wa f fd):FnOk P w K mg base Wp (2+k+1) f fd ["rows","low","high","how","part"] (W2 ok n):=by
 refine F.ok sc_put_times (fun vs H Q E h=>?_) (fun cdv A outer s H vs Q E hr h=>?_)
 ·obtain⟨r,lo,hi,how,v,xs,p,rfl,_⟩:=h
  rfl
 obtain⟨r,lo,hi,how,v,xs,p,rfl,hok,hp,hr0,hz,q⟩:=h
 refine Vf ?_
 intro Xz
 refine⟨_,(Z1 (Zu (Zd Y2 (pv 3) Zq (Zh _)) (Z1 (Zf (Yt PySem.F.plainAttrs_list PySem.F.slot_list_append PySem.F.type_list_append Zy (pv 0) (Z0 (Zz (Z0 Zq Z3)) Z3)))
  (Z1 (Zf (Zv (O_put_times.mono (by omega)) hr rfl (Z0 (pv 0) (Z0 (pv 1) (Z0 (pv 2) (Z0 Zq (Z0 (pv 4) Z3)))))))
  (Z1 (Zf (Yt PySem.F.plainAttrs_list PySem.F.slot_list_append PySem.F.type_list_append Zy (pv 0) (Z0 (Zz (Z0 Zq Z3)) Z3)))
  (Z4 Z7q)))) Zi)
  (Z1 (Zf (Yt PySem.F.plainAttrs_list PySem.F.slot_list_append PySem.F.type_list_append Zy (pv 0) (Z0 (Zz (Z0 Zq Z3)) Z3)))
  (Z1 (pS 5 sc_put_times.nd (Zv (O_hold_place.mono (by omega)) hr rfl (Z0 (pv 0) Z3)))
  (Z1 (Zf (Zv (O_put.mono (by omega)) hr rfl (Z0 (pv 0) (Z0 (pv 4) Z3))))
  (Z1 (Zf (Yt PySem.F.plainAttrs_list PySem.F.slot_list_append PySem.F.type_list_append Zy (pv 0) (Z0 (Zz (Z0 Zq (Z0 (pv 1) (Z0 (pv 5) Z3)))) Z3)))
  (Z4 (Tb (Zz (Z0 Zq (Z0 (pv 1) (Z0 (pv 2) (Z0 (pv 3) (Z0 (Ze Zw rfl T.b_len PyProof.Rows.Boot.«len» (Z0 (pv 0) Z3)) Z3)))))) (Tc (pv 0) (pv 5) V7)))))))),?_⟩
 refine Zf8 ?_
 intro Ez Az1 Az2 Az3 Az4 Az5 Az6 Az7 Az8 Az9
 refine(Z6 rfl ⟨rfl,Z6 rfl (Wq (fun z=>?_) (fun z=>?_))⟩)
 ·have hk':how=.keep:=by
   cases how with
   |keep=>rfl
   |much=>exact absurd z (by decide +kernel)
   |little=>exact absurd z (by decide +kernel)
  subst hk'
  have hz:xs.length+7*p.size+7<=1000000:=hz
  refine(Z6 rfl ⟨.inl ⟨rfl,_,SqL.of hr0⟩,sz,fun t ht=>⟨r,xs,Z6 rfl ⟨rfl,Xj hr0 ht,Z9q (by omega),?_⟩⟩⟩)
  have g1:Gro [r] H _:=Wl (zs:=xs++[.ref t]) (o:=.tup [.str "once"]) hr0 ht
  have e1:(xs++[V.ref t]).length=xs.length+1:=by simp
  refine(Z6 rfl (Z6 rfl (Z6 rfl (Z6 rfl ⟨r,lo,hi,.much,v,xs++[.ref t],p,rfl,hk _ hok rfl,hp.mono g1.tups,Z5,by rw[e1];show _+6<=_;omega,fun ys H2 hr2 hp2 g2=>?_⟩))))
  rw[e1]at hp2
  have hl:=Paired.length hp2
  have hf:=Pat.code_fits p (xs.length+1+2)
  have hl2:(xs++[V.ref t]++ys).length<=1000000:=by
   rw[List.length_append,e1,hl]
   show _+(Z0l lo hi "much" p.code (xs.length+1)).length<=_
   rw[Ui]
   omega
  refine(Z6 rfl ⟨.inl ⟨rfl,_,SqL.of hr2⟩,sz,fun t2 ht2=>⟨r,Wc rfl rfl ⟨Xj hr2 ht2,Z9q hl2,?_⟩⟩⟩)
  have g3:Gro [r] H2 _:=Wl (zs:=xs++[V.ref t]++ys++[V.ref t2]) (o:=.tup [.str "kept"]) hr2 ht2
  have et:H2 t=some (.tup [.str "once"]):=g2.tups _ _ (Wj hr0 ht)
  refine q (.ref t::(ys++[.ref t2])) _ (by simp[Z5]) ?_ ((g1.trans g2).trans g3)
  exact .cons ⟨t,rfl,g3.tups _ _ et⟩ (Zx (Y0 g3.tups hp2) (.cons ⟨t2,rfl,Wj hr2 ht2⟩ .nil))
 ·have hT:T7 lo hi how p.code=Z0l lo hi how.text p.code:=by
   cases how with
   |keep=>exact absurd (by decide +kernel) z
   |much=>rfl
   |little=>rfl
  rw[hT]at q
  have hz:xs.length+7*p.size+6<=1000000:=by
   cases how with
   |keep=>exact absurd (by decide +kernel) z
   |much=>exact hz
   |little=>exact hz
  have hf:=Pat.code_fits p (xs.length+2)
  refine(Z6 rfl ⟨.inl ⟨rfl,_,SqL.of hr0⟩,sz,fun t ht=>⟨r,xs,Z6 rfl ⟨rfl,Xj hr0 ht,Z9q (by omega),?_⟩⟩⟩)
  have g1:Gro [r] H _:=Wl (zs:=xs++[.ref t]) (o:=.tup [.str "turns"]) hr0 ht
  have e1:(xs++[V.ref t]).length=xs.length+1:=by simp
  refine(Z6 rfl ⟨r,_,rfl,Z5,by rw[e1];omega,fun t1 H2 hr2 ht1 g2=>?_⟩)
  have e2:(xs++[V.ref t]++[V.ref t1]).length=xs.length+2:=by simp
  have g12:=g1.trans g2
  refine(Z6 rfl (Z6 rfl ⟨r,v,_,p,rfl,hp.mono g12.tups,hr2,by rw[e2];omega,fun ys H3 hr3 hp3 g3=>?_⟩))
  rw[e2]at hp3
  have hl:=Paired.length hp3
  have hl2:(xs++[V.ref t]++[V.ref t1]++ys).length<=1000000:=by rw[List.length_append,e2,hl];omega
  refine(Z6 rfl ⟨.inl ⟨rfl,_,SqL.of hr3⟩,Z6 rfl (Z6 rfl ⟨sz,fun t2 ht2=>⟨r,Wc rfl rfl ⟨Xj hr3 ht2,Z9q hl2,?_⟩⟩⟩)⟩)
  have g4:Gro [r] H3 _:=Wl (zs:=xs++[V.ref t]++[V.ref t1]++ys++[V.ref t2]) (o:=.tup [.str "next",.int lo,.int ((xs++[V.ref t]).length:Nat)]) hr3 ht2
  refine(Z6 rfl (Z6 rfl (Z6 rfl (Z6 rfl ⟨r,Z6 rfl ⟨.inl (SqL.of Z5),sz,fun t3 ht3=>?_⟩⟩))))
  refine(Z6 rfl (Z6 rfl ⟨r,_,_,xs.length+1,rfl,rfl,Xj Z5 ht3,by rw[e1];exact U0 (by simp),?_⟩))
  have g5:Gro [r] _ (Zr (Zr (Zr (Zr H3 t2 (.tup [.str "next",.int lo,.int ((xs++[V.ref t]).length:Nat)])) r (.lst (xs++[V.ref t]++[V.ref t1]++ys++[V.ref t2]))) t3 (.tup [.str "turn",.int lo,Z9u hi,.str how.text,.int ((xs++[V.ref t]++[V.ref t1]++ys++[V.ref t2]).length:Nat)])) r (HO.lst ((xs++[V.ref t]++[V.ref t1]++ys++[V.ref t2]).set (xs.length+1) (V.ref t3)))):=Wl Z5 ht3
  have eL:(xs++[V.ref t]++[V.ref t1]++ys++[V.ref t2]).set (xs.length+1) (.ref t3)=xs++(.ref t::.ref t3::(ys++[.ref t2])):=by
   rw[show xs++[V.ref t]++[V.ref t1]++ys++[V.ref t2]=(xs++[V.ref t])++V.ref t1::(ys++[V.ref t2]) by simp,Z1u (by simp)]
   simp
  rw[eL]at g5 ⊢
  have et:H3 t=some (.tup [.str "turns"]):=g3.tups _ _ (g2.tups _ _ (Wj hr0 ht))
  refine q _ _ Z5 ?_ (((g12.trans g3).trans g4).trans g5)
  refine .cons ⟨t,rfl,g5.tups _ _ (g4.tups _ _ et)⟩ (.cons ⟨t3,rfl,?_⟩ (Zx (Y0 (fun b xs h=>g5.tups _ _ (g4.tups _ _ h)) hp3) (.cons ⟨t2,rfl,?_⟩ .nil)))
  ·rw[Wj Z5 ht3]
   have:((xs++[V.ref t]++[V.ref t1]++ys++[V.ref t2]).length:Int)=(xs.length:Int)+3+(p.code (xs.length+2)).length:=by
    rw[List.length_append,List.length_append,e2,hl]
    simp
    omega
   rw[this]
  ·rw[g5.tups _ _ (Wj hr3 ht2),e1]
   rfl
abbrev V6:Stmt:=top 9
theorem sc_put_have:FnScope ["rows","number","yes","no","asked","gone"] ["rows","number","yes","no"] (Z9 V6):=Vh
theorem Z4n{n k:Nat}(T:Blt mg)(O_hold_place:Own P w K mg base 1 "hold_place" ["rows"] Z08)(O_put:Own P w K mg base (2+k) "put" ["rows","pattern"] (Z0m n))(F:Fun K "put_have" "put_have" V6 f fd):FnOk P w K mg base Wp (2+k+1) f fd ["rows","number","yes","no"] (Z2h n):=by
 refine F.ok sc_put_have (fun vs H Q E h=>?_) (fun cdv A outer s H vs Q E hr h=>?_)
 ·obtain⟨r,j,y,z,xs,p,p',rfl,_⟩:=h
  rfl
 obtain⟨r,j,y,z,xs,p,p',rfl,hp,hp',hr0,hz,q⟩:=h
 refine Vf ?_
 intro Xz
 refine⟨_,(Z1 (pS 4 sc_put_have.nd (Zv (O_hold_place.mono (by omega)) hr rfl (Z0 (pv 0) Z3)))
  (Z1 (Zf (Zv (O_put.mono (by omega)) hr rfl (Z0 (pv 0) (Z0 (pv 2) Z3))))
  (Z1 (pS 5 sc_put_have.nd (Zv (O_hold_place.mono (by omega)) hr rfl (Z0 (pv 0) Z3)))
  (Z1 (Tb (Zz (Z0 Zq (Z0 (pv 1) (Z0 (Ze Zw rfl T.b_len PyProof.Rows.Boot.«len» (Z0 (pv 0) Z3)) Z3)))) (Tc (pv 0) (pv 4) V7))
  (Z1 (Zf (Zv (O_put.mono (by omega)) hr rfl (Z0 (pv 0) (Z0 (pv 3) Z3))))
  (Z4 (Tb (Zz (Z0 Zq (Z0 (Ze Zw rfl T.b_len PyProof.Rows.Boot.«len» (Z0 (pv 0) Z3)) Z3))) (Tc (pv 0) (pv 5) V7)))))))),?_⟩
 refine Zfb ?_
 intro Ez Az1 Az2 Az3 Az4 Az5
 have hf:=Pat.code_fits p (xs.length+1)
 refine(Z6 rfl ⟨r,_,rfl,hr0,by omega,fun t1 H1 hr1 ht1 g1=>?_⟩)
 have e1:(xs++[V.ref t1]).length=xs.length+1:=by simp
 refine(Z6 rfl (Z6 rfl ⟨r,y,_,p,rfl,hp.mono g1.tups,hr1,by rw[e1];omega,fun ys H2 hr2 hp2 g2=>?_⟩))
 rw[e1]at hp2
 have hl:=Paired.length hp2
 have e2:(xs++[V.ref t1]++ys).length=xs.length+1+(p.code (xs.length+1)).length:=by rw[List.length_append,e1,hl]
 refine(Z6 rfl ⟨r,_,rfl,hr2,by rw[e2];omega,fun t2 H3 hr3 ht2 g3=>?_⟩)
 have e3:(xs++[V.ref t1]++ys++[V.ref t2]).length=xs.length+(p.code (xs.length+1)).length+2:=by rw[List.length_append,e2];simp;omega
 refine(Z6 rfl (Z6 rfl ⟨r,Z6 rfl ⟨.inl (SqL.of hr3),sz,fun t3 ht3=>?_⟩⟩))
 refine(Z6 rfl (Z6 rfl ⟨r,_,_,xs.length,rfl,rfl,Xj hr3 ht3,U0 (by rw[e3];omega),?_⟩))
 have eL:(xs++[V.ref t1]++ys++[V.ref t2]).set xs.length (.ref t3)=xs++[.ref t3]++ys++[V.ref t2]:=by
  rw[show xs++[V.ref t1]++ys++[V.ref t2]=xs++V.ref t1::(ys++[V.ref t2]) by simp,Z1u rfl]
  simp
 rw[eL]
 generalize hH4:Zr (Zr H3 t3 (.tup [.str "have",.int j,.int ((xs++[V.ref t1]++ys++[V.ref t2]).length:Nat)])) r (.lst (xs++[.ref t3]++ys++[V.ref t2]))=H4
 have g4:Gro [r] H3 H4:=by rw[← hH4];exact Wl hr3 ht3
 have hr4:H4 r=some (.lst (xs++[.ref t3]++ys++[V.ref t2])):=by rw[← hH4];exact Z5
 have ht3':H4 t3=some (.tup [.str "have",.int j,.int ((xs.length:Int)+(p.code (xs.length+1)).length+2)]):=by
  rw[← hH4,Wj hr3 ht3,e3]
  simp
 have e4:(xs++[V.ref t3]++ys++[V.ref t2]).length=xs.length+(p.code (xs.length+1)).length+2:=by rw[← e3];simp
 have g14:=((g1.trans g2).trans g3).trans g4
 refine(Z6 rfl (Z6 rfl ⟨r,z,_,p',rfl,hp'.mono g14.tups,hr4,by rw[e4];omega,fun zs H5 hr5 hp5 g5=>?_⟩))
 rw[e4]at hp5
 have hl5:=Paired.length hp5
 refine(Z6 rfl ⟨r,Z6 rfl ⟨.inl (SqL.of hr5),sz,fun t6 ht6=>?_⟩⟩)
 have eL2:(xs++[V.ref t3]++ys++[V.ref t2]++zs).set (xs.length+1+(p.code (xs.length+1)).length) (.ref t6)=xs++(.ref t3::(ys++.ref t6::zs)):=by
  rw[show xs++[V.ref t3]++ys++[V.ref t2]++zs=(xs++[V.ref t3]++ys)++V.ref t2::zs by simp,Z1u (by simp[hl];omega)]
  simp
 refine(Z6 rfl (Z6 rfl ⟨r,_,_,xs.length+1+(p.code (xs.length+1)).length,rfl,rfl,Xj hr5 ht6,by rw[e2];exact U0 (by rw[List.length_append,e4];omega),?_⟩))
 rw[eL2]
 generalize hH6:Zr (Zr H5 t6 (.tup [.str "go",.int ((xs++[V.ref t3]++ys++[V.ref t2]++zs).length:Nat)])) r (.lst (xs++(.ref t3::(ys++.ref t6::zs))))=H6
 have g6:Gro [r] H5 H6:=by rw[← hH6];exact Wl hr5 ht6
 have hr6:H6 r=some (.lst (xs++(.ref t3::(ys++.ref t6::zs)))):=by rw[← hH6];exact Z5
 have ht6':H6 t6=some (.tup [.str "go",.int ((xs.length:Int)+(p.code (xs.length+1)).length+2+(p'.code (xs.length+(p.code (xs.length+1)).length+2)).length)]):=by
  rw[← hH6,Wj hr5 ht6,List.length_append,e4,hl5]
  simp
 refine q _ H6 hr6 ?_ ((g14.trans g5).trans g6)
 exact .cons ⟨t3,rfl,g6.tups _ _ (g5.tups _ _ ht3')⟩ (Zx (Y0 (fun b c h=>g6.tups _ _ (g5.tups _ _ (g4.tups _ _ (g3.tups _ _ h)))) hp2) (.cons ⟨t6,rfl,ht6'⟩ (Y0 g6.tups hp5)))
end
def Lk.pre(l:Lk):List Rw:=match l.leans with
 |true=>[.tup [.str "lean"]]
 |false=>[]
def Lk.post(l:Lk):List Rw:=match l.leans with
 |true=>[.tup [.str "here"]]
 |false=>[]
theorem Z1n(l:Lk)(c:Cd)(b:Nat):l.inner c b=l.pre++(c (b+1+l.pre.length)++l.post):=by
 unfold Lk.inner Lk.pre Lk.post
 cases l.leans <;> simp
section
variable{P:Program}{w:World}{K:W.Frag}{mg:Str->Option Value}{base:Heap}{f:Addr}{fd:FuncData}
def Zcm(D:Ends)(H:Hp)(r:Addr)(xs:List V)(rs:List Rw):Prop:=∀(σ':L2.St) (ys:List V) (H':Hp),H' r=some (.lst (xs++ys))->Paired (RowAt H') ys rs->Gro [r] H H'->D.nx σ' H'
def Zjt(H:Hp)(r:Addr)(xs:List V)(lk:Lk)(v:V)(p:Pat):TS:=fun D σ H1=>∃(t1:Addr) (pre:List V),σ=[some (.ref r),some (.str lk.text),some v,some (.int xs.length)]/\H1 r=some (.lst (xs++.ref t1::pre))/\Paired (RowAt H1) pre lk.pre/\Gro [r] H H1/\Zcm D H r xs (U7 lk p.code xs.length)
def Zjs(H:Hp)(r:Addr)(xs:List V)(lk:Lk)(v:V)(p:Pat):TS:=fun D σ H1=>∃(t1:Addr) (mid:List V),σ=[some (.ref r),some (.str lk.text),some v,some (.int xs.length)]/\H1 r=some (.lst (xs++.ref t1::mid))/\Paired (RowAt H1) mid (lk.inner p.code xs.length)/\Gro [r] H H1/\Zcm D H r xs (U7 lk p.code xs.length)
abbrev V5:Stmt:=top 10
theorem sc_put_look:FnScope ["rows","kind","part","first"] ["rows","kind","part"] (Z9 V5):=Vh
theorem Z4m{n k:Nat}{le ls:Addr}(T:Blt mg)(W4:mg "LEANING" = some (.ref le))(hLE:∀H,SqT K H le V0)(X2:mg "LAST_ROWS" = some (.ref ls))(hLS:Zem K w ls V8)(O_hold_place:Own P w K mg base 1 "hold_place" ["rows"] Z08)(O_put:Own P w K mg base (2+k) "put" ["rows","pattern"] (Z0m n))
  (F:Fun K "put_look" "put_look" V5 f fd):FnOk P w K mg base Wp (2+k+1) f fd ["rows","kind","part"] (Z2g n):=by
 refine F.ok sc_put_look (fun vs H Q E h=>?_) (fun cdv A outer s H vs Q E hr h=>?_)
 ·obtain⟨r,lk,v,xs,p,rfl,_⟩:=h
  rfl
 obtain⟨r,lk,v,xs,p,rfl,hp,hr0,hz,q⟩:=h
 have hf:=Pat.code_fits p (xs.length+1+lk.pre.length)
 have hpre:lk.pre.length<=1/\lk.post.length<=1:=by unfold Lk.pre Lk.post;cases lk.leans <;> simp
 have hin:(lk.inner p.code xs.length).length=lk.pre.length+(p.code (xs.length+1+lk.pre.length)).length+lk.post.length:=by rw[Z1n];simp;omega
 refine Vf ?_
 intro Xz
 refine⟨_,(Z1 (pS 3 sc_put_look.nd (Zv (O_hold_place.mono (by omega)) hr rfl (Z0 (pv 0) Z3)))
  (Z1 (Zu (Zd Uu (pv 1) (Xl (v:=.ref _) rfl W4 rfl) (by with_unfolding_all rfl)) (Z4 (Zf (Yt PySem.F.plainAttrs_list PySem.F.slot_list_append PySem.F.type_list_append Zy (pv 0) (Z0 (Zz (Z0 Zq Z3)) Z3)))) Zi)
  (J8 (Zjt H r xs lk v p) (Z1 (Zf (Zv (O_put.mono (by omega)) hr rfl (Z0 (pv 0) (Z0 (pv 2) Z3))))
  (Z1 (Zu (Zd Uu (pv 1) (Xl (v:=.ref _) rfl W4 rfl) (by with_unfolding_all rfl)) (Z4 (Zf (Yt PySem.F.plainAttrs_list PySem.F.slot_list_append PySem.F.type_list_append Zy (pv 0) (Z0 (Zz (Z0 Zq Z3)) Z3)))) Zi)
  (J8 (Zjs H r xs lk v p) (Z1 (Zf (Yt PySem.F.plainAttrs_list PySem.F.slot_list_append PySem.F.type_list_append Zy (pv 0) (Z0 (Zz (Z0 (Z3r (Xl (v:=.ref _) rfl X2 rfl) (pv 1) (fun _ _=>rfl)) Z3)) Z3)))
  (Z4 (Tb (Xi (Zd Y2 (Z3r (Xl (v:=.ref _) rfl X2 rfl) (pv 1) (fun _ _=>rfl)) Zq (Zh _)) (Zz (Z0 Zq (Z0 (Ze Zw rfl T.b_len PyProof.Rows.Boot.«len» (Z0 (pv 0) Z3)) Z3))) (Zz (Z0 Zq Z3))) (Tc (pv 0) (pv 3) V7)))) (fun D1 σ1 H1 hcut=>?cut4)))) (fun D1 σ1 H1 hcut=>?cut2)))),?_⟩
 case cut4 =>
  refine Z09 ?_
  intro Ez Az1
  obtain⟨t1,mid,rfl,hr1,hm1,g1,q⟩:=hcut
  have hl:=Paired.length hm1
  have e1:(xs++V.ref t1::mid).length=xs.length+1+(lk.inner p.code xs.length).length:=by rw[List.length_append,List.length_cons,hl];omega
  refine(Z6 rfl ⟨.inl ⟨rfl,_,SqL.of hr1⟩,Z6 rfl ⟨ls,V8,_,_,rfl,hLS,rfl,Z84 lk,sz,fun t2 ht2=>⟨r,Wc rfl rfl ⟨Xj hr1 ht2,Z9q (by omega),?_⟩⟩⟩⟩)
  have g2:Gro [r] H1 _:=Wl (zs:=xs++V.ref t1::mid++[V.ref t2]) (o:=.tup [.str lk.last]) hr1 ht2
  have e2:(xs++V.ref t1::mid++[V.ref t2]).length=xs.length+2+(lk.inner p.code xs.length).length:=by rw[List.length_append,e1];simp;omega
  have eL:∀t3,(xs++V.ref t1::mid++[V.ref t2]).set xs.length (.ref t3)=xs++(.ref t3::(mid++[.ref t2])):=fun t3=>by
   rw[show xs++V.ref t1::mid++[V.ref t2]=xs++V.ref t1::(mid++[V.ref t2]) by simp,Z1u rfl]
  have fin:∀(t3:Addr) (ws:List V),(Zr (Zr H1 t2 (.tup [.str lk.last])) r (.lst (xs++V.ref t1::mid++[V.ref t2]))) t3=none->U7 lk p.code xs.length=.tup ws::(lk.inner p.code xs.length++[.tup [.str lk.last]]) ->
    ∀σ',D1.nx σ' (Zr (Zr (Zr (Zr H1 t2 (.tup [.str lk.last])) r (.lst (xs++V.ref t1::mid++[V.ref t2]))) t3 (.tup ws)) r (.lst ((xs++V.ref t1::mid++[V.ref t2]).set xs.length (.ref t3)))):=by
   intro t3 ws ht3 hws σ'
   have g3:=Wl (zs:=(xs++V.ref t1::mid++[V.ref t2]).set xs.length (.ref t3)) (o:=.tup ws) (Z5 (H:=Zr H1 t2 (.tup [.str lk.last])) (a:=r) (o:=.lst (xs++V.ref t1::mid++[V.ref t2]))) ht3
   have e3:=Wj (ys:=ws) (zs:=(xs++V.ref t1::mid++[V.ref t2]).set xs.length (.ref t3)) (Z5 (H:=Zr H1 t2 (.tup [.str lk.last])) (a:=r) (o:=.lst (xs++V.ref t1::mid++[V.ref t2]))) ht3
   rw[eL]at g3 e3 ⊢
   refine q σ' _ _ Z5 ?_ ((g1.trans g2).trans g3)
   rw[hws]
   exact .cons ⟨t3,rfl,e3⟩ (Zx (Y0 (fun b c h=>g3.tups _ _ (g2.tups _ _ h)) hm1) (.cons ⟨t2,rfl,g3.tups _ _ (Wj hr1 ht2)⟩ .nil))
  refine(Z6 rfl ⟨ls,V8,_,_,rfl,hLS,rfl,Z84 lk,rfl,Z6 rfl (Wq (fun z=>?_) (fun z=>?_))⟩)
  ·have hb:(lk.last=="barred")=true:=by rw[← Z12];exact z
   refine(Z6 rfl ⟨r,Z6 rfl ⟨.inl (SqL.of Z5),sz,fun t3 ht3=>?_⟩⟩)
   refine(Z6 rfl (Z6 rfl ⟨r,_,_,xs.length,rfl,rfl,Xj Z5 ht3,U0 (by rw[e2];omega),fin t3 _ ht3 ?_ _⟩))
   unfold U7
   rw[hb,e2]
   simp only[List.cons.injEq,and_true,Rw.tup.injEq,V.int.injEq,true_and]
   omega
  ·have hb:(lk.last=="barred")=false:=by rw[← Z12];simpa using z
   refine⟨sz,fun t3 ht3=>?_⟩
   refine(Z6 rfl (Z6 rfl ⟨r,_,_,xs.length,rfl,rfl,Xj Z5 ht3,U0 (by rw[e2];omega),fin t3 _ ht3 ?_ _⟩))
   unfold U7
   rw[hb]
 case cut2 =>
  refine Zbk ?_
  intro Ez Az1 Az2 Az3
  obtain⟨t1,pre,rfl,hr1,hm1,g1,q⟩:=hcut
  have hl:=Paired.length hm1
  have e1:(xs++V.ref t1::pre).length=xs.length+1+lk.pre.length:=by rw[List.length_append,List.length_cons,hl];omega
  refine(Z6 rfl (Z6 rfl ⟨r,v,_,p,rfl,hp.mono g1.tups,hr1,by rw[e1];omega,fun ys H2 hr2 hp2 g2=>?_⟩))
  rw[e1]at hp2
  have hl2:=Paired.length hp2
  have e2:(xs++V.ref t1::pre++ys).length=xs.length+1+lk.pre.length+(p.code (xs.length+1+lk.pre.length)).length:=by rw[List.length_append,e1,hl2]
  refine(Z6 rfl ⟨le,V0,rfl,.inr (hLE _),rfl,rfl,Z6 rfl (?_)⟩)
  show if Zey (.str lk.text) V0=true then _ else _
  rw[Z83]
  refine Wq (fun z=>?_) (fun z=>?_)
  ·refine(Z6 rfl ⟨.inl ⟨rfl,_,SqL.of hr2⟩,sz,fun t2 ht2=>⟨r,Wc rfl rfl ⟨Xj hr2 ht2,Z9q (by omega),?_⟩⟩⟩)
   have g3:Gro [r] H2 _:=Wl (zs:=xs++V.ref t1::pre++ys++[V.ref t2]) (o:=.tup [.str "here"]) hr2 ht2
   refine⟨t1,pre++(ys++[.ref t2]),rfl,by simp[Z5],?_,(g1.trans g2).trans g3,q⟩
   rw[Z1n]
   refine Zx (Y0 (fun b c h=>g3.tups _ _ (g2.tups _ _ h)) hm1) (Zx (Y0 g3.tups hp2) ?_)
   rw[show lk.post=[.tup [.str "here"]] by unfold Lk.post;rw[z]]
   exact .cons ⟨t2,rfl,Wj hr2 ht2⟩ .nil
  ·refine⟨t1,pre++ys,rfl,by rw[hr2];simp,?_,g1.trans g2,q⟩
   rw[Z1n,show lk.post=[] by unfold Lk.post;rw[Bool.eq_false_iff.mpr z],List.append_nil]
   exact Zx (Y0 g2.tups hm1) hp2
 refine Zbk ?_
 intro Ez Az1 Az2 Az3
 refine(Z6 rfl ⟨r,_,rfl,hr0,by omega,fun t1 H1 hr1 ht1 g1=>?_⟩)
 refine(Z6 rfl ⟨le,V0,rfl,.inr (hLE _),rfl,rfl,Z6 rfl (?_)⟩)
 show if Zey (.str lk.text) V0=true then _ else _
 rw[Z83]
 have q':Zcm { nx:=fun _ H'=>Q .non H',rt:=Q } H r xs (U7 lk p.code xs.length):=fun _ ys H' h1 h2 h3=>q ys H' h1 h2 h3
 refine Wq (fun z=>?_) (fun z=>?_)
 ·refine(Z6 rfl ⟨.inl ⟨rfl,_,SqL.of hr1⟩,sz,fun t2 ht2=>⟨r,Wc rfl rfl ⟨Xj hr1 ht2,Z9q (by simp;omega),?_⟩⟩⟩)
  have g3:Gro [r] H1 _:=Wl (zs:=xs++[V.ref t1]++[V.ref t2]) (o:=.tup [.str "lean"]) hr1 ht2
  refine⟨t1,[.ref t2],rfl,by simp[Z5],?_,g1.trans g3,q'⟩
  rw[show lk.pre=[.tup [.str "lean"]] by unfold Lk.pre;rw[z]]
  exact .cons ⟨t2,rfl,Wj hr1 ht2⟩ .nil
 ·refine⟨t1,[],rfl,hr1,?_,g1,q'⟩
  rw[show lk.pre=[] by unfold Lk.pre;rw[Bool.eq_false_iff.mpr z]]
  exact .nil
end
theorem Z18(ks:List Pat)(i:Nat):Yb (ks.take i)+Yb (ks.drop i)=Yb ks:=by
 rw[← Tg,List.take_append_drop]
theorem Ju{α:Type}{l:List α}{i:Nat}{x:α}(h:l[i]? = some x):l.drop i=x::l.drop (i+1):=by
 obtain⟨hi,e⟩:=List.getElem?_eq_some_iff.mp h
 rw[← e]
 exact List.drop_eq_getElem_cons hi
section
variable{P:Program}{w:World}{K:W.Frag}{mg:Str->Option Value}{base:Heap}{f:Addr}{fd:FuncData}
def Ww(b:Nat)(gs:List Nat):List V:=gs.map fun(j:Nat)=>V.int ((b:Int)+(j:Int))
def Zjr(H:Hp)(r b:Addr)(xs kv:List V)(ks:List Pat):TS:=fun D σ H1=>∃(g:Addr) (ys:List V) (br tr:Option V),σ=[some (.ref r),some (.ref b),some (.ref g),br,tr,none]/\r≠g/\H g=none/\H1 r=some (.lst (xs++ys))/\Paired (RowAt H1) ys (Wm [] ((ks.take (kv.length-1)).map Pat.code) xs.length) /\
 H1 g=some (.lst (Ww xs.length (Jg ((ks.take (kv.length-1)).map Pat.code) xs.length 0)))/\Gro [r] H H1/\Zcm D H r xs (Zgx (ks.map Pat.code) xs.length)
abbrev Ub:Stmt:=top 7
theorem sc_put_or:FnScope ["rows","branches","goes","branch","tried","place"] ["rows","branches"] (Z9 Ub):=Vh
theorem Z95{n k:Nat}(T:Blt mg)(O_hold_place:Own P w K mg base 1 "hold_place" ["rows"] Z08)(O_put:Own P w K mg base (2+k) "put" ["rows","pattern"] (Z0m n))(F:Fun K "put_or" "put_or" Ub f fd):FnOk P w K mg base Wp (2+k+1) f fd ["rows","branches"] (Z7l n):=by
 refine F.ok sc_put_or (fun vs H Q E h=>?_) (fun cdv A outer s H vs Q E hr h=>?_)
 ·obtain⟨r,b,xs,kv,ks,rfl,_⟩:=h
  rfl
 obtain⟨r,b,xs,kv,ks,rfl,hb,hk,h1,h10,hr0,hz,q⟩:=h
 have hkl:=Paired.length hk
 refine Vf ?_
 intro Xz
 refine⟨_,(Z1 (pS 2 sc_put_or.nd (Wt Z3))
  (Z1 (U4 PassesOwn.never rfl (Z1y (Y5 Z1t (pv 1) Yy (Y3 (Z5t Z1q Z7)))) (pN 3 sc_put_or.nd) (Z1 (pS 4 sc_put_or.nd (Zv (O_hold_place.mono (by omega)) hr rfl (Z0 (pv 0) Z3)))
  (Z1 (Zf (Zv (O_put.mono (by omega)) hr rfl (Z0 (pv 0) (Z0 (pv 3) Z3))))
  (Z1 (Zf (Yt PySem.F.plainAttrs_list PySem.F.slot_list_append PySem.F.type_list_append Zy (pv 2) (Z0 (Zv (O_hold_place.mono (by omega)) hr rfl (Z0 (pv 0) Z3)) Z3)))
  (Z4 (Tb (Zz (Z0 Zq (Z0 (Ze Zw rfl T.b_len PyProof.Rows.Boot.«len» (Z0 (pv 0) Z3)) Z3))) (Tc (pv 0) (pv 4) V7)))))))
  (J8 (Zjr H r b xs kv ks) (Z1 (Zf (Zv (O_put.mono (by omega)) hr rfl (Z0 (pv 0) (Z0 (Zl Zg (pv 1) (Z5t Z1q Z7) (fun _ _=>rfl)) Z3))))
  (Z4 (U4 PassesOwn.never rfl (Z3p (pv 2)) (pN 5 sc_put_or.nd) (Z4 (Tb (Zz (Z0 Zq (Z0 (Ze Zw rfl T.b_len PyProof.Rows.Boot.«len» (Z0 (pv 0) Z3)) Z3))) (Tc (pv 0) (pv 5) V7)))))) (fun D1 σ1 H1 hcut=>?cut2)))),?_⟩
 case cut2 =>
  refine Zfv ?_
  intro Ez Az1 Az2
  obtain⟨g,ys,br,tr,rfl,rg,hgn,hr1,hy1,hg1,g1,q⟩:=hcut
  have hl:=Paired.length hy1
  have hpf:=Jn (ks.take (kv.length-1)) xs.length
  have hne:ks≠[]:=fun z=>by rw[z,List.length_nil]at hkl;omega
  obtain⟨d,hd⟩:∃d,ks[kv.length-1]? = some d:=⟨ks[kv.length-1]'(by omega),List.getElem?_eq_getElem (by omega)⟩
  obtain⟨vd,hvd⟩:∃vd,kv[kv.length-1]? = some vd:=⟨kv[kv.length-1]'(by omega),List.getElem?_eq_getElem (by omega)⟩
  obtain⟨d',hd',hpd⟩:=Y9 hk hvd
  rw[hd]at hd'
  cases hd'
  have hks:ks=ks.take (kv.length-1)++[d]:=by
   have:=List.take_append_drop (kv.length-1) ks
   rw[Ju hd,show kv.length-1+1=ks.length by omega,List.drop_length]at this
   exact this.symm
  have hss:Yb (ks.take (kv.length-1))+d.size=Yb ks:=by
   rw[← Vl d,← Tg,← hks]
  generalize hT:ks.take (kv.length-1)=ts at hy1 hg1 hl hpf hks hss
  have e1:(xs++ys).length=xs.length+(Wm [] (ts.map Pat.code) xs.length).length:=by rw[List.length_append,hl]
  refine⟨_,rfl,_,rfl,_,rfl,b,kv,_,_,rfl,rfl,SqT.of (g1.tups _ _ hb),Zee (by rw[List.getLast?_eq_getElem?];exact hvd),?_⟩
  refine⟨r,vd,_,d,rfl,hpd.mono g1.tups,hr1,by rw[e1];omega,fun zs H2 hr2 hz2 g2=>?_⟩
  rw[e1]at hz2
  have hl2:=Paired.length hz2
  have rg':g∉[r]:=by simpa using Ne.symm rg
  have hg2:=g2.keep g _ hg1 rg'
  have alt:∀G,X1 G (ks.map Pat.code) xs.length=Wm G (ts.map Pat.code) xs.length++d.code (xs.length+(Wm G (ts.map Pat.code) xs.length).length):=fun G=>by
   rw[hks,List.map_append]
   exact Z33 G _ d.code _
  have hgo:Jg (ts.map Pat.code) xs.length 0=goes (ks.map Pat.code) xs.length 0:=by
   rw[hks,List.map_append]
   exact(Z2w _ d.code _ _).symm
  have halen:(ys++zs).length=(X1 [] (ks.map Pat.code) xs.length).length:=by rw[alt,List.length_append,List.length_append,hl,hl2]
  rw[hgo]at hg2
  have hy2:Paired (RowAt H2) (ys++zs) (X1 [] (ks.map Pat.code) xs.length):=by
   rw[alt]
   exact Zx (Y0 g2.tups hy1) hz2
  have hlt:=Zb5 (ks.map Pat.code) xs.length
  have hset:=Z00 [] (Zgz ((xs.length:Int)+(X1 [] (ks.map Pat.code) xs.length).length)) (ks.map Pat.code) xs.length []
  generalize goes (ks.map Pat.code) xs.length 0=gs at *
  refine(Z6 rfl ⟨g,rfl,⟨_,SqL.of hg2⟩,?_⟩)
  refine Z5i (xs:=Ww xs.length gs) (fun i σ H'=>∃(ws:List V) (pl:Option V),σ=[some (.ref r),some (.ref b),some (.ref g),br,tr,pl]/\H' r=some (.lst (xs++ws))/\Paired (RowAt H') ws (U3 (.tup (Zgz ((xs.length:Int)+(X1 [] (ks.map Pat.code) xs.length).length))) (gs.take i) (X1 [] (ks.map Pat.code) xs.length))/\H' g=some (.lst (Ww xs.length gs))/\Gro [r] H2 H')
   ⟨ys++zs,none,rfl,by rw[hr2];simp,hy2,hg2,Gro.refl⟩ (fun i σ H' _ hh=>by obtain⟨_,_,_,_,_,e,_⟩:=hh;exact SqL.of e) ?_ ?_
  ·rintro i x σ H3 hx ⟨ws,pl,rfl,hr3,hw3,hg3,g3⟩
   obtain⟨j,hj,rfl⟩:∃j,gs[i]? = some j/\x=.int ((xs.length:Int)+j):=by
    unfold Ww at hx
    rw[List.getElem?_map]at hx
    obtain⟨j,h1,h2⟩:=Option.map_eq_some_iff.mp hx
    exact⟨j,h1,h2.symm⟩
   have hjl:=hlt j (List.mem_of_getElem? hj)
   have hwl:=Paired.length hw3
   rw[Z1a]at hwl
   have elen:((xs++ws).length:Int)=(xs.length:Int)+(X1 [] (ks.map Pat.code) xs.length).length:=by rw[List.length_append,hwl];simp
   refine(Z6 rfl ⟨r,Z6 rfl ⟨.inl (SqL.of hr3),sz,fun t3 ht3=>?_⟩⟩)
   refine(Z6 rfl (Z6 rfl ⟨r,_,_,xs.length+j,rfl,rfl,Xj hr3 ht3,by rw[show(xs.length:Int)+(j:Int)=((xs.length+j:Nat):Int) by omega];exact U0 (by rw[List.length_append];omega),?_⟩))
   have eS:(xs++ws).set (xs.length+j) (.ref t3)=xs++ws.set j (.ref t3):=by rw[List.set_append_right _ _ (by omega)];congr 1;congr 1;omega
   rw[eS]
   have g4:Gro [r] H3 (Zr (Zr H3 t3 (.tup [.str "go",.int ((xs++ws).length:Nat)])) r (.lst (xs++ws.set j (.ref t3)))):=Wl hr3 ht3
   have et:=Wj (ys:=[.str "go",.int ((xs++ws).length:Nat)]) (zs:=xs++ws.set j (.ref t3)) hr3 ht3
   rw[elen]at g4 et ⊢
   refine⟨ws.set j (.ref t3),Z6 rfl ⟨Z5,?_,g4.keep g _ hg3 rg',g3.trans g4⟩⟩
   have:U3 (.tup (Zgz ((xs.length:Int)+(X1 [] (ks.map Pat.code) xs.length).length))) (gs.take (i+1)) (X1 [] (ks.map Pat.code) xs.length)=(U3 (.tup (Zgz ((xs.length:Int)+(X1 [] (ks.map Pat.code) xs.length).length))) (gs.take i) (X1 [] (ks.map Pat.code) xs.length)).set j (.tup (Zgz ((xs.length:Int)+(X1 [] (ks.map Pat.code) xs.length).length))):=by
    rw[Xo hj]
    unfold U3
    rw[List.foldl_append]
    rfl
   rw[this]
   exact Z1b ⟨t3,rfl,et⟩ j (Y0 g4.tups hw3)
  ·rintro σ H3 ⟨ws,pl,rfl,hr3,hw3,hg3,g3⟩
   refine q _ ws H3 hr3 ?_ ((g1.trans g2).trans g3)
   rw[show(Ww xs.length gs).length=gs.length by simp[Ww],List.take_length]at hw3
   rw[show U3 (.tup (Zgz ((xs.length:Int)+(X1 [] (ks.map Pat.code) xs.length).length))) gs (X1 [] (ks.map Pat.code) xs.length)=Zgx (ks.map Pat.code) xs.length from hset]at hw3
   exact hw3
 refine Zfl ?_
 intro Ez Az1 Az2 Az3 Az4 Az5 Az6
 refine⟨sz,fun g hg=>?_⟩
 have rg:r≠g:=Za hr0 hg
 obtain⟨ec,ew⟩:=Zb8 h1
 have q':Zcm { nx:=fun _ H'=>Q .non H',rt:=Q } H r xs (Zgx (ks.map Pat.code) xs.length):=fun _ ys H' h1 h2 h3=>q ys H' h1 h2 h3
 refine(Z6 rfl (Z6 rfl (Z6 rfl ⟨b,kv,rfl,SqT.of ((Gro.new (S:=[]) hg _).tups _ _ hb),ew,fun s1 hs1=>⟨s1,rfl,⟨_,SqT.of Z5⟩,?_⟩⟩)))
 rw[ec]
 have g0:Gro [r] H (Zr (Zr H g (.lst [])) s1 (.tup (kv.take (kv.length-1)))):=(Gro.new hg _).tup hs1
 have hg0:(Zr (Zr H g (.lst [])) s1 (.tup (kv.take (kv.length-1)))) g=some (.lst []):=by rw[Zo (Za Z5 hs1)];exact Z5
 have hr0':(Zr (Zr H g (.lst [])) s1 (.tup (kv.take (kv.length-1)))) r=some (.lst xs):=by rw[Zo (Za (Xj hr0 hg) hs1)];exact Xj hr0 hg
 have hs0:(Zr (Zr H g (.lst [])) s1 (.tup (kv.take (kv.length-1)))) s1=some (.tup (kv.take (kv.length-1))):=Z5
 generalize Zr (Zr H g (.lst [])) s1 (.tup (kv.take (kv.length-1)))=H0 at g0 hg0 hr0' hs0 ⊢
 refine Z3y (xs:=kv.take (kv.length-1)) (fun i σ H'=>∃(ys:List V) (br tr:Option V),σ=[some (.ref r),some (.ref b),some (.ref g),br,tr,none]/\H' r=some (.lst (xs++ys))/\Paired (RowAt H') ys (Wm [] ((ks.take i).map Pat.code) xs.length)/\H' g=some (.lst (Ww xs.length (Jg ((ks.take i).map Pat.code) xs.length 0)))/\Gro [r] H H'/\Gro [r,g] H0 H')
  ⟨[],none,none,rfl,by simpa using hr0',.nil,hg0,g0,Gro.refl⟩ (fun i σ H' _ hh=>by obtain⟨_,_,_,_,_,_,_,_,gg⟩:=hh;exact SqT.of (gg.tups _ _ hs0)) ?_ ?_
 ·rintro i x σ H1 hx ⟨ys,br,tr,rfl,hr1,hy1,hg1,g1,gg1⟩
  have hi:i<kv.length-1:=by
   have:=(List.getElem?_eq_some_iff.mp hx).1
   rw[List.length_take]at this
   omega
  have hx':kv[i]? = some x:=by rw[List.getElem?_take_of_lt hi]at hx;exact hx
  obtain⟨p,hpi,hpx⟩:=Y9 hk hx'
  have hl:=Paired.length hy1
  have hpf:=Jn (ks.take i) xs.length
  have hsp:Yb (ks.take i)+p.size<=Yb ks:=by
   have:=Z18 ks i
   rw[Ju hpi,Yb]at this
   omega
  generalize hM:xs.length+(Wm [] ((ks.take i).map Pat.code) xs.length).length=m
  have e1:(xs++ys).length=m:=by rw[List.length_append,hl,hM]
  have hf:=Pat.code_fits p (m+1)
  refine(Z6 rfl ⟨r,_,rfl,hr1,by omega,fun t1 H2 hr2 ht1 g2=>?_⟩)
  have e2:(xs++ys++[V.ref t1]).length=m+1:=by rw[List.length_append,e1];rfl
  have g12:=g1.trans g2
  refine(Z6 rfl (Z6 rfl ⟨r,x,_,p,rfl,hpx.mono g12.tups,hr2,by rw[e2];omega,fun zs H3 hr3 hz3 g3=>?_⟩))
  rw[e2]at hz3
  have hl3:=Paired.length hz3
  have g23:=g2.trans g3
  have rg':g∉[r]:=by simpa using Ne.symm rg
  have hg3:=g23.keep g _ hg1 rg'
  have e3:(xs++ys++[V.ref t1]++zs).length=m+1+(p.code (m+1)).length:=by rw[List.length_append,e2,hl3]
  refine(Z6 rfl ⟨.inl ⟨rfl,_,SqL.of hg3⟩,Z6 rfl ⟨r,_,rfl,hr3,by rw[e3];omega,fun t2 H4 hr4 ht2 g4=>?_⟩⟩)
  have hg4:=g4.keep g _ hg3 rg'
  have hgl:(Ww xs.length (Jg ((ks.take i).map Pat.code) xs.length 0)).length<=1000:=by
   have:∀(cs:List Cd) (b s:Nat),(Jg cs b s).length=cs.length:=by
    intro cs
    induction cs with
    |nil=>intro b s;rfl
    |cons c cs ih=>intro b s;rw[Jg,List.length_cons,ih,List.length_cons]
   simp only[Ww,List.length_map,this,List.length_take]
   omega
  refine⟨g,Wc rfl rfl ⟨hg4,Xp hgl,?_⟩⟩
  generalize hH5:Zr H4 g (.lst (Ww xs.length (Jg ((ks.take i).map Pat.code) xs.length 0)++[V.int ((xs++ys++[V.ref t1]++zs).length:Nat)]))=H5
  have g5:Gro [g] H4 H5:=by rw[← hH5];exact Gro.set (by simp) hg4 _
  have hr5:H5 r=some (.lst (xs++ys++[V.ref t1]++zs++[.ref t2])):=by rw[← hH5,Zo rg];exact hr4
  have hg5:H5 g=some (.lst (Ww xs.length (Jg ((ks.take (i+1)).map Pat.code) xs.length 0))):=by
   rw[← hH5,Z5,Xo hpi,List.map_append,List.map_singleton,Z2n _ _ _ _ m hM.symm]
   unfold Ww
   rw[List.map_append,List.map_singleton,e3]
   congr 3
   simp only[List.cons.injEq,V.int.injEq,and_true]
   omega
  have e5:(xs++ys++[V.ref t1]++zs++[V.ref t2]).length=m+(p.code (m+1)).length+2:=by rw[List.length_append,e3];simp;omega
  refine(Z6 rfl ⟨r,Z6 rfl ⟨.inl (SqL.of hr5),sz,fun t6 ht6=>?_⟩⟩)
  refine(Z6 rfl (Z6 rfl ⟨r,_,_,m,rfl,rfl,Xj hr5 ht6,by rw[e1];exact U0 (by rw[e5];omega),?_⟩))
  have eL:(xs++ys++[V.ref t1]++zs++[V.ref t2]).set m (.ref t6)=xs++(ys++(.ref t6::(zs++[.ref t2]))):=by
   rw[show xs++ys++[V.ref t1]++zs++[V.ref t2]=(xs++ys)++V.ref t1::(zs++[V.ref t2]) by simp,Z1u e1.symm]
   simp
  rw[eL]
  have g6:Gro [r] H5 (Zr (Zr H5 t6 (.tup [.str "try",.int ((xs++ys++[V.ref t1]++zs++[V.ref t2]).length:Nat)])) r (.lst (xs++(ys++(.ref t6::(zs++[.ref t2])))))):=Wl hr5 ht6
  have et:=Wj (ys:=[.str "try",.int ((xs++ys++[V.ref t1]++zs++[V.ref t2]).length:Nat)]) (zs:=xs++(ys++(.ref t6::(zs++[.ref t2])))) hr5 ht6
  rw[e5]at g6 et ⊢
  have k16:∀b c,H1 b=some (.tup c)->_:=fun b c h=>g6.tups b c (g5.tups _ _ (g4.tups _ _ (g23.tups _ _ h)))
  have k36:∀b c,H3 b=some (.tup c)->_:=fun b c h=>g6.tups b c (g5.tups _ _ (g4.tups _ _ h))
  have g15:Gro [r,g] H1 _:=(((g23.trans g4).mono (by simp)).trans (g5.mono (by simp))).trans (g6.mono (by simp))
  refine⟨ys++(.ref t6::(zs++[.ref t2])),_,_,rfl,Z5,?_,g6.keep g _ hg5 rg',?_,gg1.trans g15⟩
  ·rw[Xo hpi,List.map_append,List.map_singleton,Z2o _ _ _ _ m hM.symm]
   refine Zx (Y0 k16 hy1) (.cons ⟨t6,rfl,?_⟩ (Zx (Y0 k36 hz3) (.cons ⟨t2,rfl,?_⟩ .nil)))
   ·rw[et]
    congr 5
   ·exact g6.tups _ _ (g5.tups _ _ ht2)
  ·have:=(g0.mono (S':=[r,g]) (by simp)).trans (gg1.trans g15)
   refine⟨fun c o hc hcr=>this.keep c o hc ?_,this.tups⟩
   have:c≠g:=Za hc hg
   simp at hcr ⊢
   exact⟨hcr,this⟩
 ·rintro σ H1 ⟨ys,br,tr,rfl,hr1,hy1,hg1,g1,gg1⟩
  rw[List.length_take,show min (kv.length-1) kv.length=kv.length-1 by omega]at hy1 hg1
  exact⟨g,ys,br,tr,rfl,rg,hg,hr1,hy1,hg1,g1,q'⟩
end
theorem Z2m:∀(cs:List Cd) (c:Cd) (b m:Nat),m=b+(T5 cs b).length->T5 (cs++[c]) b=T5 cs b++c m
 | [],c,b,m,h=>by rw[show m=b from h];simp[T5]
 |d::cs,c,b,m,h=>by
  rw[T5,List.length_append]at h
  rw[List.cons_append,T5,Z2m cs c (b+(d b).length) m (by omega),T5,List.append_assoc]
theorem Vv{α β:Type}{F:α->β->Prop}{x:α}{ys:List β}(h:Paired F [x] ys):∃y,ys=[y]/\F x y:=by
 cases h with
 |cons r t=>cases t;exact(Z6 rfl r)
theorem Z6d{α β:Type}{F:α->β->Prop}{x x':α}{ys:List β}(h:Paired F [x,x'] ys):∃y y',ys=[y,y']/\F x y/\F x' y':=by
 cases h with
 |cons r t =>
  obtain⟨y,rfl,h'⟩:=Vv t
  exact⟨_,_,rfl,r,h'⟩
section
variable{P:Program}{w:World}{K:W.Frag}{mg:Str->Option Value}{base:Heap}{f:Addr}{fd:FuncData}
abbrev Zc2:How->Prop:=fun _=>True
abbrev Z5r:Stmt:=top 5
theorem sc_put:FnScope ["rows","pattern","kind","part"] ["rows","pattern"] (Z9 Z5r):=Vh
theorem Zg7{n k:Nat}{it:Addr}(T:Blt mg)(Vn:mg "ITSELF" = some (.ref it))(hIT:∀H,SqT K H it Te)(O_put:Own P w K mg base (2+k) "put" ["rows","pattern"] (Z0m n))(O_put_or:Own P w K mg base (2+k+1) "put_or" ["rows","branches"] (Z7l n))(O_put_times:Own P w K mg base (2+k+2) "put_times" ["rows","low","high","how","part"] (W2 Zc2 n))
  (O_put_have:Own P w K mg base (2+k+1) "put_have" ["rows","number","yes","no"] (Z2h n)) (O_put_look:Own P w K mg base (2+k+1) "put_look" ["rows","kind","part"] (Z2g n)) (F:Fun K "put" "put" Z5r f fd):FnOk P w K mg base Wp (2+k+3) f fd ["rows","pattern"] (Z0m (n+1)):=by
 refine F.ok sc_put (fun vs H Q E h=>?_) (fun cdv A outer s H vs Q E hr h=>?_)
 ·obtain⟨r,v,xs,p,rfl,_⟩:=h
  rfl
 obtain⟨r,v,xs,⟨h,ks⟩,rfl,hp,hr0,hz,q⟩:=h
 refine Vf ?_
 intro Xz
 refine⟨_,(Z1 (pS 2 sc_put.nd (Zl Zg (pv 1) Z7 (fun _ _=>rfl)))
  (Z4 (Zu (Zd Uu (pv 2) (Xl (v:=.ref _) rfl Vn rfl) (by with_unfolding_all rfl)) (Z4 (Zf (Yt PySem.F.plainAttrs_list PySem.F.slot_list_append PySem.F.type_list_append Zy (pv 0) (Z0 (pv 1) Z3)))) (Z4 (Zu (Zd Y2 (pv 2) Zq (Zh _)) (Z4 (U4 PassesOwn.never rfl (Z1y (Zl Zg (pv 1) Z7 (fun _ _=>rfl))) (pN 3 sc_put.nd) (Z4 (Zf (Zv (O_put.mono (by omega)) hr rfl (Z0 (pv 0) (Z0 (pv 3) Z3))))))) (Z4 (Zu (Zd Y2 (pv 2) Zq (Zh _)) (Z4 (Zf (Zv (O_put_or.mono (by omega)) hr rfl (Z0 (pv 0) (Z0 (Zl Zg (pv 1) Z7 (fun _ _=>rfl)) Z3))))) (Z4 (Zu (Zd Y2 (pv 2) Zq (Zh _)) (Z4 (Zf (Zv (O_put_times.mono (by omega)) hr rfl (Z0 (pv 0) (Z0 (Zl Zg (pv 1) Z7 (fun _ _=>rfl)) (Z0 (Zl Zg (pv 1) Z7 (fun _ _=>rfl)) (Z0 (Zl Zg (pv 1) Z7 (fun _ _=>rfl)) (Z0 (Zl Zg (pv 1) Z7 (fun _ _=>rfl)) Z3)))))))) (Z4 (Zu (Zd Y2 (pv 2) Zq (Zh _)) (Z1 (Zf (Yt PySem.F.plainAttrs_list PySem.F.slot_list_append PySem.F.type_list_append Zy (pv 0) (Z0 (Zz (Z0 Zq Z3)) Z3)))
  (Z1 (Zf (Zv (O_put.mono (by omega)) hr rfl (Z0 (pv 0) (Z0 (Zl Zg (pv 1) Z7 (fun _ _=>rfl)) Z3))))
  (Z4 (Zf (Yt PySem.F.plainAttrs_list PySem.F.slot_list_append PySem.F.type_list_append Zy (pv 0) (Z0 (Zz (Z0 Zq (Z0 (Zl Zg (pv 1) Z7 (fun _ _=>rfl)) Z3))) Z3)))))) (Z4 (Zu (Zd Y2 (pv 2) Zq (Zh _)) (Z4 (Zf (Zv (O_put_have.mono (by omega)) hr rfl (Z0 (pv 0) (Z0 (Zl Zg (pv 1) Z7 (fun _ _=>rfl)) (Z0 (Zl Zg (pv 1) Z7 (fun _ _=>rfl)) (Z0 (Zl Zg (pv 1) Z7 (fun _ _=>rfl)) Z3))))))) (Z4 (Zf (Zv (O_put_look.mono (by omega)) hr rfl (Z0 (pv 0) (Z0 (pv 2) (Z0 (Zl Zg (pv 1) Z7 (fun _ _=>rfl)) Z3))))))))))))))))))),?_⟩
 refine Zf9 ?_
 intro Ez Az1 Az2 Az3 Az4 Az5 Az6 Az7 Az8 Az9 Az10 Az11 Az12 Az13 Az14 Az15 Az16
 rw[Jv]at q
 rw[Z2i]at hz
 obtain⟨a,kv,rfl,lay,hk⟩:=id hp
 obtain⟨r0,ea⟩:=lay.head
 refine(Wo ea Z0p (?_))
 refine(Z6 rfl ⟨it,Te,rfl,.inr (hIT _),rfl,rfl,Z6 rfl (?_)⟩)
 show if Zey (.str h.word) Te=true then _ else _
 rw[Z9y]
 refine Wq (fun z=>?_) (fun z=>?_)
 ·refine(Z6 rfl ⟨.inl ⟨rfl,_,SqL.of hr0⟩,Z6 rfl ⟨r,xs,Z6 rfl ⟨rfl,hr0,Z9q (by omega),?_⟩⟩⟩)
  have g1:Gro [r] H (Zr H r (.lst (xs++[.ref a]))):=Gro.set (by simp) hr0 _
  refine q [.ref a] _ Z5 ?_ g1
  rw[Z9d z]
  exact .cons ((hp.leafy z).mono g1.tups) .nil
 cases h with
 |row =>
  obtain⟨z10,b,e,er⟩:=lay
  refine(Z6 rfl ⟨rfl,Z6 rfl (Zj (by decide +kernel) ?_)⟩)
  refine(Wo e rfl ⟨b,rfl,⟨_,SqT.of er⟩,?_⟩)
  have hkl:=Paired.length hk
  refine Z3y (xs:=kv) (fun i σ H'=>∃(ys:List V) (pt:Option V),σ=[some (.ref r),some (.ref a),some (.str "row"),pt]/\H' r=some (.lst (xs++ys))/\Paired (RowAt H') ys (T5 ((ks.take i).map Pat.code) xs.length)/\Gro [r] H H')
   ⟨[],none,rfl,by simpa using hr0,.nil,Gro.refl⟩ (fun i σ H' _ hh=>by obtain⟨_,_,_,_,_,g⟩:=hh;exact SqT.of (g.tups _ _ er)) ?_ ?_
  ·rintro i x σ H1 hx ⟨ys,pt,rfl,hr1,hy1,g1⟩
   obtain⟨p,hpi,hpx⟩:=Y9 hk hx
   have hl:=Paired.length hy1
   have hrf:=Jl (ks:=ks.take i) (fun k _=>Pat.code_fits k) xs.length
   have hsp:Yb (ks.take i)+p.size<=Yb ks:=by
    have:=Z18 ks i
    rw[Ju hpi,Yb]at this
    omega
   have e1:(xs++ys).length=xs.length+(T5 ((ks.take i).map Pat.code) xs.length).length:=by rw[List.length_append,hl]
   refine(Z6 rfl (Z6 rfl ⟨r,x,_,p,rfl,hpx.mono g1.tups,hr1,by rw[e1];omega,fun zs H2 hr2 hz2 g2=>?_⟩))
   refine⟨ys++zs,Z6 rfl ⟨by rw[hr2,List.append_assoc],?_,g1.trans g2⟩⟩
   rw[Xo hpi,List.map_append,List.map_singleton,Z2m _ _ _ _ rfl]
   rw[e1]at hz2
   exact Zx (Y0 g2.tups hy1) hz2
  ·rintro σ H1 ⟨ys,pt,rfl,hr1,hy1,g1⟩
   rw[hkl,List.take_length]at hy1
   exact q ys H1 hr1 hy1 g1
 |alt =>
  obtain⟨z1,z10,b,e,er⟩:=lay
  refine(Z6 rfl ⟨rfl,Z6 rfl (Zb (by decide +kernel) ?_)⟩)
  refine(Z6 rfl ⟨rfl,Z6 rfl (Zj (by decide +kernel) ?_)⟩)
  exact(Z6 rfl (Wo e rfl ⟨r,b,xs,kv,ks,rfl,er,hk,z1,z10,hr0,by omega,fun ys H' h1 h2 h3=>q ys H' h1 h2 h3⟩))
 |times lo hi how =>
  obtain⟨_,k,e0,e⟩:=lay
  subst e0
  refine(Z6 rfl ⟨rfl,Z6 rfl (Zb (show ¬Z15 "times" "row" = true by decide +kernel) ?_)⟩)
  refine(Z6 rfl ⟨rfl,Z6 rfl (Zb (show ¬Z15 "times" "or" = true by decide +kernel) ?_)⟩)
  refine(Z6 rfl ⟨rfl,Z6 rfl (Zj (show Z15 "times" "times" = true by decide +kernel) ?_)⟩)
  obtain⟨p,rfl,hpk⟩:=Vv hk
  rw[Vl]at hz
  exact(Z6 rfl (Wo e rfl (Wo e rfl (Wo e rfl (Wo e rfl ⟨r,lo,hi,how,k,xs,p,rfl,trivial,hpk,hr0,by cases how <;> simp only[How.ext] <;> omega,fun ys H' h1 h2 h3=>q ys H' h1 h2 h3⟩)))))
 |grp j =>
  obtain⟨_,k,e0,e⟩:=lay
  subst e0
  refine(Z6 rfl ⟨rfl,Z6 rfl (Zb (show ¬Z15 "group" "row" = true by decide +kernel) ?_)⟩)
  refine(Z6 rfl ⟨rfl,Z6 rfl (Zb (show ¬Z15 "group" "or" = true by decide +kernel) ?_)⟩)
  refine(Z6 rfl ⟨rfl,Z6 rfl (Zb (show ¬Z15 "group" "times" = true by decide +kernel) ?_)⟩)
  refine(Z6 rfl ⟨rfl,Z6 rfl (Zj (show Z15 "group" "group" = true by decide +kernel) ?_)⟩)
  obtain⟨p,rfl,hpk⟩:=Vv hk
  rw[Vl]at hz
  have hf:=Pat.code_fits p (xs.length+1)
  refine(Z6 rfl ⟨.inl ⟨rfl,_,SqL.of hr0⟩,sz,fun t ht=>⟨r,xs,Z6 rfl ⟨rfl,Xj hr0 ht,Z9q (by omega),?_⟩⟩⟩)
  have g1:Gro [r] H _:=Wl (zs:=xs++[V.ref t]) (o:=.tup [.str "open"]) hr0 ht
  have e1:(xs++[V.ref t]).length=xs.length+1:=by simp
  refine(Z6 rfl (Wo (g1.tups _ _ e) rfl ⟨r,k,_,p,rfl,hpk.mono g1.tups,Z5,by rw[e1];omega,fun ys H2 hr2 hp2 g2=>?_⟩))
  rw[e1]at hp2
  have hl:=Paired.length hp2
  have hl2:(xs++[V.ref t]++ys).length<=1000000:=by rw[List.length_append,e1,hl];omega
  refine(Z6 rfl ⟨.inl ⟨rfl,_,SqL.of hr2⟩,Wo (g2.tups _ _ (g1.tups _ _ e)) rfl ⟨sz,fun t2 ht2=>⟨r,Wc rfl rfl ⟨Xj hr2 ht2,Z9q hl2,?_⟩⟩⟩⟩)
  have g3:Gro [r] H2 _:=Wl (zs:=xs++[V.ref t]++ys++[V.ref t2]) (o:=.tup [.str "close",.int j]) hr2 ht2
  have et:H2 t=some (.tup [.str "open"]):=g2.tups _ _ (Wj hr0 ht)
  refine q (.ref t::(ys++[.ref t2])) _ (by simp[Z5]) ?_ ((g1.trans g2).trans g3)
  exact .cons ⟨t,rfl,g3.tups _ _ et⟩ (Zx (Y0 g3.tups hp2) (.cons ⟨t2,rfl,Wj hr2 ht2⟩ .nil))
 |hav j =>
  obtain⟨_,y,z',e0,e⟩:=lay
  subst e0
  refine(Z6 rfl ⟨rfl,Z6 rfl (Zb (show ¬Z15 "have" "row" = true by decide +kernel) ?_)⟩)
  refine(Z6 rfl ⟨rfl,Z6 rfl (Zb (show ¬Z15 "have" "or" = true by decide +kernel) ?_)⟩)
  refine(Z6 rfl ⟨rfl,Z6 rfl (Zb (show ¬Z15 "have" "times" = true by decide +kernel) ?_)⟩)
  refine(Z6 rfl ⟨rfl,Z6 rfl (Zb (show ¬Z15 "have" "group" = true by decide +kernel) ?_)⟩)
  refine(Z6 rfl ⟨rfl,Z6 rfl (Zj (show Z15 "have" "have" = true by decide +kernel) ?_)⟩)
  obtain⟨p,p',rfl,hpk,hpk'⟩:=Z6d hk
  rw[Yb,Vl]at hz
  exact(Z6 rfl (Wo e rfl (Wo e rfl (Wo e rfl ⟨r,j,y,z',xs,p,p',rfl,hpk,hpk',hr0,by omega,fun ys H' h1 h2 h3=>q ys H' h1 h2 h3⟩))))
 |look lk =>
  obtain⟨k,e0,e⟩:=lay
  subst e0
  have t:Z15 lk.text "row" = false/\Z15 lk.text "or" = false/\Z15 lk.text "times" = false/\Z15 lk.text "group" = false/\Z15 lk.text "have" = false:=by cases lk <;> decide +kernel
  obtain⟨t1,t2,t3,t4,t5⟩:=t
  refine(Z6 rfl ⟨rfl,Z6 rfl (Zb (show ¬Z15 lk.text "row" = true by rw[t1];decide) ?_)⟩)
  refine(Z6 rfl ⟨rfl,Z6 rfl (Zb (show ¬Z15 lk.text "or" = true by rw[t2];decide) ?_)⟩)
  refine(Z6 rfl ⟨rfl,Z6 rfl (Zb (show ¬Z15 lk.text "times" = true by rw[t3];decide) ?_)⟩)
  refine(Z6 rfl ⟨rfl,Z6 rfl (Zb (show ¬Z15 lk.text "group" = true by rw[t4];decide) ?_)⟩)
  refine(Z6 rfl ⟨rfl,Z6 rfl (Zb (show ¬Z15 lk.text "have" = true by rw[t5];decide) ?_)⟩)
  obtain⟨p,rfl,hpk⟩:=Vv hk
  rw[Vl]at hz
  exact(Z6 rfl (Z6 rfl (Wo e rfl ⟨r,lk,k,xs,p,rfl,hpk,hr0,by omega,fun ys H' h1 h2 h3=>q ys H' h1 h2 h3⟩)))
 |sign _=>exact absurd rfl z
 |any=>exact absurd rfl z
 |inn _=>exact absurd rfl z
 |out _=>exact absurd rfl z
 |beg=>exact absurd rfl z
 |fin=>exact absurd rfl z
 |again _=>exact absurd rfl z
theorem Z7x{it le ls:Addr}(T:Blt mg)(Vn:mg "ITSELF" = some (.ref it))(hIT:∀H,SqT K H it Te)(W4:mg "LEANING" = some (.ref le))(hLE:∀H,SqT K H le V0)(X2:mg "LAST_ROWS" = some (.ref ls))(hLS:Zem K w ls V8)
  (d1:Def K mg "put" Z5r ["rows","pattern"]) (d2:Def K mg "hold_place" Xy ["rows"]) (d3:Def K mg "put_or" Ub ["rows","branches"]) (d4:Def K mg "put_times" Wa ["rows","low","high","how","part"]) (d5:Def K mg "put_have" V6 ["rows","number","yes","no"]) (d6:Def K mg "put_look" V5 ["rows","kind","part"]) :
  ∀n,Own P w K mg base (2+3*n) "put" ["rows","pattern"] (Z0m n)
 |0=>d1.own fun f fd F=>FnOk.never fun vs H Q E h=>by
  obtain⟨_,_,_,_,_,hp,_⟩:=h
  exact hp.elim
 |n+1=>by
  have ih:=Z7x T Vn hIT W4 hLE X2 hLS d1 d2 d3 d4 d5 d6 n
  have hold:Own P w K mg base 1 "hold_place" ["rows"] Z08:=d2.own fun _ _ F=>Z29 T F
  have no:Own P w K mg base (2+3*n) "put_times" ["rows","low","high","how","part"] (W2 (fun _=>False) n):=d4.own fun _ _ F=>FnOk.never fun vs H Q E h=>by
   obtain⟨_,_,_,_,_,_,_,_,z,_⟩:=h
   exact z
  have t1:Own P w K mg base (2+3*n+1) "put_times" ["rows","low","high","how","part"] (W2 (fun h=>h=.much) n):=d4.own fun _ _ F=>Ti (ok':=fun _=>False) (fun how e z=>by rw[e]at z;cases z) T hold ih no F
  have t2:Own P w K mg base (2+(3*n+1)+1) "put_times" ["rows","low","high","how","part"] (W2 Zc2 n):=d4.own fun _ _ F=>Ti (k:=3*n+1) (ok':=fun h=>h=.much) (fun how _ _=>rfl) T hold (ih.mono (k:=2+(3*n+1)) (by omega)) (t1.mono (k:=2+(3*n+1)) (by omega)) F
  exact d1.own fun _ _ F=>Zg7 (k:=3*n) T Vn hIT ih (d3.own fun _ _ F=>Z95 T hold ih F) (t2.mono (k:=2+3*n+2) (by omega)) (d5.own fun _ _ F=>Z4n T hold ih F) (d6.own fun _ _ F=>Z4m T W4 hLE X2 hLS hold ih F) F
inductive spCodedI(vs:List V)(H:Hp)(Q:VK):Prop
 |mk (v:V) (p:Pat) (_:vs=[v]) (_:PatAt H 8 v p) (_:p.size<=20000) (_:∀(t:Addr) (ys:List V) (H':Hp),H' t=some (.tup ys)->Paired (RowAt H') ys (p.code 0++[.tup [.str "found"]])->Gro [] H H'->Q (.ref t) H')
def Z3n:Sp:=fun vs H Q _=>spCodedI vs H Q
abbrev Z0x:Stmt:=top 4
theorem sc_coded:FnScope ["pattern","rows"] ["pattern"] (Z9 Z0x):=Vh
theorem Zao(T:Blt mg)(O_put:Own P w K mg base 26 "put" ["rows","pattern"] (Z0m 8))(F:Fun K "coded" "coded" Z0x f fd):FnOk P w K mg base Wp 27 f fd ["pattern"] Z3n:=by
 refine F.ok sc_coded (fun vs H Q E h=>?_) (fun cdv A outer s H vs Q E hr h=>?_)
 ·obtain⟨v,p,rfl,_⟩:=h
  rfl
 obtain⟨v,p,rfl,hp,hz,q⟩:=h
 refine Vf ?_
 intro Xz
 refine⟨_,(Z1 (pS 1 sc_coded.nd (Wt Z3))
  (Z1 (Zf (Zv (O_put.mono (by omega)) hr rfl (Z0 (pv 1) (Z0 (pv 0) Z3))))
  (Z1 (Zf (Yt PySem.F.plainAttrs_list PySem.F.slot_list_append PySem.F.type_list_append Zy (pv 1) (Z0 (Zz (Z0 Zq Z3)) Z3)))
  (Z4 (Zk (Ut Z2b rfl T.b_tuple PyProof.Rows.Boot.«tuple» (Z0 (pv 1) Z3))))))),?_⟩
 refine Z78 ?_
 intro Ez Az1 Az2 Az3
 refine⟨sz,fun r hr0=>?_⟩
 have g0:Gro [] H (Zr H r (.lst [])):=Gro.new hr0 _
 refine(Z6 rfl (Z6 rfl ⟨r,v,[],p,rfl,hp.mono g0.tups,Z5,by simp;omega,fun ys H1 hr1 hy1 g1=>?_⟩))
 have hl:=Paired.length hy1
 have hf:=Pat.code_fits p 0
 have hl1:([]++ys).length<=1000000:=by rw[List.nil_append,hl];show(p.code 0).length<=_;omega
 refine(Z6 rfl ⟨.inl ⟨rfl,_,SqL.of hr1⟩,sz,fun t ht=>⟨r,Wc rfl rfl ⟨Xj hr1 ht,Z9q hl1,?_⟩⟩⟩)
 have g2:Gro [r] H1 _:=Wl (zs:=[]++ys++[V.ref t]) (o:=.tup [.str "found"]) hr1 ht
 refine(Z6 rfl ⟨r,Z6 rfl (.inl ⟨SqL.of Z5,fun t3 ht3=>?_⟩)⟩)
 have et:=Wj (ys:=[.str "found"]) (zs:=[]++ys++[V.ref t]) hr1 ht
 generalize Zr (Zr H1 t (.tup [.str "found"])) r (.lst ([]++ys++[V.ref t]))=H2 at *
 have g3:Gro [] H2 (Zr H2 t3 (.tup ([]++ys++[V.ref t]))):=Gro.new ht3 _
 have gg:Gro [r] (Zr H r (.lst [])) (Zr H2 t3 (.tup ([]++ys++[V.ref t]))):=(g1.trans g2).trans (g3.mono (by simp))
 refine q t3 _ _ Z5 ?_ ⟨fun c o hc _=>?_,fun c zs hc=>gg.tups _ _ (g0.tups _ _ hc)⟩
 ·rw[List.nil_append]
  exact Zx (Y0 (fun b c h=>g3.tups _ _ (g2.tups _ _ h)) hy1) (.cons ⟨t,rfl,g3.tups _ _ et⟩ .nil)
 ·exact gg.keep c o (g0.keep c o hc (by simp)) (by simpa using Za hc hr0)
inductive spAlkI(n:Nat)(vs:List V)(H:Hp)(Q:VK):Prop
 |mk (x y:V) (_:vs=[x,y]) (_:Va H n x y) (_:Q (.bl true) H)
def Z22(n:Nat):Sp:=fun vs H Q _=>spAlkI n vs H Q
abbrev V2:Stmt:=top 61
theorem sc_l_alike:FnScope ["_law_found","_law_due_here","_law_k"] ["_law_found","_law_due_here"] (Z9 V2):=Vh
theorem Zbs{n:Nat}(T:Blt mg)(O_l_alike:Own P w K mg base (2+n) "_law_alike" ["_law_found","_law_due_here"] (Z22 n))(F:Fun K "_law_alike" "_law_alike" V2 f fd):FnOk P w K mg base Wp (2+n+1) f fd ["_law_found","_law_due_here"] (Z22 (n+1)):=by
 refine F.ok sc_l_alike (fun vs H Q E h=>?_) (fun cdv A outer s H vs Q E hr h=>?_)
 ·obtain⟨x,y,rfl,_⟩:=h
  rfl
 obtain⟨x,y,rfl,hxy,q⟩:=h
 refine Vf ?_
 intro Xz
 refine⟨_,(Z1 (Zu (Ta (Ux (pv 1))) (Z4 (Zk (Z7b (Ux (pv 0))))) Zi)
  (Z1 (Zu (Yh (Ze (Zs (T:="bool") (Yk (by simp))) rfl T.b_isinstance PyProof.Rows.Boot.«isinstance» (Z0 (pv 1) (Z0 (Y8 (v:=.ty "bool") rfl T.b_bool PyProof.Rows.Boot.«bool» rfl) Z3)))) (Z4 (Zk (Wu (Ze (Zs (T:="bool") (Yk (by simp))) rfl T.b_isinstance PyProof.Rows.Boot.«isinstance» (Z0 (pv 0) (Z0 (Y8 (v:=.ty "bool") rfl T.b_bool PyProof.Rows.Boot.«bool» rfl) Z3))) (U5 (Yz Y2 (pv 0) (pv 1) (Zh _)))))) Zi)
  (Z1 (Zu (Yh (Ze (Zs (T:="int") (Yk (by simp))) rfl T.b_isinstance PyProof.Rows.Boot.«isinstance» (Z0 (pv 1) (Z0 (Y8 (v:=.ty "int") rfl T.b_int PyProof.Rows.Boot.«int» rfl) Z3)))) (Z4 (Zk (Wu (Ze (Zs (T:="int") (Yk (by simp))) rfl T.b_isinstance PyProof.Rows.Boot.«isinstance» (Z0 (pv 0) (Z0 (Y8 (v:=.ty "int") rfl T.b_int PyProof.Rows.Boot.«int» rfl) Z3))) (Wu (Z1z (Ze (Zs (T:="bool") (Yk (by simp))) rfl T.b_isinstance PyProof.Rows.Boot.«isinstance» (Z0 (pv 0) (Z0 (Y8 (v:=.ty "bool") rfl T.b_bool PyProof.Rows.Boot.«bool» rfl) Z3)))) (U5 (Yz Y2 (pv 0) (pv 1) (Zh _))))))) Zi)
  (Z1 (Zu (Yh (Ze (Zs (T:="str") (Yk (by simp))) rfl T.b_isinstance PyProof.Rows.Boot.«isinstance» (Z0 (pv 1) (Z0 (Y8 (v:=.ty "str") rfl T.b_str PyProof.Rows.Boot.«str» rfl) Z3)))) (Z4 (Zk (Wu (Ze (Zs (T:="str") (Yk (by simp))) rfl T.b_isinstance PyProof.Rows.Boot.«isinstance» (Z0 (pv 0) (Z0 (Y8 (v:=.ty "str") rfl T.b_str PyProof.Rows.Boot.«str» rfl) Z3))) (U5 (Yz Y2 (pv 0) (pv 1) (Zh _)))))) Zi)
  (Z1 (Zu (PW.pt (Z5s (Zd Ji (Ze (Zs (T:="tuple") (Yk (by simp))) rfl T.b_isinstance PyProof.Rows.Boot.«isinstance» (Z0 (pv 1) (Z0 (Y8 (v:=.ty "tuple") rfl T.b_tuple PyProof.Rows.Boot.«tuple» rfl) Z3))) (Ze (Zs (T:="tuple") (Yk (by simp))) rfl T.b_isinstance PyProof.Rows.Boot.«isinstance» (Z0 (pv 0) (Z0 (Y8 (v:=.ty "tuple") rfl T.b_tuple PyProof.Rows.Boot.«tuple» rfl) Z3))) (Zh _)) (Z1x (Zd Ji (Ze (Zs (T:="list") (Yk (by simp))) rfl T.b_isinstance PyProof.Rows.Boot.«isinstance» (Z0 (pv 1) (Z0 (Y8 (v:=.ty "list") rfl T.b_list PyProof.Rows.Boot.«list» rfl) Z3))) (Ze (Zs (T:="list") (Yk (by simp))) rfl T.b_isinstance PyProof.Rows.Boot.«isinstance» (Z0 (pv 0) (Z0 (Y8 (v:=.ty "list") rfl T.b_list PyProof.Rows.Boot.«list» rfl) Z3))) (Zh _))))) (Z4 (Zk W1)) Zi)
  (Z1 (Zu (Zd Ji (Ze Zw rfl T.b_len PyProof.Rows.Boot.«len» (Z0 (pv 0) Z3)) (Ze Zw rfl T.b_len PyProof.Rows.Boot.«len» (Z0 (pv 1) Z3)) (Zh _)) (Z4 (Zk W1)) Zi)
  (Z1 (U4 PassesOwn.never rfl (Jo rfl T.b_range (Z0 (Ze Zw rfl T.b_len PyProof.Rows.Boot.«len» (Z0 (pv 1) Z3)) Z3)) (pN 2 sc_l_alike.nd) (Z4 (Zu (Z7a (Yh (Zv (O_l_alike.mono (by omega)) hr rfl (Z0 (Zl Zg (pv 0) (pv 2) (fun _ _=>rfl)) (Z0 (Zl Zg (pv 1) (pv 2) (fun _ _=>rfl)) Z3))))) (Z4 (Zk W1)) Zi)))
  (Z4 (Zk W1))))))))),?_⟩
 refine Zbl ?_
 intro Ez Az1 Az2 Az3 Az4 Az5 Az6 Az7 Az8 Az9 Az10 Az11 Az12 Az13 Az14 Az15
 rcases hxy with⟨rfl,hx⟩ | ⟨a,b,xs,ys,rfl,rfl,ha,hb,hz,hp⟩
 ·cases x with
  |non=>exact(Z6 rfl (Z6 rfl (Zj (by decide) (Z6 rfl q))))
  |bl i =>
   refine⟨_,rfl,_,rfl,Zb (by simp) ?_⟩
   refine⟨_,rfl,_,_,rfl,rfl,_,rfl,Zj (by decide) ?_⟩
   refine⟨_,rfl,_,_,rfl,rfl,_,rfl,Zj (by decide) ?_⟩
   refine(Z6 rfl (Z6 rfl ⟨rfl,?_⟩))
   rw[decide_eq_true rfl]
   exact q
  |int i =>
   refine⟨_,rfl,_,rfl,Zb (by simp) ?_⟩
   refine⟨_,rfl,_,_,rfl,rfl,_,rfl,Zb (by decide) ?_⟩
   refine⟨_,rfl,_,_,rfl,rfl,_,rfl,Zj (by decide) ?_⟩
   refine⟨_,rfl,_,_,rfl,rfl,_,rfl,Zj (by decide) ?_⟩
   refine⟨_,rfl,_,_,rfl,rfl,_,rfl,_,rfl,Zj (by decide) ?_⟩
   refine(Z6 rfl (Z6 rfl ⟨rfl,?_⟩))
   rw[decide_eq_true rfl]
   exact q
  |str i =>
   refine⟨_,rfl,_,rfl,Zb (by simp) ?_⟩
   refine⟨_,rfl,_,_,rfl,rfl,_,rfl,Zb (by decide) ?_⟩
   refine⟨_,rfl,_,_,rfl,rfl,_,rfl,Zb (by decide) ?_⟩
   refine⟨_,rfl,_,_,rfl,rfl,_,rfl,Zj (by decide) ?_⟩
   refine⟨_,rfl,_,_,rfl,rfl,_,rfl,Zj (by decide) ?_⟩
   refine(Z6 rfl (Z6 rfl ⟨rfl,?_⟩))
   rw[decide_eq_true rfl]
   exact q
  |_=>exact absurd (show false=true from hx) (by decide)
 ·have hl:=Paired.length hp
  refine(Z6 rfl (Z6 rfl (Zb (by simp) ?_)))
  refine(Z6 rfl ⟨_,_,rfl,.inl ⟨ys,hb,rfl⟩,Z6 rfl (Zb (by decide) ?_)⟩)
  refine(Z6 rfl ⟨_,_,rfl,.inl ⟨ys,hb,rfl⟩,Z6 rfl (Zb (by decide) ?_)⟩)
  refine(Z6 rfl ⟨_,_,rfl,.inl ⟨ys,hb,rfl⟩,Z6 rfl (Zb (by decide) ?_)⟩)
  refine(Z6 rfl ⟨_,_,rfl,.inl ⟨ys,hb,rfl⟩,Z6 rfl ⟨_,_,rfl,.inl ⟨xs,ha,rfl⟩,rfl,Z6 rfl (Zb (by decide) ?_)⟩⟩)
  refine(Z6 rfl ⟨_,_,rfl,.inl ⟨ys,hb,rfl⟩,Z6 rfl ⟨_,_,rfl,.inl ⟨xs,ha,rfl⟩,rfl,Z6 rfl (Zb (by decide) ?_)⟩⟩)
  refine(Z6 rfl ⟨a,xs,rfl,.inr (SqT.of ha),Z6 rfl ⟨b,ys,rfl,.inr (SqT.of hb),rfl,Z6 rfl (Zb (by rw[hl];simp) ?_)⟩⟩)
  refine(Z6 rfl ⟨b,ys,rfl,.inr (SqT.of hb),Z6 rfl ⟨by omega,by omega,?_⟩⟩)
  refine Js (fun i σ H'=>∃k:Option V,σ=[some (.ref a),some (.ref b),k]/\H'=H) ⟨none,rfl,rfl⟩ ?_ ?_
  ·rintro i σ H' hi ⟨k,rfl,rfl⟩
   have hi2:i<ys.length:=by simpa using hi
   have hi1:i<xs.length:=by omega
   obtain⟨y',hy',hs⟩:=Y9 hp (List.getElem?_eq_getElem hi1)
   have ez:(0:Int)+(i:Int)=((i:Nat):Int):=by omega
   refine⟨_,rfl,_,rfl,a,xs,_,_,rfl,rfl,SqT.of ha,by rw[ez];exact Wh (List.getElem?_eq_getElem hi1),_,rfl,_,rfl,b,ys,_,_,rfl,rfl,SqT.of hb,by rw[ez];exact Wh hy',_,_,rfl,hs,_,rfl,?_⟩
   exact Zb (by decide) (Z6 rfl rfl)
  ·rintro σ H' ⟨k,rfl,rfl⟩
   exact q
end
theorem Z4x{P:Program}{w:World}{K:W.Frag}{mg:Str->Option Value}{base:Heap}{CX:Z9w}{k:Nat}{f:Addr}{fd:FuncData}{ps:List Str}{sp sp':Sp}(F:FnOk P w K mg base CX k f fd ps sp)(F':FnOk P w K mg base CX k f fd ps sp'):FnOk P w K mg base CX k f fd ps (fun vs H Q E=>sp vs H Q E∨sp' vs H Q E) :=
 ⟨fun vs H Q E h=>h.elim (F.len _ _ _ _) (F'.len _ _ _ _),fun A outer s H args us vs Q E hr he hb hv h=>h.elim (F.run A outer s H args us vs Q E hr he hb hv) (F'.run A outer s H args us vs Q E hr he hb hv)⟩
section
variable{P:Program}{w:World}{K:W.Frag}{mg:Str->Option Value}{base:Heap}{f:Addr}{fd:FuncData}
inductive spAlkLI(n:Nat)(vs:List V)(H:Hp)(Q:VK):Prop
 |mk (a b:Addr) (xs ys:List V) (_:vs=[.ref a,.ref b]) (_:H a=some (.lst xs)) (_:H b=some (.lst ys)) (_:xs.length<=1000000) (_:Paired (Va H n) xs ys) (_:Q (.bl true) H)
def Zbh(n:Nat):Sp:=fun vs H Q _=>spAlkLI n vs H Q
theorem Zdv{n:Nat}(T:Blt mg)(O_l_alike:Own P w K mg base (2+n) "_law_alike" ["_law_found","_law_due_here"] (Z22 n))(F:Fun K "_law_alike" "_law_alike" V2 f fd):FnOk P w K mg base Wp (2+n+1) f fd ["_law_found","_law_due_here"] (Zbh n):=by
 refine F.ok sc_l_alike (fun vs H Q E h=>?_) (fun cdv A outer s H vs Q E hr h=>?_)
 ·obtain⟨a,b,xs,ys,rfl,_⟩:=h
  rfl
 obtain⟨a,b,xs,ys,rfl,ha,hb,hz,hp,q⟩:=h
 refine Vf ?_
 intro Xz
 refine⟨_,(Z1 (Zu (Ta (Ux (pv 1))) (Z4 (Zk (Z7b (Ux (pv 0))))) Zi)
  (Z1 (Zu (Yh (Ze (Zs (T:="bool") (Yk (by simp))) rfl T.b_isinstance PyProof.Rows.Boot.«isinstance» (Z0 (pv 1) (Z0 (Y8 (v:=.ty "bool") rfl T.b_bool PyProof.Rows.Boot.«bool» rfl) Z3)))) (Z4 (Zk (Wu (Ze (Zs (T:="bool") (Yk (by simp))) rfl T.b_isinstance PyProof.Rows.Boot.«isinstance» (Z0 (pv 0) (Z0 (Y8 (v:=.ty "bool") rfl T.b_bool PyProof.Rows.Boot.«bool» rfl) Z3))) (U5 (Yz Y2 (pv 0) (pv 1) (Zh _)))))) Zi)
  (Z1 (Zu (Yh (Ze (Zs (T:="int") (Yk (by simp))) rfl T.b_isinstance PyProof.Rows.Boot.«isinstance» (Z0 (pv 1) (Z0 (Y8 (v:=.ty "int") rfl T.b_int PyProof.Rows.Boot.«int» rfl) Z3)))) (Z4 (Zk (Wu (Ze (Zs (T:="int") (Yk (by simp))) rfl T.b_isinstance PyProof.Rows.Boot.«isinstance» (Z0 (pv 0) (Z0 (Y8 (v:=.ty "int") rfl T.b_int PyProof.Rows.Boot.«int» rfl) Z3))) (Wu (Z1z (Ze (Zs (T:="bool") (Yk (by simp))) rfl T.b_isinstance PyProof.Rows.Boot.«isinstance» (Z0 (pv 0) (Z0 (Y8 (v:=.ty "bool") rfl T.b_bool PyProof.Rows.Boot.«bool» rfl) Z3)))) (U5 (Yz Y2 (pv 0) (pv 1) (Zh _))))))) Zi)
  (Z1 (Zu (Yh (Ze (Zs (T:="str") (Yk (by simp))) rfl T.b_isinstance PyProof.Rows.Boot.«isinstance» (Z0 (pv 1) (Z0 (Y8 (v:=.ty "str") rfl T.b_str PyProof.Rows.Boot.«str» rfl) Z3)))) (Z4 (Zk (Wu (Ze (Zs (T:="str") (Yk (by simp))) rfl T.b_isinstance PyProof.Rows.Boot.«isinstance» (Z0 (pv 0) (Z0 (Y8 (v:=.ty "str") rfl T.b_str PyProof.Rows.Boot.«str» rfl) Z3))) (U5 (Yz Y2 (pv 0) (pv 1) (Zh _)))))) Zi)
  (Z1 (Zu (PW.pt (Z5s (Zd Ji (Ze (Zs (T:="tuple") (Yk (by simp))) rfl T.b_isinstance PyProof.Rows.Boot.«isinstance» (Z0 (pv 1) (Z0 (Y8 (v:=.ty "tuple") rfl T.b_tuple PyProof.Rows.Boot.«tuple» rfl) Z3))) (Ze (Zs (T:="tuple") (Yk (by simp))) rfl T.b_isinstance PyProof.Rows.Boot.«isinstance» (Z0 (pv 0) (Z0 (Y8 (v:=.ty "tuple") rfl T.b_tuple PyProof.Rows.Boot.«tuple» rfl) Z3))) (Zh _)) (Z1x (Zd Ji (Ze (Zs (T:="list") (Yk (by simp))) rfl T.b_isinstance PyProof.Rows.Boot.«isinstance» (Z0 (pv 1) (Z0 (Y8 (v:=.ty "list") rfl T.b_list PyProof.Rows.Boot.«list» rfl) Z3))) (Ze (Zs (T:="list") (Yk (by simp))) rfl T.b_isinstance PyProof.Rows.Boot.«isinstance» (Z0 (pv 0) (Z0 (Y8 (v:=.ty "list") rfl T.b_list PyProof.Rows.Boot.«list» rfl) Z3))) (Zh _))))) (Z4 (Zk W1)) Zi)
  (Z1 (Zu (Zd Ji (Ze Zw rfl T.b_len PyProof.Rows.Boot.«len» (Z0 (pv 0) Z3)) (Ze Zw rfl T.b_len PyProof.Rows.Boot.«len» (Z0 (pv 1) Z3)) (Zh _)) (Z4 (Zk W1)) Zi)
  (Z1 (U4 PassesOwn.never rfl (Jo rfl T.b_range (Z0 (Ze Zw rfl T.b_len PyProof.Rows.Boot.«len» (Z0 (pv 1) Z3)) Z3)) (pN 2 sc_l_alike.nd) (Z4 (Zu (Z7a (Yh (Zv (O_l_alike.mono (by omega)) hr rfl (Z0 (Zl Vz (pv 0) (pv 2) (fun _ _=>rfl)) (Z0 (Zl Vz (pv 1) (pv 2) (fun _ _=>rfl)) Z3))))) (Z4 (Zk W1)) Zi)))
  (Z4 (Zk W1))))))))),?_⟩
 refine Zbl ?_
 intro Ez Az1 Az2 Az3 Az4 Az5 Az6 Az7 Az8 Az9 Az10 Az11 Az12 Az13 Az14 Az15
 have hl:=Paired.length hp
 refine(Z6 rfl (Z6 rfl (Zb (by simp) ?_)))
 refine(Z6 rfl ⟨_,_,rfl,.inr ⟨ys,hb,rfl⟩,Z6 rfl (Zb (by decide) ?_)⟩)
 refine(Z6 rfl ⟨_,_,rfl,.inr ⟨ys,hb,rfl⟩,Z6 rfl (Zb (by decide) ?_)⟩)
 refine(Z6 rfl ⟨_,_,rfl,.inr ⟨ys,hb,rfl⟩,Z6 rfl (Zb (by decide) ?_)⟩)
 refine(Z6 rfl ⟨_,_,rfl,.inr ⟨ys,hb,rfl⟩,Z6 rfl ⟨_,_,rfl,.inr ⟨xs,ha,rfl⟩,rfl,Z6 rfl (Zb (by decide) ?_)⟩⟩)
 refine(Z6 rfl ⟨_,_,rfl,.inr ⟨ys,hb,rfl⟩,Z6 rfl ⟨_,_,rfl,.inr ⟨xs,ha,rfl⟩,rfl,Z6 rfl (Zb (by decide) ?_)⟩⟩)
 refine(Z6 rfl ⟨a,xs,rfl,.inl (SqL.of ha),Z6 rfl ⟨b,ys,rfl,.inl (SqL.of hb),rfl,Z6 rfl (Zb (by rw[hl];simp) ?_)⟩⟩)
 refine(Z6 rfl ⟨b,ys,rfl,.inl (SqL.of hb),Z6 rfl ⟨by omega,by omega,?_⟩⟩)
 refine Js (fun i σ H'=>∃k:Option V,σ=[some (.ref a),some (.ref b),k]/\H'=H) ⟨none,rfl,rfl⟩ ?_ ?_
 ·rintro i σ H' hi ⟨k,rfl,rfl⟩
  have hi2:i<ys.length:=by simpa using hi
  have hi1:i<xs.length:=by omega
  obtain⟨y',hy',hs⟩:=Y9 hp (List.getElem?_eq_getElem hi1)
  have ez:(0:Int)+(i:Int)=((i:Nat):Int):=by omega
  refine⟨_,rfl,_,rfl,a,xs,_,_,rfl,rfl,SqL.of ha,by rw[ez];exact Wh (List.getElem?_eq_getElem hi1),_,rfl,_,rfl,b,ys,_,_,rfl,rfl,SqL.of hb,by rw[ez];exact Wh hy',_,_,rfl,hs,_,rfl,?_⟩
  exact Zb (by decide) (Z6 rfl rfl)
 ·rintro σ H' ⟨k,rfl,rfl⟩
  exact q
def Zbg:Sp:=fun vs H Q E=>Z22 5 vs H Q E∨Zbh 5 vs H Q E
theorem Zad(T:Blt mg)(D:Def K mg "_law_alike" V2 ["_law_found","_law_due_here"])(al:∀n,Own P w K mg base (2+n) "_law_alike" ["_law_found","_law_due_here"] (Z22 n)):Own P w K mg base 8 "_law_alike" ["_law_found","_law_due_here"] Zbg :=
 D.own fun _ _ F=>Z4x ((Zbs (n:=4) T (al 4) F).mono (by decide)) (Zdv (n:=5) T (al 5) F)
end
theorem close_rw{o:Op}{k:Int}:(o.rw).close=some k↔o=.close k:=by
 cases o with
 |close j =>
  constructor
  ·intro h
   have h':(if("close":Str)="close" then some j else none)=some k:=h
   rw[if_pos rfl]at h'
   injection h' with h'
   rw[h']
  ·intro h
   cases h
   show(if("close":Str)="close" then some k else none)=some k
   rw[if_pos rfl]
 |try_ z =>
  refine⟨fun h=>?_,fun h=>by cases h⟩
  have h':(if("try":Str)="close" then some (z:Int) else none)=some k:=h
  rw[if_neg (by decide +kernel)]at h'
  cases h'
 |go z =>
  refine⟨fun h=>?_,fun h=>by cases h⟩
  have h':(if("go":Str)="close" then some (z:Int) else none)=some k:=h
  rw[if_neg (by decide +kernel)]at h'
  cases h'
 |bar z =>
  refine⟨fun h=>?_,fun h=>by cases h⟩
  have h':(if("bar":Str)="close" then some (z:Int) else none)=some k:=h
  rw[if_neg (by decide +kernel)]at h'
  cases h'
 |_=>exact⟨fun h=>(by cases h),fun h=>(by cases h)⟩
theorem Zcu(o:Op):(o.rw).tame:=by
 cases o with
 |pat h=>trivial
 |close k=>exact⟨_,_,rfl,fun _=>⟨k,rfl⟩⟩
 |_=>exact⟨_,_,rfl,fun z=>absurd z (by decide +kernel)⟩
def Yu(p:Pat):List Op:=p.ops 0++[.found]
theorem Z2l(p:Pat):(Yu p).map Op.rw=p.code 0++[.tup [.str "found"]]:=by
 unfold Yu
 rw[List.map_append,Pat.ops_rw p 0]
 rfl
theorem Z8x(p:Pat):∀o∈Yu p,o.ok:=fun o ho=>by
 rcases List.mem_append.mp ho with ho | ho
 ·exact Zbq p 0 o ho
 ·rw[List.mem_singleton.mp ho];trivial
theorem Z1c{H:Hp}:∀n,Paired (EnA H) (List.replicate n V.non) (List.replicate n (none:En))
 |0=>.nil
 |n+1=>.cons rfl (Z1c n)
structure MSt(C m ra ch:Addr)(t:Str)(n:Nat)(es:List Op)(H:Hp)(M:MM)(cf:Cf):Prop where
 at_:MAt C H m M
 am:AM H ra t ch M cf
 cs:M.cs.length<=40000
 ro:∃ys,H ra=some (.tup ys)/\Paired (RowAt H) ys (es.map Op.rw)
 ok:∀o∈es,o.ok
 en:es[es.length-1]? = some .found
 tx:t.length<=1000
 nn:n<=900
theorem Z51{H:Hp}{n:Nat}{i:Str}:Va H (n+1) (.str i) (.str i):=.inl ⟨rfl,rfl⟩
theorem Tn{H:Hp}{n:Nat}{i:Int}:Va H (n+1) (.int i) (.int i):=.inl ⟨rfl,rfl⟩
theorem Zd3{H:Hp}{n:Nat}:∀ {x:En} {v v':V},EnA H v x->EnA H v' x->Va H (n+2) v v'
 |none,_,_,h,h'=>by
  have e:_=V.non:=h
  have e':_=V.non:=h'
  rw[e,e']
  exact .inl ⟨rfl,rfl⟩
 |some p,_,_,⟨a,e,h⟩,⟨a',e',h'⟩=>.inr ⟨a,a',_,_,e,e',h,h',by simp,.cons Tn (.cons Tn .nil)⟩
theorem Z52{H:Hp}{n:Nat}:∀ {g:Gs} {es es':List V},Paired (EnA H) es g->Paired (EnA H) es' g->Paired (Va H (n+2)) es es'
 | [],_,_,.nil,.nil=>.nil
 |_::_,_,_,.cons h t,.cons h' t'=>.cons (Zd3 h h') (Z52 t t')
theorem Zd2{H:Hp}{n:Nat}{g:Gs}{v v':V}(h:GsAt H v g)(h':GsAt H v' g)(hl:g.length<=1000000):Va H (n+3) v v':=by
 obtain⟨a,es,e1,e2,e3⟩:=h
 obtain⟨a',es',e1',e2',e3'⟩:=h'
 exact .inr ⟨a,a',es,es',e1,e1',e2,e2',by rw[Paired.length e3];exact hl,Z52 e3 e3'⟩
def MK(C m ra ch:Addr)(t:Str)(n:Nat)(es:List Op)(H:Hp)(cf:Cf)(made:Int):Prop:=∃M:MM,MSt C m ra ch t n es H M cf/\M.s.made=made
theorem MK.ob{C m ra ch:Addr}{t:Str}{n:Nat}{es:List Op}{H:Hp}{cf:Cf}{made:Int}(h:MK C m ra ch t n es H cf made):(∃dx s,H m=some (.ins C dx (MS.fs s)))/\∃l,H ch=some (.lst l):=by
 obtain⟨M,h3,_⟩:=h
 have e0:=h3.am.fresh.2.2.2
 obtain⟨⟨dx,e⟩,l,e',_⟩:=id h3.at_
 rw[e0]at e'
 exact⟨⟨dx,_,e⟩,l,e'⟩
def Tl(es:List Op)(t:Str)(n:Nat)(cf:Cf):Option W7->Nat->Cf->Prop
 |some w,j,cf'=>∃xs,Rc es t n cf j (.run ⟨es.length-1,w.1,w.2,[],xs⟩)/\cf'=bk xs
 |none,j,cf'=>Rc es t n cf j .ended/\cf'=.ended
def AnsAt(H:Hp)(tt:Addr):Option W7->Prop
 |some w=>∃gv,H tt=some (.tup [.str "way",.int w.1,gv])/\GsAt H gv w.2
 |none=>H tt=some (.tup [.str "none"])
theorem AnsAt.mono{H H':Hp}(tm:Tm H H'){tt:Addr}:∀ {w:Option W7},AnsAt H tt w->AnsAt H' tt w
 |some _,⟨gv,h1,h2⟩=>⟨gv,tm _ _ h1,h2.mono tm⟩
 |none,h=>tm _ _ h
def Z48:Option W7->Nat->Nat
 |some _,j=>j+1
 |none,j=>j
theorem Zbi{es:List Op}{t:Str}{n:Nat}{cf cf':Cf}{j k:Nat}(r:Rc es t n cf j cf')(h:k<=j):Rc es t n cf k (run es t k cf)/\Rc es t n (run es t k cf) (j-k) cf':=by
 refine⟨⟨fun i hi=>r.live i (by omega),rfl⟩,fun i hi=>?_,?_⟩
 ·have:=r.live (k+i) (by omega)
  rw[J6]at this
  exact this
 ·rw[← J6,show k+(j-k)=j by omega]
  exact r.eq
theorem Zks{C m ra ch:Addr}{t:Str}{n:Nat}{es:List Op}{H:Hp}{cf cf':Cf}{made most:Int}{w:Option W7}{j:Nat}{Q:VK}{E:XK}(h:MK C m ra ch t n es H cf made)(hT:Tl es t n cf w j cf')(hw:∀x,w=some x->x.1<=t.length/\GOk t n x.2)(hB:cf.csl+j<=40000)(hm:1<=most)
  (q1:(Z48 w j:Int)<=most->∀(H':Hp) (tt:Addr),MK C m ra ch t n es H' cf' (made+Z48 w j)->AnsAt H' tt w->Gro [m,ch] H H'->Q (.ref tt) H')
  (q2:most<(Z48 w j:Int)->∀(H':Hp) (tt:Addr) (cf2:Cf) (j2:Nat),(j2:Int)+most=j->MK C m ra ch t n es H' cf2 (made+most)->Tl es t n cf2 w j2 cf'->cf2.csl+j2<=40000->H' tt=some (.tup [.str "over"])->Gro [m,ch] H H'->Q (.ref tt) H'):Z49 C [.ref m,.int most] H Q E:=by
 obtain⟨M,st,hmd⟩:=h
 obtain⟨ys,hra,hys⟩:=id st.ro
 have hcs:=st.cs
 have mk:∀(H':Hp) (M':MM) (cf2:Cf),MAt C H' m M'->AM H' ra t ch M' cf2->M'.cs.length<=40000->Gro [m,ch] H H'->MSt C m ra ch t n es H' M' cf2:=fun H' M' cf2 h1 h2 h3 g=>⟨h1,h2,h3,⟨ys,g.tups _ _ hra,Y0 g.tups hys⟩,st.ok,st.en,st.tx,st.nn⟩
 refine⟨m,ra,ch,most,t,n,es,ys,M,cf,rfl,hm,st.at_,st.am,by omega,hra,hys,st.ok,st.tx,st.nn,?_⟩
 by_cases hc:(Z48 w j:Int)<=most
 ·cases w with
  |some x =>
   obtain⟨xs,r,rfl⟩:=hT
   have hx:=hw x rfl
   have hc':((j+1:Nat):Int)<=most:=hc
   refine .inl ⟨j,_,r,st.en,hx.1,hx.2,by omega,by omega,fun H' tt gv M' hM' hAM' hl' hmd' htt hgs g'=>?_⟩
   have hcl:=Uy es t cf j
   rw[r.eq]at hcl
   have hcl':xs.length<=cf.csl+j:=hcl
   have hl2:M'.cs.length=xs.length:=hl'
   exact q1 hc H' tt ⟨M',mk H' M' _ hM' hAM' (by omega) g',by rw[hmd',hmd];show made+j+1=made+((j+1:Nat):Int);omega⟩ ⟨gv,htt,hgs⟩ g'
  |none =>
   obtain⟨r,rfl⟩:=hT
   have hc':(j:Int)<=most:=hc
   exact .inr (.inl ⟨j,r,hc',by omega,fun H' tt M' hM' hAM' hl' hmd' htt g'=>q1 hc H' tt ⟨M',mk H' M' _ hM' hAM' (by omega) g',by rw[hmd',hmd];rfl⟩ htt g'⟩)
 ·have hc':most<(Z48 w j:Int):=by omega
  obtain⟨k,rfl⟩:∃k:Nat,most=k:=⟨most.toNat,by omega⟩
  have fin:∀c:Cg,Rc es t n cf k (.run c)->k<=j->Tl es t n (.run c) w (j-k) cf'->Zie C Q H m ra ch t n es k cf M.s.made:=fun c r hkj hT2=>by
   have hcl:=Uy es t cf k
   rw[r.eq]at hcl
   have hcl':c.cs.length<=cf.csl+k:=hcl
   refine .inr (.inr ⟨k,c,r,rfl,by omega,fun H' tt M' hM' hAM' hl' hmd' htt g'=>?_⟩)
   exact q2 hc' H' tt (.run c) (j-k) (by omega) ⟨M',mk H' M' _ hM' hAM' (by omega) g',by rw[hmd',hmd]⟩ hT2 (by show c.cs.length+(j-k)<=_;omega) htt g'
  cases w with
  |some x =>
   obtain⟨xs,r,rfl⟩:=hT
   have hc2:(k:Int)<((j+1:Nat):Int):=hc'
   have hkj:k<=j:=by omega
   obtain⟨r1,r2⟩:=Zbi r hkj
   by_cases hlt:k<j
   ·obtain⟨c,e,_⟩:=r.live k hlt
    rw[e]at r1 r2
    exact fin c r1 hkj ⟨xs,r2,rfl⟩
   ·have ekj:k=j:=by omega
    subst ekj
    rw[r.eq]at r1 r2
    exact fin _ r1 hkj ⟨xs,r2,rfl⟩
  |none =>
   obtain⟨r,rfl⟩:=hT
   have hc2:(k:Int)<(j:Int):=hc'
   obtain⟨r1,r2⟩:=Zbi r (show k<=j by omega)
   obtain⟨c,e,_⟩:=r.live k (by omega)
   rw[e]at r1 r2
   exact fin c r1 (by omega) ⟨r2,rfl⟩
theorem Zav{C m ra ch gd:Addr}{t:Str}{i n:Nat}{p:Pat}{H:Hp}{ys:List V}(hM:MAt C H m (Ziz ra t i (.ref gd) ch))(hg:H gd=some (.tup (List.replicate n .non)))(hra:H ra=some (.tup ys))(hys:Paired (RowAt H) ys ((Yu p).map Op.rw))
  (ht:t.length<=1000) (hn:n<=900):MK C m ra ch t n (Yu p) H (.run ⟨0,i,List.replicate n none,[],[]⟩) 0:=by
 have hl:(Yu p).length-1=(p.ops 0).length:=by unfold Yu;rw[List.length_append];rfl
 refine⟨Ziz ra t i (.ref gd) ch,⟨hM,.inl ⟨rfl,rfl,rfl,rfl,rfl,rfl,rfl,⟨gd,_,rfl,hg,Z1c n⟩,rfl,.nil⟩,Nat.zero_le _,⟨ys,hra,hys⟩,Z8x p,?_,ht,hn⟩,rfl⟩
 rw[hl]
 unfold Yu
 rw[List.getElem?_append_right (Nat.le_refl _),Nat.sub_self]
 rfl
def Zit(t:Str)(n:Nat)(p:Pat)(b:Nat)(w:Option W7)(c:Nat):Prop:=∃(j:Nat) (cf':Cf),Tl (Yu p) t n (.run ⟨0,b,List.replicate n none,[],[]⟩) w j cf'/\j<=40000/\(∀x,w=some x->x.1<=t.length/\GOk t n x.2)/\c=Z48 w j/\1<=c
inductive FdC(t:Str)(n:Nat)(p:Pat):Nat->Option (Nat×W7)->Nat->Prop
 |out {b:Nat}:t.length<b->FdC t n p b none 0
 |hit {b c:Nat} {w:W7}:b<=t.length->Zit t n p b (some w) c->FdC t n p b (some (b,w)) c
 |go {b c c':Nat} {r:Option (Nat×W7)}:b<=t.length->Zit t n p b none c->FdC t n p (b+1) r c'->FdC t n p b r (c+c')
def FnA(H:Hp)(v:V):Option (Nat×W7)->Prop
 |none=>v=.non
 |some x=>∃(a:Addr) (gv:V),v=.ref a/\H a=some (.tup [.int x.1,.int x.2.1,gv])/\GsAt H gv x.2.2
theorem FnA.mono{H H':Hp}(tm:Tm H H'){v:V}:∀ {r:Option (Nat×W7)},FnA H v r->FnA H' v r
 |none,h=>h
 |some _,⟨a,gv,e1,e2,e3⟩=>⟨a,gv,e1,tm _ _ e2,e3.mono tm⟩
theorem Z2k{H:Hp}{n:Nat}{v v':V}:∀ {r:Option (Nat×W7)},FnA H v r->FnA H v' r->(∀x,r=some x->x.2.2.length<=1000000)->Va H (n+4) v v'
 |none,h1,h2,_=>by
  have e:v=V.non:=h1
  have e':v'=V.non:=h2
  rw[e,e']
  exact .inl ⟨rfl,rfl⟩
 |some x,⟨a,gv,e1,e2,e3⟩,⟨a',gv',e1',e2',e3'⟩,hl=>.inr ⟨a,a',_,_,e1,e1',e2,e2',by simp,.cons Tn (.cons Tn (.cons (Zd2 e3 e3' (hl x rfl)) .nil))⟩
def Zbc(x:Nat×W7):Nat:=x.2.1+if x.2.1=x.1 then 1 else 0
def Zbd(H:Hp)(v:V)(x:Nat×W7):Prop:=FnA H v (some x)
theorem W0{H H':Hp}(tm:Tm H H'){vs:List V}{xs:List (Nat×W7)}(h:Paired (Zbd H) vs xs):Paired (Zbd H') vs xs:=Paired.mapP h fun _ _ q=>FnA.mono (r:=some _) tm q
theorem Paired.snoc{α β:Type}{F:α->β->Prop}{a:α}{b:β}(h:F a b):∀ {xs:List α} {ys:List β},Paired F xs ys->Paired F (xs++[a]) (ys++[b])
 | [],_,.nil=>.cons h .nil
 |_::_,_,.cons h' r=>.cons h' (Paired.snoc h r)
inductive FdsC(t:Str)(n:Nat)(p:Pat):Nat->List (Nat×W7)->Nat->Prop
 |no {s c:Nat}:FdC t n p s none c->FdsC t n p s [] c
 |more {s c c':Nat} {x:Nat×W7} {xs:List (Nat×W7)}:FdC t n p s (some x) c->s<=x.1->x.1<=x.2.1->x.2.1<=t.length->FdsC t n p (Zbc x) xs c'->FdsC t n p s (x::xs) (c+c')
def Z2e(ra:Addr)(t:Str)(L:Int):List (Str×V):=[("rows",.ref ra),("text",.str t),("left",.int L)]
theorem Zcy{ra:Addr}{t:Str}{L:Int}:(Z2e ra t L).lookup ("rows":Str)=some (.ref ra):=Wg
theorem Z7n{ra:Addr}{t:Str}{L:Int}:(Z2e ra t L).lookup ("text":Str)=some (.str t):=by unfold Z2e;rw[Zp (by decide +kernel),Wg]
theorem Z0u{ra:Addr}{t:Str}{L:Int}:(Z2e ra t L).lookup ("left":Str)=some (.int L):=by unfold Z2e;rw[Zp (by decide +kernel),Zp (by decide +kernel),Wg]
theorem Z7k{ra:Addr}{t:Str}{L L':Int}:Y6 "left" (.int L') (Z2e ra t L)=Z2e ra t L':=by unfold Z2e;rw[Zc (by decide +kernel),Zc (by decide +kernel),Uw]
theorem Zc9{m:Str}{ra:Addr}{t:Str}{L:Int}(h:(m=="rows")=false/\(m=="text")=false/\(m=="left")=false):(Z2e ra t L).lookup m=none:=by
 unfold Z2e
 rw[Zp h.1,Zp h.2.1,Zp h.2.2]
 rfl
structure TxtS(K:W.Frag)(CS:Addr):Prop where
 cl:Cls K CS
 a1:NoAttr K CS "rows"
 a2:NoAttr K CS "text"
 a3:NoAttr K CS "left"
structure RsAt(H:Hp)(ra:Addr)(p:Pat):Prop where
 ex:∃ys,H ra=some (.tup ys)/\Paired (RowAt H) ys ((Yu p).map Op.rw)/\ys.length<=1000000
theorem RsAt.mono{H H':Hp}{ra:Addr}{p:Pat}(h:RsAt H ra p)(tm:Tm H H'):RsAt H' ra p:=by
 obtain⟨ys,h1,h2,h3⟩:=h.ex
 exact⟨ys,tm _ _ h1,Y0 tm h2,h3⟩
section
variable{P:Program}{w:World}{K:W.Frag}{mg:Str->Option Value}{base:Heap}{f C CS:Addr}{fd:FuncData}
inductive spSInitI(CS:Addr)(vs:List V)(H:Hp)(Q:VK):Prop
 |mk (m dx:Addr) (v:V) (t:Str) (L:Int) (p:Pat) (_:vs=[.ref m,v,.str t,.int L]) (_:H m=some (.ins CS dx [])) (_:PatAt H 8 v p) (_:p.size<=20000) (_:∀(ra:Addr) (H':Hp),H' m=some (.ins CS dx (Z2e ra t L))->RsAt H' ra p->Gro [m] H H'->Q .non H')
def Z0r(CS:Addr):Sp:=fun vs H Q _=>spSInitI CS vs H Q
abbrev Yw:Stmt:=Xd (top 57) 0
theorem Uz:FnScope ["self","pattern","text","most"] ["self","pattern","text","most"] (Z9 Yw):=Vh
theorem Zah(MTS:TxtS K CS)(O_coded:Own P w K mg base 27 "coded" ["pattern"] Z3n)(F:Fun K "__init__" "Seeker.__init__" Yw f fd):FnOk P w K mg base Wp 28 f fd ["self","pattern","text","most"] (Z0r CS):=by
 refine F.ok Uz (fun vs H Q E h=>?_) (fun cdv A outer s H vs Q E hr h=>?_)
 ·obtain⟨m,dx,v,t,L,p,rfl,_⟩:=h
  rfl
 obtain⟨m,dx,v,t,L,p,rfl,h0,hp,hz,q⟩:=h
 refine Vf ?_
 intro Xz
 refine⟨_,(Z1 (Ya (pv 0) (Zv (O_coded.mono (by omega)) hr rfl (Z0 (pv 1) Z3)) rfl)
  (Z1 (Ya (pv 0) (pv 2) rfl)
  (Z4 (Ya (pv 0) (pv 3) rfl)))),?_⟩
 refine Z1v ?_
 intro Ez Az1 Az2
 refine(Z6 rfl ⟨v,p,rfl,hp,hz,fun ra ys H1 hra hys g1=>?_⟩)
 rw[← Z2l]at hys
 have hyl:ys.length<=1000000:=by
  have h1:=Pat.code_fits p 0
  rw[Paired.length hys,Z2l,List.length_append]
  show(p.code 0).length+1<=_
  omega
 have h1:=g1.keep _ _ h0 (by simp)
 refine(Z6 rfl ⟨m,CS,dx,Z6 rfl ⟨h1,MTS.cl,MTS.a1,by simp,?_⟩⟩)
 have g2:Gro [m] H1 (Zr H1 m (.ins CS dx (Y6 "rows" (.ref ra) []))):=Gro.obj h1
 have e2:(Zr H1 m (.ins CS dx (Y6 "rows" (.ref ra) []))) m=some (.ins CS dx [("rows",.ref ra)]):=Z5
 generalize Zr H1 m (.ins CS dx (Y6 "rows" (.ref ra) []))=H2 at *
 refine(Z6 rfl (Z6 rfl ⟨m,CS,dx,Z6 rfl ⟨e2,MTS.cl,MTS.a2,by simp,?_⟩⟩))
 have g3:Gro [m] H2 (Zr H2 m (.ins CS dx (Y6 "text" (.str t) [("rows",.ref ra)]))):=Gro.obj e2
 have e3:(Zr H2 m (.ins CS dx (Y6 "text" (.str t) [("rows",.ref ra)]))) m=some (.ins CS dx [("rows",.ref ra),("text",.str t)]):=by rw[Z5,Zc (by decide +kernel),V9]
 generalize Zr H2 m (.ins CS dx (Y6 "text" (.str t) [("rows",.ref ra)]))=H3 at *
 refine(Z6 rfl (Z6 rfl ⟨m,CS,dx,Z6 rfl ⟨e3,MTS.cl,MTS.a3,by simp,?_⟩⟩))
 have g4:Gro [m] H3 (Zr H3 m (.ins CS dx (Y6 "left" (.int L) [("rows",.ref ra),("text",.str t)]))):=Gro.obj e3
 have e4:(Zr H3 m (.ins CS dx (Y6 "left" (.int L) [("rows",.ref ra),("text",.str t)]))) m=some (.ins CS dx (Z2e ra t L)):=by rw[Z5,Zc (by decide +kernel),Zc (by decide +kernel),V9];rfl
 have g24:=(g2.trans g3).trans g4
 exact q ra _ e4 ⟨ys,g24.tups _ _ hra,Y0 g24.tups hys,hyl⟩ ((g1.mono (by simp)).trans g24)
inductive spFAtXI(CS CO:Addr)(vs:List V)(H:Hp)(Q:VK)(E:XK):Prop
 |mk (s dx ra:Addr) (t:Str) (b n c:Nat) (L:Int) (p:Pat) (w:Option W7) (_:vs=[.ref s,.int b]) (_:H s=some (.ins CS dx (Z2e ra t L))) (_:RsAt H ra p) (_:Tj ((Yu p).map Op.rw)=n) (_:n<=9) (_:t.length<=200) (_:b<=t.length) (_:Zit t n p b w c)
  (_:(c:Int)<=L->∀(v:V) (H':Hp),FnA H' v (w.map fun w=>(b,w))->H' s=some (.ins CS dx (Z2e ra t (L-c)))->Gro [s] H H'->Q v H') (_:L<(c:Int)->∀H':Hp,Gro [s] H H'->E (.ref CO) none H')
def Z77(CS CO:Addr):Sp:=fun vs H Q E=>spFAtXI CS CO vs H Q E
abbrev X3:Stmt:=Xd (top 57) 2
theorem sc_Seeker_find_at:FnScope ["self","begin","machine","answer"] ["self","begin"] (Z9 X3):=Vh
theorem Zds{CO CE:Addr}(MT:Txt K mg C)(MTS:TxtS K CS)(XC_Over:XC K mg "Over" CO CE)(O_Machine:OwnC P w K mg base 1 C "Machine" ["self","rows","text","at"] (Z74 C))(O_Machine_way:OwnM P w K mg base 6 C "way" ["self","most"] (Z49 C))(O_Machine_moves:OwnM P w K mg base 1 C "moves" ["self"] (Z3m C))
  (F:Fun K "find_at" "Seeker.find_at" X3 f fd):FnOk P w K mg base (Z60 P w) 7 f fd ["self","begin"] (Z77 CS CO):=by
 refine F.okX sc_Seeker_find_at (fun vs H Q E h=>?_) (fun cdv A outer s H vs Q E hr h LX=>?_)
 ·obtain⟨s,dx,ra,t,b,n,c,L,p,ws,rfl,_⟩:=h
  rfl
 obtain⟨s,dx,ra,t,b,n,c,L,p,ws,rfl,hs,hra,hcnt,hn,ht,hb,⟨j,cf',hT,hj,gw,hc,hc1⟩,q,qx⟩:=h
 refine Vf ?_
 intro Xz
 refine⟨_,(Z1 (Zu (Zd Z5v (Zn (pv 0) rfl) Z7 (Zh _)) (Z4 (Tx LX rfl XC_Over rfl (Z0 Zq Z3))) Zi)
  (Z1 (pS 2 sc_Seeker_find_at.nd (Z3q (O_Machine.mono (by omega)) hr rfl (Z0 (Zn (pv 0) rfl) (Z0 (Zn (pv 0) rfl) (Z0 (pv 1) Z3)))))
  (Z1 (pS 3 sc_Seeker_find_at.nd (X9 (O_Machine_way.mono (by omega)) MT.cl hr (pv 2) (Z0 (Zn (pv 0) rfl) Z3)))
  (Z1 (Us (pv 0) (Yd (O_Machine_moves.mono (by omega)) MT.cl hr (pv 2)) Zgl)
  (Z1 (Zu (Zd Y2 (Zl Zg (pv 3) Z7 (fun _ _=>rfl)) Zq (Zh _)) (Z4 (Tx LX rfl XC_Over rfl (Z0 Zq Z3))) Zi)
  (Z4 (Zk (Xi (Zd Y2 (Zl Zg (pv 3) Z7 (fun _ _=>rfl)) Zq (Zh _)) (Zz (Z0 (pv 1) (Z0 (Zl Zg (pv 3) Z7 (fun _ _=>rfl)) (Z0 (Zl Zg (pv 3) Z7 (fun _ _=>rfl)) Z3)))) Z0c)))))))),?_⟩
 refine Zfk ?_
 intro Ez Az1 Az2 Az3 Az4 Az5 Az6 Az7
 refine(Z6 rfl ⟨s,CS,dx,_,_,rfl,hs,MTS.cl,MTS.a3,Z0u,Wc rfl rfl (Z6 rfl (Wq (fun hl=>?_) (fun hl=>?_)))⟩)
 ·have hl':L<1:=of_decide_eq_true hl
  exact⟨sz,qx (by omega) H Gro.refl⟩
 have hL:1<=L:=by
  have:¬L<1:=fun z=>hl (decide_eq_true z)
  omega
 refine(Z6 rfl ⟨s,CS,dx,_,_,rfl,hs,MTS.cl,MTS.a1,Zcy,Z6 rfl ⟨s,CS,dx,_,_,rfl,hs,MTS.cl,MTS.a2,Z7n,Z6 rfl (fun m dm hm hdm hne=>?_)⟩⟩)
 have g1:Gro [] H (Zr (Zr H dm (.own m)) m (.ins C dm [])):=(Gro.new hdm _).trans (Gro.new (by rw[Zo (Ne.symm hne)];exact hm) _)
 have e1:(Zr (Zr H dm (.own m)) m (.ins C dm [])) m=some (.ins C dm []):=Z5
 generalize Zr (Zr H dm (.own m)) m (.ins C dm [])=H1 at *
 obtain⟨ys,hya,hyp,hyl⟩:=hra.ex
 have tame:∀r∈(Yu p).map Op.rw,r.tame:=fun r hr=>by
  obtain⟨o,_,rfl⟩:=List.mem_map.mp hr
  exact Zcu o
 refine⟨m,dm,ra,t,b,ys,_,rfl,e1,g1.tups _ _ hya,Y0 g1.tups hyp,hyl,tame,by rw[hcnt];omega,by rw[hcnt];omega,fun ch gd H2 hcn hM2 hg2 g2=>⟨rfl,?_⟩⟩
 rw[hcnt]at hg2
 have hg2':H2 gd=some (.tup (List.replicate n .non)):=hg2
 have g12:Gro [] H H2:=⟨fun b o h _=>g2.keep b o (g1.keep b o h (by simp)) (by simpa using Za h hm),fun b xs h=>g2.tups _ _ (g1.tups _ _ h)⟩
 have mk2:MK C m ra ch t n (Yu p) H2 (.run ⟨0,b,List.replicate n none,[],[]⟩) 0:=Zav hM2 hg2' (g12.tups _ _ hya) (Y0 g12.tups hyp) (by omega) (by omega)
 have s2:=g12.keep _ _ hs (by simp)
 have n1:s≠m:=Za hs hm
 have n2:s≠ch:=Za (g1.keep _ _ hs (by simp)) hcn
 obtain⟨⟨d2,s2',e2⟩,_⟩:=mk2.ob
 refine(Z6 rfl ⟨m,d2,Z6 rfl ⟨e2,Zgd _,Z6 rfl ⟨s,CS,dx,_,_,rfl,s2,MTS.cl,MTS.a3,Z0u,?_⟩⟩⟩)
 subst hc
 refine Zks (E:=E0) mk2 hT gw (by show 0+j<=40000;omega) hL (fun hc H3 tt hK3 htt g3=>?_) (fun hc H3 tt cf2 j2 _ hK3 _ _ htt g3=>?_)
 ·obtain⟨M3,st3,hm3⟩:=id hK3
  obtain⟨⟨d3,e3⟩,_⟩:=id st3.at_
  have s3:=g3.keep _ _ s2 (by simp[n1,n2])
  refine(Z6 rfl ⟨s,CS,dx,_,_,rfl,s3,MTS.cl,MTS.a3,Z0u,Z6 rfl ⟨m,d3,Z6 rfl ⟨e3,Z5d _,m,M3,rfl,st3.at_,Wc rfl rfl ⟨dx,_,s3,by show 3<1000;decide,?_⟩⟩⟩⟩)
  rw[Z7k,hm3]
  have g4:Gro [s] H3 (Zr H3 s (.ins CS dx (Z2e ra t (L-(0+(Z48 ws j:Int)))))):=Gro.obj s3
  have s4:(Zr H3 s (.ins CS dx (Z2e ra t (L-(0+(Z48 ws j:Int)))))) s=some (.ins CS dx (Z2e ra t (L-(0+(Z48 ws j:Int))))):=Z5
  have htt4:=htt.mono g4.tups
  generalize Zr H3 s (.ins CS dx (Z2e ra t (L-(0+(Z48 ws j:Int)))))=H4 at *
  have gg:Gro [s] H H4:=⟨fun a o h hx=>g4.keep a o (g3.keep a o (g12.keep a o h (by simp)) (by simp[Za h hm,Za (g1.keep a o h (by simp)) hcn])) hx,fun a xs h=>g4.tups _ _ (g3.tups _ _ (g12.tups _ _ h))⟩
  cases ws with
  |none =>
   have ha:H4 tt=some (.tup [.str "none"]):=htt4
   refine(Wo ha Z0p ⟨rfl,Z6 rfl (Zb (by decide +kernel) ?_)⟩)
   refine(Wo ha Z0p ⟨rfl,Z6 rfl (Zb (by decide +kernel) ?_)⟩)
   exact q hc .non H4 rfl (by simpa using s4) gg
  |some x =>
   obtain⟨gv,ha,hgv⟩:=htt4
   refine(Wo ha Z0p ⟨rfl,Z6 rfl (Zb (by decide +kernel) ?_)⟩)
   refine(Wo ha Z0p ⟨rfl,Z6 rfl (Zj (by decide +kernel) ?_)⟩)
   refine(Z6 rfl (Wo ha rfl (Wo ha rfl ⟨sz,fun o ho=>?_⟩)))
   have g5:=Gro.new (S:=[]) ho (.tup [.int b,.int x.1,gv])
   exact q hc (.ref o) _ ⟨o,gv,rfl,Z5,hgv.mono g5.tups⟩ (g5.keep _ _ (by simpa using s4) (by simp)) (gg.trans (g5.mono (by simp)))
 ·obtain⟨M3,st3,hm3⟩:=id hK3
  obtain⟨⟨d3,e3⟩,_⟩:=id st3.at_
  have s3:=g3.keep _ _ s2 (by simp[n1,n2])
  refine(Z6 rfl ⟨s,CS,dx,_,_,rfl,s3,MTS.cl,MTS.a3,Z0u,Z6 rfl ⟨m,d3,Z6 rfl ⟨e3,Z5d _,m,M3,rfl,st3.at_,Wc rfl rfl ⟨dx,_,s3,by show 3<1000;decide,?_⟩⟩⟩⟩)
  rw[Z7k]
  have g4:Gro [s] H3 (Zr H3 s (.ins CS dx (Z2e ra t (L-M3.s.made)))):=Gro.obj s3
  have ha:=g4.tups _ _ htt
  generalize Zr H3 s (.ins CS dx (Z2e ra t (L-M3.s.made)))=H4 at *
  have gg:Gro [s] H H4:=⟨fun a o h hx=>g4.keep a o (g3.keep a o (g12.keep a o h (by simp)) (by simp[Za h hm,Za (g1.keep a o h (by simp)) hcn])) hx,fun a xs h=>g4.tups _ _ (g3.tups _ _ (g12.tups _ _ h))⟩
  refine(Wo ha Z0p ⟨rfl,Z6 rfl (Zj (by decide +kernel) ?_)⟩)
  exact⟨sz,qx hc H4 gg⟩
inductive spFromXI(CS CO:Addr)(vs:List V)(H:Hp)(Q:VK)(E:XK):Prop
 |mk (s dx ra:Addr) (t:Str) (b n c:Nat) (L:Int) (p:Pat) (r:Option (Nat×W7)) (_:vs=[.ref s,.int b]) (_:H s=some (.ins CS dx (Z2e ra t L))) (_:0<=L) (_:RsAt H ra p) (_:Tj ((Yu p).map Op.rw)=n) (_:n<=9) (_:t.length<=200) (_:b<=t.length+1) (_:FdC t n p b r c)
  (_:(c:Int)<=L->∀(v:V) (H':Hp),FnA H' v r->H' s=some (.ins CS dx (Z2e ra t (L-c)))->Gro [s] H H'->Q v H') (_:L<(c:Int)->∀H':Hp,Gro [s] H H'->E (.ref CO) none H')
def Z0s(CS CO:Addr):Sp:=fun vs H Q E=>spFromXI CS CO vs H Q E
abbrev Yq:Stmt:=Xd (top 57) 1
theorem sc_Seeker_first_from:FnScope ["self","start","begin","find"] ["self","start"] (Z9 Yq):=Vh
theorem Zal{CO:Addr}(T:Blt mg)(MTS:TxtS K CS)(O_Seeker_find_at:OwnMX P w K mg base 7 CS "find_at" ["self","begin"] (Z77 CS CO))(F:Fun K "first_from" "Seeker.first_from" Yq f fd):FnOk P w K mg base (Z60 P w) 8 f fd ["self","start"] (Z0s CS CO):=by
 refine F.okX sc_Seeker_first_from (fun vs H Q E h=>?_) (fun cdv A outer s H vs Q E hr h LX=>?_)
 ·obtain⟨s,dx,ra,t,b,n,c,L0,p,r,rfl,_⟩:=h
  rfl
 obtain⟨s,dx,ra,t,b,n,c,L0,p,r,rfl,hs,hL0,hra,hcnt,hn,ht,hb,hF,q,qx⟩:=h
 refine Vf ?_
 intro Xz
 refine⟨_,(Z1 (U4 LeaveX.own rfl (Z90 rfl T.b_range (Z0 (pv 1) (Z0 (Y7 Yv (Ze X7 rfl T.b_len PyProof.Rows.Boot.«len» (Z0 (Zn (pv 0) rfl) Z3)) Z7) Z3))) (pN 2 sc_Seeker_first_from.nd) (Z1 (pS 3 sc_Seeker_first_from.nd (Tz LX.pass (O_Seeker_find_at.mono (by omega)) MTS.cl hr (pv 0) (Z0 (pv 2) Z3)))
  (Z4 (Zu (Ta (Z7w (pv 3))) (Z4 (Zk (pv 3))) Zi))))
  (Z4 (Zk Z0c))),?_⟩
 refine Zfe ?_
 intro Ez Az1 Az2 Az3 Az4
 refine(Z6 rfl (Z6 rfl ⟨s,CS,dx,_,_,rfl,hs,MTS.cl,MTS.a2,Z7n,Z6 rfl ⟨Yc (by omega),Wc rfl rfl ⟨_,_,rfl,⟨by omega,by omega,by omega,by omega⟩,?_⟩⟩⟩))
 refine Js (fun k σ H'=>∃(u v:Option V) (c1 c2:Nat),σ=[some (.ref s),some (.int b),u,v]/\H' s=some (.ins CS dx (Z2e ra t (L0-c1)))/\(c1:Int)<=L0/\FdC t n p (b+k) r c2/\c1+c2=c/\Gro [s] H H')
  ⟨none,none,0,c,rfl,by simpa using hs,hL0,hF,by omega,Gro.refl⟩ ?_ ?_
 ·rintro k σ H1 hk ⟨u,v,c1,c2,rfl,hs1,hL,hF1,hcc,g1⟩
  have hbk:b+k<=t.length:=by omega
  have eb:(b:Int)+(k:Int)=((b+k:Nat):Int):=by omega
  rw[eb]
  have no1:(Z2e ra t (L0-c1)).lookup ("find_at":Str)=none:=Zc9 (by decide +kernel)
  cases hF1 with
  |out h=>omega
  |hit _ hw =>
   refine(Z6 rfl ⟨s,dx,Z6 rfl ⟨hs1,no1,Z6 rfl ⟨s,dx,ra,t,b+k,n,_,_,p,_,rfl,hs1,hra.mono g1.tups,hcnt,hn,ht,hbk,hw,fun hc v H2 hv hs2 g2=>?_,fun hc H2 g2=>qx (by omega) H2 (g1.trans g2)⟩⟩⟩)
   obtain⟨a,gv,rfl,ha,hg⟩:=id hv
   refine(Z6 rfl (Z6 rfl (Zj (by simp) ?_)))
   exact Z6 rfl (q (by omega) _ H2 hv (by rw[hs2,show L0-(c1:Int)-(c2:Int)=L0-(c:Int) by omega]) (g1.trans g2))
  | @go _ c3 c4 _ _ hw hF2 =>
   refine(Z6 rfl ⟨s,dx,Z6 rfl ⟨hs1,no1,Z6 rfl ⟨s,dx,ra,t,b+k,n,_,_,p,_,rfl,hs1,hra.mono g1.tups,hcnt,hn,ht,hbk,hw,fun hc v H2 hv hs2 g2=>?_,fun hc H2 g2=>qx (by omega) H2 (g1.trans g2)⟩⟩⟩)
   obtain rfl:v=V.non:=hv
   refine(Z6 rfl (Z6 rfl (Zb (by decide) ?_)))
   exact⟨_,_,c1+c3,c4,rfl,by rw[hs2,show L0-(c1:Int)-(c3:Int)=L0-((c1+c3:Nat):Int) by omega],by omega,hF2,by omega,g1.trans g2⟩
 ·rintro σ H1 ⟨u,v,c1,c2,rfl,hs1,hL,hF1,hcc,g1⟩
  cases hF1 with
  |out _=>exact q (by omega) .non H1 rfl (by rw[hs1,show c1=c by omega]) g1
  |hit h _=>omega
  |go h _ _=>omega
inductive spAllXI(CO:Addr)(vs:List V)(H:Hp)(Q:VK)(E:XK):Prop
 |mk (v:V) (t:Str) (n c:Nat) (L:Int) (p:Pat) (xs:List (Nat×W7)) (_:vs=[v,.str t,.int L]) (_:0<=L) (_:PatAt H 8 v p) (_:p.size<=20000) (_:Tj ((Yu p).map Op.rw)=n) (_:n<=9) (_:t.length<=200) (_:FdsC t n p 0 xs c)
  (_:(c:Int)<=L->∀(l:Addr) (us:List V) (H':Hp),H' l=some (.lst us)->Paired (Zbd H') us xs->xs.length<=201->H l=none->Gro [] H H'->Q (.ref l) H') (_:L<(c:Int)->∀H':Hp,Gro [] H H'->E (.ref CO) none H')
def Z1s(CO:Addr):Sp:=fun vs H Q E=>spAllXI CO vs H Q E
def Zkj(t:Str)(n:Nat)(p:Pat)(s:Nat)(r:Option (Nat×W7))(xs:List (Nat×W7))(c:Nat):Prop:=(r=none/\xs=[]/\c=0)∨∃(x:Nat×W7) (ys:List (Nat×W7)),r=some x/\xs=x::ys/\s<=x.1/\x.1<=x.2.1/\x.2.1<=t.length/\FdsC t n p (Zbc x) ys c
theorem FdsC.step{t:Str}{n:Nat}{p:Pat}{s c:Nat}{xs:List (Nat×W7)}(h:FdsC t n p s xs c):∃(r:Option (Nat×W7)) (c1 c2:Nat),FdC t n p s r c1/\Zkj t n p s r xs c2/\c=c1+c2:=by
 cases h with
 |no hF=>exact⟨none,_,0,hF,.inl ⟨rfl,rfl,rfl⟩,rfl⟩
 |more hF h1 h2 h3 hr=>exact⟨_,_,_,hF,.inr ⟨_,_,rfl,rfl,h1,h2,h3,hr⟩,rfl⟩
theorem Zgc(x:Nat×W7)(h:x.1<=x.2.1):x.1+1<=Zbc x/\Zbc x<=x.2.1+1:=by
 unfold Zbc
 split <;> omega
structure AllJX(CS s dx ra l:Addr)(t:Str)(n:Nat)(p:Pat)(xs:List (Nat×W7))(c:Nat)(L:Int)(H0:Hp)(st:Nat)(v:V)(r:Option (Nat×W7))(ys:List (Nat×W7))(H:Hp):Prop where
 dn:∃(zs:List (Nat×W7)) (us:List V),xs=zs++ys/\zs.length<=st/\H l=some (.lst us)/\Paired (Zbd H) us zs
 ob:∃c1 c2:Nat,H s=some (.ins CS dx (Z2e ra t (L-c1)))/\(c1:Int)<=L/\Zkj t n p st r ys c2/\c1+c2=c
 fn:FnA H v r
 rs:RsAt H ra p
 gr:Gro [s,l] H0 H
 st_:st<=t.length+1
abbrev Ve:Stmt:=top 49
theorem sc_all_finds:FnScope ["pattern","text","most","seeker","finds","find","took_nothing"] ["pattern","text","most"] (Z9 Ve):=Vh
theorem Zdu{CO:Addr}(MTS:TxtS K CS)(O_Seeker:OwnC P w K mg base 28 CS "Seeker" ["self","pattern","text","most"] (Z0r CS))(O_Seeker_first_from:OwnMX P w K mg base 8 CS "first_from" ["self","start"] (Z0s CS CO))(F:Fun K "all_finds" "all_finds" Ve f fd):FnOk P w K mg base (Z60 P w) 30 f fd ["pattern","text","most"] (Z1s CO):=by
 refine F.okX sc_all_finds (fun vs H Q E h=>?_) (fun cdv A outer s H vs Q E hr h LX=>?_)
 ·obtain⟨v,t,n,c,L,p,xs,rfl,_⟩:=h
  rfl
 obtain⟨v0,t,n,c,L,p,xs,rfl,hL0,hp,hz,hcnt,hn,ht,hF,q,qx⟩:=h
 refine Vf ?_
 intro Xz
 refine⟨_,(Z1 (pS 3 sc_all_finds.nd (Z3q (O_Seeker.mono (by omega)) hr rfl (Z0 (pv 0) (Z0 (pv 1) (Z0 (pv 2) Z3)))))
  (Z1 (pS 4 sc_all_finds.nd (Wt Z3))
  (Z1 (pS 5 sc_all_finds.nd (Tz LX.pass (O_Seeker_first_from.mono (by omega)) MTS.cl hr (pv 3) (Z0 Z7 Z3)))
  (Z1 (Tw LeaveX.own (Ta (Z7w (pv 5))) (Z1 (Zf (Yt PySem.F.plainAttrs_list PySem.F.slot_list_append PySem.F.type_list_append Zy (pv 4) (Z0 (pv 5) Z3)))
  (Z1 (pS 6 sc_all_finds.nd (Yz Y2 (Zl Zg (pv 5) Z7 (fun _ _=>rfl)) (Zl Zg (pv 5) Z7 (fun _ _=>rfl)) (Zh _)))
  (Z4 (pS 5 sc_all_finds.nd (Tz LX.pass (O_Seeker_first_from.mono (by omega)) MTS.cl hr (pv 3) (Z0 (Xi (Yh (pv 6)) (Y7 Yv (Zl Zg (pv 5) Z7 (fun _ _=>rfl)) Z7) (Zl Zg (pv 5) Z7 (fun _ _=>rfl))) Z3)))))))
  (Z4 (Zk (pv 4))))))),?_⟩
 refine Zfc ?_
 intro Ez Az1 Az2 Az3 Az4 Az5 Az6 Az7
 refine(Z6 rfl (Z6 rfl (Z6 rfl (fun m dx hm hdx hne=>?_))))
 have g1:Gro [] H (Zr (Zr H dx (.own m)) m (.ins CS dx [])):=(Gro.new hdx _).trans (Gro.new (by rw[Zo (Ne.symm hne)];exact hm) _)
 have e1:(Zr (Zr H dx (.own m)) m (.ins CS dx [])) m=some (.ins CS dx []):=Z5
 generalize Zr (Zr H dx (.own m)) m (.ins CS dx [])=H1 at *
 refine⟨m,dx,v0,t,_,p,rfl,e1,hp.mono g1.tups,hz,fun ra H2 hs2 hra2 g2=>⟨rfl,?_⟩⟩
 have g12:Gro [] H H2:=⟨fun a o h _=>g2.keep a o (g1.keep a o h (by simp)) (by simpa using Za h hm),fun a xs h=>g2.tups _ _ (g1.tups _ _ h)⟩
 refine⟨sz,fun l hl=>?_⟩
 have g3:=Gro.new (S:=[]) hl (.lst [])
 have hln:H l=none:=by
  cases h:H l with
  |none=>rfl
  |some o=>rw[g12.keep _ _ h (by simp)]at hl;cases hl
 have hl3:(Zr H2 l (.lst [])) l=some (.lst []):=Z5
 have hs3:=g3.keep _ _ hs2 (by simp)
 have hra3:=hra2.mono g3.tups
 have ml:m≠l:=Za hs2 hl
 have g13:Gro [] H (Zr H2 l (.lst [])):=g12.trans g3
 generalize Zr H2 l (.lst [])=H3 at *
 have no1:∀L:Int,(Z2e ra t L).lookup ("first_from":Str)=none:=fun L=>Zc9 (by decide +kernel)
 have gx:∀H':Hp,Gro [m,l] H3 H'->Gro [] H H':=fun H' g=>⟨fun a o h _=>g.keep a o (g13.keep a o h (by simp)) (by
  have h3:a≠m:=Za h hm
  have h4:a≠l:=fun z=>by rw[z,hln]at h;cases h
  simp[h3,h4]),fun a ys h=>g.tups _ _ (g13.tups _ _ h)⟩
 obtain⟨r,c1,c2,hF1,hr1,hcc⟩:=hF.step
 refine(Z6 rfl ⟨m,dx,Z6 rfl ⟨hs3,no1 _,m,dx,ra,t,0,n,c1,L,p,r,rfl,hs3,hL0,hra3,hcnt,hn,ht,by omega,hF1,fun hc v2 H4 hv4 hs4 g4=>?_,fun hc H4 g4=>qx (by omega) H4 (gx H4 (g4.mono (by simp)))⟩⟩)
 have fin:∀(us:List V) (H':Hp),(c:Int)<=L->H' l=some (.lst us)->Paired (Zbd H') us xs->xs.length<=201->Gro [m,l] H3 H'->Q (.ref l) H':=fun us H' hc h1 h2 h3 g=>q hc l us H' h1 h2 h3 hln (gx H' g)
 refine⟨fun μ σ H'=>∃(st:Nat) (v:V) (r:Option (Nat×W7)) (ys:List (Nat×W7)) (u:Option V),σ=[some v0,some (.str t),some (.int L),some (.ref m),some (.ref l),some v,u]/\μ=300-st/\AllJX CS m dx ra l t n p xs c L H3 st v r ys H',
  ⟨300,0,v2,r,xs,none,rfl,rfl,⟨⟨[],[],rfl,Nat.le_refl _,g4.keep _ _ hl3 (by simpa using Ne.symm ml),.nil⟩,⟨c1,c2,hs4,hc,hr1,hcc.symm⟩,hv4,hra3.mono g4.tups,g4.mono (by simp),by omega⟩⟩,?_⟩
 rintro μ σ H5 ⟨st,v,r,ys,u,rfl,rfl,⟨zs,us,hxs,hzl,hl5,hus⟩,⟨d1,d2,hs5,hL,hnx,hdd⟩,hfn,hrs,gr,hst⟩
 rcases hnx with⟨rfl,rfl,rfl⟩ | ⟨x,ys',rfl,rfl,h1,h2,h3,hF2⟩
 ·obtain rfl:v=V.non:=hfn
  refine(Z6 rfl (Z6 rfl (Zb (by decide) ?_)))
  exact Z6 rfl (fin us H5 (by omega) hl5 (by rw[hxs,List.append_nil];exact hus) (by rw[hxs,List.append_nil];omega) gr)
 obtain⟨a,gv9,rfl,ha,hg9⟩:=id hfn
 refine(Z6 rfl (Z6 rfl (Zj (by simp) ⟨fun σ' H'=>∃(st':Nat) (v:V) (r:Option (Nat×W7)) (ys:List (Nat×W7)) (u:Option V),st<st'/\σ'=[some v0,some (.str t),some (.int L),some (.ref m),some (.ref l),some v,u]/\AllJX CS m dx ra l t n p xs c L H3 st' v r ys H',fun σ' H' hh=>?_,?_⟩)))
 ·obtain⟨st',v',r',ys2,u',k1,k2,k3⟩:=hh
  exact⟨300-st',by have:=k3.st_;omega,st',v',r',ys2,u',k2,rfl,k3⟩
 have hul:us.length<=300:=by rw[Paired.length hus];omega
 refine(Z6 rfl ⟨.inl ⟨rfl,us,SqL.of hl5⟩,Z6 rfl ⟨l,us,_,rfl,rfl,hl5,Nat.lt_of_lt_of_le (by omega) (Yc (Nat.le_refl 1000)),?_⟩⟩)
 have g6:Gro [l] H5 (Zr H5 l (.lst (us++[.ref a]))):=Gro.set (by simp) hl5 _
 have ha6:=g6.tups _ _ ha
 have hl6:(Zr H5 l (.lst (us++[.ref a]))) l=some (.lst (us++[.ref a])):=Z5
 have hs6:=g6.keep _ _ hs5 (by simpa using ml)
 have hus6:Paired (Zbd (Zr H5 l (.lst (us++[.ref a])))) (us++[.ref a]) (zs++[x]):=Paired.snoc (F:=Zbd _) (FnA.mono (r:=some x) g6.tups hfn) (W0 g6.tups hus)
 have hrs6:=hrs.mono g6.tups
 generalize Zr H5 l (.lst (us++[.ref a]))=H6 at *
 refine(Wo ha6 Z0p (Wo ha6 rfl ⟨rfl,?_⟩))
 obtain⟨r2,c3,c4,hF3,hnx3,hc34⟩:=hF2.step
 have hgt:=Zgc x h2
 have nl:l∉[m]:=by simpa using Ne.symm ml
 have grx:∀H':Hp,Gro [m] H6 H'->Gro [m,l] H3 H':=fun H' g=>gr.trans ((g6.mono (by simp)).trans (g.mono (by simp)))
 refine(Z6 rfl ⟨m,dx,Z6 rfl ⟨hs6,no1 _,?_⟩⟩)
 have nxt_ok:(x.1=x.2.1->(x.2.1:Int)+1=(Zbc x:Int))/\(¬x.1=x.2.1->(x.2.1:Int)=(Zbc x:Int)):=by
  unfold Zbc
  exact⟨fun h=>by rw[if_pos h.symm];omega,fun h=>by rw[if_neg (fun z=>h z.symm)];rfl⟩
 have last:∀(v7:V) (H7:Hp),(c3:Int)<=L-d1->FnA H7 v7 r2->H7 m=some (.ins CS dx (Z2e ra t (L-d1-c3)))->Gro [m] H6 H7->AllJX CS m dx ra l t n p xs c L H3 (Zbc x) v7 r2 ys' H7:=fun v7 H7 hc7 hv7 hs7 g7 =>
  ⟨⟨zs++[x],us++[.ref a],by rw[hxs,List.append_assoc];rfl,by rw[List.length_append];show zs.length+1<=_;omega,g7.keep _ _ hl6 nl,W0 g7.tups hus6⟩,⟨d1+c3,c4,by rw[hs7,show L-(d1:Int)-(c3:Int)=L-((d1+c3:Nat):Int) by omega],by omega,hnx3,by omega⟩,hv7,hrs6.mono g7.tups,grx H7 g7,by omega⟩
 by_cases heq:x.1=x.2.1
 ·refine(Z6 rfl (Z6 rfl (Zj (decide_eq_true (by rw[heq])) (Wo ha6 rfl (Wc rfl rfl ⟨m,dx,ra,t,Zbc x,n,c3,L-d1,p,r2,congrArg (fun z=>[V.ref m,V.int z]) (nxt_ok.1 heq),hs6,by omega,hrs6,hcnt,hn,ht,by omega,hF3,fun hc v7 H7 hv7 hs7 g7=>?_,fun hc H7 g7=>qx (by omega) H7 (gx H7 (grx H7 g7))⟩)))))
  exact⟨Zbc x,v7,r2,ys',_,by omega,rfl,last v7 H7 hc hv7 hs7 g7⟩
 ·refine(Z6 rfl (Z6 rfl (Zb (fun z=>heq (by have z':=of_decide_eq_true z;injection z' with z';omega)) (Wo ha6 rfl ⟨m,dx,ra,t,Zbc x,n,c3,L-d1,p,r2,congrArg (fun z=>[V.ref m,V.int z]) (nxt_ok.2 heq),hs6,by omega,hrs6,hcnt,hn,ht,by omega,hF3,fun hc v7 H7 hv7 hs7 g7=>?_,fun hc H7 g7=>qx (by omega) H7 (gx H7 (grx H7 g7))⟩))))
  exact⟨Zbc x,v7,r2,ys',_,by omega,rfl,last v7 H7 hc hv7 hs7 g7⟩
abbrev W3:List V:=[.str "times",.str "group",.str "once",.str "ahead",.str "notahead",.str "behind",.str "notbehind"]
def Jj:Sp:=fun vs H Q _=>∃(d:Nat) (v:V) (h:Hd) (ks:List Pat),vs=[v]/\PatAt H (d+1) v (.node h ks)/\∀(r:Addr) (kv:List V) (H':Hp),H' r=some (.tup kv)->kv.length<=10->Paired (PatAt H' d) kv ks->Gro [] H H'->Q (.ref r) H'
abbrev Vq:Stmt:=top 44
theorem sc_parts_of:FnScope ["pattern","kind"] ["pattern"] (Z9 Vq):=Vh
theorem Z4o{pl:Addr}(U9:mg "PART_LAST" = some (.ref pl))(hPL:∀H,SqT K H pl W3)(F:Fun K "parts_of" "parts_of" Vq f fd):FnOk P w K mg base Wp 1 f fd ["pattern"] Jj:=by
 refine F.ok sc_parts_of (fun vs H Q E h=>?_) (fun cdv A outer s H vs Q E hr h=>?_)
 ·obtain⟨d,v,h,ks,rfl,_⟩:=h
  rfl
 obtain⟨d,v,h,ks,rfl,hp,q⟩:=h
 refine Vf ?_
 intro Xz
 refine⟨_,(Z1 (pS 1 sc_parts_of.nd (Zl Zg (pv 0) Z7 (fun _ _=>rfl)))
  (Z1 (Zu (PW.pt (Z5s (Zd Y2 (pv 1) Zq (Zh _)) (Z1x (Zd Y2 (pv 1) Zq (Zh _))))) (Z4 (Zk (Zl Zg (pv 0) Z7 (fun _ _=>rfl)))) Zi)
  (Z1 (Zu (Zd Y2 (pv 1) Zq (Zh _)) (Z4 (Zk (Y5 Z1t (pv 0) (Y3 Z7) Yy))) Zi)
  (Z1 (Zu (Zd Uu (pv 1) (Xl (v:=.ref _) rfl U9 rfl) (by with_unfolding_all rfl)) (Z4 (Zk (Y5 Z1t (pv 0) (Y3 (Z5t Z1q Z7)) Yy))) Zi)
  (Z4 (Zk (Zz Z3))))))),?_⟩
 refine Zfw ?_
 intro Ez Az1 Az2 Az3 Az4 Az5 Az6 Az7
 obtain⟨a,kv,rfl,lay,hk⟩:=hp
 have q0:∀(r:Addr) (H':Hp),H' r=some (.tup kv)->kv.length<=10->Gro [] H H'->Q (.ref r) H':=fun r H' e z g=>q r kv H' e z (Z92 g.tups hk) g
 have leaf:∀ {x:Str} {r:List V},kv=[]->H a=some (.tup (.str x::r))->decide (V.str x=V.str "row")=false->decide (V.str x=V.str "or")=false->decide (V.str x=V.str "have")=false->Zey (.str x) W3=false ->
   (Z8 (Zcg (Z5y (Z47 K) (W8 0) (tC (.int 0))) (Z3g 1)) (Z8 (Zt (Zk1 (Jh (Z5y Zhc (W8 1) (tC (.str "row")))) (Jh (Z5y Zhc (W8 1) (tC (.str "or"))))) (Z45 (Z5y (Z47 K) (W8 0) (tC (.int 1)))) Zm)
    (Z8 (Zt (Jh (Z5y Zhc (W8 1) (tC (.str "have")))) (Z45 (Zin (Zci K) (W8 0) (Z5p (tC (.int 2))) J3)) Zm) (Z8 (Zt (Jh (Z5y (Zk2 K false) (W8 1) (tC (.ref pl)))) (Z45 (Zin (Zci K) (W8 0) (Z5p (Zk0 (rU fun i=>.int (-i)) (tC (.int 1)))) J3)) Zm) (Z45 (Zcf Z46))))))
    { nx:=fun _ H'=>Q .non H',rt:=Q } [some (.ref a),none] H:=by
  intro x r e0 ea e1 e2 e3 e4
  refine⟨_,rfl,a,_,_,_,rfl,rfl,SqT.of ea,Z0p,?_⟩
  refine⟨_,rfl,rfl,_,rfl,Zb (by rw[e1];decide) ⟨_,rfl,rfl,_,rfl,Zb (by rw[e2];decide) ?_⟩⟩
  refine⟨_,rfl,rfl,_,rfl,Zb (by rw[e3];decide) ?_⟩
  refine⟨_,rfl,pl,W3,rfl,.inr (hPL _),rfl,rfl,_,rfl,Zb (by rw[e4];decide) ?_⟩
  exact⟨sz,fun p1 hp1=>q0 p1 _ (by rw[e0];exact Z5) (by simp[e0]) (Gro.new hp1 _)⟩
 have last:∀ {x:Str} {r:List V} {k:V},kv=[k]->H a=some (.tup (.str x::r))->U2 (.str x::r) (some (-1)) none=[k]->¬(HT.sIx (V.str x::r).length 0 (some (-1))=0/\HT.sIx (V.str x::r).length (V.str x::r).length none=(V.str x::r).length)->decide (V.str x=V.str "row")=false->decide (V.str x=V.str "or")=false->decide (V.str x=V.str "have")=false->Zey (.str x) W3=true ->
   (Z8 (Zcg (Z5y (Z47 K) (W8 0) (tC (.int 0))) (Z3g 1)) (Z8 (Zt (Zk1 (Jh (Z5y Zhc (W8 1) (tC (.str "row")))) (Jh (Z5y Zhc (W8 1) (tC (.str "or"))))) (Z45 (Z5y (Z47 K) (W8 0) (tC (.int 1)))) Zm)
    (Z8 (Zt (Jh (Z5y Zhc (W8 1) (tC (.str "have")))) (Z45 (Zin (Zci K) (W8 0) (Z5p (tC (.int 2))) J3)) Zm) (Z8 (Zt (Jh (Z5y (Zk2 K false) (W8 1) (tC (.ref pl)))) (Z45 (Zin (Zci K) (W8 0) (Z5p (Zk0 (rU fun i=>.int (-i)) (tC (.int 1)))) J3)) Zm) (Z45 (Zcf Z46))))))
    { nx:=fun _ H'=>Q .non H',rt:=Q } [some (.ref a),none] H:=by
  intro x r k e0 ea ec hw e1 e2 e3 e4
  refine⟨_,rfl,a,_,_,_,rfl,rfl,SqT.of ea,Z0p,?_⟩
  refine⟨_,rfl,rfl,_,rfl,Zb (by rw[e1];decide) ⟨_,rfl,rfl,_,rfl,Zb (by rw[e2];decide) ?_⟩⟩
  refine⟨_,rfl,rfl,_,rfl,Zb (by rw[e3];decide) ?_⟩
  refine⟨_,rfl,pl,W3,rfl,.inr (hPL _),rfl,rfl,_,rfl,Zj (by show Zey _ _=true;exact e4) ?_⟩
  exact⟨_,rfl,_,rfl,_,rfl,a,_,rfl,SqT.of ea,hw,fun p1 hp1=>q0 p1 _ (by rw[e0,← ec];exact Z5) (by simp[e0]) (Gro.new hp1 _)⟩
 cases h with
 |sign s=>exact leaf lay.1 lay.2.2 (by decide +kernel) (by decide +kernel) (by decide +kernel) (by decide +kernel)
 |any=>exact leaf lay.1 lay.2 (by decide +kernel) (by decide +kernel) (by decide +kernel) (by decide +kernel)
 |inn rs =>
  obtain⟨e0,r,e,_⟩:=lay
  exact leaf e0 e (by decide +kernel) (by decide +kernel) (by decide +kernel) (by decide +kernel)
 |out rs =>
  obtain⟨e0,r,e,_⟩:=lay
  exact leaf e0 e (by decide +kernel) (by decide +kernel) (by decide +kernel) (by decide +kernel)
 |beg=>exact leaf lay.1 lay.2 (by decide +kernel) (by decide +kernel) (by decide +kernel) (by decide +kernel)
 |fin=>exact leaf lay.1 lay.2 (by decide +kernel) (by decide +kernel) (by decide +kernel) (by decide +kernel)
 |again n=>exact leaf lay.2.1 lay.2.2 (by decide +kernel) (by decide +kernel) (by decide +kernel) (by decide +kernel)
 |row =>
  obtain⟨z,r,e,er⟩:=lay
  refine⟨_,rfl,a,_,_,_,rfl,rfl,SqT.of e,Z0p,?_⟩
  refine⟨_,rfl,rfl,_,rfl,Zj (by decide +kernel) (Z0g ?_)⟩
  exact⟨_,rfl,a,_,_,_,rfl,rfl,SqT.of e,rfl,q0 r H er z Gro.refl⟩
 |alt =>
  obtain⟨_,z,r,e,er⟩:=lay
  refine⟨_,rfl,a,_,_,_,rfl,rfl,SqT.of e,Z0p,?_⟩
  refine⟨_,rfl,rfl,_,rfl,Zb (by decide +kernel) ⟨_,rfl,rfl,_,rfl,Zj (by decide +kernel) ?_⟩⟩
  exact⟨_,rfl,a,_,_,_,rfl,rfl,SqT.of e,rfl,q0 r H er z Gro.refl⟩
 |times lo hi how =>
  obtain⟨_,k,e0,e⟩:=lay
  exact last e0 e rfl (fun z=>absurd (show HT.sIx 5 0 (some (-1))=0 from z.1) (by decide +kernel)) (by decide +kernel) (by decide +kernel) (by decide +kernel) (by decide +kernel)
 |grp n =>
  obtain⟨_,k,e0,e⟩:=lay
  exact last e0 e rfl (fun z=>absurd (show HT.sIx 3 0 (some (-1))=0 from z.1) (by decide +kernel)) (by decide +kernel) (by decide +kernel) (by decide +kernel) (by decide +kernel)
 |hav n =>
  obtain⟨_,y,z,e0,e⟩:=lay
  refine⟨_,rfl,a,_,_,_,rfl,rfl,SqT.of e,Z0p,?_⟩
  refine⟨_,rfl,rfl,_,rfl,Zb (by decide +kernel) ⟨_,rfl,rfl,_,rfl,Zb (by decide +kernel) ?_⟩⟩
  refine⟨_,rfl,rfl,_,rfl,Zj (by decide +kernel) ?_⟩
  exact⟨_,rfl,_,rfl,a,_,rfl,SqT.of e,fun z=>absurd (show HT.sIx 4 0 (some 2)=0 from z.1) (by decide +kernel),fun p1 hp1=>q0 p1 _ (by rw[e0];exact Z5) (by simp[e0]) (Gro.new hp1 _)⟩
 |look lk =>
  obtain⟨k,e0,e⟩:=lay
  cases lk <;> exact last e0 e rfl (fun z=>absurd (show HT.sIx 2 0 (some (-1))=0 from z.1) (by decide +kernel)) (by decide +kernel) (by decide +kernel) (by decide +kernel) (by decide +kernel)
def Zio(n:Nat):Sp:=fun vs H Q _=>∃(v:V) (p:Pat),vs=[v]/\PatAt H n v p/\∀H',Gro [] H H'->Q (.int p.groups) H'
def Hd.own:Hd->Int
 |.grp _=>1
 |_=>0
theorem Z4w(h:Hd)(ks:List Pat):(Pat.node h ks).groups=h.own+Xm ks:=by cases h <;> simp[Pat.groups,Hd.own]
theorem Z57(h:Hd):h.own=if decide (V.str h.word=V.str "group")=true then 1 else 0:=by
 cases h with
 |look lk=>cases lk <;> decide +kernel
 |sign s=>exact(if_neg (show ¬decide (V.str "sign" = V.str "group")=true by decide +kernel)).symm
 |inn s=>exact(if_neg (show ¬decide (V.str "in" = V.str "group")=true by decide +kernel)).symm
 |out s=>exact(if_neg (show ¬decide (V.str "out" = V.str "group")=true by decide +kernel)).symm
 |times a b c=>exact(if_neg (show ¬decide (V.str "times" = V.str "group")=true by decide +kernel)).symm
 |grp n=>exact(if_pos (show decide (V.str "group" = V.str "group")=true by decide +kernel)).symm
 |again n=>exact(if_neg (show ¬decide (V.str "again" = V.str "group")=true by decide +kernel)).symm
 |hav n=>exact(if_neg (show ¬decide (V.str "have" = V.str "group")=true by decide +kernel)).symm
 |_=>decide +kernel
def Zid(H:Hp)(n:Nat):TS:=fun D σ H1=>∃(v:V) (h:Hd) (ks:List Pat),H1=H/\σ=[some v,some (.int h.own)]/\PatAt H (n+1) v (.node h ks)/\∀H',Gro [] H H'->D.rt (.int (Pat.node h ks).groups) H'
abbrev Wb:Stmt:=top 45
theorem sc_groups_in:FnScope ["pattern","own"] ["pattern"] (Z9 Wb):=Vh
theorem Z38{n:Nat}(T:Blt mg)(O_parts_of:Own P w K mg base 1 "parts_of" ["pattern"] Jj)(O_groups_in:Own P w K mg base (2+n) "groups_in" ["pattern"] (Zio n))(F:Fun K "groups_in" "groups_in" Wb f fd) :
  FnOk P w K mg base Wp (2+n+1) f fd ["pattern"] (Zio (n+1)):=by
 refine F.ok sc_groups_in (fun vs H Q E h=>?_) (fun cdv A outer s H vs Q E hr h=>?_)
 ·obtain⟨v,p,rfl,_⟩:=h
  rfl
 obtain⟨v,⟨h,ks⟩,rfl,hp,q⟩:=h
 refine Vf ?_
 intro Xz
 refine⟨_,(Z1 (pS 1 sc_groups_in.nd (Xi (Zd Y2 (Zl Zg (pv 0) Z7 (fun _ _=>rfl)) Zq (Zh _)) Z7 Z7))
  (J8 (Zid H n) (Z4 (Zk (Y7 Yv (pv 1) (Ze (Zbb rfl) rfl T.b_sum PyProof.Rows.Boot.«sum» (Z0 (J0 rfl (show CScope _ ["pattern","own"] (Z9 Wb) _ from⟨rfl,by decide +kernel,rfl,by decide +kernel,by decide +kernel,by decide +kernel,by decide +kernel⟩) (Z1y (Zv (O_parts_of.mono (by omega)) hr rfl (Z0 (pv 0) Z3))) (fun _ _ _ _=>Z3o) (fun _ _ _ _=>(Zv (O_groups_in.mono (by omega)) hr rfl (Z0 (pv 0) Z3)))) Z3))))) (fun D1 σ1 H1 hcut=>?cut1))),?_⟩
 case cut1 =>
  obtain⟨v,h,ks,rfl,rfl,hp,q⟩:=hcut
  refine⟨_,rfl,_,rfl,n,v,h,ks,rfl,hp,fun r kv H2 hr hlen hk g1=>⟨r,rfl,⟨kv,SqT.of hr⟩,?_⟩⟩
  have hkl:=Paired.length hk
  refine Zge (xs:=kv) (fun i ys H'=>∃ns:List Int,ys=ns.map V.int/\ns.length=i/\ns.sum=Xm (ks.take i)/\Gro [] H2 H') ⟨[],rfl,rfl,by simp[Xm],Gro.refl⟩ (Xp (by omega)) (fun i ys H' ⟨ns,e1,e2,_⟩=>by rw[e1,List.length_map,e2];exact Nat.le_refl _) (fun i ys H' ⟨_,_,_,_,g⟩=>SqT.of (g.tups _ _ hr)) ?_ ?_
  ·rintro i ys H3 x hx ⟨ns,rfl,e2,e3,g3⟩
   obtain⟨p,hpi,hpx⟩:=Y9 hk hx
   refine⟨_,rfl,x,p,rfl,hpx.mono g3.tups,fun H4 g4=>⟨ns++[p.groups],by simp,by simp[e2],?_,g3.trans g4⟩⟩
   rw[Xo hpi,Z14,List.sum_append,e3]
   simp[Xm]
  ·rintro ys H3 ⟨ns,rfl,e2,e3,g3⟩ l hl
   refine⟨l,ns,rfl,SqL.of Z5,_,_,rfl,rfl,?_⟩
   rw[hkl,List.take_length]at e3
   have:=q _ ((g1.trans g3).tup (o:=.lst (ns.map V.int)) hl)
   rw[Z4w]at this
   show D1.rt (V.int (h.own+ns.sum)) _
   rw[e3]
   exact this
 refine Z09 ?_
 intro Ez Az1
 obtain⟨a,kv,rfl,lay,hk⟩:=id hp
 obtain⟨r,ea⟩:=lay.head
 have c:∀o:Int,o=h.own->Zid H n { nx:=fun _ H'=>Q .non H',rt:=Q } [some (.ref a),some (.int o)] H:=fun o e=>⟨.ref a,h,ks,rfl,by rw[e],hp,q⟩
 refine⟨_,rfl,a,_,_,_,rfl,rfl,SqT.of ea,Z0p,rfl,_,rfl,Wq (fun z=>?_) (fun z=>?_)⟩
 ·exact c 1 (by rw[Z57,if_pos z])
 ·exact c 0 (by rw[Z57,if_neg z])
end
theorem Zju{n:Nat}(h:n<=100000):n<=sizeLine:=Nat.le_trans h (by decide)
theorem Z2v:∀(k:Nat) (ms:List Str),ms.length=k->(Txt.join "" ms).length=(ms.map (·.length)).sum
 |0,ms,h=>by
  have:ms=[]:=List.eq_nil_of_length_eq_zero h
  subst this
  rfl
 |k+1,ms,h=>by
  rcases List.eq_nil_or_concat ms with e | ⟨ls,m,e⟩
  ·subst e;cases h
  ·subst e
   rw[List.concat_eq_append]at h ⊢
   rw[V4,Xc,Z2v k ls (by simpa using h),List.map_append,List.sum_append]
   simp
theorem Z4e{f:Str}{n:Nat}:∀(m p:Nat) (ps:List Pc),f.length-p<=m->pz f n p=some ps->ps.length<=f.length-p/\∀k,Pc.nm k∈ps->k<=n
 |m,p,ps,hm,h=>by
  by_cases hp:p<f.length
  ·cases hk:kd f n p with
   |sign =>
    rw[J7 hp hk]at h
    obtain⟨qs,hq,rfl⟩:=Option.map_eq_some_iff.mp h
    match m,hm with
    |0,hm=>omega
    |m+1,hm =>
     obtain⟨h1,h2⟩:=Z4e m (p+1) qs (by omega) hq
     refine⟨by rw[List.length_cons];omega,fun k hk'=>?_⟩
     rcases List.mem_cons.mp hk' with e | e
     ·cases e
     ·exact h2 k e
   |dollar =>
    rw[Jm hp hk]at h
    obtain⟨qs,hq,rfl⟩:=Option.map_eq_some_iff.mp h
    match m,hm with
    |0,hm=>omega
    |m+1,hm =>
     obtain⟨h1,h2⟩:=Z4e m (p+2) qs (by omega) hq
     refine⟨by rw[List.length_cons];omega,fun k hk'=>?_⟩
     rcases List.mem_cons.mp hk' with e | e
     ·cases e
     ·exact h2 k e
   |num j =>
    have hj:j<=n:=by
     unfold kd at hk
     split at hk
     ·split at hk
      ·cases hk
      ·split at hk
       ·split at hk
        ·cases hk;assumption
        ·cases hk
       ·cases hk
     ·cases hk
    rw[Z4d hp hk]at h
    obtain⟨qs,hq,rfl⟩:=Option.map_eq_some_iff.mp h
    match m,hm with
    |0,hm=>omega
    |m+1,hm =>
     obtain⟨h1,h2⟩:=Z4e m (p+2) qs (by omega) hq
     refine⟨by rw[List.length_cons];omega,fun k hk'=>?_⟩
     rcases List.mem_cons.mp hk' with e | e
     ·cases e;exact hj
     ·exact h2 k e
   |bad=>rw[Z79 hp hk]at h;cases h
  ·rw[Z4f hp]at h
   cases h
   exact⟨Nat.zero_le _,fun k hk=>by simp at hk⟩
theorem Z1k{o:Option (List Pc)}{ps:List Pc}{c:Pc}:(o.map (c :: ·)).map (ps ++ ·)=o.map ((ps++[c]) ++ ·):=by cases o <;> simp
theorem Jp(ps:List Pc)(c:Pc):ps.map Zhd++[Zhd c]=(ps++[c]).map Zhd:=by rw[List.map_append];rfl
theorem Jz(t:Str)(a b:Option Int):(Txt.slice t a b).length<=t.length:=Txt.slice_le t _ _
theorem Z8j{f:Str}{n:Nat}:∀(m p:Nat) (ps:List Pc),f.length-p<=m->pz f n p=some ps->∀s,Pc.tx s∈ps->s.length<=1
 |m,p,ps,hm,h=>by
  by_cases hp:p<f.length
  ·match m,hm with
   |0,hm=>omega
   |m+1,hm =>
    cases hk:kd f n p with
    |sign =>
     rw[J7 hp hk]at h
     obtain⟨qs,hq,rfl⟩:=Option.map_eq_some_iff.mp h
     intro s hs
     rcases List.mem_cons.mp hs with e | e
     ·cases e;exact Nat.le_refl 1
     ·exact Z8j m (p+1) qs (by omega) hq s e
    |dollar =>
     rw[Jm hp hk]at h
     obtain⟨qs,hq,rfl⟩:=Option.map_eq_some_iff.mp h
     intro s hs
     rcases List.mem_cons.mp hs with e | e
     ·cases e;decide +kernel
     ·exact Z8j m (p+2) qs (by omega) hq s e
    |num j =>
     rw[Z4d hp hk]at h
     obtain⟨qs,hq,rfl⟩:=Option.map_eq_some_iff.mp h
     intro s hs
     rcases List.mem_cons.mp hs with e | e
     ·cases e
     ·exact Z8j m (p+2) qs (by omega) hq s e
    |bad=>rw[Z79 hp hk]at h;cases h
  ·rw[Z4f hp]at h
   cases h
   intro s hs
   simp at hs
structure PcOk(n m:Nat)(ps:List Pc):Prop where
 len:ps.length<=m
 num:∀k,Pc.nm k∈ps->k<=n
 txt:∀s,Pc.tx s∈ps->s.length<=1
theorem Zht{f:Str}{n:Nat}{ps:List Pc}(h:pz f n 0=some ps):PcOk n f.length ps:=by
 obtain⟨h1,h2⟩:=Z4e f.length 0 ps (by omega) h
 exact⟨by omega,h2,Z8j f.length 0 ps (by omega) h⟩
theorem Zdd{t:Str}{x:Nat×W7}{c:Pc}(ht:t.length<=200)(hc:∀s,c=.tx s->s.length<=1):(Zih t x c).length<=200:=by
 cases c with
 |tx s=>exact Nat.le_trans (hc s rfl) (by decide)
 |nm k =>
  cases k with
  |zero=>exact Nat.le_trans (Jz t _ _) ht
  |succ k =>
   show(Zk4 t (x.2.2.getD k none)).length<=200
   cases x.2.2.getD k none with
   |none=>exact Nat.zero_le _
   |some q=>exact Nat.le_trans (Jz t _ _) ht
theorem Z3i:∀ {ms:List Str},(∀m∈ms,m.length<=200)->(ms.map (·.length)).sum<=200*ms.length
 | [],_=>Nat.le_refl _
 |m::ms,h=>by
  rw[List.map_cons,List.sum_cons,List.length_cons]
  have h1:=h m (by simp)
  have h2:=Z3i (ms:=ms) fun m' hm=>h m' (by simp[hm])
  omega
theorem Z2q{t:Str}{x:Nat×W7}{ps:List Pc}{n m:Nat}(ok:PcOk n m ps)(ht:t.length<=200):∀s∈ps.map (Zih t x),s.length<=200:=fun s hs=>by
 obtain⟨c,hc,rfl⟩:=List.mem_map.mp hs
 exact Zdd ht fun s e=>ok.txt s (by rw[← e];exact hc)
theorem Ze8{t:Str}{x:Nat×W7}{ps:List Pc}{n m:Nat}(ok:PcOk n m ps)(ht:t.length<=200):(Zcp t x ps).length<=200*m:=by
 unfold Zcp
 rw[Z2v _ _ rfl]
 have h1:=Z3i (Z2q (x:=x) ok ht)
 rw[List.length_map]at h1
 have:=ok.len
 omega
def tx(t:Str):Int->List (Nat×W7)->List Str
 |e,[]=>[Txt.slice t (some e) none]
 |e,x::xs=>Txt.slice t (some e) (some x.1)::tx t x.2.1 xs
theorem Zbf(t:Str):∀(xs:List (Nat×W7)) (e:Int),(tx t e xs).length=xs.length+1
 | [],_=>rfl
 |_::xs,_=>congrArg (· + 1) (Zbf t xs _)
theorem Zcs{t:Str}{e:Int}{ys:List Str}{xs:List (Nat×W7)}{k:Nat}{x:Nat×W7}(h:tx t 0 xs=ys++tx t e (xs.drop k))(hx:xs[k]? = some x):tx t 0 xs=(ys++[Txt.slice t (some e) (some x.1)])++tx t x.2.1 (xs.drop (k+1)):=by
 rw[h,List.drop_eq_getElem_cons (List.getElem?_eq_some_iff.mp hx).1,(List.getElem?_eq_some_iff.mp hx).2,List.append_assoc]
 rfl
theorem Zf2{t:Str}{e:Int}{ys:List Str}{xs:List (Nat×W7)}{k:Nat}(h:tx t 0 xs=ys++tx t e (xs.drop k))(hk:xs.length<=k):tx t 0 xs=ys++[Txt.slice t (some e) none]:=by
 rw[h,List.drop_of_length_le hk]
 rfl
theorem J1{ys:List Str}{y:Str}:ys.map V.str++[V.str y]=(ys++[y]).map V.str:=by simp
def Z5z(t:Str)(e:Int):List (Nat×W7)->Str
 | []=>Txt.slice t (some e) none
 |x::_=>Txt.slice t (some e) (some x.1)
theorem Zeq(t:Str)(e:Int):∀xs,∃r,tx t e xs=Z5z t e xs::r
 | []=>⟨[],rfl⟩
 |_::_=>⟨_,rfl⟩
theorem Z50(t:Str):∀(xs:List (Nat×W7)) (e:Int),∀m∈tx t e xs,m.length<=t.length
 | [],e,m,h=>by
  rw[List.mem_singleton.mp h]
  exact Txt.slice_le t _ _
 |x::xs,e,m,h=>by
  rcases List.mem_cons.mp h with h | h
  ·rw[h]
   exact Txt.slice_le t _ _
  ·exact Z50 t xs _ m h
theorem Zc3{t:Str}:∀ {xs:List (Nat×W7)} {e:Int} {k:Nat} {x:Nat×W7},xs[k]? = some x->(tx t e xs)[k+1]? = some (Z5z t x.2.1 (xs.drop (k+1)))
 |y::xs,e,0,x,h=>by
  have e1:y=x:=by simpa using h
  subst e1
  obtain⟨r,hr⟩:=Zeq t y.2.1 xs
  show(Txt.slice t (some e) (some y.1)::tx t y.2.1 xs)[1]? = _
  rw[hr]
  rfl
 |y::xs,e,k+1,x,h=>by
  have h':xs[k]? = some x:=by simpa using h
  have:=Zc3 (t:=t) (e:=y.2.1) h'
  show(Txt.slice t (some e) (some y.1)::tx t y.2.1 xs)[k+1+1]? = _
  rw[List.getElem?_cons_succ,this]
  rfl
def gF(t:Str)(ps:List Pc):List (Nat×W7)->Str
 | []=>""
 |x::xs=>Zcp t x ps++(Z5z t x.2.1 xs++gF t ps xs)
theorem Ze5{t:Str}{ps:List Pc}{w:Str}{xs:List (Nat×W7)}{k:Nat}{x:Nat×W7}{z:Str}(h:w++gF t ps (xs.drop k)=z)(hx:xs[k]? = some x):((w++Zcp t x ps)++Z5z t x.2.1 (xs.drop (k+1)))++gF t ps (xs.drop (k+1))=z:=by
 rw[List.drop_eq_getElem_cons (List.getElem?_eq_some_iff.mp hx).1,(List.getElem?_eq_some_iff.mp hx).2]at h
 rw[← h,Jx,Jx]
 rfl
theorem Zgm{t:Str}{ps:List Pc}{w:Str}{xs:List (Nat×W7)}{k:Nat}{z:Str}(h:w++gF t ps (xs.drop k)=z)(hk:xs.length<=k):w=z:=by
 rw[List.drop_of_length_le hk]at h
 rw[← h]
 exact(Z43 w).symm
theorem cut1{x:V}{r:List V}:U2 (x::r) (some 1) none=r:=by
 simp[U2,HT.sIx]
theorem FdC.good{t:Str}{n:Nat}{p:Pat}{b:Nat}{r:Option (Nat×W7)}{c:Nat}(h:FdC t n p b r c):∀x,r=some x->x.2.2.length=n:=by
 induction h with
 |out _=>intro x e;cases e
 |hit _ hw =>
  intro x e
  cases e
  obtain⟨_,_,_,_,gw,_⟩:=hw
  exact(gw _ rfl).2.len
 |go _ _ _ ih=>exact ih
theorem FdsC.good{t:Str}{n:Nat}{p:Pat}{s:Nat}{xs:List (Nat×W7)}{c:Nat}(h:FdsC t n p s xs c):∀x∈xs,x.2.2.length=n:=by
 induction h with
 |no _=>intro x e;cases e
 |more hF _ _ _ _ ih =>
  intro x e
  rcases List.mem_cons.mp e with e | e
  ·subst e
   exact hF.good _ rfl
  ·exact ih x e
theorem Z7i:∀ {ms:List Str},(∀m∈ms,m.length<=2400)->(ms.map (·.length)).sum<=2400*ms.length
 | [],_=>Nat.le_refl _
 |m::ms,h=>by
  have h1:=h m (by simp)
  have h2:=Z7i (ms:=ms) fun x hx=>h x (by simp[hx])
  simp only[List.map_cons,List.sum_cons,List.length_cons]
  omega
section
variable{P:Program}{w:World}{K:W.Frag}{mg:Str->Option Value}{base:Heap}{f C CS CN CE:Addr}{fd:FuncData}
inductive spMarkI(CN:Addr)(vs:List V)(H:Hp)(Q:VK)(E:XK):Prop
 |mk (s:Str) (n:Nat) (_:vs=[.str s,.int n]) (_:s.length<=1) (_:s="$"->Q (.str "$") H) (_:∀k,¬s="$"->Zel s=some k->k<=n->Q (.int k) H) (_:¬s="$"->(∀k,Zel s=some k->¬k<=n)->E (.ref CN) none H)
def Z72(CN:Addr):Sp:=fun vs H Q E=>spMarkI CN vs H Q E
abbrev Xu:Stmt:=top 54
theorem sc_marked_piece:FnScope ["sign","groups","number"] ["sign","groups"] (Z9 Xu):=Vh
theorem Zdn{t1:Tok}(T:Blt mg)(Z1o:mg "DIGITS" = some (.str digS t1))(XC_NoForm:XC K mg "NoForm" CN CE)(F:Fun K "marked_piece" "marked_piece" Xu f fd):FnOk P w K mg base (Z60 P w) 1 f fd ["sign","groups"] (Z72 CN):=by
 refine F.okX sc_marked_piece (fun vs H Q E h=>?_) (fun cdv A outer s H vs Q E hr h LX=>?_)
 ·obtain⟨s,n,rfl,_⟩:=h
  rfl
 obtain⟨s',n,rfl,hl,h1,h2,h3⟩:=h
 refine Vf ?_
 intro Xz
 refine⟨_,(Z1 (Zu (Zd Y2 (pv 0) Zq (Zh _)) (Z4 (Zk (pv 0))) Zi)
  (Z1 (Zu (PW.pt (Z5s (Zd Y2 (pv 0) Zq (Zh _)) (Z1x (Zd Z37 (pv 0) (Xl (v:=.str _) rfl Z1o ⟨_,rfl⟩) (by with_unfolding_all rfl))))) (Z4 (Tx LX rfl XC_NoForm rfl (Z0 Zq Z3))) Zi)
  (Z1 (pS 2 sc_marked_piece.nd (Ut Z3d rfl T.b_int PyProof.Rows.Boot.«int» (Z0 (pv 0) Z3)))
  (Z1 (Zu (Zd Zca (pv 2) (pv 1) (Zh _)) (Z4 (Tx LX rfl XC_NoForm rfl (Z0 Zq Z3))) Zi)
  (Z4 (Zk (pv 2))))))),?_⟩
 refine Zfu ?_
 intro Ez Az1 Az2 Az3 Az4 Az5 Az6 Az7
 refine Z6 rfl ⟨rfl,Z6 rfl (Wq (fun c=>?_) (fun c=>?_))⟩
 ·have e:s'="$":=by have z:=of_decide_eq_true c;injection z
  subst e
  exact Z6 rfl (h1 rfl)
 have nd:¬s'="$":=fun e=>c (decide_eq_true (by rw[e]))
 refine Z6 rfl ⟨rfl,Z6 rfl (Wq (fun c1=>Z0g ?_) (fun c1=>?_))⟩
 ·have e:s'="":=by have z:=of_decide_eq_true c1;injection z
  refine⟨sz,h3 nd fun k hk=>?_⟩
  rw[e,show Zel ("":Str)=none by decide +kernel]at hk
  cases hk
 have h1l:s'.length=1:=by
  have:¬s'.length=0:=fun z=>c1 (decide_eq_true (by rw[Zjk z]))
  omega
 have hd:=Zgr h1l
 refine Z6 rfl ⟨_,_,rfl,rfl,Z6 rfl (Wq (fun c2=>?_) (fun c2=>?_))⟩
 ·refine⟨sz,h3 nd fun k hk=>?_⟩
  rw[hd,hk]at c2
  cases c2
 rw[hd]at c2
 cases hk:Zel s' with
 |none=>rw[hk]at c2;exact absurd rfl c2
 |some k =>
  obtain⟨hi,_,hk9⟩:=Zeb hk
  refine Z6 rfl ⟨s',k,rfl,hi,by omega,?_⟩
  refine Z6 rfl (Z6 rfl (Wc rfl rfl (Z6 rfl (Wq (fun c3=>?_) (fun c3=>?_)))))
  ·have:(n:Int)<(k:Int):=of_decide_eq_true c3
   exact⟨sz,h3 nd fun j hj=>by rw[hk]at hj;cases hj;omega⟩
  ·have:¬(n:Int)<(k:Int):=fun z=>c3 (decide_eq_true z)
   exact Z6 rfl (h2 k nd hk (by omega))
inductive spFormI(CN:Addr)(vs:List V)(H:Hp)(Q:VK)(E:XK):Prop
 |mk (fm:Str) (n:Nat) (_:vs=[.str fm,.int n]) (_:fm.length<=100) (_:∀ps,pz fm n 0=some ps->∀(l:Addr) (H':Hp),H' l=some (.lst (ps.map Zhd))->H l=none->Gro [] H H'->Q (.ref l) H') (_:pz fm n 0=none->∀H',Gro [] H H'->E (.ref CN) none H')
def Z75(CN:Addr):Sp:=fun vs H Q E=>spFormI CN vs H Q E
abbrev W5:Stmt:=top 53
theorem sc_form_pieces:FnScope ["form","groups","pieces","place"] ["form","groups"] (Z9 W5):=Vh
theorem Zdq(T:Blt mg)(O_marked_piece:OwnX P w K mg base 1 "marked_piece" ["sign","groups"] (Z72 CN))(F:Fun K "form_pieces" "form_pieces" W5 f fd):FnOk P w K mg base (Z60 P w) 2 f fd ["form","groups"] (Z75 CN):=by
 refine F.okX sc_form_pieces (fun vs H Q E h=>?_) (fun cdv A outer s H vs Q E hr h LX=>?_)
 ·obtain⟨fm,n,rfl,_⟩:=h
  rfl
 obtain⟨fm,n,rfl,hf,q1,q2⟩:=h
 refine Vf ?_
 intro Xz
 refine⟨_,(Z1 (pS 2 sc_form_pieces.nd (Wt Z3))
  (Z1 (pS 3 sc_form_pieces.nd Z7)
  (Z1 (Tw LeaveX.own (Zd Z5v (pv 3) (Ze X7 rfl T.b_len PyProof.Rows.Boot.«len» (Z0 (pv 0) Z3)) (Zh _)) (Z4 (Zu (Zd Y2 (Zl Z20 (pv 0) (pv 3) (fun _ _=>rfl)) Zq (Zh _)) (Z1 (Zf (Yt PySem.F.plainAttrs_list PySem.F.slot_list_append PySem.F.type_list_append Zy (pv 2) (Z0 (Vg LX.pass (O_marked_piece.mono (by omega)) hr rfl (Z0 (Y5 Wf (pv 0) (Y3 (Y7 Yv (pv 3) Z7)) (Y3 (Y7 Yv (pv 3) Z7))) (Z0 (pv 1) Z3))) Z3)))
  (Z4 (Zbn (i:=3) sc_form_pieces.nd rfl (by first | exact Or.inl rfl | exact Or.inr rfl) Z7 Zbv))) (Z1 (Zf (Yt PySem.F.plainAttrs_list PySem.F.slot_list_append PySem.F.type_list_append Zy (pv 2) (Z0 (Zl Z20 (pv 0) (pv 3) (fun _ _=>rfl)) Z3)))
  (Z4 (Zbn (i:=3) sc_form_pieces.nd rfl (by first | exact Or.inl rfl | exact Or.inr rfl) Z7 Zbv))))))
  (Z4 (Zk (pv 2)))))),?_⟩
 refine Zft ?_
 intro Ez Az1 Az2 Az3 Az4 Az5 Az6 Az7 Az8
 refine⟨sz,fun l hl=>?_⟩
 have g1:=Gro.new (S:=[]) hl (.lst [])
 have hl1:(Zr H l (.lst [])) l=some (.lst []):=Z5
 generalize Zr H l (.lst [])=H1 at *
 have gro:∀H',Gro [l] H1 H'->Gro [] H H':=fun H' g2=>⟨fun a o h _=>g2.keep a o (g1.keep a o h (by simp)) (by simpa using Za h hl),fun a zs h=>g2.tups _ _ (g1.tups _ _ h)⟩
 refine⟨fun μ σ H'=>∃(p:Nat) (ps:List Pc),σ=[some (.str fm),some (.int n),some (.ref l),some (.int p)]/\H' l=some (.lst (ps.map Zhd))/\(pz fm n p).map (ps ++ ·)=pz fm n 0/\ps.length<=p/\p<=fm.length+1/\Gro [l] H1 H'/\μ=fm.length+2-p,⟨_,0,[],rfl,hl1,by simp,Nat.le_refl _,Nat.zero_le _,Gro.refl,rfl⟩,?_⟩
 rintro μ σ H' ⟨p,ps,rfl,hl',hpz,hpl,hple,g,rfl⟩
 refine Z6 rfl (Z6 rfl ⟨fm,rfl,Yc (by omega),Wc rfl rfl (Z6 rfl (Wq (fun c=>?yes0) (fun c=>?no0)))⟩)
 case no0 =>
  have hc:¬p<fm.length:=fun z=>c (decide_eq_true (by omega))
  rw[Z4f hc]at hpz
  have e:pz fm n 0=some ps:=by rw[← hpz];simp
  exact Z6 rfl (q1 ps e l H' hl' hl (gro H' g))
 have hp:p<fm.length:=by have:=of_decide_eq_true c;omega
 have hch:=Zc0 (t:=fm) (i:=(p:Int)) (by omega) (by omega)
 have ech:(⟨#[fm.cps.toList.getD (p:Int).toNat 0]⟩:Str)=Jy fm p:=by rw[Int.toNat_natCast];rfl
 refine⟨_,fun _ _ q'=>q',?_⟩
 refine Z6 rfl (Z6 rfl ⟨fm,_,_,rfl,rfl,Yc (by omega),hch,rfl,Z6 rfl (Wq (fun c1=>?_) (fun c1=>?_))⟩)
 ·have hd:Jy fm p="$":=by have z:=of_decide_eq_true c1;injection z
  have hs:Txt.slice fm (some ((p:Int)+1)) (some ((p:Int)+2))=Zco fm p:=by
   rw[show(p:Int)+1=((p+1:Nat):Int) by omega,show(p:Int)+2=((p+2:Nat):Int) by omega,Xq (by omega) (by omega)]
   rfl
  refine Z6 rfl ⟨.inl ⟨rfl,_,SqL.of hl'⟩,Z6 rfl (Z6 rfl (Wc rfl rfl ⟨_,rfl,Z6 rfl (Wc rfl rfl ⟨_,rfl,fm,rfl,Yc (by omega),Z6 rfl ⟨Zco fm p,n,congrArg (fun z=>[V.str z,V.int n]) hs,Zct fm p,fun e=>?_,fun k e1 e2 e3=>?_,fun e1 e2=>?_⟩⟩)⟩))⟩
  ·refine⟨l,_,_,rfl,rfl,hl',Xp (by rw[List.length_map];omega),Z6 rfl (Wc rfl rfl ⟨_,?_,p+2,ps++[.tx "$"],rfl,by rw[Z5,← Jp];rfl,?_,by simp;omega,by omega,g.trans (Gro.set (by simp) hl' _),rfl⟩)⟩
   ·omega
   ·rw[← hpz,Jm hp (Zgk hd e),Z1k]
  ·refine⟨l,_,_,rfl,rfl,hl',Xp (by rw[List.length_map];omega),Z6 rfl (Wc rfl rfl ⟨_,?_,p+2,ps++[.nm k],rfl,by rw[Z5,← Jp];rfl,?_,by simp;omega,by omega,g.trans (Gro.set (by simp) hl' _),rfl⟩)⟩
   ·omega
   ·rw[← hpz,Z4d hp (Zbu hd e1 e2 e3),Z1k]
  ·have hb:kd fm n p=.bad:=by
    cases hk:Zel (Zco fm p) with
    |none=>exact Ze2 hd e1 hk
    |some k=>exact Ze1 hd e1 hk (e2 k hk)
   rw[Z79 hp hb]at hpz
   exact q2 hpz.symm H' (gro H' g)
 ·have hd:¬Jy fm p="$":=fun z=>c1 (decide_eq_true (by rw[ech,z]))
  refine Z6 rfl ⟨.inl ⟨rfl,_,SqL.of hl'⟩,Z6 rfl (Z6 rfl ⟨fm,_,_,rfl,rfl,Yc (by omega),hch,?_⟩)⟩
  refine⟨l,_,_,rfl,rfl,hl',Xp (by rw[List.length_map];omega),Z6 rfl (Wc rfl rfl ⟨_,?_,p+1,ps++[.tx (Jy fm p)],rfl,by rw[Z5,← Jp];rfl,?_,by simp;omega,by omega,g.trans (Gro.set (by simp) hl' _),rfl⟩)⟩
  ·omega
  ·rw[← hpz,J7 hp (Z7d hd),Z1k]
inductive spTknI(vs:List V)(H:Hp)(Q:VK):Prop
 |mk (t:Str) (a:Addr) (x:Nat×W7) (k:Nat) (_:vs=[.int k,.str t,.ref a]) (_:Zbd H (.ref a) x) (_:t.length<=1000) (_:k<=x.2.2.length) (_:x.2.2.length<=900) (_:Q (.str (Zih t x (.nm k))) H)
def Zc5:Sp:=fun vs H Q _=>spTknI vs H Q
abbrev Wr:Stmt:=top 56
theorem sc_taken_text:FnScope ["number","text","find","entry"] ["number","text","find"] (Z9 Wr):=Vh
theorem Zg6(F:Fun K "taken_text" "taken_text" Wr f fd):FnOk P w K mg base Wp 1 f fd ["number","text","find"] Zc5:=by
 refine F.ok sc_taken_text (fun vs H Q E h=>?_) (fun cdv A outer s H vs Q E hr h=>?_)
 ·obtain⟨t,a,x,k,rfl,_⟩:=h
  rfl
 obtain⟨t,a,x,k,rfl,hx,ht,hk,hn,q⟩:=h
 obtain⟨a',gv,e,ha,ga,es,rfl,hga,hes⟩:=hx
 cases e
 refine Vf ?_
 intro Xz
 refine⟨_,(Z1 (Zu (Zd Y2 (pv 0) Z7 (Zh _)) (Z4 (Zk (Y5 Wf (pv 1) (Y3 (Zl Zg (pv 2) Z7 (fun _ _=>rfl))) (Y3 (Zl Zg (pv 2) Z7 (fun _ _=>rfl)))))) Zi)
  (Z1 (pS 3 sc_taken_text.nd (Zl Zg (Zl Zg (pv 2) Z7 (fun _ _=>rfl)) (Y7 Vk (pv 0) Z7) (fun _ _=>rfl)))
  (Z4 (Zk (Xi (Ta (Ux (pv 3))) Zq (Y5 Wf (pv 1) (Y3 (Zl Zg (pv 3) Z7 (fun _ _=>rfl))) (Y3 (Zl Zg (pv 3) Z7 (fun _ _=>rfl))))))))),?_⟩
 refine Zfo ?_
 intro Ez Az1 Az2 Az3
 cases k with
 |zero =>
  refine(Z6 rfl ⟨rfl,Z6 rfl (Zj (by decide) ?_)⟩)
  exact Z6 rfl (Wo ha Z0p (Z6 rfl (Wo ha rfl (Z6 rfl (Z6 rfl ⟨Yc ht,q⟩)))))
 |succ j =>
  refine(Z6 rfl ⟨rfl,Z6 rfl (Zb (fun z=>by have z':=of_decide_eq_true z;injection z';omega) ?_)⟩)
  have hl:=Paired.length hes
  have hj:j<es.length:=by omega
  obtain⟨en,hen,hv⟩:=Y9 hes (List.getElem?_eq_getElem hj)
  have eix:Z7f es (((j+1:Nat):Int)-1)=some es[j]:=by
   rw[show((j+1:Nat):Int)-1=((j:Nat):Int) by omega]
   exact Wh (List.getElem?_eq_getElem hj)
  have ed:x.2.2.getD j none=en:=by rw[List.getD_eq_getElem?_getD,hen];rfl
  refine Wo ha rfl (Z6 rfl (Wc rfl rfl ⟨ga,es,_,_,rfl,rfl,SqT.of hga,eix,?_⟩))
  have q':Q (.str (Zk4 t en)) H:=by
   rw[← ed]
   exact q
  cases en with
  |none =>
   have e0:es[j]=V.non:=hv
   rw[e0]
   exact Z6 rfl (Z6 rfl (Zj (by decide) q'))
  |some p =>
   obtain⟨pa,e0,hpa⟩:=hv
   rw[e0]
   exact Z6 rfl (Z6 rfl (Zb (by intro z;have z':=of_decide_eq_true z;cases z') (Z6 rfl (Wo hpa Z0p (Z6 rfl (Wo hpa rfl (Z6 rfl (Z6 rfl ⟨Yc ht,q'⟩))))))))
inductive spFillI(vs:List V)(H:Hp)(Q:VK):Prop
 |mk (ps:List Pc) (n:Nat) (t:Str) (l a:Addr) (x:Nat×W7) (_:vs=[.ref l,.str t,.ref a]) (_:H l=some (.lst (ps.map Zhd))) (_:PcOk n 100 ps) (_:x.2.2.length=n) (_:n<=9) (_:Zbd H (.ref a) x) (_:t.length<=200) (_:∀H',Gro [] H H'->Q (.str (Zcp t x ps)) H')
def Z76:Sp:=fun vs H Q _=>spFillI vs H Q
abbrev Uc:Stmt:=top 55
theorem Z8t:FnScope ["pieces","text","find"] ["pieces","text","find"] (Z9 Uc):=Vh
theorem Zdr(T:Blt mg)(O_taken_text:Own P w K mg base 1 "taken_text" ["number","text","find"] Zc5)(F:Fun K "filled" "filled" Uc f fd):FnOk P w K mg base Wp 2 f fd ["pieces","text","find"] Z76:=by
 refine F.ok Z8t (fun vs H Q E h=>?_) (fun cdv A outer s H vs Q E hr h=>?_)
 ·obtain⟨ps,n,t,l,a,x,rfl,_⟩:=h
  rfl
 obtain⟨ps,n,t,l,a,x,rfl,hl,ok,hxn,hn,hx,ht,q⟩:=h
 refine Vf ?_
 intro Xz
 refine⟨_,(Z4 (Zk (Yt PySem.F.plainAttrs_str PySem.F.slot_str_join PySem.F.type_str_join Z3v Zq (Z0 (J0 rfl (show CScope _ ["pieces","text","find"] (Z9 Uc) _ from⟨rfl,by decide +kernel,rfl,by decide +kernel,by decide +kernel,by decide +kernel,by decide +kernel⟩) (Z3p (pv 0)) (fun _ _ _ _=>Z3o) (fun _ _ _ _=>(Xi (Yh (Ze (Zs (T:="str") (Yk (by simp))) rfl T.b_isinstance PyProof.Rows.Boot.«isinstance» (Z0 (pv 0) (Z0 (Y8 (v:=.ty "str") rfl T.b_str PyProof.Rows.Boot.«str» rfl) Z3)))) (pv 0) (Zv (O_taken_text.mono (by omega)) hr rfl (Z0 (pv 0) (Z0 (pv 2) (Z0 (pv 3) Z3))))))) Z3)))),?_⟩
 have hpl:=ok.len
 refine⟨rfl,Z6 rfl ⟨l,rfl,⟨_,SqL.of hl⟩,?_⟩⟩
 have e0:("":Str).length=0:=rfl
 refine Ze0 (xs:=ps.map Zhd) (fun i ys H'=>ys=((ps.take i).map (Zih t x)).map V.str/\H'=H) ⟨rfl,rfl⟩ (Xp (by rw[List.length_map];omega)) (fun i ys H' ⟨e,_⟩=>by rw[e,List.length_map,List.length_map,List.length_take];exact Nat.min_le_left _ _) (fun i ys H' ⟨_,e⟩=>by rw[e];exact SqL.of hl) ?_ ?_
 ·rintro i ys H' v hv ⟨rfl,rfl⟩
  rw[List.getElem?_map]at hv
  obtain⟨c,hc,rfl⟩:=Option.map_eq_some_iff.mp hv
  rw[Xo hc,List.map_append,List.map_append]
  cases c with
  |tx s'=>exact Z6 rfl ⟨_,_,rfl,rfl,Z6 rfl (Zj (by decide) (Z6 rfl ⟨rfl,rfl⟩))⟩
  |nm k=>exact Z6 rfl ⟨_,_,rfl,rfl,Z6 rfl (Zb (by decide) (Z6 rfl (Z6 rfl (Z6 rfl ⟨t,a,x,k,rfl,hx,by omega,by rw[hxn];exact ok.num k (List.mem_of_getElem? hc),by omega,rfl,rfl⟩))))⟩
 ·rintro ys H' ⟨rfl,rfl⟩ l2 hl2
  rw[List.length_map,List.take_length]
  have hs:=Z3i (Z2q (x:=x) ok ht)
  rw[List.length_map]at hs
  exact⟨_,l2,ps.map (Zih t x),rfl,rfl,SqL.of Z5,by rw[e0];exact Zju (by omega),q _ (Gro.new hl2 _)⟩
inductive spAroundI(vs:List V)(H:Hp)(Q:VK):Prop
 |mk (t:Str) (l:Addr) (us:List V) (xs:List (Nat×W7)) (_:vs=[.str t,.ref l]) (_:H l=some (.lst us)) (_:Paired (Zbd H) us xs) (_:t.length<=1000) (_:us.length<=300) (_:∀(r:Addr) (H':Hp),H' r=some (.lst ((tx t 0 xs).map V.str))->H r=none->Gro [] H H'->Q (.ref r) H')
def Tk:Sp:=fun vs H Q _=>spAroundI vs H Q
abbrev Xt:Stmt:=top 52
theorem sc_texts_around:FnScope ["text","finds","texts","end","find"] ["text","finds"] (Z9 Xt):=Vh
theorem Z9a(F:Fun K "texts_around" "texts_around" Xt f fd):FnOk P w K mg base Wp 1 f fd ["text","finds"] Tk:=by
 refine F.ok sc_texts_around (fun vs H Q E h=>?_) (fun cdv A outer s H vs Q E hr h=>?_)
 ·obtain⟨t,l,us,xs,rfl,_⟩:=h
  rfl
 obtain⟨t,l,us,xs,rfl,hl,hu,ht,hul,q⟩:=h
 refine Vf ?_
 intro Xz
 refine⟨_,(Z1 (pS 2 sc_texts_around.nd (Wt Z3))
  (Z1 (pS 3 sc_texts_around.nd Z7)
  (Z1 (U4 PassesOwn.never rfl (Z3p (pv 1)) (pN 4 sc_texts_around.nd) (Z1 (Zf (Yt PySem.F.plainAttrs_list PySem.F.slot_list_append PySem.F.type_list_append Zy (pv 2) (Z0 (Y5 Wf (pv 0) (Y3 (pv 3)) (Y3 (Zl Zg (pv 4) Z7 (fun _ _=>rfl)))) Z3)))
  (Z4 (pS 3 sc_texts_around.nd (Zl Zg (pv 4) Z7 (fun _ _=>rfl))))))
  (Z1 (Zf (Yt PySem.F.plainAttrs_list PySem.F.slot_list_append PySem.F.type_list_append Zy (pv 2) (Z0 (Y5 Wf (pv 0) (Y3 (pv 3)) Yy) Z3)))
  (Z4 (Zk (pv 2))))))),?_⟩
 refine Zfm ?_
 intro Ez Az1 Az2 Az3 Az4 Az5 Az6
 refine⟨sz,fun r hr0=>?_⟩
 have g1:=Gro.new (S:=[]) hr0 (.lst [])
 have hl1:=g1.keep _ _ hl (by simp)
 have hu1:=W0 g1.tups hu
 have hr1:(Zr H r (.lst [])) r=some (.lst []):=Z5
 have lr:l≠r:=Za hl hr0
 generalize Zr H r (.lst [])=H1 at *
 have hel:=Paired.length hu
 refine(Z6 rfl ⟨l,rfl,⟨us,SqL.of hl1⟩,?_⟩)
 refine Z5i (xs:=us) (fun k σ H'=>∃(e:Int) (ys:List Str) (u:Option V),σ=[some (.str t),some (.ref l),some (.ref r),some (.int e),u]/\H' r=some (.lst (ys.map V.str))/\ys.length=k/\tx t 0 xs=ys++tx t e (xs.drop k)/\Gro [r] H1 H')
  ⟨0,[],none,rfl,hr1,rfl,rfl,Gro.refl⟩ (fun k σ H' _ hh=>by obtain⟨_,_,_,_,_,_,_,g⟩:=hh;exact SqL.of (g.keep _ _ hl1 (by simpa using lr))) ?_ ?_
 ·rintro k v σ H2 hv ⟨e,ys,u,rfl,hr2,hyl,htx,g2⟩
  obtain⟨x,hx,hF⟩:=Y9 (W0 g2.tups hu1) hv
  obtain⟨a,gv,rfl,ha,_⟩:=hF
  have hk:k<us.length:=(List.getElem?_eq_some_iff.mp hv).1
  refine(Z6 rfl ⟨.inl ⟨rfl,_,SqL.of hr2⟩,Z6 rfl (Z6 rfl (Z6 rfl (Wo ha Z0p (Z6 rfl (Z6 rfl ⟨Yc ht,r,_,_,rfl,rfl,hr2,Nat.lt_of_lt_of_le (by rw[List.length_map];omega) (Yc (Nat.le_refl 1000)),?_⟩)))))⟩)
  have g3:Gro [r] H2 _:=Gro.set (by simp) hr2 (.lst (ys.map V.str++[.str (Txt.slice t (some e) (some (x.1:Int)))]))
  exact Wo (g3.tups _ _ ha) rfl ⟨_,ys++[Txt.slice t (some e) (some (x.1:Int))],_,rfl,by rw[Z5,J1],by rw[List.length_append,hyl];rfl,Zcs htx hx,g2.trans g3⟩
 ·rintro σ H2 ⟨e,ys,u,rfl,hr2,hyl,htx,g2⟩
  refine(Z6 rfl ⟨.inl ⟨rfl,_,SqL.of hr2⟩,Z6 rfl (Z6 rfl (Z6 rfl (Z6 rfl ⟨Yc ht,r,_,_,rfl,rfl,hr2,Nat.lt_of_lt_of_le (by rw[List.length_map];omega) (Yc (Nat.le_refl 1000)),?_⟩)))⟩)
  have g3:Gro [r] H2 _:=Gro.set (by simp) hr2 (.lst (ys.map V.str++[.str (Txt.slice t (some e) none)]))
  have gg:=g2.trans g3
  refine Z6 rfl (q r _ ?_ hr0 ⟨fun a o h _=>gg.keep a o (g1.keep a o h (by simp)) (by simpa using Za h hr0),fun a zs h=>gg.tups _ _ (g1.tups _ _ h)⟩)
  rw[Z5,J1,← Zf2 htx (by omega)]
theorem Zb4{H H':Hp}{l:Addr}(g:Gro [] H H')(h:H' l=none):H l=none:=by
 cases e:H l with
 |none=>rfl
 |some o=>rw[g.keep _ _ e (by simp)]at h;cases h
inductive spReplXI(CO:Addr)(vs:List V)(H:Hp)(Q:VK)(E:XK):Prop
 |mk (v:V) (t fm:Str) (n c:Nat) (L:Int) (p:Pat) (ps:List Pc) (xs:List (Nat×W7)) (_:vs=[v,.str t,.str fm,.int L]) (_:0<=L) (_:PatAt H 8 v p) (_:p.groups=n) (_:fm.length<=12) (_:pz fm n 0=some ps) (_:p.size<=20000) (_:Tj ((Yu p).map Op.rw)=n) (_:n<=9) (_:t.length<=200) (_:FdsC t n p 0 xs c)
  (_:(c:Int)<=L->∀H':Hp,Gro [] H H'->Q (.str (Z5z t 0 xs++gF t ps xs)) H') (_:L<(c:Int)->∀H':Hp,Gro [] H H'->E (.ref CO) none H')
def Z3k(CO:Addr):Sp:=fun vs H Q E=>spReplXI CO vs H Q E
abbrev Vp:Stmt:=top 51
theorem sc_replaced:FnScope ["pattern","text","form","most","pieces","finds","around","made","find","behind"] ["pattern","text","form","most"] (Z9 Vp):=Vh
theorem Zai{CO:Addr}(T:Blt mg)(Zcd:mg "zip" = none)(O_form_pieces:OwnX P w K mg base 2 "form_pieces" ["form","groups"] (Z75 CN))(O_groups_in:Own P w K mg base 10 "groups_in" ["pattern"] (Zio 8))(O_all_finds:OwnX P w K mg base 30 "all_finds" ["pattern","text","most"] (Z1s CO))(O_texts_around:Own P w K mg base 1 "texts_around" ["text","finds"] Tk)(O_filled:Own P w K mg base 2 "filled" ["pieces","text","find"] Z76)
  (F:Fun K "replaced" "replaced" Vp f fd):FnOk P w K mg base (Z60 P w) 31 f fd ["pattern","text","form","most"] (Z3k CO):=by
 refine F.okX sc_replaced (fun vs H Q E h=>?_) (fun cdv A outer s H vs Q E hr h LX=>?_)
 ·obtain⟨v,t,fm,n,c,L,p,ps,xs,rfl,_⟩:=h
  rfl
 obtain⟨v,t,fm,n,c,L,p,ps,xs,rfl,hL0,hp,hgr,hfm,hps,hz,hcnt,hn,ht,hF,q,qx⟩:=h
 have hxn:=hF.good
 refine Vf ?_
 intro Xz
 refine⟨_,(Z1 (pS 4 sc_replaced.nd (Vg LX.pass (O_form_pieces.mono (by omega)) hr rfl (Z0 (pv 2) (Z0 (Zv (O_groups_in.mono (by omega)) hr rfl (Z0 (pv 0) Z3)) Z3))))
  (Z1 (pS 5 sc_replaced.nd (Vg LX.pass (O_all_finds.mono (by omega)) hr rfl (Z0 (pv 0) (Z0 (pv 1) (Z0 (pv 3) Z3)))))
  (Z1 (pS 6 sc_replaced.nd (Zv (O_texts_around.mono (by omega)) hr rfl (Z0 (pv 1) (Z0 (pv 5) Z3))))
  (Z1 (pS 7 sc_replaced.nd (Wt (Z0 (Zl Vz (pv 6) Z7 (fun _ _=>rfl)) Z3)))
  (Z1 (U4 LeaveX.own rfl (Zg1 rfl Zcd (Z0 (pv 5) (Z0 (Y5 Z7m (pv 6) (Y3 Z7) Yy) Z3))) (Zbo rfl (Ty (pN 8 sc_replaced.nd) (Ty (pN 9 sc_replaced.nd) Z7s))) (Z1 (Zf (Yt PySem.F.plainAttrs_list PySem.F.slot_list_append PySem.F.type_list_append Zy (pv 7) (Z0 (Zv (O_filled.mono (by omega)) hr rfl (Z0 (pv 4) (Z0 (pv 1) (Z0 (pv 8) Z3)))) Z3)))
  (Z4 (Zf (Yt PySem.F.plainAttrs_list PySem.F.slot_list_append PySem.F.type_list_append Zy (pv 7) (Z0 (pv 9) Z3))))))
  (Z4 (Zk (Yt PySem.F.plainAttrs_str PySem.F.slot_str_join PySem.F.type_str_join Z3v Zq (Z0 (pv 7) Z3))))))))),?_⟩
 refine Zfs ?_
 intro Ez Az1 Az2 Az3 Az4 Az5 Az6 Az7
 refine(Z6 rfl (Z6 rfl ⟨v,p,rfl,hp,fun H1 g1=>?_⟩))
 refine⟨fm,n,by rw[hgr];rfl,by omega,fun ps' hps' lp H2 hlp hn2 g2=>?_,fun hb H2 g2=>absurd (hb.symm.trans hps) (by simp)⟩
 rw[hps]at hps'
 cases hps'
 have ok:=Zht hps
 have ok100:PcOk n 100 ps:=⟨Nat.le_trans ok.len (by omega),ok.num,ok.txt⟩
 have g12:=g1.trans g2
 refine(Z6 rfl (Z6 rfl (Z6 rfl ⟨v,t,n,c,L,p,xs,rfl,hL0,hp.mono g12.tups,hz,hcnt,hn,ht,hF,fun hc l us H3 hl hu hxl hln g3=>?_,fun hc H3 g3=>qx hc H3 (g12.trans g3)⟩)))
 have hlp3:=g3.keep _ _ hlp (by simp)
 have hel:=Paired.length hu
 refine(Z6 rfl (Z6 rfl ⟨t,l,us,xs,rfl,hl,hu,by omega,by omega,fun r H4 hr4 hrn g4=>?_⟩))
 have hlp4:=g4.keep _ _ hlp3 (by simp)
 have hl4:=g4.keep _ _ hl (by simp)
 have hu4:=W0 g4.tups hu
 obtain⟨r0,hr0⟩:=Zeq t 0 xs
 have hr4':H4 r=some (.lst (.str (Z5z t 0 xs)::r0.map V.str)):=by rw[hr4,hr0];rfl
 refine(Zj0 hr4' Z0p ⟨sz,fun md hmd=>?_⟩)
 have g5:=Gro.new (S:=[]) hmd (.lst [.str (Z5z t 0 xs)])
 have hmd5:(Zr H4 md (.lst [.str (Z5z t 0 xs)])) md=some (.lst ([Z5z t 0 xs].map V.str)):=Z5
 have hlp5:=g5.keep _ _ hlp4 (by simp)
 have hl5:=g5.keep _ _ hl4 (by simp)
 have hu5:=W0 g5.tups hu4
 have hr5:=g5.keep _ _ hr4' (by simp)
 have n1:lp≠md:=Za hlp4 hmd
 have n2:l≠md:=Za hl4 hmd
 have g15:Gro [] H (Zr H4 md (.lst [.str (Z5z t 0 xs)])):=((g12.trans g3).trans g4).trans g5
 have hmn:H md=none:=Zb4 ((g12.trans g3).trans g4) hmd
 generalize Zr H4 md (.lst [.str (Z5z t 0 xs)])=H5 at *
 refine(Z6 rfl (Z6 rfl (Z6 rfl ⟨r,_,rfl,SqL.of hr5,fun sl hsl=>?_⟩)))
 rw[cut1]
 have g6:=Gro.new (S:=[]) hsl (.lst (r0.map V.str))
 have hs6:(Zr H5 sl (.lst (r0.map V.str))) sl=some (.lst (r0.map V.str)):=Z5
 have hlp6:=g6.keep _ _ hlp5 (by simp)
 have hl6:=g6.keep _ _ hl5 (by simp)
 have hu6:=W0 g6.tups hu5
 have hmd6:=g6.keep _ _ hmd5 (by simp)
 have n3:sl≠md:=Ne.symm (Za hmd5 hsl)
 have g16:=g15.trans g6
 generalize Zr H5 sl (.lst (r0.map V.str))=H6 at *
 have hr0l:r0.length=xs.length:=by
  have:=Zbf t xs 0
  rw[hr0]at this
  simpa using this
 have hdl:∀m∈tx t 0 xs,m.length<=2400:=fun m hm=>Nat.le_trans (Z50 t xs 0 m hm) (by omega)
 refine⟨l,sl,rfl,⟨_,SqL.of hl6⟩,⟨_,SqL.of hs6⟩,?_⟩
 refine Ze7 (xs:=us) (ys:=r0.map V.str) (fun k σ H'=>∃(ms:List Str) (u8 u9:Option V),σ=[some v,some (.str t),some (.str fm),some (.int L),some (.ref lp),some (.ref l),some (.ref r),some (.ref md),u8,u9]/\H' md=some (.lst (ms.map V.str))/\ms.length=2*k+1/\(∀m∈ms,m.length<=2400)/\Txt.join "" ms++gF t ps (xs.drop k)=Z5z t 0 xs++gF t ps xs/\Gro [md] H6 H')
  ⟨[Z5z t 0 xs],none,none,rfl,hmd6,rfl,fun m hm=>hdl m (by rw[hr0];simp at hm;simp[hm]),?_,Gro.refl⟩ (fun k σ H' _ hh=>by obtain⟨_,_,_,_,_,_,_,_,g⟩:=hh;exact⟨SqL.of (g.keep _ _ hl6 (by simpa using n2)),SqL.of (g.keep _ _ hs6 (by simpa using n3))⟩) (by rw[List.length_map];omega) ?_ ?_
 ·rfl
 ·rintro k x y σ H7 pr hx hy ⟨ms,u8,u9,rfl,hm7,hml,hms,hMd,g7⟩ hpr
  obtain⟨x9,hx9,hF9⟩:=Y9 (W0 g7.tups hu6) hx
  have ey:y=.str (Z5z t x9.2.1 (xs.drop (k+1))):=by
   have h1:=Zc3 (t:=t) (e:=0) hx9
   rw[hr0,List.getElem?_cons_succ]at h1
   rw[List.getElem?_map,h1]at hy
   simpa using hy.symm
  subst ey
  have hk:k<us.length:=(List.getElem?_eq_some_iff.mp hx).1
  have g8:=Gro.new (S:=[]) hpr (.tup [x,.str (Z5z t x9.2.1 (xs.drop (k+1)))])
  have hm8:=g8.keep _ _ hm7 (by simp)
  have hlp8:=g8.keep _ _ (g7.keep _ _ hlp6 (by simpa using n1)) (by simp)
  have hF8:=FnA.mono (r:=some x9) g8.tups hF9
  obtain⟨a9,gv9,rfl,_⟩:=id hF9
  have hpr8:(Zr H7 pr (.tup [.ref a9,.str (Z5z t x9.2.1 (xs.drop (k+1)))])) pr=some (.tup [.ref a9,.str (Z5z t x9.2.1 (xs.drop (k+1)))]):=Z5
  generalize Zr H7 pr (.tup [.ref a9,.str (Z5z t x9.2.1 (xs.drop (k+1)))])=H8 at *
  refine⟨pr,_,rfl,SqT.of hpr8,rfl,_,_,rfl,_,_,rfl,rfl,?_⟩
  refine(Z6 rfl ⟨.inl ⟨rfl,_,SqL.of hm8⟩,Z6 rfl (Z6 rfl (Z6 rfl ⟨ps,n,t,lp,a9,x9,rfl,hlp8,ok100,hxn x9 (List.mem_of_getElem? hx9),hn,hF8,ht,fun H9 g9=>?_⟩))⟩)
  have hm9:=g9.keep _ _ hm8 (by simp)
  refine⟨md,_,_,rfl,rfl,hm9,Nat.lt_of_lt_of_le (by rw[List.length_map];omega) (Yc (Nat.le_refl 1000)),?_⟩
  have gA:Gro [md] H9 _:=Gro.set (by simp) hm9 (.lst (ms.map V.str++[.str (Zcp t x9 ps)]))
  have hmA:(Zr H9 md (.lst (ms.map V.str++[.str (Zcp t x9 ps)]))) md=some (.lst ((ms++[Zcp t x9 ps]).map V.str)):=by rw[Z5,J1]
  generalize Zr H9 md (.lst (ms.map V.str++[.str (Zcp t x9 ps)]))=HA at *
  refine(Z6 rfl ⟨.inl ⟨rfl,_,SqL.of hmA⟩,Z6 rfl ⟨md,_,_,rfl,rfl,hmA,Nat.lt_of_lt_of_le (by rw[List.length_map,List.length_append];show ms.length+1<_;omega) (Yc (Nat.le_refl 1000)),?_⟩⟩)
  have gB:Gro [md] HA _:=Gro.set (by simp) hmA (.lst ((ms++[Zcp t x9 ps]).map V.str++[.str (Z5z t x9.2.1 (xs.drop (k+1)))]))
  refine⟨(ms++[Zcp t x9 ps])++[Z5z t x9.2.1 (xs.drop (k+1))],_,_,rfl,by rw[Z5,J1],by rw[List.length_append,List.length_append];show ms.length+1+1=_;omega,fun m hm=>?_,by rw[V4,V4];exact Ze5 hMd hx9,g7.trans ((g8.mono (by simp)).trans ((g9.mono (by simp)).trans (gA.trans gB)))⟩
  rcases List.mem_append.mp hm with hm | hm
  ·rcases List.mem_append.mp hm with hm | hm
   ·exact hms m hm
   ·rw[List.mem_singleton.mp hm]
    exact Nat.le_trans (Ze8 ok ht) (by omega)
  ·rw[List.mem_singleton.mp hm]
   exact hdl _ (List.mem_of_getElem? (Zc3 (t:=t) (e:=0) hx9))
 ·rintro σ H7 ⟨ms,u8,u9,rfl,hm7,hml,hms,hMd,g7⟩
  have e0:("":Str).length=0:=rfl
  have hsum:=Z7i hms
  rw[hel]at hMd
  refine⟨rfl,Z6 rfl ⟨_,md,ms,rfl,rfl,SqL.of hm7,by rw[e0];omega,?_⟩⟩
  rw[Zgm hMd (Nat.le_refl _)]
  exact q hc _ ⟨fun a o h _=>g7.keep a o (g16.keep a o h (by simp)) (by simpa using Za h hmn),fun a zs h=>g7.tups _ _ (g16.tups _ _ h)⟩
inductive spPartXI(CO:Addr)(vs:List V)(H:Hp)(Q:VK)(E:XK):Prop
 |mk (v:V) (t:Str) (n c:Nat) (L:Int) (p:Pat) (xs:List (Nat×W7)) (_:vs=[v,.str t,.int L]) (_:0<=L) (_:PatAt H 8 v p) (_:p.size<=20000) (_:Tj ((Yu p).map Op.rw)=n) (_:n<=9) (_:t.length<=200) (_:FdsC t n p 0 xs c)
  (_:(c:Int)<=L->∀(r:Addr) (H':Hp),H' r=some (.lst ((tx t 0 xs).map V.str))->Gro [] H H'->Q (.ref r) H') (_:L<(c:Int)->∀H':Hp,Gro [] H H'->E (.ref CO) none H')
def Z3l(CO:Addr):Sp:=fun vs H Q E=>spPartXI CO vs H Q E
abbrev Tp:Stmt:=top 50
theorem Z8s:FnScope ["pattern","text","most"] ["pattern","text","most"] (Z9 Tp):=Vh
theorem Zaj{CO:Addr}(O_all_finds:OwnX P w K mg base 30 "all_finds" ["pattern","text","most"] (Z1s CO))(O_texts_around:Own P w K mg base 1 "texts_around" ["text","finds"] Tk)(F:Fun K "parted" "parted" Tp f fd):FnOk P w K mg base (Z60 P w) 31 f fd ["pattern","text","most"] (Z3l CO):=by
 refine F.okX Z8s (fun vs H Q E h=>?_) (fun cdv A outer s H vs Q E hr h LX=>?_)
 ·obtain⟨v,t,n,c,L,p,xs,rfl,_⟩:=h
  rfl
 obtain⟨v,t,n,c,L,p,xs,rfl,hL0,hp,hz,hcnt,hn,ht,hF,q,qx⟩:=h
 refine Vf ?_
 intro Xz
 refine⟨_,(Z4 (Zk (Zv (O_texts_around.mono (by omega)) hr rfl (Z0 (pv 1) (Z0 (Vg LX.pass (O_all_finds.mono (by omega)) hr rfl (Z0 (pv 0) (Z0 (pv 1) (Z0 (pv 2) Z3)))) Z3))))),?_⟩
 refine(Z6 rfl (Z6 rfl (Z6 rfl (Z6 rfl ⟨v,t,n,c,L,p,xs,rfl,hL0,hp,hz,hcnt,hn,ht,hF,fun hc l us H3 hl hu hxl hln g3=>?_,fun hc H3 g3=>qx hc H3 g3⟩))))
 have hel:=Paired.length hu
 exact⟨t,l,us,xs,rfl,hl,hu,by omega,by omega,fun r H4 hr4 hrn g4=>q hc r H4 hr4 (g3.trans g4)⟩
inductive spFfXI(CO:Addr)(vs:List V)(H:Hp)(Q:VK)(E:XK):Prop
 |mk (v:V) (t:Str) (b n c:Nat) (L:Int) (p:Pat) (r:Option (Nat×W7)) (_:vs=[v,.str t,.int b,.int L]) (_:0<=L) (_:PatAt H 8 v p) (_:p.size<=20000) (_:Tj ((Yu p).map Op.rw)=n) (_:n<=9) (_:t.length<=200) (_:b<=t.length+1) (_:FdC t n p b r c)
  (_:(c:Int)<=L->∀(v:V) (H':Hp),FnA H' v r->Gro [] H H'->Q v H') (_:L<(c:Int)->∀H':Hp,Gro [] H H'->E (.ref CO) none H')
def Zc6(CO:Addr):Sp:=fun vs H Q E=>spFfXI CO vs H Q E
abbrev Ws:Stmt:=top 48
theorem Z27:FnScope ["pattern","text","start","most"] ["pattern","text","start","most"] (Z9 Ws):=Vh
theorem Zg9{CO:Addr}(MTS:TxtS K CS)(O_Seeker:OwnC P w K mg base 28 CS "Seeker" ["self","pattern","text","most"] (Z0r CS))(O_Seeker_first_from:OwnMX P w K mg base 8 CS "first_from" ["self","start"] (Z0s CS CO))(F:Fun K "first_find" "first_find" Ws f fd):FnOk P w K mg base (Z60 P w) 30 f fd ["pattern","text","start","most"] (Zc6 CO):=by
 refine F.okX Z27 (fun vs H Q E h=>?_) (fun cdv A outer s H vs Q E hr h LX=>?_)
 ·obtain⟨v,t,b,n,c,L,p,r,rfl,_⟩:=h
  rfl
 obtain⟨v0,t,b,n,c,L,p,r,rfl,hL0,hp,hz,hcnt,hn,ht,hb,hF,q,qx⟩:=h
 refine Vf ?_
 intro Xz
 refine⟨_,(Z4 (Zk (Tz LX.pass (O_Seeker_first_from.mono (by omega)) MTS.cl hr (Z3q (O_Seeker.mono (by omega)) hr rfl (Z0 (pv 0) (Z0 (pv 1) (Z0 (pv 3) Z3)))) (Z0 (pv 2) Z3)))),?_⟩
 refine(Z6 rfl (Z6 rfl (Z6 rfl (fun m dx hm hdx hne=>?_))))
 have g1:Gro [] H (Zr (Zr H dx (.own m)) m (.ins CS dx [])):=(Gro.new hdx _).trans (Gro.new (by rw[Zo (Ne.symm hne)];exact hm) _)
 have e1:(Zr (Zr H dx (.own m)) m (.ins CS dx [])) m=some (.ins CS dx []):=Z5
 generalize Zr (Zr H dx (.own m)) m (.ins CS dx [])=H1 at *
 refine⟨m,dx,v0,t,_,p,rfl,e1,hp.mono g1.tups,hz,fun ra H2 hs2 hra2 g2=>⟨rfl,?_⟩⟩
 have g12:Gro [] H H2:=⟨fun a o h _=>g2.keep a o (g1.keep a o h (by simp)) (by simpa using Za h hm),fun a xs h=>g2.tups _ _ (g1.tups _ _ h)⟩
 have no1:∀L:Int,(Z2e ra t L).lookup ("first_from":Str)=none:=fun L=>Zc9 (by decide +kernel)
 have gx:∀H':Hp,Gro [m] H2 H'->Gro [] H H':=fun H' g=>⟨fun a o h _=>g.keep a o (g12.keep a o h (by simp)) (by simpa using Za h hm),fun a ys h=>g.tups _ _ (g12.tups _ _ h)⟩
 exact⟨m,dx,_,rfl,hs2,no1 _,Z6 rfl ⟨m,dx,ra,t,b,n,c,L,p,r,rfl,hs2,hL0,hra2,hcnt,hn,ht,hb,hF,fun hc v2 H4 hv4 hs4 g4=>q hc v2 H4 hv4 (gx H4 g4),fun hc H4 g4=>qx hc H4 (gx H4 g4)⟩⟩
end
theorem Z0y(t:Str):t.cps.toList.length=t.length:=by simp[Str.length]
theorem Z8a(a b:Str):(a++b).cps.toList=a.cps.toList++b.cps.toList:=by
 show(a.cps++b.cps).toList=_
 simp
theorem J2{a b:Str}{j:Nat}(h:j<a.length):Jy (a++b) j=Jy a j:=by
 unfold Jy
 rw[Z8a,List.getD_eq_getElem?_getD,List.getD_eq_getElem?_getD,List.getElem?_append_left (by rw[Z0y];exact h)]
theorem Jw{a b:Str}{j:Nat}:Jy (a++b) (a.length+j)=Jy b j:=by
 unfold Jy
 rw[Z8a,List.getD_eq_getElem?_getD,List.getD_eq_getElem?_getD,List.getElem?_append_right (by rw[Z0y];omega),Z0y,Nat.add_sub_cancel_left]
theorem Z40{x:Str}{a b j:Nat}(h:a+j<b):Jy (sub x a b) j=Jy x (a+j):=by
 unfold Jy sub
 rw[List.getD_eq_getElem?_getD,List.getD_eq_getElem?_getD,List.toList_toArray,List.getElem?_take_of_lt (by omega),List.getElem?_drop]
theorem Z3w{x:Str}{a b:Nat}(h:a<=b)(hb:b<=x.length):(sub x a b).length=b-a:=by
 show((x.cps.toList.drop a).take (b-a)).toArray.size=_
 rw[List.size_toArray,List.length_take,List.length_drop,Z0y]
 omega
theorem Z41{o:Str}(h:o.length=1):Jy o 0=o:=by
 obtain⟨a⟩:=o
 have:a.size=1:=h
 match a,this with
 | ⟨[c]⟩,_=>rfl
theorem Zcw{x y:Str}(hl:x.length=y.length)(h:∀j,j<x.length->Jy x j=Jy y j):x=y:=by
 obtain⟨⟨a⟩⟩:=x
 obtain⟨⟨b⟩⟩:=y
 have hl':a.length=b.length:=by simpa[Str.length] using hl
 have:a=b:=by
  refine List.ext_getElem? fun j=>?_
  by_cases hj:j<a.length
  ·have:=h j (by simpa[Str.length] using hj)
   unfold Jy at this
   injection this with this
   have e:a.getD j 0=b.getD j 0:=by simpa using this
   rw[List.getD_eq_getElem?_getD,List.getD_eq_getElem?_getD,List.getElem?_eq_getElem hj,List.getElem?_eq_getElem (by omega)]at e
   rw[List.getElem?_eq_getElem hj,List.getElem?_eq_getElem (by omega)]
   exact congrArg some (by simpa using e)
  ·rw[List.getElem?_eq_none (by omega),List.getElem?_eq_none (by omega)]
 rw[this]
theorem takes_sign{c t:Str}{i:Int}(h0:0<=i)(h:i<t.length):Yj (.sign c) t i=decide (V.str c=V.str (Jy t i.toNat)):=by
 unfold Yj
 rw[if_pos h]
 rfl
def Sg(s:Str):Pat:=.node (.sign s) []
theorem Zcx(s:Str):Yu (Sg s)=[.pat (.sign s),.found]:=rfl
theorem Z4b(s:Str):Tj ((Yu (Sg s)).map Op.rw)=((0:Nat):Int):=by
 rw[Zcx]
 unfold Tj
 rw[if_pos]
 ·rfl
 ·rfl
theorem Zh2(t:Str):GOk t 0 []:=⟨rfl,fun _ _ h=>by cases h⟩
theorem Zfz{s t:Str}{b:Nat}(hb:b<t.length)(h:Yj (.sign s) t b=true):Zit t 0 (Sg s) b (some (b+1,[])) 2:=by
 refine⟨1,_,⟨[],Rc.one (o:=.pat (.sign s)) rfl (by show b<=_;omega) (Zh2 t) trivial ?_,rfl⟩,by omega,fun x e=>?_,rfl,by omega⟩
 ·show(if Yj (.sign s) t (b:Nat)=true then _ else _)=_
  rw[if_pos h]
  rfl
 ·cases e
  exact⟨hb,Zh2 t⟩
theorem Z7r{s t:Str}{b:Nat}(hb:b<=t.length)(h:Yj (.sign s) t b=false):Zit t 0 (Sg s) b none 1:=by
 refine⟨1,_,⟨Rc.one (o:=.pat (.sign s)) rfl (by show b<=_;omega) (Zh2 t) trivial ?_,rfl⟩,by omega,fun x e=>(by cases e),rfl,by omega⟩
 show(if Yj (.sign s) t (b:Nat)=true then _ else _)=_
 rw[if_neg (by rw[h];decide)]
 rfl
theorem Jb{s t:Str}:∀(m b:Nat),t.length+1-b=m->b<=t.length+1->(∀i:Nat,b<=i->i<=t.length->Yj (.sign s) t i=false)->FdC t 0 (Sg s) b none m
 |0,b,hm,hb,_=>.out (by omega)
 |m+1,b,hm,hb,h=>by
  have:=FdC.go (t:=t) (n:=0) (p:=Sg s) (by omega) (Z7r (by omega) (h b (Nat.le_refl _) (by omega))) (Jb (s:=s) m (b+1) (by omega) (by omega) fun i h1 h2=>h i (by omega) h2)
  rw[Nat.add_comm]at this
  exact this
theorem Z3z{s t:Str}{i:Nat}(hi:i<t.length)(ht:Yj (.sign s) t i=true):∀(m b:Nat),i-b=m->b<=i->(∀j:Nat,b<=j->j<i->Yj (.sign s) t j=false)->FdC t 0 (Sg s) b (some (i,(i+1,[]))) (m+2)
 |0,b,hm,hb,_=>by
  have:b=i:=by omega
  subst this
  exact .hit (by omega) (Zfz hi ht)
 |m+1,b,hm,hb,h=>by
  have:=FdC.go (t:=t) (n:=0) (p:=Sg s) (by omega) (Z7r (by omega) (h b (Nat.le_refl _) (by omega))) (Z3z hi ht m (b+1) (by omega) (by omega) fun j h1 h2=>h j (by omega) h2)
  rw[show 1+(m+2)=m+1+2 by omega]at this
  exact this
theorem Z8p(s t:Str):Yj (.sign s) t t.length=false:=by
 unfold Yj
 rw[if_neg (by omega)]
structure OneIn(s t:Str)(pl:Option Nat):Prop where
 at_:∀i,pl=some i->i<t.length/\Jy t i=s
 no:∀i,i<t.length->pl≠some i->Jy t i≠s
theorem OneIn.yes{s t:Str}{i:Nat}(h:OneIn s t (some i)):Yj (.sign s) t i=true:=by
 have:=h.at_ i rfl
 rw[takes_sign (by omega) (by omega)]
 show decide (V.str s=V.str (Jy t i))=true
 rw[this.2]
 exact decide_eq_true rfl
theorem OneIn.not{s t:Str}{pl:Option Nat}{i:Nat}(h:OneIn s t pl)(hi:i<=t.length)(hp:pl≠some i):Yj (.sign s) t i=false:=by
 by_cases e:i=t.length
 ·rw[e];exact Z8p s t
 rw[takes_sign (by omega) (by omega)]
 refine decide_eq_false fun z=>h.no i (by omega) hp ?_
 injection z with z
 exact z.symm
def Ziq(pl:Option Nat)(b:Nat):Option (Nat×W7):=match pl with
 |some i=>if b<=i then some (i,(i+1,[])) else none
 |none=>none
def Zir(t:Str)(pl:Option Nat)(b:Nat):Nat:=match pl with
 |some i=>if b<=i then i-b+2 else t.length+1-b
 |none=>t.length+1-b
theorem OneIn.fd{s t:Str}{pl:Option Nat}{b:Nat}(h:OneIn s t pl)(hb:b<=t.length):FdC t 0 (Sg s) b (Ziq pl b) (Zir t pl b):=by
 cases pl with
 |none=>exact Jb _ b rfl (by omega) fun i _ h2=>h.not h2 (by simp)
 |some i =>
  show FdC t 0 (Sg s) b (if b<=i then some (i,(i+1,[])) else none) (if b<=i then i-b+2 else t.length+1-b)
  by_cases e:b<=i
  ·rw[if_pos e,if_pos e]
   exact Z3z (h.at_ i rfl).1 h.yes _ b rfl e fun j h1 h2=>h.not (by have:=(h.at_ i rfl).1;omega) (fun z=>by injection z with z;omega)
  ·rw[if_neg e,if_neg e]
   exact Jb _ b rfl (by omega) fun j h1 h2=>h.not h2 (fun z=>by injection z with z;omega)
def Zh8(pl:Option Nat):List (Nat×W7):=match pl with
 |some i=>[(i,(i+1,[]))]
 |none=>[]
def Zip(t:Str)(pl:Option Nat):Nat:=match pl with
 |some _=>t.length+2
 |none=>t.length+1
theorem OneIn.fds{s t:Str}{pl:Option Nat}(h:OneIn s t pl):FdsC t 0 (Sg s) 0 (Zh8 pl) (Zip t pl):=by
 cases pl with
 |none=>exact .no (Jb _ 0 rfl (by omega) fun i _ h2=>h.not h2 (by simp))
 |some i =>
  have hi:=(h.at_ i rfl).1
  have h1:=Z3z hi h.yes i 0 (by omega) (by omega) fun j h1 h2=>h.not (by omega) (fun z=>by injection z with z;omega)
  have h2:=Jb (s:=s) (t:=t) (t.length-i) (i+1) (by omega) (by omega) fun j h1 h2=>h.not h2 (fun z=>by injection z with z;omega)
  have e:Zbc (i,((i+1,[]):W7))=i+1:=by
   unfold Zbc
   rw[if_neg (by show ¬i+1=i;omega)]
  have:=FdsC.more h1 (by omega) (by show i<=i+1;omega) (by show i+1<=_;omega) (by rw[e];exact FdsC.no h2)
  rw[show i+2+(t.length-i)=t.length+2 by omega]at this
  exact this
section
variable{P:Program}{w:World}{K:W.Frag}{mg:Str->Option Value}{base:Heap}{f C CS CN CE CO CM CU:Addr}{fd:FuncData}
structure XOv(K:W.Frag)(CO CE CM CN CU:Addr):Prop where
 zn:XIs K CO
 ca:Z5x K CO CE
 k1:W.kitOne K (.ref CO) (.ref CO)=some true
 k2:W.kitOne K (.ref CO) (.type "ValueError")=some true
 k3:W.kitOne K (.ref CO) (.ref CM)=some false
 k4:W.kitOne K (.ref CO) (.ref CN)=some false
 k5:W.kitOne K (.ref CO) (.ref CU)=some false
theorem Z63{K:W.Frag}{Cs:Addr}{n i:Nat}{tb:XK->TS}{th:TS}{D:Ends}{σ:L2.St}{H:Hp}(G:Hp->Prop){C:Addr}(ca:Z5x K C Cs)(hth:∀(H':Hp) (x:Addr),G H'->H' x=none->th { nx:=fun σ' H''=>D.nx (σ'.set i none) H'',rt:=D.rt } ((List.replicate n none).set i (some (.ref x))) (Zr H' x (Z0h x C)))
  (hb:∀Eb:XK,(∀H',G H'->Eb (.ref C) none H')->tb Eb D σ H):Zer K Cs n i tb th D σ H:=hb _ fun H' g=>⟨C,rfl,ca,fun x hx=>hth H' x g hx⟩
theorem Z0t(s:Str):(Sg s).size<=20000:=by
 show(1+0:Nat)<=20000
 decide
def Zkd:Str:="<$0>"
def Zii:List Pc:=[.tx "<",.nm 0,.tx ">"]
theorem Zi2:pz Zkd 0 0=some Zii:=by
 rw[J7 (by decide +kernel) (Z7d (by decide +kernel)),Z4d (k:=0) (by decide +kernel) (Zbu (by decide +kernel) (by decide +kernel) (by decide +kernel) (Nat.le_refl 0)),J7 (by decide +kernel) (Z7d (by decide +kernel)),Z4f (by decide +kernel)]
 rfl
inductive spAskI(vs:List V)(H:Hp)(Q:VK):Prop
 |mk (k:Nat) (s t:Str) (b:Nat) (L:Int) (r:Option (Nat×W7)) (xs:List (Nat×W7)) (c1 c2:Nat) (_:vs=[.int k,.str s,.str t,.int b,.int L]) (_:0<=L) (_:k<=3) (_:s.length=1) (_:t.length<=200) (_:b<=t.length) (_:FdC t 0 (Sg s) b r c1) (_:FdsC t 0 (Sg s) 0 xs c2)
  (_:k=0->(c1:Int)<=L->∀(v:V) (H':Hp),FnA H' v r->Gro [] H H'->Q v H')
  (_:k=1->(c2:Int)<=L->∀(l:Addr) (us:List V) (H':Hp),H' l=some (.lst us)->Paired (Zbd H') us xs->Gro [] H H'->Q (.ref l) H')
  (_:k=2->(c2:Int)<=L->∀(r:Addr) (H':Hp),H' r=some (.lst ((tx t 0 xs).map V.str))->Gro [] H H'->Q (.ref r) H')
  (_:k=3->(c2:Int)<=L->∀H':Hp,Gro [] H H'->Q (.str (Z5z t 0 xs++gF t Zii xs)) H')
  (_:(k=0/\L<(c1:Int))∨(k≠0/\L<(c2:Int))->∀(a:Addr) (H':Hp),H' a=some (.tup [.str "refused",.bl true])->Gro [] H H'->Q (.ref a) H')
def Zc8:Sp:=fun vs H Q _=>spAskI vs H Q
abbrev Uj:Stmt:=top 62
theorem sc_l_asked:FnScope ["_law_way","_law_one","_law_text","_law_start","_law_most","_law_p","e","_law_good"] ["_law_way","_law_one","_law_text","_law_start","_law_most"] (Z9 Uj):=Vh
theorem Zgb(T:Blt mg)(Vo:mg "ValueError" = none)(XM_SeekError:mg "SeekError" = some (.ref CE))(XM_NoForm:mg "NoForm" = some (.ref CN))(XM_Memory:mg "Memory" = some (.ref CM))(XM_Over:mg "Over" = some (.ref CO))(XM_Unread:mg "Unread" = some (.ref CU))(Z:XOv K CO CE CM CN CU)
  (O_first_find:OwnX P w K mg base 30 "first_find" ["pattern","text","start","most"] (Zc6 CO)) (O_all_finds:OwnX P w K mg base 30 "all_finds" ["pattern","text","most"] (Z1s CO)) (O_parted:OwnX P w K mg base 31 "parted" ["pattern","text","most"] (Z3l CO)) (O_replaced:OwnX P w K mg base 31 "replaced" ["pattern","text","form","most"] (Z3k CO))
  (F:Fun K "_law_asked" "_law_asked" Uj f fd):FnOk P w K mg base Wp 32 f fd ["_law_way","_law_one","_law_text","_law_start","_law_most"] Zc8:=by
 refine F.ok sc_l_asked (fun vs H Q E h=>?_) (fun cdv A outer s H vs Q E hr h=>?_)
 ·obtain⟨k,s,t,b,L,r,xs,c1,c2,rfl,_⟩:=h
  rfl
 obtain⟨k,s',t,b,L,r,xs,c1,c2,rfl,hL,hk,hs,ht,hb,h1,h2,q0,q1,q2,q3,qx⟩:=h
 refine Vf ?_
 intro Xz
 refine⟨_,(Z1 (pS 5 sc_l_asked.nd (Zz (Z0 Zq (Z0 (pv 1) Z3))))
  (Z4 (Zd8 (i:=6) sc_l_asked.nd rfl rfl rfl rfl rfl XM_SeekError (fun _ _ _ hxb=>(Z1 (Zu (Zd Y2 (pv 0) Z7 (Zh _)) (Z4 (Zk (Vg hxb (O_first_find.mono (by omega)) hr rfl (Z0 (pv 5) (Z0 (pv 2) (Z0 (pv 3) (Z0 (pv 4) Z3))))))) Zi)
  (Z1 (Zu (Zd Y2 (pv 0) Z7 (Zh _)) (Z4 (Zk (Vg hxb (O_all_finds.mono (by omega)) hr rfl (Z0 (pv 5) (Z0 (pv 2) (Z0 (pv 4) Z3)))))) Zi)
  (Z1 (Zu (Zd Y2 (pv 0) Z7 (Zh _)) (Z4 (Zk (Vg hxb (O_parted.mono (by omega)) hr rfl (Z0 (pv 5) (Z0 (pv 2) (Z0 (pv 4) Z3)))))) Zi)
  (Z4 (Zk (Vg hxb (O_replaced.mono (by omega)) hr rfl (Z0 (pv 5) (Z0 (pv 2) (Z0 Zq (Z0 (pv 4) Z3))))))))))) (fun _=>(Z1 (pS 7 sc_l_asked.nd (Wu (Ze (Uf (K:=K) rfl) rfl T.b_isinstance PyProof.Rows.Boot.«isinstance» (Z0 (pv 6) (Z0 (Xl (v:=.ref _) rfl XM_Over rfl) Z3))) (Wu (Ze (Uf (K:=K) rfl) rfl T.b_isinstance PyProof.Rows.Boot.«isinstance» (Z0 (pv 6) (Z0 (Y8 (v:=.ty "ValueError") rfl Vo PyProof.Rows.Boot.«ValueError» rfl) Z3))) (U5 (Z1z (Ze (Uf (K:=K) rfl) rfl T.b_isinstance PyProof.Rows.Boot.«isinstance» (Z0 (pv 6) (Z0 (Xl (v:=.ref _) rfl XM_Memory rfl) Z3))))))))
  (Z4 (Zk (Zz (Z0 Zq (Z0 (Wu (pv 7) (Wu (Z1z (Ze (Uf (K:=K) rfl) rfl T.b_isinstance PyProof.Rows.Boot.«isinstance» (Z0 (pv 6) (Z0 (Xl (v:=.ref _) rfl XM_NoForm rfl) Z3)))) (U5 (Z1z (Ze (Uf (K:=K) rfl) rfl T.b_isinstance PyProof.Rows.Boot.«isinstance» (Z0 (pv 6) (Z0 (Xl (v:=.ref _) rfl XM_Unread rfl) Z3))))))) Z3)))))))))),?_⟩
 refine Z09 ?_
 intro Ez Az1
 refine Z6 rfl ⟨sz,fun p hp=>?_⟩
 have g1:=Gro.new (S:=[]) hp (.tup [.str "sign",.str s'])
 have hP:PatAt (Zr H p (.tup [.str "sign",.str s'])) 8 (.ref p) (Sg s'):=⟨p,[],rfl,⟨rfl,hs,Z5⟩,.nil⟩
 generalize Zr H p (.tup [.str "sign",.str s'])=H1 at *
 show Az1 Ez [some (.int k),some (.str s'),some (.str t),some (.int b),some (.int L),some (.ref p),none,none] H1
 refine Z63 (fun H'=>Gro [] H1 H'/\((k=0/\L<(c1:Int))∨(k≠0/\L<(c2:Int)))) Z.ca (fun H' e hG he=>?_) (fun Eb hE=>?_)
 ·obtain⟨g,hc⟩:=hG
  have g2:=Gro.new (S:=[]) he (Z0h e CO)
  have h0:(Zr H' e (Z0h e CO)) e=some (Z0h e CO):=Z5
  have gg:=(g1.trans g).trans g2
  generalize Zr H' e (Z0h e CO)=H2 at *
  refine Z6 rfl ⟨e,CO,_,.ref CO,true,rfl,h0,Z.zn,rfl,Z.k1,Z6 rfl (Z0g ?_)⟩
  refine Z6 rfl ⟨e,CO,_,.type "ValueError",true,rfl,h0,Z.zn,rfl,Z.k2,Z6 rfl (Z0g ?_)⟩
  refine Z6 rfl ⟨e,CO,_,.ref CM,false,rfl,h0,Z.zn,rfl,Z.k3,Z6 rfl ?_⟩
  refine Z6 rfl (Z6 rfl (Z0g ?_))
  refine Z6 rfl ⟨e,CO,_,.ref CN,false,rfl,h0,Z.zn,rfl,Z.k4,Z6 rfl (Z6 rfl (Z0g ?_))⟩
  refine Z6 rfl ⟨e,CO,_,.ref CU,false,rfl,h0,Z.zn,rfl,Z.k5,Z6 rfl ?_⟩
  refine⟨sz,fun o ho=>?_⟩
  exact qx hc o _ Z5 (gg.trans (Gro.new (S:=[]) ho _))
 rcases(show k=0∨k=1∨k=2∨k=3 by omega) with rfl | rfl | rfl | rfl
 ·refine Z6 rfl ⟨rfl,Z6 rfl (Zj (by decide) ?_)⟩
  exact Z6 rfl (Z6 rfl (Z6 rfl (Z6 rfl ⟨_,t,b,0,c1,L,Sg s',r,rfl,hL,hP,Z0t s',Z4b s',by omega,ht,by omega,h1,fun hc v H' hv g=>q0 rfl hc v H' hv (g1.trans g),fun hc H' g=>hE H' ⟨g,.inl ⟨rfl,hc⟩⟩⟩)))
 ·refine Z6 rfl ⟨rfl,Z6 rfl (Zb (by decide) ?_)⟩
  refine Z6 rfl ⟨rfl,Z6 rfl (Zj (by decide) ?_)⟩
  exact Z6 rfl (Z6 rfl (Z6 rfl ⟨_,t,0,c2,L,Sg s',xs,rfl,hL,hP,Z0t s',Z4b s',by omega,ht,h2,fun hc l us H' hl hu _ _ g=>q1 rfl hc l us H' hl hu (g1.trans g),fun hc H' g=>hE H' ⟨g,.inr ⟨by decide,hc⟩⟩⟩))
 ·refine Z6 rfl ⟨rfl,Z6 rfl (Zb (by decide) ?_)⟩
  refine Z6 rfl ⟨rfl,Z6 rfl (Zb (by decide) ?_)⟩
  refine Z6 rfl ⟨rfl,Z6 rfl (Zj (by decide) ?_)⟩
  exact Z6 rfl (Z6 rfl (Z6 rfl ⟨_,t,0,c2,L,Sg s',xs,rfl,hL,hP,Z0t s',Z4b s',by omega,ht,h2,fun hc r H' hr g=>q2 rfl hc r H' hr (g1.trans g),fun hc H' g=>hE H' ⟨g,.inr ⟨by decide,hc⟩⟩⟩))
 ·refine Z6 rfl ⟨rfl,Z6 rfl (Zb (by decide) ?_)⟩
  refine Z6 rfl ⟨rfl,Z6 rfl (Zb (by decide) ?_)⟩
  refine Z6 rfl ⟨rfl,Z6 rfl (Zb (by decide) ?_)⟩
  exact Z6 rfl (Z6 rfl (Z6 rfl ⟨_,t,Zkd,0,c2,L,Sg s',Zii,xs,rfl,hL,hP,rfl,by decide,Zi2,Z0t s',Z4b s',by omega,ht,h2,fun hc H' g=>q3 rfl hc H' (g1.trans g),fun hc H' g=>hE H' ⟨g,.inr ⟨by decide,hc⟩⟩⟩))
end
def Zex:Option Nat->Int
 |some i=>(i:Int)
 |none=>-1
theorem Z55(b:Nat):∀pl:Option Nat,∃z:Bool,decide ((b:Int)<=Zex pl)=z/\(z=true->∃i,pl=some i/\b<=i)/\(z=false->∀i,pl=some i->¬b<=i)
 |none=>⟨_,rfl,fun z=>absurd (of_decide_eq_true z) (by show ¬(b:Int) <= -1;omega),fun _ i e=>by cases e⟩
 |some i=>⟨_,rfl,fun z=>⟨i,rfl,by have z':(b:Int)<=i:=of_decide_eq_true z;omega⟩,fun z j e h=>by cases e;have z':¬(b:Int)<=i:=of_decide_eq_false z;omega⟩
def Zke(t:Str):Option Nat->List Str
 |some i=>[Txt.slice t none (some (i:Int)),Txt.slice t (some ((i:Int)+1)) none]
 |none=>[t]
def Zkf(s t:Str):Option Nat->Str
 |some i=>Txt.slice t none (some (i:Int))++"<" ++ s++">" ++ Txt.slice t (some ((i:Int)+1)) none
 |none=>t
section
variable{P:Program}{w:World}{K:W.Frag}{mg:Str->Option Value}{base:Heap}{f C CS CN CE CO CM CU:Addr}{fd:FuncData}
inductive spDueI(vs:List V)(H:Hp)(Q:VK):Prop
 |mk (k:Nat) (s t:Str) (b:Nat) (pl:Option Nat) (_:vs=[.int k,.str s,.str t,.int b,V.int (Zex pl)]) (_:k<=3) (_:s.length=1) (_:t.length<=200) (_:k≠0->b=0)
  (_:k=0->∀(v:V) (H':Hp),FnA H' v (Ziq pl b)->Gro [] H H'->Q v H')
  (_:k=1->∀(l:Addr) (us:List V) (H':Hp),H' l=some (.lst us)->Paired (Zbd H') us (Zh8 pl)->Gro [] H H'->Q (.ref l) H')
  (_:k=2->∀(r:Addr) (H':Hp),H' r=some (.lst ((Zke t pl).map V.str))->Gro [] H H'->Q (.ref r) H')
  (_:k=3->Q (.str (Zkf s t pl)) H)
def Zc7:Sp:=fun vs H Q _=>spDueI vs H Q
abbrev Z0v:Stmt:=top 63
theorem sc_l_due:FnScope ["_law_way","_law_one","_law_text","_law_start","_law_place","_law_there"] ["_law_way","_law_one","_law_text","_law_start","_law_place"] (Z9 Z0v):=Vh
theorem Zga(T:Blt mg)(F:Fun K "_law_due" "_law_due" Z0v f fd):FnOk P w K mg base Wp 1 f fd ["_law_way","_law_one","_law_text","_law_start","_law_place"] Zc7:=by
 refine F.ok sc_l_due (fun vs H Q E h=>?_) (fun cdv A outer s H vs Q E hr h=>?_)
 ·obtain⟨k,s,t,b,pl,rfl,_⟩:=h
  rfl
 obtain⟨k,s',t,b,pl,rfl,hk,hs,ht,hb,q0,q1,q2,q3⟩:=h
 refine Vf ?_
 intro Xz
 refine⟨_,(Z1 (pS 5 sc_l_due.nd (Yz Z3f (pv 4) (pv 3) (Zh _)))
  (Z1 (Zu (PW.pt (T9 (Zd Y2 (pv 0) Z7 (Zh _)) (Vy (Yh (pv 5))))) (Z4 (Zk (Zz (Z0 (pv 4) (Z0 (Y7 Yv (pv 4) Z7) (Z0 (Zz Z3) Z3)))))) Zi)
  (Z1 (Zu (Zd Y2 (pv 0) Z7 (Zh _)) (Z4 (Zk Z0c)) Zi)
  (Z1 (Zu (Zd Y2 (pv 0) Z7 (Zh _)) (Z4 (Zk (Y5 Z7m (Wt (Z0 (Zz (Z0 (pv 4) (Z0 (Y7 Yv (pv 4) Z7) (Z0 (Zz Z3) Z3)))) Z3)) Yy (Y3 (Ut Z9p rfl T.b_int PyProof.Rows.Boot.«int» (Z0 (pv 5) Z3)))))) Zi)
  (Z1 (Zu (PW.pt (T9 (Zd Y2 (pv 0) Z7 (Zh _)) (Vy (Yh (pv 5))))) (Z4 (Zk (Wt (Z0 (Y5 Wf (pv 2) Yy (Y3 (pv 4))) (Z0 (Y5 Wf (pv 2) (Y3 (Y7 Yv (pv 4) Z7)) Yy) Z3))))) Zi)
  (Z1 (Zu (Zd Y2 (pv 0) Z7 (Zh _)) (Z4 (Zk (Wt (Z0 (pv 2) Z3)))) Zi)
  (Z1 (Zu (Yh (pv 5)) (Z4 (Zk (Y7 Xk (Y7 Xk (Y7 Xk (Y7 Xk (Y5 Wf (pv 2) Yy (Y3 (pv 4))) Zq) (pv 1)) Zq) (Y5 Wf (pv 2) (Y3 (Y7 Yv (pv 4) Z7)) Yy)))) Zi)
  (Z4 (Zk (pv 2)))))))))),?_⟩
 refine Zfj ?_
 intro Ez Az1 Az2 Az3 Az4 Az5 Az6 Az7 Az8 Az9 Az10 Az11 Az12 Az13
 obtain⟨z,hz,hzt,hzf⟩:=Z55 b pl
 refine Z6 rfl (Z6 rfl (Wc rfl rfl ?_))
 show Az13 Ez [some (.int k),some (.str s'),some (.str t),some (.int b),some (.int (Zex pl)),some (.bl (decide ((b:Int)<=Zex pl)))] H
 rw[hz]
 have mk3:∀(i:Nat) (H':Hp) (e o:Addr),H' e=none->(Zr H' e (.tup [])) o=none->Zbd (Zr (Zr H' e (.tup [])) o (.tup [.int i,.int ((i:Int)+1),.ref e])) (.ref o) (i,(i+1,[]))/\Gro [] H' (Zr (Zr H' e (.tup [])) o (.tup [.int i,.int ((i:Int)+1),.ref e])):=fun i H' e o he ho=>by
  have g2:=Gro.new (S:=[]) ho (.tup [.int i,.int ((i:Int)+1),.ref e])
  exact⟨⟨o,.ref e,rfl,Z5,⟨e,[],rfl,g2.tups _ _ Z5,.nil⟩⟩,(Gro.new (S:=[]) he (.tup [])).trans g2⟩
 rcases(show k=0∨k=1∨k=2∨k=3 by omega) with rfl | rfl | rfl | rfl
 ·refine Z6 rfl ⟨rfl,Z6 rfl (Zj (by decide) (Z6 rfl (Z6 rfl ?_)))⟩
  cases z with
  |true =>
   obtain⟨i,rfl,hi⟩:=hzt rfl
   refine Z0g (Z6 rfl (Z6 rfl (Wc rfl rfl ⟨sz,fun e he=>⟨sz,fun o ho=>?_⟩⟩)))
   have h:=mk3 i H e o he ho
   exact q0 rfl _ _ (by rw[show Ziq (some i) b=some (i,(i+1,[])) from if_pos hi];exact h.1) h.2
  |false =>
   refine Zb (by decide) ?_
   refine Z6 rfl ⟨rfl,Z6 rfl (Zj (by decide) ?_)⟩
   refine q0 rfl .non H ?_ Gro.refl
   cases pl with
   |none=>rfl
   |some i=>rw[show Ziq (some i) b=none from if_neg (hzf rfl i rfl)];rfl
 ·obtain rfl:=hb (by decide)
  refine Z6 rfl ⟨rfl,Z6 rfl (Zb (by decide) (Zb (by decide) ?_))⟩
  refine Z6 rfl ⟨rfl,Z6 rfl (Zb (by decide) ?_)⟩
  refine Z6 rfl ⟨rfl,Z6 rfl (Zj (by decide) ?_)⟩
  refine Z6 rfl (Z6 rfl (Wc rfl rfl ⟨sz,fun e he=>⟨sz,fun o ho=>⟨sz,fun l hl=>?_⟩⟩⟩))
  have h:=fun(i:Nat) (e2:pl=some i)=>mk3 i H e o he (by subst e2;exact ho)
  have gl:=Gro.new (S:=[]) hl (.lst [.ref o])
  refine Z6 rfl (.inr ⟨z,rfl,Z6 rfl ⟨l,_,rfl,SqL.of Z5,fun r hr'=>?_⟩⟩)
  have gr:=Gro.new (S:=[]) hr' (.lst (U2 [V.ref o] none (some (if z=true then 1 else 0))))
  have ga:Gro [] H (Zr (Zr H e (.tup [])) o (.tup [.int (Zex pl),.int (Zex pl+1),.ref e])):=(Gro.new (S:=[]) he _).trans (Gro.new (S:=[]) ho _)
  refine q1 rfl r (U2 [V.ref o] none (some (if z=true then 1 else 0))) _ Z5 ?_ ((ga.trans gl).trans gr)
  cases z with
  |true =>
   obtain⟨i,rfl,hi⟩:=hzt rfl
   have e1:U2 [V.ref o] none (some (if true=true then 1 else 0))=[V.ref o]:=by simp[U2,HT.sIx]
   rw[e1]
   exact .cons (FnA.mono (r:=some _) gr.tups (FnA.mono (r:=some _) gl.tups (h i rfl).1)) .nil
  |false =>
   have e1:U2 [V.ref o] none (some (if false=true then 1 else 0))=[]:=by simp[U2,HT.sIx]
   rw[e1]
   cases pl with
   |none=>exact .nil
   |some i=>exact absurd (Nat.zero_le i) (hzf rfl i rfl)
 ·obtain rfl:=hb (by decide)
  refine Z6 rfl ⟨rfl,Z6 rfl (Zb (by decide) (Zb (by decide) ?_))⟩
  refine Z6 rfl ⟨rfl,Z6 rfl (Zb (by decide) ?_)⟩
  refine Z6 rfl ⟨rfl,Z6 rfl (Zb (by decide) ?_)⟩
  refine Z6 rfl ⟨rfl,Z6 rfl (Zj (by decide) (Z6 rfl (Z6 rfl ?_)))⟩
  cases z with
  |true =>
   obtain⟨i,rfl,hi⟩:=hzt rfl
   refine Z0g (Z6 rfl (Z6 rfl (Z6 rfl (Z6 rfl ⟨Yc (by omega),Z6 rfl (Z6 rfl (Wc rfl rfl (Z6 rfl (Z6 rfl ⟨Yc (by omega),⟨sz,fun o ho=>?_⟩⟩))))⟩))))
   exact q2 rfl o _ Z5 (Gro.new (S:=[]) ho _)
  |false =>
   refine Zb (by decide) ?_
   refine Z6 rfl ⟨rfl,Z6 rfl (Zj (by decide) ?_)⟩
   refine Z6 rfl ⟨sz,fun o ho=>?_⟩
   refine q2 rfl o _ ?_ (Gro.new (S:=[]) ho _)
   cases pl with
   |none=>exact Z5
   |some i=>exact absurd (Nat.zero_le i) (hzf rfl i rfl)
 ·obtain rfl:=hb (by decide)
  refine Z6 rfl ⟨rfl,Z6 rfl (Zb (by decide) (Zb (by decide) ?_))⟩
  refine Z6 rfl ⟨rfl,Z6 rfl (Zb (by decide) ?_)⟩
  refine Z6 rfl ⟨rfl,Z6 rfl (Zb (by decide) ?_)⟩
  refine Z6 rfl ⟨rfl,Z6 rfl (Zb (by decide) (Zb (by decide) ?_))⟩
  refine Z6 rfl ⟨rfl,Z6 rfl (Zb (by decide) ?_)⟩
  refine Z6 rfl (Z6 rfl ?_)
  cases z with
  |true =>
   obtain⟨i,rfl,hi⟩:=hzt rfl
   have l1:=Txt.slice_le t none (some (i:Int))
   have l2:=Txt.slice_le t (some ((i:Int)+1)) none
   have e1:("<":Str).length=1:=rfl
   have e2:(">":Str).length=1:=rfl
   refine Z0g (Z6 rfl (Z6 rfl (Z6 rfl (Z6 rfl ⟨Yc (by omega),Wc rfl rfl ⟨Yc (by show(Txt.slice t none (some (i:Int))).length+_<=1000;omega),Z6 rfl (Wc rfl rfl ⟨Yc (by rw[Xc];show(Txt.slice t none (some (i:Int))).length+_+_<=1000;omega),Wc rfl rfl ⟨Yc (by rw[Xc,Xc];show(Txt.slice t none (some (i:Int))).length+_+_+_<=1000;omega),?_⟩⟩)⟩⟩))))
   refine Z6 rfl (Z6 rfl (Wc rfl rfl (Z6 rfl (Z6 rfl ⟨Yc (by omega),Wc rfl rfl ⟨Yc (by rw[Xc,Xc,Xc];show(Txt.slice t none (some (i:Int))).length+_+_+_+(Txt.slice t (some ((i:Int)+1)) none).length<=1000;omega),q3 rfl⟩⟩))))
  |false =>
   refine Zb (by decide) ?_
   refine Z6 rfl ?_
   cases pl with
   |none=>exact q3 rfl
   |some i=>exact absurd (Nat.zero_le i) (hzf rfl i rfl)
end
theorem Zch{o:Str}(ho:o.length=1):∀n:Nat,(Txt.join "" (List.replicate n o)).length=n/\∀i,i<n->Jy (Txt.join "" (List.replicate n o)) i=o
 |0=>⟨rfl,fun i h=>absurd h (Nat.not_lt_zero _)⟩
 |n+1=>by
  obtain⟨h1,h2⟩:=Zch ho n
  rw[List.replicate_succ',V4]
  refine⟨by rw[Xc,h1,ho],fun i hi=>?_⟩
  by_cases e:i<n
  ·rw[J2 (by omega)]
   exact h2 i e
  ·have:i=(Txt.join "" (List.replicate n o)).length+0:=by omega
   rw[this,Jw]
   exact Z41 ho
theorem Zag{s o:Str}{n:Nat}(ho:o.length=1)(h:s≠o):OneIn s (Txt.join "" (List.replicate n o)) none :=
 ⟨fun i e=>(by cases e),fun i hi _ z=>h (z.symm.trans ((Zch ho n).2 i (by rw[(Zch ho n).1]at hi;exact hi)))⟩
theorem Zdi{s o:Str}{n j:Nat}(hs:s.length=1)(ho:o.length=1)(h:s≠o)(hj:j<=n):OneIn s (Txt.slice (Txt.join "" (List.replicate n o)) none (some (j:Int))++s++Txt.slice (Txt.join "" (List.replicate n o)) (some (j:Int)) none) (some j)/\(Txt.slice (Txt.join "" (List.replicate n o)) none (some (j:Int))++s++Txt.slice (Txt.join "" (List.replicate n o)) (some (j:Int)) none).length=n+1:=by
 obtain⟨h1,h2⟩:=Zch ho n
 generalize Txt.join "" (List.replicate n o)=t at *
 have e1:Txt.slice t none (some (j:Int))=sub t 0 j:=Z1j (by omega)
 have e2:Txt.slice t (some (j:Int)) none=sub t j t.length:=T1 (by omega)
 rw[e1,e2]
 have l1:(sub t 0 j).length=j:=by rw[Z3w (by omega) (by omega)];omega
 have l2:(sub t j t.length).length=n-j:=by rw[Z3w (by omega) (by omega),h1]
 have l3:(sub t 0 j++s).length=j+1:=by rw[Xc,l1,hs]
 refine⟨⟨fun i e=>?_,fun i hi hn z=>?_⟩,by rw[Xc,l3,l2];omega⟩
 ·cases e
  refine⟨by rw[Xc,l3,l2];omega,?_⟩
  rw[J2 (by omega)]
  have:=Jw (a:=sub t 0 j) (b:=s) (j:=0)
  rw[l1]at this
  exact this.trans (Z41 hs)
 ·rw[Xc,l3,l2]at hi
  refine h (z.symm.trans ?_)
  have hne:i≠j:=fun e=>hn (by rw[e])
  by_cases c:i<j
  ·rw[J2 (by omega),J2 (by omega),Z40 (by omega),Nat.zero_add]
   exact h2 i (by omega)
  ·have ei:i=(sub t 0 j++s).length+(i-j-1):=by omega
   rw[ei,Jw,Z40 (by omega)]
   exact h2 _ (by omega)
theorem Zgp(t:Str):∀pl:Option Nat,tx t 0 (Zh8 pl)=Zke t pl
 |none=>by
  show[Txt.slice t (some 0) none]=[t]
  rw[T1 (Int.le_refl 0)]
  show[sub t 0 t.length]=[t]
  rw[Z7j]
 |some i=>by
  show[Txt.slice t (some 0) (some (i:Int)),Txt.slice t (some ((i+1:Nat):Int)) none]=[Txt.slice t none (some (i:Int)),Txt.slice t (some ((i:Int)+1)) none]
  rw[Xq (Int.le_refl 0) (by omega),Z1j (by omega)]
  rfl
theorem Zgq{s t:Str}(hs:s.length=1):∀ {pl:Option Nat},OneIn s t pl->Z5z t 0 (Zh8 pl)++gF t Zii (Zh8 pl)=Zkf s t pl
 |none,_=>by
  show Txt.slice t (some 0) none++("":Str)=t
  rw[Z43,T1 (Int.le_refl 0)]
  exact Z7j t
 |some i,h=>by
  obtain⟨hi,hc⟩:=h.at_ i rfl
  have l1:(sub t i (i+1)).length=1:=by rw[Z3w (by omega) (by omega)];omega
  have e0:sub t i (i+1)=s:=by
   refine Zcw (by rw[l1,hs]) fun j hj=>?_
   have:j=0:=by omega
   subst this
   rw[Z40 (by omega),Z41 hs]
   exact hc
  have e1:Zcp t (i,(i+1,[])) Zii="<" ++ s++">":=by
   show Txt.join "" ([("<":Str),Txt.slice t (some (i:Int)) (some ((i+1:Nat):Int))]++[(">":Str)])=_
   rw[V4,Xq (by omega) (by omega)]
   show Txt.join "" ([("<":Str)]++[sub t i (i+1)])++(">":Str)=_
   rw[V4,e0]
   rfl
  show Txt.slice t (some 0) (some (i:Int))++(Zcp t (i,(i+1,[])) Zii++(Txt.slice t (some ((i+1:Nat):Int)) none++("":Str)))=Txt.slice t none (some (i:Int))++"<" ++ s++">" ++ Txt.slice t (some ((i:Int)+1)) none
  rw[e1,Z43,Xq (Int.le_refl 0) (by omega),Z1j (by omega)]
  simp only[Jx]
  rfl
theorem Za4{H:Hp}:∀ {pl:Option Nat} {us vs:List V},Paired (Zbd H) us (Zh8 pl)->Paired (Zbd H) vs (Zh8 pl)->Paired (Va H 5) us vs
 |none,_,_,h1,h2=>by
  cases h1
  cases h2
  exact .nil
 |some i,_,_,h1,h2=>by
  cases h1 with
  |cons a r =>
   cases r
   cases h2 with
   |cons b r =>
    cases r
    exact .cons (Z2k (n:=1) a b fun x e=>(by cases e;exact Nat.zero_le _)) .nil
theorem Zgt{H:Hp}{b l:Addr}(h:BoxAt H b)(hl:H l=none):l∉[b]:=by
 obtain⟨ns,e,_⟩:=h
 intro z
 rw[List.mem_singleton.mp z,e]at hl
 cases hl
theorem Z59:∀ {xs:List Str},(∀x∈xs,x.length=1)->(xs.map (·.length)).sum=xs.length
 | [],_=>rfl
 |x::xs,h=>by
  rw[List.map_cons,List.sum_cons,Z59 (fun y hy=>h y (by simp[hy])),h x (by simp),List.length_cons]
  omega
theorem Z2j{H:Hp}{n:Nat}:∀xs:List Str,Paired (Va H (n+1)) (xs.map V.str) (xs.map V.str)
 | []=>.nil
 |_::xs=>.cons Z51 (Z2j xs)
section
variable{P:Program}{w:World}{K:W.Frag}{mg:Str->Option Value}{base:Heap}{f:Addr}{fd:FuncData}{h:Heap}
inductive spLawI(K:W.Frag)(vs:List V)(H:Hp)(Q:VK):Prop
 |mk (a:Addr) (ns:List Int) (_:vs=[.ref a]) (_:SqL K H a (ns.map V.int)) (_:ns.length<=63) (_:∀H',Q (.bl true) H')
def Z3e(K:W.Frag):Sp:=fun vs H Q _=>spLawI K vs H Q
abbrev U6:Stmt:=top 64
theorem sc_law:FnScope ["_law_script","_law_box","_law_one","_law_other","_law_size","_law_text","_law_place","_law_way","_law_start","_law_need","_law_most","_law_told"] ["_law_script"] (Z9 U6):=Vh
theorem Zg8(T:Blt mg)(O_l_take:Own P w K mg base 1 "_law_take" ["_law_box","_law_many"] Z70)(O_l_sign:Own P w K mg base 1 "_law_sign" ["_law_cell"] Z71)(O_l_alike:Own P w K mg base 8 "_law_alike" ["_law_found","_law_due_here"] Zbg)(O_l_asked:Own P w K mg base 32 "_law_asked" ["_law_way","_law_one","_law_text","_law_start","_law_most"] Zc8)(O_l_due:Own P w K mg base 1 "_law_due" ["_law_way","_law_one","_law_text","_law_start","_law_place"] Zc7)
  (F:Fun K "law" "law" U6 f fd):FnOk P w K mg base Wp 40 f fd ["_law_script"] (Z3e K):=by
 refine F.ok sc_law (fun vs H Q E h=>?_) (fun cdv A outer s H vs Q E hr h=>?_)
 ·obtain⟨a,ns,rfl,_⟩:=h
  rfl
 obtain⟨a,ns,rfl,hS,h63,q⟩:=h
 refine Vf ?_
 intro Xz
 refine⟨_,(Z1 (pS 1 sc_law.nd (Ut Z3c rfl T.b_list PyProof.Rows.Boot.«list» (Z0 (pv 0) Z3)))
  (Z1 (pS 2 sc_law.nd (Zv (O_l_sign.mono (by omega)) hr rfl (Z0 (Zv (O_l_take.mono (by omega)) hr rfl (Z0 (pv 1) (Z0 Z7 Z3))) Z3)))
  (Z1 (pS 3 sc_law.nd (Zv (O_l_sign.mono (by omega)) hr rfl (Z0 (Zv (O_l_take.mono (by omega)) hr rfl (Z0 (pv 1) (Z0 Z7 Z3))) Z3)))
  (Z1 (Zu (Zd Y2 (pv 2) (pv 3) (Zh _)) (Z4 (Zk W1)) Zi)
  (Z1 (pS 4 sc_law.nd (Zv (O_l_take.mono (by omega)) hr rfl (Z0 (pv 1) (Z0 Z7 Z3))))
  (Z1 (Zu (Zd Y2 (Zv (O_l_take.mono (by omega)) hr rfl (Z0 (pv 1) (Z0 Z7 Z3))) Z7 (Zh _)) (Z4 (pS 4 sc_law.nd (Zv (O_l_take.mono (by omega)) hr rfl (Z0 (pv 1) (Z0 Z7 Z3))))) Zi)
  (Z1 (pS 5 sc_law.nd (Yt PySem.F.plainAttrs_str PySem.F.slot_str_join PySem.F.type_str_join Z3v Zq (Z0 (J0 rfl (show CScope _ ["_law_script","_law_box","_law_one","_law_other","_law_size","_law_text","_law_place","_law_way","_law_start","_law_need","_law_most","_law_told"] (Z9 U6) _ from⟨rfl,by decide +kernel,rfl,by decide +kernel,by decide +kernel,by decide +kernel,by decide +kernel⟩) (Jo rfl T.b_range (Z0 (pv 4) Z3)) (fun _ _ _ _=>Z3o) (fun _ _ _ _=>(pv 4))) Z3)))
  (Z1 (pS 6 sc_law.nd (Z5t Z1q Z7))
  (Z1 (Zu (Zd Y2 (Zv (O_l_take.mono (by omega)) hr rfl (Z0 (pv 1) (Z0 Z7 Z3))) Z7 (Zh _)) (Z1 (pS 6 sc_law.nd (Zv (O_l_take.mono (by omega)) hr rfl (Z0 (pv 1) (Z0 (Y7 Yv (pv 4) Z7) Z3))))
  (Z4 (pS 5 sc_law.nd (Y7 Xk (Y7 Xk (Y5 Wf (pv 5) Yy (Y3 (pv 6))) (pv 2)) (Y5 Wf (pv 5) (Y3 (pv 6)) Yy))))) Zi)
  (Z1 (pS 7 sc_law.nd (Zv (O_l_take.mono (by omega)) hr rfl (Z0 (pv 1) (Z0 Z7 Z3))))
  (Z1 (pS 8 sc_law.nd Z7)
  (Z1 (Zu (Zd Y2 (pv 7) Z7 (Zh _)) (Z4 (pS 8 sc_law.nd (Zv (O_l_take.mono (by omega)) hr rfl (Z0 (pv 1) (Z0 (Y7 Yv (Ze X7 rfl T.b_len PyProof.Rows.Boot.«len» (Z0 (pv 5) Z3)) Z7) Z3))))) Zi)
  (Z1 (pS 9 sc_law.nd (Y7 Yv (Y7 Vk (Ze X7 rfl T.b_len PyProof.Rows.Boot.«len» (Z0 (pv 5) Z3)) (pv 8)) Z7))
  (Z1 (Zu (PW.pt (T9 (Zd Z3f (pv 6) (pv 8) (Zh _)) (Vy (Zd Y2 (pv 7) Z7 (Zh _))))) (Z4 (pS 9 sc_law.nd (Y7 Yv (Y7 Vk (pv 6) (pv 8)) Z7))) (Z4 (Zu (Zd Z3f (pv 6) (pv 8) (Zh _)) (Z4 (pS 9 sc_law.nd (Y7 Yv (pv 9) Z7))) Zi)))
  (Z1 (pS 10 sc_law.nd (Ze (Z9o rfl) rfl T.b_max PyProof.Rows.Boot.«max» (Z0 Z7 (Z0 (Zl Vz (Wt (Z0 (pv 9) (Z0 (Y7 Vk (pv 9) Z7) (Z0 (Y7 Yv (Y7 Yv (pv 9) Z7) (Zv (O_l_take.mono (by omega)) hr rfl (Z0 (pv 1) (Z0 Z7 Z3)))) (Z0 (Y7 Yv Z7 (Zv (O_l_take.mono (by omega)) hr rfl (Z0 (pv 1) (Z0 Z7 Z3)))) Z3))))) (Zv (O_l_take.mono (by omega)) hr rfl (Z0 (pv 1) (Z0 Z7 Z3))) (fun _ _=>rfl)) Z3))))
  (Z1 (pS 11 sc_law.nd (Zv (O_l_asked.mono (by omega)) hr rfl (Z0 (pv 7) (Z0 (pv 2) (Z0 (pv 5) (Z0 (pv 8) (Z0 (pv 10) Z3)))))))
  (Z1 (Zu (Zd Z5v (pv 10) (pv 9) (Zh _)) (Z4 (Zk (Zv (O_l_alike.mono (by omega)) hr rfl (Z0 (pv 11) (Z0 (Zz (Z0 Zq (Z0 W1 Z3))) Z3))))) Zi)
  (Z4 (Zk (Zv (O_l_alike.mono (by omega)) hr rfl (Z0 (pv 11) (Z0 (Zv (O_l_due.mono (by omega)) hr rfl (Z0 (pv 7) (Z0 (pv 2) (Z0 (pv 5) (Z0 (pv 8) (Z0 (pv 6) Z3)))))) Z3)))))))))))))))))))))),?_⟩
 refine Zfa ?_
 intro Ez Az1 Az2 Az3 Az4 Az5 Az6 Az7 Az8 Az9 Az10 Az11 Az12 Az13 Az14 Az15 Az16 Az17 Az18 Az19 Az20 Az21 Az22 Az23 Az24 Az25 Az26
 refine(Z6 rfl ⟨a,Z6 rfl ⟨.inl hS,fun b hb=>?_⟩⟩)
 have hb0:BoxAt (Zr H b (.lst (ns.map V.int))) b:=⟨ns,Z5,h63⟩
 generalize Zr H b (.lst (ns.map V.int))=H0 at *
 have fin:∀(H1:Hp) (s' o t:Str) (n:Int) (pl:Option Nat) (k st:Nat) (nd L:Int),s'.length=1->t.length<=200->k<=3->st<=t.length->(k≠0->st=0)->OneIn s' t pl->nd=((if k=0 then Zir t pl st else Zip t pl:Nat):Int)->1<=L ->
   Az12 Ez [some (.ref a),some (.ref b),some (.str s'),some (.str o),some (.int n),some (.str t),some (.int (Zex pl)),some (.int k),some (.int st),some (.int nd),some (.int L),none] H1:=by
  intro H1 s' o t n pl k st nd L hs ht hk hst hk0 hO hnd hL
  have no:(if k=0 then(Zir t pl st:Int)<=L else(Zip t pl:Int)<=L)->¬decide (L<nd)=true:=fun h z=>by
   have z':=of_decide_eq_true z
   rw[hnd]at z'
   by_cases e:k=0
   ·rw[if_pos e]at h z'
    omega
   ·rw[if_neg e]at h z'
    omega
  refine Z6 rfl (Z6 rfl (Z6 rfl (Z6 rfl (Z6 rfl ⟨k,s',t,st,L,Ziq pl st,Zh8 pl,Zir t pl st,Zip t pl,rfl,by omega,hk,hs,ht,hst,hO.fd hst,hO.fds,?q0,?q1,?q2,?q3,?qx⟩))))
  case qx =>
   intro hc o' H2 ho g
   have yes:decide (L<nd)=true:=decide_eq_true (by
    rw[hnd]
    rcases hc with⟨e,h⟩ | ⟨e,h⟩
    ·rw[if_pos e];exact h
    ·rw[if_neg e];exact h)
   refine Z6 rfl (Z6 rfl (Wc rfl rfl (Z6 rfl (Zj yes ?_))))
   refine Z6 rfl ⟨sz,fun o2 ho2=>.inl ⟨_,_,rfl,?_,q _⟩⟩
   exact .inr ⟨o',o2,_,_,rfl,rfl,(Gro.new (S:=[]) ho2 _).tups _ _ ho,Z5,by simp,.cons (.inl ⟨rfl,rfl⟩) (.cons (.inl ⟨rfl,rfl⟩) .nil)⟩
  case q0 =>
   intro e hc v H2 hv g
   refine Z6 rfl (Z6 rfl (Wc rfl rfl (Z6 rfl (Zb (no (by rw[if_pos e];exact hc)) ?_))))
   refine Z6 rfl (Z6 rfl (Z6 rfl (Z6 rfl (Z6 rfl (Z6 rfl ⟨k,s',t,st,pl,rfl,hk,hs,ht,hk0,fun _ v' H3 hv' g'=>?_,fun z=>absurd (e.symm.trans z) (by decide),fun z=>absurd (e.symm.trans z) (by decide),fun z=>absurd (e.symm.trans z) (by decide)⟩)))))
   refine .inl ⟨_,_,rfl,Z2k (n:=1) (FnA.mono g'.tups hv) hv' (fun x ex=>?_),q _⟩
   cases pl with
   |none=>cases ex
   |some i =>
    have ex':(if st<=i then some (i,((i+1,[]):W7)) else none)=some x:=ex
    by_cases c:st<=i
    ·rw[if_pos c]at ex'
     cases ex'
     exact Nat.zero_le _
    ·rw[if_neg c]at ex'
     cases ex'
  case q1 =>
   intro e hc l us H2 hl hu g
   refine Z6 rfl (Z6 rfl (Wc rfl rfl (Z6 rfl (Zb (no (by rw[if_neg (by omega)];exact hc)) ?_))))
   refine Z6 rfl (Z6 rfl (Z6 rfl (Z6 rfl (Z6 rfl (Z6 rfl ⟨k,s',t,st,pl,rfl,hk,hs,ht,hk0,fun z=>absurd (e.symm.trans z) (by decide),fun _ l' us' H3 hl' hu' g'=>?_,fun z=>absurd (e.symm.trans z) (by decide),fun z=>absurd (e.symm.trans z) (by decide)⟩)))))
   have hu3:=W0 g'.tups hu
   refine .inr ⟨l,l',us,us',rfl,g'.keep _ _ hl (by simp),hl',?_,Za4 hu3 hu',q _⟩
   have:=Paired.length hu
   cases pl with
   |none=>rw[this];exact Nat.zero_le _
   |some i=>rw[this];exact(by decide:1<=1000000)
  case q2 =>
   intro e hc l H2 hl g
   refine Z6 rfl (Z6 rfl (Wc rfl rfl (Z6 rfl (Zb (no (by rw[if_neg (by omega)];exact hc)) ?_))))
   refine Z6 rfl (Z6 rfl (Z6 rfl (Z6 rfl (Z6 rfl (Z6 rfl ⟨k,s',t,st,pl,rfl,hk,hs,ht,hk0,fun z=>absurd (e.symm.trans z) (by decide),fun z=>absurd (e.symm.trans z) (by decide),fun _ l' H3 hl' g'=>?_,fun z=>absurd (e.symm.trans z) (by decide)⟩)))))
   rw[Zgp]at hl
   refine .inr ⟨l,l',_,_,rfl,g'.keep _ _ hl (by simp),hl',?_,Z2j _,q _⟩
   rw[List.length_map]
   cases pl with
   |none=>exact(by decide:1<=1000000)
   |some i=>exact(by decide:2<=1000000)
  case q3 =>
   intro e hc H2 g
   refine Z6 rfl (Z6 rfl (Wc rfl rfl (Z6 rfl (Zb (no (by rw[if_neg (by omega)];exact hc)) ?_))))
   refine Z6 rfl (Z6 rfl (Z6 rfl (Z6 rfl (Z6 rfl (Z6 rfl ⟨k,s',t,st,pl,rfl,hk,hs,ht,hk0,fun z=>absurd (e.symm.trans z) (by decide),fun z=>absurd (e.symm.trans z) (by decide),fun z=>absurd (e.symm.trans z) (by decide),fun _=>?_⟩)))))
   rw[Zgq hs hO]
   exact .inl ⟨_,_,rfl,Z51,q _⟩
 have most:∀(H1:Hp) (s' o t:Str) (n:Int) (pl:Option Nat) (k st:Nat) (nd:Int),BoxAt H1 b->s'.length=1->t.length<=200->k<=3->st<=t.length->(k≠0->st=0)->OneIn s' t pl->nd=((if k=0 then Zir t pl st else Zip t pl:Nat):Int) ->
   Az13 Ez [some (.ref a),some (.ref b),some (.str s'),some (.str o),some (.int n),some (.str t),some (.int (Zex pl)),some (.int k),some (.int st),some (.int nd),none,none] H1:=by
  intro H1 s' o t n pl k st nd hb1 hs ht hk hst hk0 hO hnd
  refine Z6 rfl (Z6 rfl (Wc rfl rfl (Z6 rfl (Wc rfl rfl (Z6 rfl ⟨b,15,rfl,hb1,by decide,by decide,fun r H2 r0 r1 hb2 g2=>Wc rfl rfl (Z6 rfl ⟨b,40,rfl,hb2,by decide,by decide,fun r' H3 r0' r1' hb3 g3=>Wc rfl rfl ⟨sz,fun l hl=>?_⟩⟩)⟩)))))
  have hl4:(Zr H3 l (.lst [.int nd,.int (nd-1),.int (nd+1+r),.int (1+r')])) l=some (.lst [.int nd,.int (nd-1),.int (nd+1+r),.int (1+r')]):=Z5
  have hb4:BoxAt (Zr H3 l (.lst [.int nd,.int (nd-1),.int (nd+1+r),.int (1+r')])) b:=hb3.new hl
  generalize Zr H3 l (.lst [.int nd,.int (nd-1),.int (nd+1+r),.int (1+r')])=H4 at *
  refine Z6 rfl ⟨b,4,rfl,hb4,by decide,by decide,fun j H5 j0 j1 hb5 g5=>?_⟩
  have hl5:H5 l=some (.lst [.int nd,.int (nd-1),.int (nd+1+r),.int (1+r')]):=g5.keep _ _ hl4 (Zgt hb3 hl)
  have all:∀m:Int,1<=(if m>1 then m else 1):=fun m=>by split <;> omega
  rcases(show j=0∨j=1∨j=2∨j=3 by omega) with rfl | rfl | rfl | rfl
  ·exact⟨l,_,_,_,rfl,rfl,SqL.of hl5,rfl,_,_,rfl,fin _ _ _ _ _ _ _ _ _ _ hs ht hk hst hk0 hO hnd (all _)⟩
  ·exact⟨l,_,_,_,rfl,rfl,SqL.of hl5,rfl,_,_,rfl,fin _ _ _ _ _ _ _ _ _ _ hs ht hk hst hk0 hO hnd (all _)⟩
  ·exact⟨l,_,_,_,rfl,rfl,SqL.of hl5,rfl,_,_,rfl,fin _ _ _ _ _ _ _ _ _ _ hs ht hk hst hk0 hO hnd (all _)⟩
  ·exact⟨l,_,_,_,rfl,rfl,SqL.of hl5,rfl,_,_,rfl,fin _ _ _ _ _ _ _ _ _ _ hs ht hk hst hk0 hO hnd (all _)⟩
 have need:∀(H1:Hp) (s' o t:Str) (n:Int) (pl:Option Nat) (k st:Nat),BoxAt H1 b->s'.length=1->t.length<=200->k<=3->st<=t.length->(k≠0->st=0)->OneIn s' t pl ->
   Az15 Ez [some (.ref a),some (.ref b),some (.str s'),some (.str o),some (.int n),some (.str t),some (.int (Zex pl)),some (.int k),some (.int st),none,none,none] H1:=by
  intro H1 s' o t n pl k st hb1 hs ht hk hst hk0 hO
  obtain⟨z,hz,hzt,hzf⟩:=Z55 st pl
  refine Z6 rfl (Z6 rfl ⟨Yc (by omega),Z6 rfl (Wc rfl rfl (Wc rfl rfl ?_))⟩)
  refine Z6 rfl (Z6 rfl (Wc rfl rfl (Z6 rfl ?_)))
  rw[hz]
  cases z with
  |true =>
   obtain⟨i,rfl,hi⟩:=hzt rfl
   have hit:=(hO.at_ i rfl).1
   refine Zj rfl ?_
   by_cases e:k=0
   ·subst e
    refine Z6 rfl ⟨rfl,Z6 rfl (Zj (by decide) ?_)⟩
    refine Z6 rfl (Z6 rfl (Wc rfl rfl (Wc rfl rfl ?_)))
    refine most _ _ _ _ _ _ _ _ _ hb1 hs ht hk hst hk0 hO ?_
    show(i:Int)-st+2=((if(0:Nat)=0 then(if st<=i then i-st+2 else t.length+1-st) else _:Nat):Int)
    rw[if_pos rfl,if_pos hi]
    omega
   ·have e':=hk0 e
    subst e'
    refine Z6 rfl ⟨rfl,Z6 rfl (Zb (by intro y;have y':=of_decide_eq_true y;injection y' with y';omega) ?_)⟩
    refine Z6 rfl (Z6 rfl (Wc rfl rfl (Z6 rfl (Zj hz ?_))))
    refine Z6 rfl (Wc rfl rfl ?_)
    refine most _ _ _ _ _ _ _ _ _ hb1 hs ht hk hst hk0 hO ?_
    rw[if_neg e]
    show(t.length:Int)-(0:Nat)+1+1=((t.length+2:Nat):Int)
    omega
  |false =>
   have no:=hzf rfl
   refine Zb (by decide) (Zb (by decide) ?_)
   refine Z6 rfl (Z6 rfl (Wc rfl rfl (Z6 rfl (Zb (by rw[hz];decide) ?_))))
   refine most _ _ _ _ _ _ _ _ _ hb1 hs ht hk hst hk0 hO ?_
   by_cases e:k=0
   ·rw[if_pos e]
    cases pl with
    |none =>
     show(t.length:Int)-st+1=((t.length+1-st:Nat):Int)
     omega
    |some i =>
     show(t.length:Int)-st+1=((if st<=i then _ else t.length+1-st:Nat):Int)
     rw[if_neg (no i rfl)]
     omega
   ·rw[if_neg e]
    have e':=hk0 e
    subst e'
    cases pl with
    |none =>
     show(t.length:Int)-(0:Nat)+1=((t.length+1:Nat):Int)
     omega
    |some i=>exact absurd (Nat.zero_le i) (no i rfl)
 have way:∀(H1:Hp) (s' o t:Str) (n:Int) (pl:Option Nat),BoxAt H1 b->s'.length=1->t.length<=200->OneIn s' t pl ->
   Az18 Ez [some (.ref a),some (.ref b),some (.str s'),some (.str o),some (.int n),some (.str t),some (.int (Zex pl)),none,none,none,none,none] H1:=by
  intro H1 s' o t n pl hb1 hs ht hO
  refine Z6 rfl ⟨b,4,rfl,hb1,by decide,by decide,fun k' H2 k0 k1 hb2 g2=>?_⟩
  obtain⟨k,rfl⟩:∃k:Nat,k'=k:=⟨k'.toNat,by omega⟩
  by_cases e:k=0
  ·subst e
   refine Z6 rfl ⟨rfl,Z6 rfl (Zj (by decide) ?_)⟩
   refine Z6 rfl (Z6 rfl (Z6 rfl ⟨Yc (by omega),Wc rfl rfl ⟨b,(t.length:Int)+1,rfl,hb2,by omega,by omega,fun st' H3 s0 s1 hb3 g3=>?_⟩⟩))
   obtain⟨st,rfl⟩:∃st:Nat,st'=st:=⟨st'.toNat,by omega⟩
   exact need _ _ _ _ _ _ 0 st hb3 hs ht (by decide) (by omega) (fun z=>absurd rfl z) hO
  ·refine Z6 rfl ⟨rfl,Z6 rfl (Zb (by intro y;have y':=of_decide_eq_true y;injection y' with y';omega) ?_)⟩
   exact need _ _ _ _ _ _ k 0 hb2 hs ht (by omega) (Nat.zero_le _) (fun _=>rfl) hO
 have text:∀(H1:Hp) (s' o:Str) (n:Nat),BoxAt H1 b->s'.length=1->o.length=1->s'≠o->n<=150 ->
   Az21 Ez [some (.ref a),some (.ref b),some (.str s'),some (.str o),some (.int n),none,none,none,none,none,none,none] H1:=by
  intro H1 s' o n hb1 hs ho hne hn
  obtain⟨len,_⟩:=Zch ho n
  refine⟨rfl,Z6 rfl (Z6 rfl ⟨by omega,by omega,?_⟩)⟩
  refine Zaz (n:=n) (fun i ys H'=>ys=(List.replicate i o).map V.str/\BoxAt H' b) ⟨rfl,hb1⟩ (Xp (by omega)) (fun i ys H' ⟨e1,_⟩=>by rw[e1,List.length_map,List.length_replicate];exact Nat.le_refl _) ?_ ?_
  ·rintro i ys H2 hi ⟨rfl,hb2⟩
   exact Z6 rfl ⟨by rw[List.replicate_succ',List.map_append];rfl,hb2⟩
  ·rintro ys H2 ⟨rfl,hb2⟩ l hl
   have hs':=Z59 (xs:=List.replicate n o) (fun x hx=>by rw[List.eq_of_mem_replicate hx];exact ho)
   have e0:("":Str).length=0:=rfl
   refine⟨_,l,List.replicate n o,rfl,rfl,SqL.of Z5,by rw[hs',e0,List.length_replicate];omega,?_⟩
   have hb3:=hb2.new (o:=.lst ((List.replicate n o).map V.str)) hl
   refine Z6 rfl ?_
   refine Z6 rfl ⟨b,2,rfl,hb3,by decide,by decide,fun c H4 c0 c1 hb4 g4=>⟨rfl,Z6 rfl (Wq (fun _=>?_) (fun _=>?_))⟩⟩
   ·refine Z6 rfl (Z6 rfl (Wc rfl rfl ⟨b,(n:Int)+1,rfl,hb4,by omega,by omega,fun j' H5 j0 j1 hb5 g5=>?_⟩))
    obtain⟨j,rfl⟩:∃j:Nat,j'=j:=⟨j'.toNat,by omega⟩
    obtain⟨hO,hl5⟩:=Zdi (n:=n) (j:=j) hs ho hne (by omega)
    have l1:=Txt.slice_le (Txt.join "" (List.replicate n o)) none (some (j:Int))
    have l2:=Txt.slice_le (Txt.join "" (List.replicate n o)) (some (j:Int)) none
    refine Z6 rfl (Z6 rfl (Z6 rfl (Z6 rfl ⟨Yc (by omega),Z6 rfl (Wc rfl rfl ⟨Yc (by omega),Z6 rfl (Z6 rfl (Z6 rfl (Z6 rfl ⟨Yc (by omega),Wc rfl rfl ⟨Yc (by rw[Xc];omega),?_⟩⟩)))⟩)⟩)))
    exact way _ _ _ _ _ (some j) hb5 hs (by omega) hO
   ·exact way _ _ _ _ _ none hb4 hs (by omega) (Zag ho hne)
 refine Z6 rfl ⟨b,94,rfl,hb0,by decide,by decide,fun c H1 c0 c1 hb1 g1=>⟨c,rfl,fun s' hs=>?_⟩⟩
 refine Z6 rfl ⟨b,94,rfl,hb1,by decide,by decide,fun c' H2 c0' c1' hb2 g2=>⟨c',rfl,fun o ho=>?_⟩⟩
 refine Z6 rfl (Z6 rfl ⟨rfl,Z6 rfl ?_⟩)
 by_cases e:s'=o
 ·exact Zj (decide_eq_true (by rw[e])) (q _)
 refine Zb (by intro y;have y':=of_decide_eq_true y;injection y' with y';exact e y') ?_
 refine Z6 rfl ⟨b,13,rfl,hb2,by decide,by decide,fun n' H3 n0 n1 hb3 g3=>?_⟩
 refine Z6 rfl ⟨b,4,rfl,hb3,by decide,by decide,fun k H4 k0 k1 hb4 g4=>⟨rfl,Z6 rfl (Wq (fun _=>?_) (fun _=>?_))⟩⟩
 ·refine Z6 rfl ⟨b,151,rfl,hb4,by decide,by decide,fun n2 H5 n0' n1' hb5 g5=>?_⟩
  obtain⟨n,rfl⟩:∃n:Nat,n2=n:=⟨n2.toNat,by omega⟩
  exact text _ _ _ n hb5 hs ho e (by omega)
 ·obtain⟨n,rfl⟩:∃n:Nat,n'=n:=⟨n'.toNat,by omega⟩
  exact text _ _ _ n hb4 hs ho e (by omega)
theorem Ye{x:Str}{st:Stmt}{ps:List Str}{f:Addr}{oc:Value}{od an:Option Addr}{osl:Array (Option Value)}{kV doc pm cdv ct:Value}(X:K.In h)(G:h.Ns mainGlobals mg)(a:W.nsIn K mainGlobals x=some (some (.ref f)))
  (l:K.lookup f=some ⟨oc,od,.func (W.fnOf x x (Xn st) (X0 st) (Z9 st) .none kV doc pm an cdv ct),osl⟩) (c:W.codeIn K cdv x=true) (k:W.keepIn K (.ref f)=true)
  (hb:∀(kV doc pm:Value) (an:Option Addr) (cdv ct:Value) (us:List Value),us.length=ps.length->bindArgs (W.fnOf x x (Xn st) (X0 st) (Z9 st) .none kV doc pm an cdv ct) ⟨us,[]⟩=pure (ps.zip us)):Def K mg x st ps :=
 ⟨f,_,Tf (st:=st) l c k,W.mg_of X G a,(Tf (st:=st) l c k).binds hb⟩
theorem Z2y{x:Str}{pl:Addr}{od:Option Addr}{n:Nat}{sl:Array (Option Value)}{x1 x2 x3 x4 x5 x6 x7:Str}{t1 t2 t3 t4 t5 t6 t7:Tok}(X:K.In h)(G:h.Ns mainGlobals mg)(a:W.nsIn K mainGlobals x=some (some (.ref pl)))(l:K.lookup pl=some ⟨.type "tuple",od,.seq #[.str x1 t1,.str x2 t2,.str x3 t3,.str x4 t4,.str x5 t5,.str x6 t6,.str x7 t7] n,sl⟩) :
  ∃pl,mg x=some (.ref pl)/\∀H,SqT K H pl [.str x1,.str x2,.str x3,.str x4,.str x5,.str x6,.str x7]:=⟨pl,W.mg_of X G a,fun H=>.inr ⟨_,_,n,l,rfl,rfl,sz,(.cons ⟨_,rfl⟩ (.cons ⟨_,rfl⟩ (.cons ⟨_,rfl⟩ (.cons ⟨_,rfl⟩ (.cons ⟨_,rfl⟩ (.cons ⟨_,rfl⟩ (.cons ⟨_,rfl⟩ .nil)))))))⟩⟩
theorem Zf3{l:W.OpenLaw}{w:World}{fa f:Addr}{oc:Value}{od an:Option Addr}{osl:Array (Option Value)}{kV doc pm cdv ct:Value}(X:K.In h)(G:h.Ns mainGlobals mg)(hfa:mg "law" = some (.ref fa))(a:W.nsIn K mainGlobals "law" = some (some (.ref f)))
  (lk:K.lookup f=some ⟨oc,od,.func (W.fnOf "law" "law" (Xn U6) (X0 U6) (Z9 U6) .none kV doc pm an cdv ct),osl⟩) (c:W.codeIn K cdv "law" = true) (k:W.keepIn K (.ref f)=true)
  (rest:∀(base:Heap) (f:Addr) (fd:FuncData),Fun K "law" "law" U6 f fd->FnOk l.prog w K mg base Wp 40 f fd ["_law_script"] (Z3e K)) :
  ∃fd:FuncData,(∀(s:Shared) (v:Value),BindsTo s fd ⟨[v],[]⟩ [("_law_script",v)])/\∀base:Heap,K.In base->base.Ns mainGlobals mg->FnOk l.prog w K mg base Wp 40 fa fd ["_law_script"] (Z3e K):=by
 have e:=hfa.symm.trans (W.mg_of X G a)
 cases e
 exact⟨W.fnOf "law" "law" (Xn U6) (X0 U6) (Z9 U6) .none kV doc pm an cdv ct,fun s v=>.of_eq rfl,fun base _ _=>rest base _ _ (Tf (st:=U6) lk c k)⟩
theorem Z6s{w:World}{x:Str}{pl:Addr}{n:Nat}{h1 h2 h3 h4 h5:Int}{k1 k2 k3 k4 k5 v1 v2 v3 v4 v5:Str}{t1 t2 t3 t4 t5 u1 u2 u3 u4 u5:Tok}(X:K.In h)(G:h.Ns mainGlobals mg)(a:W.nsIn K mainGlobals x=some (some (.ref pl)))
  (l:K.lookup pl=some ⟨.type "dict",none,.dict #[⟨h1,.str k1 t1,.str v1 u1⟩,⟨h2,.str k2 t2,.str v2 u2⟩,⟨h3,.str k3 t3,.str v3 u3⟩,⟨h4,.str k4 t4,.str v4 u4⟩,⟨h5,.str k5 t5,.str v5 u5⟩] n,#[]⟩) (hd:(pl==sysModules)=false)
  (e:h1=PyData.keyHash w.params k1/\h2=PyData.keyHash w.params k2/\h3=PyData.keyHash w.params k3/\h4=PyData.keyHash w.params k4/\h5=PyData.keyHash w.params k5) (nd:([(.inr k1),(.inr k2),(.inr k3),(.inr k4),(.inr k5)]:List Uh).Nodup) :
  ∃pl,mg x=some (.ref pl)/\Zem K w pl [(.inr k1,.str v1),(.inr k2,.str v2),(.inr k3,.str v3),(.inr k4,.str v4),(.inr k5,.str v5)] :=
 ⟨pl,W.mg_of X G a,Zbz l hd (.cons (Ue e.1) (.cons (Ue e.2.1) (.cons (Ue e.2.2.1) (.cons (Ue e.2.2.2.1) (.cons (Ue e.2.2.2.2) .nil))))) nd⟩
theorem Z9m{x:Str}{pl:Addr}{od:Option Addr}{n:Nat}{sl:Array (Option Value)}{x1 x2:Str}{t1 t2:Tok}(X:K.In h)(G:h.Ns mainGlobals mg)(a:W.nsIn K mainGlobals x=some (some (.ref pl)))(l:K.lookup pl=some ⟨.type "tuple",od,.seq #[.str x1 t1,.str x2 t2] n,sl⟩) :
  ∃pl,mg x=some (.ref pl)/\∀H,SqT K H pl [.str x1,.str x2]:=⟨pl,W.mg_of X G a,fun H=>.inr ⟨_,_,n,l,rfl,rfl,sz,(.cons ⟨_,rfl⟩ (.cons ⟨_,rfl⟩ .nil))⟩⟩
theorem Z9l{x y:Str}{t:Tok}(X:K.In h)(G:h.Ns mainGlobals mg)(a:W.nsIn K mainGlobals x=some (some (.str y t))):∃t,mg x=some (.str y t):=⟨t,W.mg_of X G a⟩
structure SeekDefs(K:W.Frag)(mg:Str->Option Value)(CS:Addr):Prop where
 mg_:mg "Seeker" = some (.ref CS)
 tx:TxtS K CS
 mks:W.makesIn K CS=true
 kc:W.keepIn K (.ref CS)=true
 init:MDef K CS "__init__" "Seeker.__init__" Yw ["self","pattern","text","most"]
 from_:MDef K CS "first_from" "Seeker.first_from" Yq ["self","start"]
 at_:MDef K CS "find_at" "Seeker.find_at" X3 ["self","begin"]
theorem Zcr{C:Addr}(pg:W.plainGet K C Str.empty=true)(hd:W.hasDictIn K C=true)(po:W.plainOver K C=true)(sa:W.findIn K (.ref C) "__setattr__" = some (some (.builtin "object.__setattr__")))
  (a1:W.findIn K (.ref C) "rows" = some none) (a2:W.findIn K (.ref C) "text" = some none) (a3:W.findIn K (.ref C) "left" = some none):TxtS K C:=⟨⟨pg,hd,po,sa⟩,a1,a2,a3⟩
theorem Def.ownX{P:Program}{w:World}{base:Heap}{x:Str}{st:Stmt}{ps:List Str}{k:Nat}{sp:Sp}(D:Def K mg x st ps)(h:∀f fd,Fun K x x st f fd->FnOk P w K mg base (Z60 P w) k f fd ps sp):OwnX P w K mg base k x ps sp:=by
 obtain⟨f,fd,F,m,b⟩:=D.ex
 exact⟨f,fd,h f fd F,m,F.kp,b⟩
theorem MDef.ownX{P:Program}{w:World}{base:Heap}{C:Addr}{m qual:Str}{st:Stmt}{ps:List Str}{k:Nat}{sp:Sp}(D:MDef K C m qual st ps)(h:∀f fd,Fun K m qual st f fd->FnOk P w K mg base (Z60 P w) k f fd ps sp):OwnMX P w K mg base k C m ps sp:=by
 obtain⟨f,fd,F,M,b⟩:=D
 exact⟨f,fd,h f fd F,M,b⟩
theorem Z8l{N:Addr}{oc:Value}{od:Option Addr}{es:Array DictEntry}{n:Nat}{osl:Array (Option Value)}(l:K.lookup N=some ⟨oc,od,.dict es n,osl⟩)(hs:(es.toList.all fun e=>match e.key with | .str _ _=>true | _=>false)=true):∀h,K.In h->h.Ns N (nsFind es):=fun h X=>by
 refine⟨_,es,n,X _ _ l,rfl,fun e he=>?_,fun _=>rfl⟩
 have:=List.all_eq_true.mp hs e (by simpa using he)
 cases hk:e.key with
 |str y t=>exact⟨y,t,rfl⟩
 |_=>rw[hk]at this;cases this
theorem Zhg{x:Str}{C C' N N':Addr}{nm q:Str}{bs:List Value}{hdct:Bool}{sn:List Str}{sub:List Value}{ab:Bool}{col:Option Bool}{dd:Option Addr}{k0 k1 k2 k3 k5:Option Value}{oc oc' c0':Value}{od od' dd':Option Addr}{es es':Array DictEntry}{n n':Nat}{osl osl' sl':Array (Option Value)}{nm' q':Str}{bs' mr':List Value}{hdct':Bool}{sn':List Str}{sub':List Value}{ab' hd':Bool}{col':Option Bool}
  (X:K.In h) (G:h.Ns mainGlobals mg) (a:W.nsIn K mainGlobals x=some (some (.ref C))) (l:K.lookup C=some ⟨.type "type",dd,.cls ⟨nm,bs,[.ref C,.ref C',.type "ValueError",.type "Exception",.type "BaseException",.type "object"],N,q,hdct,sn,sub,ab,col,false⟩,#[k0,k1,k2,k3,some (.builtin "ValueError.__new__"),k5]⟩) (ln:K.lookup N=some ⟨oc,od,.dict es n,osl⟩) (l':K.lookup C'=some ⟨c0',dd',.cls ⟨nm',bs',mr',N',q',hdct',sn',sub',ab',col',hd'⟩,sl'⟩) (ln':K.lookup N'=some ⟨oc',od',.dict es' n',osl'⟩)
  (s1:(es.toList.all fun e=>match e.key with | .str _ _=>true | _=>false)=true) (s2:(es'.toList.all fun e=>match e.key with | .str _ _=>true | _=>false)=true) (i1:nsFind es "__init__" = none) (i2:nsFind es' "__init__" = none):∃C C',XC K mg x C C' :=
 ⟨C,C',W.mg_of X G a,nm,q,N,bs,hdct,sn,sub,ab,col,dd,k0,k1,k2,k3,k5,es,l,Z8l ln s1,i1,fun h' X'=>.own (X' _ _ l') (Z8l ln' s2 h' X') i2 .base⟩
theorem Z7c{C D:Addr}{cd:ClassData}(a:W.clsIn K D=some cd)(b:W.typeIn K (.ref D)=some (.type "type"))(c:W.subIn K (.ref C) (.ref D)=some false)(d:(Value.ref C==Value.ref D)=false):W.kitOne K (.ref C) (.ref D)=some false:=by
 unfold W.kitOne
 rw[if_neg (by rw[d];decide)]
 show(if((W.clsIn K D).isSome&&W.typeIn K (.ref D)==some (.type "type"))=true then W.subIn K (.ref C) (.ref D) else none)=_
 rw[a,b,if_pos (by simp),c]
theorem Zhf{CO CE CM CN CU N N':Addr}{nm q:Str}{bs:List Value}{hdct:Bool}{sn:List Str}{sub:List Value}{ab:Bool}{col:Option Bool}{dd:Option Addr}{k0 k1 k2 k3 k5:Option Value}{oc oc':Value}{od od' dd':Option Addr}{es es':Array DictEntry}{n n':Nat}{osl osl':Array (Option Value)}{nm' q':Str}{bs':List Value}{hdct':Bool}{sn':List Str}{sub':List Value}{ab':Bool}{col':Option Bool}{k0' k1' k2' k3' k5':Option Value}{ni':String}{c1 c2 c3 c4:ClassData}
  (X:K.In h) (G:h.Ns mainGlobals mg) (a1:W.nsIn K mainGlobals "Over" = some (some (.ref CO))) (l:K.lookup CO=some ⟨.type "type",dd,.cls ⟨nm,bs,[.ref CO,.ref CE,.type "ValueError",.type "Exception",.type "BaseException",.type "object"],N,q,hdct,sn,sub,ab,col,false⟩,#[k0,k1,k2,k3,some (.builtin "ValueError.__new__"),k5]⟩) (ln:K.lookup N=some ⟨oc,od,.dict es n,osl⟩)
  (l':K.lookup CE=some ⟨.type "type",dd',.cls ⟨nm',bs',[.ref CE,.type "ValueError",.type "Exception",.type "BaseException",.type "object"],N',q',hdct',sn',sub',ab',col',false⟩,#[k0',k1',k2',k3',some (.builtin ni'),k5']⟩) (ln':K.lookup N'=some ⟨oc',od',.dict es' n',osl'⟩)
  (s1:(es.toList.all fun e=>match e.key with | .str _ _=>true | _=>false)=true) (s2:(es'.toList.all fun e=>match e.key with | .str _ _=>true | _=>false)=true) (i1:nsFind es "__init__" = none) (i2:nsFind es' "__init__" = none)
  (a2:W.nsIn K mainGlobals "SeekError" = some (some (.ref CE))) (a3:W.nsIn K mainGlobals "Memory" = some (some (.ref CM))) (a4:W.nsIn K mainGlobals "NoForm" = some (some (.ref CN))) (a5:W.nsIn K mainGlobals "Unread" = some (some (.ref CU)))
  (z1:W.clsIn K CO=some c1) (z2:W.findIn K (.ref CO) "__getattribute__" = some (some (.builtin "BaseException.__getattribute__"))) (z3:W.findIn K (.ref CO) "__getattr__" = some none) (z4:W.findIn K (.ref CO) "__class__" = some (some (.builtin "object.__class__"))) (z5:W.specialIn K (.builtin "object.__class__") "__get__" = some (some (.builtin "getset_descriptor.__get__"))) (z6:W.takesIn K (.builtin "object.__class__")=some true) (z7:W.mroIn K CO (.type "object")=some true)
  (v1:W.subIn K (.ref CO) (.type "ValueError")=some true) (m1:W.clsIn K CM=some c2) (m2:W.typeIn K (.ref CM)=some (.type "type")) (m3:W.subIn K (.ref CO) (.ref CM)=some false) (m4:(Value.ref CO==Value.ref CM)=false) (o1:W.clsIn K CN=some c3) (o2:W.typeIn K (.ref CN)=some (.type "type")) (o3:W.subIn K (.ref CO) (.ref CN)=some false) (o4:(Value.ref CO==Value.ref CN)=false) (u1:W.clsIn K CU=some c4) (u2:W.typeIn K (.ref CU)=some (.type "type")) (u3:W.subIn K (.ref CO) (.ref CU)=some false) (u4:(Value.ref CO==Value.ref CU)=false) :
  ∃CO CE CM CN CU,XC K mg "Over" CO CE/\mg "SeekError" = some (.ref CE)/\mg "Memory" = some (.ref CM)/\mg "NoForm" = some (.ref CN)/\mg "Unread" = some (.ref CU)/\XOv K CO CE CM CN CU:=by
 have xc:XC K mg "Over" CO CE:=⟨W.mg_of X G a1,nm,q,N,bs,hdct,sn,sub,ab,col,dd,k0,k1,k2,k3,k5,es,l,Z8l ln s1,i1,fun h' X'=>.own (X' _ _ l') (Z8l ln' s2 h' X') i2 .base⟩
 have co':Zis K CE Zij:=⟨nm',q',N',bs',hdct',sn',sub',ab',col',dd',k0',k1',k2',k3',k5',ni',l'⟩
 refine⟨CO,CE,CM,CN,CU,xc,W.mg_of X G a2,W.mg_of X G a3,W.mg_of X G a4,W.mg_of X G a5,⟨⟨_,xc.co,rfl⟩,by rw[z1];rfl,z2,z3,z4,z5,z6,z7⟩,⟨_,_,xc.co,co',rfl,.inr (by simp)⟩,?_,?_,Z7c m1 m2 m3 m4,Z7c o1 o2 o3 o4,Z7c u1 u2 u3 u4⟩
 ·unfold W.kitOne
  rw[if_pos (by simp)]
 ·unfold W.kitOne
  rw[if_neg (by intro z;cases beq_iff_eq.mp z)]
  show(if W.kitMeta "ValueError" = true then W.subIn K (.ref CO) (.type "ValueError") else none)=_
  rw[if_pos (by decide +kernel),v1]
structure PDefs(K:W.Frag)(mg:Str->Option Value):Prop where
 coded:Def K mg "coded" Z0x ["pattern"]
 put:Def K mg "put" Z5r ["rows","pattern"]
 hold_place:Def K mg "hold_place" Xy ["rows"]
 put_or:Def K mg "put_or" Ub ["rows","branches"]
 put_times:Def K mg "put_times" Wa ["rows","low","high","how","part"]
 put_have:Def K mg "put_have" V6 ["rows","number","yes","no"]
 put_look:Def K mg "put_look" V5 ["rows","kind","part"]
 takes_sign:Def K mg "takes_sign" X6 ["row","text","at"]
 lies_in:Def K mg "lies_in" V1 ["runs","sign"]
 with_entry:Def K mg "with_entry" X5 ["groups","number","begin","end"]
structure LDefs(K:W.Frag)(mg:Str->Option Value):Prop where
 first_find:Def K mg "first_find" Ws ["pattern","text","start","most"]
 all_finds:Def K mg "all_finds" Ve ["pattern","text","most"]
 parted:Def K mg "parted" Tp ["pattern","text","most"]
 replaced:Def K mg "replaced" Vp ["pattern","text","form","most"]
 around:Def K mg "texts_around" Xt ["text","finds"]
 parts_of:Def K mg "parts_of" Vq ["pattern"]
 groups_in:Def K mg "groups_in" Wb ["pattern"]
 form_pieces:Def K mg "form_pieces" W5 ["form","groups"]
 marked_piece:Def K mg "marked_piece" Xu ["sign","groups"]
 filled:Def K mg "filled" Uc ["pieces","text","find"]
 taken_text:Def K mg "taken_text" Wr ["number","text","find"]
theorem Z3s{P:Program}{w:World}{base:Heap}{x:Str}{st:Stmt}{ps:List Str}{sp:Nat->Sp}(D:Def K mg x st ps)(no:∀vs H Q E,¬sp 0 vs H Q E)(step:∀n f fd,Own P w K mg base (2+n) x ps (sp n)->Fun K x x st f fd->FnOk P w K mg base Wp (2+n+1) f fd ps (sp (n+1))) :
  ∀n,Own P w K mg base (2+n) x ps (sp n)
 |0=>D.own fun f fd F=>FnOk.never no
 |n+1=>D.own fun f fd F=>step n f fd (Z3s D no step n) F
theorem Zgf{P:Program}{w:World}{it le ls C CS dn plA CN CE CM CO CU CN' CE':Addr}{t1:Tok}{ds:List (Uh×V)}(T:Blt mg)(Vn:mg "ITSELF" = some (.ref it))(hIT:∀H,SqT K H it Te)(W4:mg "LEANING" = some (.ref le))(hLE:∀H,SqT K H le V0)(X2:mg "LAST_ROWS" = some (.ref ls))(hLS:Zem K w ls V8)
  (MA:MachDefsA K mg C) (SD:SeekDefs K mg CS) (Ug:mg "DOINGS" = some (.ref dn)) (hDN:Zem K w dn ds) (DD:DoingsA K ds) (PD:PDefs K mg) (LD:LDefs K mg) (Zcd:mg "zip" = none) (Vo:mg "ValueError" = none) (Z1o:mg "DIGITS" = some (.str digS t1)) (U9:mg "PART_LAST" = some (.ref plA)) (hPL:∀H,SqT K H plA W3)
  (d1:Def K mg "_law_take" Tq ["_law_box","_law_many"]) (d2:Def K mg "_law_sign" Ts ["_law_cell"]) (d3:Def K mg "_law_alike" V2 ["_law_found","_law_due_here"]) (d4:Def K mg "_law_asked" Uj ["_law_way","_law_one","_law_text","_law_start","_law_most"]) (d5:Def K mg "_law_due" Z0v ["_law_way","_law_one","_law_text","_law_start","_law_place"])
  (xn:XC K mg "NoForm" CN' CE') (xc:XC K mg "Over" CO CE) (x1:mg "SeekError" = some (.ref CE)) (x2:mg "Memory" = some (.ref CM)) (x3:mg "NoForm" = some (.ref CN)) (x4:mg "Unread" = some (.ref CU)) (Z:XOv K CO CE CM CN CU)
  (base:Heap) (f:Addr) (fd:FuncData) (F:Fun K "law" "law" U6 f fd):FnOk P w K mg base Wp 40 f fd ["_law_script"] (Z3e K):=by
 have noA:∀vs H Q E,¬Z22 0 vs H Q E:=fun vs H Q E ⟨x,y,_,hp,_⟩=>hp.elim
 have al:=Z3s (P:=P) (w:=w) (base:=base) (sp:=Z22) d3 noA (fun n f fd O F=>Zbs T O F)
 have am:=Zad T d3 al
 have pu:=Z7x (P:=P) (w:=w) (base:=base) T Vn hIT W4 hLE X2 hLS PD.put PD.hold_place PD.put_or PD.put_times PD.put_have PD.put_look 8
 have co:Own P w K mg base 27 "coded" ["pattern"] Z3n:=PD.coded.own fun _ _ F=>Zao T pu F
 have ta:Own P w K mg base 1 "_law_take" ["_law_box","_law_many"] Z70:=d1.own fun _ _ F=>Zdk F
 have sg:Own P w K mg base 1 "_law_sign" ["_law_cell"] Z71:=d2.own fun _ _ F=>Zdl F
 have wc:=Zab (P:=P) (w:=w) (base:=base) T MA Ug hDN DD PD.takes_sign PD.lies_in PD.with_entry
 have fa:OwnMX P w K mg base 7 CS "find_at" ["self","begin"] (Z77 CS CO):=SD.at_.ownX fun _ _ F=>Zds MA.base_.tx SD.tx xc (Zac T MA.base_) wc (Z94 MA.base_) F
 have fr:OwnMX P w K mg base 8 CS "first_from" ["self","start"] (Z0s CS CO):=SD.from_.ownX fun _ _ F=>Zal T SD.tx fa F
 obtain⟨fi,fdi,Fi,Mi,bi⟩:=SD.init
 have si:OwnC P w K mg base 28 CS "Seeker" ["self","pattern","text","most"] (Z0r CS):=⟨fi,fdi,Zah SD.tx co Fi,⟨SD.mks,Mi.at_,Mi.fn,SD.kc⟩,SD.mg_,bi⟩
 have fs:OwnX P w K mg base 30 "all_finds" ["pattern","text","most"] (Z1s CO):=LD.all_finds.ownX fun _ _ F=>Zdu SD.tx si fr F
 have ff:OwnX P w K mg base 30 "first_find" ["pattern","text","start","most"] (Zc6 CO):=LD.first_find.ownX fun _ _ F=>Zg9 SD.tx si fr F
 have ar:Own P w K mg base 1 "texts_around" ["text","finds"] Tk:=LD.around.own fun _ _ F=>Z9a F
 have pt:OwnX P w K mg base 31 "parted" ["pattern","text","most"] (Z3l CO):=LD.parted.ownX fun _ _ F=>Zaj fs ar F
 have po:Own P w K mg base 1 "parts_of" ["pattern"] Jj:=LD.parts_of.own fun _ _ F=>Z4o U9 hPL F
 have noG:∀vs H Q E,¬Zio 0 vs H Q E:=fun vs H Q E h=>by obtain⟨v,p,_,hp,_⟩:=h;exact hp.elim
 have gi:=Z3s (P:=P) (w:=w) (base:=base) (sp:=Zio) LD.groups_in noG (fun n f fd O F=>Z38 T po O F)
 have mp:OwnX P w K mg base 1 "marked_piece" ["sign","groups"] (Z72 CN'):=LD.marked_piece.ownX fun _ _ F=>Zdn T Z1o xn F
 have fp:OwnX P w K mg base 2 "form_pieces" ["form","groups"] (Z75 CN'):=LD.form_pieces.ownX fun _ _ F=>Zdq T mp F
 have tk:Own P w K mg base 1 "taken_text" ["number","text","find"] Zc5:=LD.taken_text.own fun _ _ F=>Zg6 F
 have fl:Own P w K mg base 2 "filled" ["pieces","text","find"] Z76:=LD.filled.own fun _ _ F=>Zdr T tk F
 have rp:OwnX P w K mg base 31 "replaced" ["pattern","text","form","most"] (Z3k CO):=LD.replaced.ownX fun _ _ F=>Zai T Zcd fp (gi 8) fs ar fl F
 have ak:Own P w K mg base 32 "_law_asked" ["_law_way","_law_one","_law_text","_law_start","_law_most"] Zc8:=d4.own fun _ _ F=>Zgb T Vo x1 x3 x2 xc.mgx x4 Z ff fs pt rp F
 have du:Own P w K mg base 1 "_law_due" ["_law_way","_law_one","_law_text","_law_start","_law_place"] Zc7:=d5.own fun _ _ F=>Zga T F
 exact Zg8 T ta sg am ak du F
end
theorem Zj7{l:W.OpenLaw}{q:Program}{loose:List Str}{XP:(Str->Option Value)->Heap->Prop}{YP:World->Heap->Prop}{d:DefRec}{K:Params->W.Frag}(hn:l.most=some 63)(hdf:d.params.defaults=[])
  (hY:∀(w:World) (h:Heap),YP w h->(K w.params).In h)
  (F:∀(w:World) (mg:Str->Option Value) (fa:Addr) (h:Heap),(K w.params).In h->h.Ns mainGlobals mg->mg d.name=some (.ref fa) ->
   ∃fd:FuncData,(∀(s:Shared) (u:Value),BindsTo s fd ⟨[u],[]⟩ [("_law_script",u)])/\∀base:Heap,(K w.params).In base->base.Ns mainGlobals mg->FnOk l.prog w (K w.params) mg base Wp 40 fa fd ["_law_script"] (Z3e (K w.params))) :
  W.WalkO q loose XP YP l.row.toRowW d [] (fun f vs=>PySem.call f vs) :=
 Zcq (n:=63) (k:=40) (x:="_law_script") (CX:=fun _=>Wp) (sp:=fun w=>Z3e (K w.params)) hn (by decide) hdf ⟨rfl,by decide,by decide⟩ hY F (fun _ _ a ns hl _ hS=>⟨a,ns,rfl,hS,hl,fun _=>rfl⟩) fun _ _ _ _ _ z=>z
end Seek
namespace PySem.W.Fast
def tw7449576849758374786:=0
def tw17188288136652879488:=0
def tw12376320912230938482:=0
def tw496781570943462855:=0
def tw3761666648107519946:=0
def tw9002259607748242614:=0
def tw9813851114439866117:=0
def tw5165164138212479871:=0
def tw319600988286514546:=0
def tw959961391640333395:=0
def tw16666948052439046429:=0
def tw4140223656901125657:=0
def tw10683502505398200396:=0
def tw6344807779073679209:=0
def tw10015786371805577405:=0
def tw11615988006099417320:=0
def tw12581633603403095418:=0
def tw15219887769224190751:=0
def tw17413283102264923120:=0
def tw5327867044596098345:=0
def tw12188484036519108565:=0
def tw3457677207132841372:=0
def tw13213809073013317631:=0
def tw5018953628070413710:=0
def tw6271496723147946901:=0
def tw13587724828089752426:=0
def tw240589748278702784:=0
def tw7969369310378256931:=0
def tw13016272427490402470:=0
def tw6627049640822706686:=0
def tw222711951735414807:=0
def tw16738235425421529369:=0
def tw9106440258901670844:=0
def tw10294649294613352353:=0
def tw2276519672864110815:=0
def tw8747904732578437482:=0
def tw8847021127988185364:=0
def tw1119275882577809204:=0
def tw10863237087940819745:=0
def tw12760547476289661930:=0
def tw16302410130349460048:=0
def tw3736114823540074228:=0
def tw14390264423079456859:=0
def tw18436167723605600569:=0
def tw15617247145492599571:=0
def tw10970655799145009188:=0
def tw1318698355605566549:=0
def tw4419214980303745197:=0
def tw14570249123696999756:=0
def tw15785166095708005780:=0
def tw6119100934715221903:=0
def tw6795378325679256837:=0
def tw16633007854170650619:=0
def tw11734873233175394535:=0
def tw3291943207964676508:=0
def tw7831083657638424265:=0
def tw10236978897403914819:=0
def tw16196969745257109523:=0
def tw742921304830529697:=0
def tw818976592378042368:=0
def tw10602972389698928436:=0
def tw6638791297787174052:=0
def tw5901434304473569827:=0
def tw881668657053763254:=0
def tw124681738102773737:=0
def tw980580973038068451:=0
def tw9201066090045675458:=0
def tw5059483246004172468:=0
def tw13713395441911328937:=0
def tw3084960907777270880:=0
def tw6185689414096725047:=0
def tw8518836830480725104:=0
def tw13093214848148127002:=0
def tw12737123450718637415:=0
def tw542897670836958043:=0
def tw406784825090671852:=0
def tw7576060576638744645:=0
def tw13253562151709298551:=0
def tw4335966191375744236:=0
def tw11494272109464962965:=0
def tw15765107289358955404:=0
def tw7373894949433045220:=0
def tw8662135178636005033:=0
def tw10212790984129566423:=0
def tw14623771817502462222:=0
def tw8620274116003486210:=0
def tw3306838651400761385:=0
def tw371344242620799572:=0
def tw13458639718258982293:=0
def tw8795319758944128451:=0
def tw16202721173044481087:=0
def tw3477908117434229837:=0
def tw10427413788938452588:=0
def tw15091735486618020277:=0
def tw8781247046746743315:=0
def tw14998394429927166360:=0
def tw3692806210983280021:=0
def tw5026770587059018245:=0
def tw6959509242535180527:=0
def tw3111000617254619224:=0
def tw3183162997703119666:=0
def tw15914828951042383486:=0
def tw7510701966364650782:=0
def tw3963766094222827210:=0
def tw8091963509735061013:=0
def tw12671241353838522447:=0
def tw14686996469355220356:=0
def tw13346034350054689372:=0
def tw18338259724358255511:=0
def tw5033698223574077643:=0
def tw12944181406039669265:=0
def tw1440066762705611219:=0
def tw10526094290792318354:=0
def tw5648930215756215834:=0
def tw11882898702631761912:=0
def tw7558167371899962078:=0
def tw6352291457963848026:=0
def tw18102698929658009756:=0
def tw6452253345238357754:=0
def tw13179831843916269085:=0
def tw6998058281163677019:=0
def tw9455023419907720723:=0
def tw5471744784816093949:=0
def tw8825500355398134577:=0
def tw17468724350503435520:=0
def tw15847087262124616938:=0
def tw14637128194697375981:=0
def tw6524963934166437975:=0
def tw17526623531063545916:=0
def tw15459439582967265781:=0
def tw7534081051053107155:=0
def tw7593734536546474392:=0
def tw13161108825567766504:=0
def tw11824771191025510631:=0
def tw17537206782923968243:=0
def tw9071204535009778742:=0
def tw9812027358752162445:=0
def tw7609858440586164248:=0
def tw17566938707407665000:=0
def tw6721782033116046436:=0
def tw15160462011818344139:=0
def tw12314451541882101719:=0
def tw14438024651508563629:=0
def tw8646174966716531190:=0
def tw171156845626554236:=0
def tw16280966916934694771:=0
def tw224750500218511084:=0
def tw9615379583893127802:=0
def tw13329339590439095181:=0
def tw16331737368281583919:=0
def tw5902964620942123098:=0
def tw10987089147568275553:=0
def tw12575772142008638188:=0
def tw7903189773361447290:=0
def tw1091709321409636880:=0
def tw311084880477310693:=0
def tw9088445130762791661:=0
def tw14099976104550327073:=0
def tw8434980580875806177:=0
def tw17421278664609351924:=0
def tw2033386462764278293:=0
def tw6384541575697228338:=0
def tw17922648902726050817:=0
def tw4586733935988865661:=0
def tw7597477747569504924:=0
def tw2070232909588799577:=0
def tw13919154443143459655:=0
def tw9605482891365205799:=0
def tw14012630574548766664:=0
def tw8830916238674209086:=0
def tw957072305738582925:=0
def tw6529829414542463915:=0
def tw10077643170238124939:=0
def tw18144254921023209205:=0
def tw10108137136102580792:=0
def tw8748589024320044276:=0
def tw994765011323665982:=0
def tw4022462846426679902:=0
def tw15476249043833776872:=0
def tw16748581074605901372:=0
def tw12776202616517579877:=0
def tw13092796715481067075:=0
def tw375420874285464892:=0
def tw5761870484090998953:=0
def tw1089370646733634553:=0
def tw7659915444394995886:=0
def tw3034942188096060438:=0
def tw17881421359525419464:=0
def tw18267051340746838389:=0
def tw12120055532961501175:=0
def tw18322846686577283567:=0
def tw8466939220666758904:=0
def tw8670927926409706958:=0
def tw6544294718272357259:=0
def tw1075158642468976952:=0
def tw7352340061003541020:=0
def tw1959822359172459234:=0
def tw10792705068615109243:=0
def tw15772500748861361942:=0
def tw4134008574512359437:=0
def tw5185255429856707514:=0
def tw455385729514927502:=0
def tw8388573460210310196:=0
def tw8221741096954029171:=0
def tw7198231770568130626:=0
def tw7178265645796011960:=0
def tw18316563737812358196:=0
def tw18206979546062293399:=0
def tw17495451706013080419:=0
def tw15769930655100308411:=0
def tw11967688640364839534:=0
def tw10034292133960421300:=0
def tw6646594059672742883:=0
def tw566626205696136246:=0
def tw9724332477165949929:=0
def tw293993175256973365:=0
def tw6197797547041008649:=0
def tw14447793153109231213:=0
def tw12054321117400240989:=0
def tw6630453277019006560:=0
def tw4371784446137450216:=0
def tw3160264284964698557:=0
def tw2254824874171124939:=0
def tw17266354241076450377:=0
def tw16076622865361806609:=0
def tw1581266214681315710:=0
def tw12351087945062832547:=0
def tw10383789687805065963:=0
end PySem.W.Fast
open PySem PySem.W PyProof.Rows Seek L2
set_option maxRecDepth 100000 in
set_option maxHeartbeats 0 in
theorem PySem.Challenge.cw_seek_k25_over_refused_holds : PySem.Challenge.rw_seek_k25_over_refused.Holds := by
 w_on;o_law;k_head;(case hw=>w_witness2)
 k_fill
 refine Zj7 (l:=PySem.Challenge.rw_seek_k25_over_refused) rfl rfl (fun w h Y=>W.kIn_of Y) ?F
 case F =>
  intro w mg fa h KX G hmg
  have z:∀ {x:Str} {K:W.Frag},K.In h->W.nsIn K mainGlobals x=some none->mg x=none:=fun X e=>W.mg_none_of X G e
  have T:Seek.Blt mg:=by
   refine'⟨z KX ?b1,z KX ?b2,z KX ?b3,z KX ?b4,z KX ?b5,z KX ?b6,z KX ?b7,z KX ?b8,z KX ?b9,z KX ?b10,z KX ?b11,z KX ?b12,z KX ?b13⟩
   (case b1=>k_is);(case b2=>k_is);(case b3=>k_is);(case b4=>k_is);(case b5=>k_is);(case b6=>k_is);(case b7=>k_is);(case b8=>k_is);(case b9=>k_is);(case b10=>k_is);(case b11=>k_is);(case b12=>k_is);(case b13=>k_is)
  have mc:∃C,Seek.MachDefsA (Z7g KX) mg C:=by
   dsimp only[Z7g]
   exact(by
   refine'⟨_,⟨⟨W.mg_of KX G ?aC,Zf1 ?pg ?hd ?po ?sa ?na1 ?na2 ?na3 ?na4 ?na5 ?na6 ?na7 ?na8 ?na9 ?na10,?mk,?kc,Xb (m:="__init__") (qual:="Machine.__init__") (st:=Yg) (ps:=["self","rows","text","at"]) ?m0a ?m0i ?m0l ?m0c ?m0k (fun _ _ _ _ _ _ us hl=>match us,hl with | [_,_,_,_],_=>rfl),Xb (m:="way") (qual:="Machine.way") (st:=W6) (ps:=["self","most"]) ?m1a ?m1i ?m1l ?m1c ?m1k (fun _ _ _ _ _ _ us hl=>match us,hl with | [_,_],_=>rfl),Xb (m:="moves") (qual:="Machine.moves") (st:=Xf) (ps:=["self"]) ?m2a ?m2i ?m2l ?m2c ?m2k (fun _ _ _ _ _ _ us hl=>match us,hl with | [_],_=>rfl),Xb (m:="move") (qual:="Machine.move") (st:=Xv) (ps:=["self"]) ?m3a ?m3i ?m3l ?m3c ?m3k (fun _ _ _ _ _ _ us hl=>match us,hl with | [_],_=>rfl),Xb (m:="enter") (qual:="Machine.enter") (st:=Xh) (ps:=["self","state"]) ?m4a ?m4i ?m4l ?m4c ?m4k (fun _ _ _ _ _ _ us hl=>match us,hl with | [_,_],_=>rfl),Xb (m:="go_back") (qual:="Machine.go_back") (st:=Yx) (ps:=["self"]) ?m5a ?m5i ?m5l ?m5c ?m5k (fun _ _ _ _ _ _ us hl=>match us,hl with | [_],_=>rfl)⟩,Xb (m:="hold") (qual:="Machine.hold") (st:=Xw) (ps:=["self","number"]) ?m10a ?m10i ?m10l ?m10c ?m10k (fun _ _ _ _ _ _ us hl=>match us,hl with | [_,_],_=>rfl),Xb (m:="let_go") (qual:="Machine.let_go") (st:=X4) (ps:=["self"]) ?m11a ?m11i ?m11l ?m11c ?m11k (fun _ _ _ _ _ _ us hl=>match us,hl with | [_],_=>rfl),Xb (m:="drop_choices") (qual:="Machine.drop_choices") (st:=Yf) (ps:=["self","size"]) ?m12a ?m12i ?m12l ?m12c ?m12k (fun _ _ _ _ _ _ us hl=>match us,hl with | [_,_],_=>rfl),Xb (m:="entry") (qual:="Machine.entry") (st:=Xg) (ps:=["self","number"]) ?m13a ?m13i ?m13l ?m13c ?m13k (fun _ _ _ _ _ _ us hl=>match us,hl with | [_,_],_=>rfl)⟩⟩
   (case aC=>k_is);(case pg=>k_is);(case hd=>k_is);(case po=>k_is);(case sa=>k_is);(case na1=>k_is);(case na2=>k_is);(case na3=>k_is);(case na4=>k_is);(case na5=>k_is);(case na6=>k_is);(case na7=>k_is);(case na8=>k_is);(case na9=>k_is);(case na10=>k_is);(case mk=>k_is);(case kc=>k_is);(case m0a=>k_is);(case m0i=>k_is);(case m0l=>k_is);(case m0c=>k_is);(case m0k=>k_is);(case m1a=>k_is);(case m1i=>k_is);(case m1l=>k_is);(case m1c=>k_is);(case m1k=>k_is);(case m2a=>k_is);(case m2i=>k_is);(case m2l=>k_is);(case m2c=>k_is);(case m2k=>k_is);(case m3a=>k_is);(case m3i=>k_is);(case m3l=>k_is);(case m3c=>k_is);(case m3k=>k_is);(case m4a=>k_is);(case m4i=>k_is);(case m4l=>k_is);(case m4c=>k_is);(case m4k=>k_is);(case m5a=>k_is);(case m5i=>k_is);(case m5l=>k_is);(case m5c=>k_is);(case m5k=>k_is);(case m10a=>k_is);(case m10i=>k_is);(case m10l=>k_is);(case m10c=>k_is);(case m10k=>k_is);(case m11a=>k_is);(case m11i=>k_is);(case m11l=>k_is);(case m11c=>k_is);(case m11k=>k_is);(case m12a=>k_is);(case m12i=>k_is);(case m12l=>k_is);(case m12c=>k_is);(case m12k=>k_is);(case m13a=>k_is);(case m13i=>k_is);(case m13l=>k_is);(case m13c=>k_is);(case m13k=>k_is))
  have dc:∃dn ds,mg "DOINGS" = some (.ref dn)/\Zem (Z7g KX) w dn ds/\Seek.DoingsA (Z7g KX) ds:=by
   dsimp only[Z7g]
   exact(by
   refine'⟨_,_,W.mg_of KX G ?da,Zbz ?dl ?dd ?dp ?dn,?dq⟩
   (case da=>k_is);(case dl=>k_is);(case dd=>decide);(case dp=>exact .cons (Y1 rfl) (.cons (Y1 rfl) (.cons (Y1 rfl) (.cons (Y1 rfl) (.cons (Y1 rfl) (.cons (Y1 rfl) (.cons (Y1 rfl) (.cons (Y1 rfl) (.cons (Y1 rfl) (.cons (Y1 rfl) (.cons (Y1 rfl) (.cons (Y1 rfl) (.cons (Y1 rfl) (.cons (Y1 rfl) (.cons (Y1 rfl) (.cons (Y1 rfl) (.cons (Y1 rfl) (.cons (Y1 rfl) (.cons (Y1 rfl) (.cons (Y1 rfl) (.cons (Y1 rfl) (.cons (Y1 rfl) (.cons (Y1 rfl) (.nil))))))))))))))))))))))));(case dn=>decide +kernel)
   refine'⟨?w1,?w2,?w3,?w4,?w5,?w6,?w7,?w8,?w9,?w10,?w11,?w12,?w13,?w14,?w15,?w16,?w17,?w18,?w19,?w20,?w21,?w22,?w23⟩
   (case w1=>refine' Xe (x:="do_sign") (st:=Ys) (ps:=["machine","row"]) ?v ?l ?c ?k (fun _ _ _ _ _ _ us hl=>match us,hl with | [_,_],_=>rfl);(case v=>with_unfolding_all rfl);(case l=>k_is);(case c=>k_is);(case k=>k_is))
   (case w2=>refine' Xe (x:="do_sign") (st:=Ys) (ps:=["machine","row"]) ?v ?l ?c ?k (fun _ _ _ _ _ _ us hl=>match us,hl with | [_,_],_=>rfl);(case v=>with_unfolding_all rfl);(case l=>k_is);(case c=>k_is);(case k=>k_is))
   (case w3=>refine' Xe (x:="do_sign") (st:=Ys) (ps:=["machine","row"]) ?v ?l ?c ?k (fun _ _ _ _ _ _ us hl=>match us,hl with | [_,_],_=>rfl);(case v=>with_unfolding_all rfl);(case l=>k_is);(case c=>k_is);(case k=>k_is))
   (case w4=>refine' Xe (x:="do_sign") (st:=Ys) (ps:=["machine","row"]) ?v ?l ?c ?k (fun _ _ _ _ _ _ us hl=>match us,hl with | [_,_],_=>rfl);(case v=>with_unfolding_all rfl);(case l=>k_is);(case c=>k_is);(case k=>k_is))
   (case w5=>refine' Xe (x:="do_begin") (st:=Vt) (ps:=["machine","row"]) ?v ?l ?c ?k (fun _ _ _ _ _ _ us hl=>match us,hl with | [_,_],_=>rfl);(case v=>with_unfolding_all rfl);(case l=>k_is);(case c=>k_is);(case k=>k_is))
   (case w6=>refine' Xe (x:="do_end") (st:=Tu) (ps:=["machine","row"]) ?v ?l ?c ?k (fun _ _ _ _ _ _ us hl=>match us,hl with | [_,_],_=>rfl);(case v=>with_unfolding_all rfl);(case l=>k_is);(case c=>k_is);(case k=>k_is))
   (case w7=>refine' Xe (x:="do_again") (st:=Vu) (ps:=["machine","row"]) ?v ?l ?c ?k (fun _ _ _ _ _ _ us hl=>match us,hl with | [_,_],_=>rfl);(case v=>with_unfolding_all rfl);(case l=>k_is);(case c=>k_is);(case k=>k_is))
   (case w8=>refine' Xe (x:="do_try") (st:=Tt) (ps:=["machine","row"]) ?v ?l ?c ?k (fun _ _ _ _ _ _ us hl=>match us,hl with | [_,_],_=>rfl);(case v=>with_unfolding_all rfl);(case l=>k_is);(case c=>k_is);(case k=>k_is))
   (case w9=>refine' Xe (x:="do_go") (st:=Z0w) (ps:=["machine","row"]) ?v ?l ?c ?k (fun _ _ _ _ _ _ us hl=>match us,hl with | [_,_],_=>rfl);(case v=>with_unfolding_all rfl);(case l=>k_is);(case c=>k_is);(case k=>k_is))
   (case w10=>refine' Xe (x:="do_have") (st:=Ur) (ps:=["machine","row"]) ?v ?l ?c ?k (fun _ _ _ _ _ _ us hl=>match us,hl with | [_,_],_=>rfl);(case v=>with_unfolding_all rfl);(case l=>k_is);(case c=>k_is);(case k=>k_is))
   (case w11=>refine' Xe (x:="do_hold") (st:=V3) (ps:=["machine","row"]) ?v ?l ?c ?k (fun _ _ _ _ _ _ us hl=>match us,hl with | [_,_],_=>rfl);(case v=>with_unfolding_all rfl);(case l=>k_is);(case c=>k_is);(case k=>k_is))
   (case w12=>refine' Xe (x:="do_hold") (st:=V3) (ps:=["machine","row"]) ?v ?l ?c ?k (fun _ _ _ _ _ _ us hl=>match us,hl with | [_,_],_=>rfl);(case v=>with_unfolding_all rfl);(case l=>k_is);(case c=>k_is);(case k=>k_is))
   (case w13=>refine' Xe (x:="do_close") (st:=Vs) (ps:=["machine","row"]) ?v ?l ?c ?k (fun _ _ _ _ _ _ us hl=>match us,hl with | [_,_],_=>rfl);(case v=>with_unfolding_all rfl);(case l=>k_is);(case c=>k_is);(case k=>k_is))
   (case w14=>refine' Xe (x:="do_turn") (st:=Uk) (ps:=["machine","row"]) ?v ?l ?c ?k (fun _ _ _ _ _ _ us hl=>match us,hl with | [_,_],_=>rfl);(case v=>with_unfolding_all rfl);(case l=>k_is);(case c=>k_is);(case k=>k_is))
   (case w15=>refine' Xe (x:="do_next") (st:=Um) (ps:=["machine","row"]) ?v ?l ?c ?k (fun _ _ _ _ _ _ us hl=>match us,hl with | [_,_],_=>rfl);(case v=>with_unfolding_all rfl);(case l=>k_is);(case c=>k_is);(case k=>k_is))
   (case w16=>refine' Xe (x:="do_once") (st:=Ul) (ps:=["machine","row"]) ?v ?l ?c ?k (fun _ _ _ _ _ _ us hl=>match us,hl with | [_,_],_=>rfl);(case v=>with_unfolding_all rfl);(case l=>k_is);(case c=>k_is);(case k=>k_is))
   (case w17=>refine' Xe (x:="do_kept") (st:=Up) (ps:=["machine","row"]) ?v ?l ?c ?k (fun _ _ _ _ _ _ us hl=>match us,hl with | [_,_],_=>rfl);(case v=>with_unfolding_all rfl);(case l=>k_is);(case c=>k_is);(case k=>k_is))
   (case w18=>refine' Xe (x:="do_peeked") (st:=Vc) (ps:=["machine","row"]) ?v ?l ?c ?k (fun _ _ _ _ _ _ us hl=>match us,hl with | [_,_],_=>rfl);(case v=>with_unfolding_all rfl);(case l=>k_is);(case c=>k_is);(case k=>k_is))
   (case w19=>refine' Xe (x:="do_bar") (st:=Tv) (ps:=["machine","row"]) ?v ?l ?c ?k (fun _ _ _ _ _ _ us hl=>match us,hl with | [_,_],_=>rfl);(case v=>with_unfolding_all rfl);(case l=>k_is);(case c=>k_is);(case k=>k_is))
   (case w20=>refine' Xe (x:="do_barred") (st:=Vd) (ps:=["machine","row"]) ?v ?l ?c ?k (fun _ _ _ _ _ _ us hl=>match us,hl with | [_,_],_=>rfl);(case v=>with_unfolding_all rfl);(case l=>k_is);(case c=>k_is);(case k=>k_is))
   (case w21=>refine' Xe (x:="do_lean") (st:=Uo) (ps:=["machine","row"]) ?v ?l ?c ?k (fun _ _ _ _ _ _ us hl=>match us,hl with | [_,_],_=>rfl);(case v=>with_unfolding_all rfl);(case l=>k_is);(case c=>k_is);(case k=>k_is))
   (case w22=>refine' Xe (x:="do_here") (st:=Uq) (ps:=["machine","row"]) ?v ?l ?c ?k (fun _ _ _ _ _ _ us hl=>match us,hl with | [_,_],_=>rfl);(case v=>with_unfolding_all rfl);(case l=>k_is);(case c=>k_is);(case k=>k_is))
   (case w23=>refine' Xe (x:="do_found") (st:=Vr) (ps:=["machine","row"]) ?v ?l ?c ?k (fun _ _ _ _ _ _ us hl=>match us,hl with | [_,_],_=>rfl);(case v=>with_unfolding_all rfl);(case l=>k_is);(case c=>k_is);(case k=>k_is)))
  have sk:∃CS,Seek.SeekDefs (Z7g KX) mg CS:=by
   dsimp only[Z7g]
   exact(by
   refine'⟨_,⟨W.mg_of KX G ?aC,Zcr ?pg ?hd ?po ?sa ?na1 ?na2 ?na3,?mk,?kc,Xb (m:="__init__") (qual:="Seeker.__init__") (st:=Yw) (ps:=["self","pattern","text","most"]) ?m0a ?m0i ?m0l ?m0c ?m0k (fun _ _ _ _ _ _ us hl=>match us,hl with | [_,_,_,_],_=>rfl),Xb (m:="first_from") (qual:="Seeker.first_from") (st:=Yq) (ps:=["self","start"]) ?m1a ?m1i ?m1l ?m1c ?m1k (fun _ _ _ _ _ _ us hl=>match us,hl with | [_,_],_=>rfl),Xb (m:="find_at") (qual:="Seeker.find_at") (st:=X3) (ps:=["self","begin"]) ?m2a ?m2i ?m2l ?m2c ?m2k (fun _ _ _ _ _ _ us hl=>match us,hl with | [_,_],_=>rfl)⟩⟩
   (case aC=>k_is);(case pg=>k_is);(case hd=>k_is);(case po=>k_is);(case sa=>k_is);(case na1=>k_is);(case na2=>k_is);(case na3=>k_is);(case mk=>k_is);(case kc=>k_is);(case m0a=>k_is);(case m0i=>k_is);(case m0l=>k_is);(case m0c=>k_is);(case m0k=>k_is);(case m1a=>k_is);(case m1i=>k_is);(case m1l=>k_is);(case m1c=>k_is);(case m1k=>k_is);(case m2a=>k_is);(case m2i=>k_is);(case m2l=>k_is);(case m2c=>k_is);(case m2k=>k_is))
  have p0:=(by
   refine' Ye (x:="coded") (st:=Z0x) (ps:=["pattern"]) KX G ?a ?l ?c ?k (fun _ _ _ _ _ _ us hl=>match us,hl with | [_],_=>rfl)
   (case a=>k_is);(case l=>k_is);(case c=>k_is);(case k=>k_is))
  have p1:=(by
   refine' Ye (x:="put") (st:=Z5r) (ps:=["rows","pattern"]) KX G ?a ?l ?c ?k (fun _ _ _ _ _ _ us hl=>match us,hl with | [_,_],_=>rfl)
   (case a=>k_is);(case l=>k_is);(case c=>k_is);(case k=>k_is))
  have p2:=(by
   refine' Ye (x:="hold_place") (st:=Xy) (ps:=["rows"]) KX G ?a ?l ?c ?k (fun _ _ _ _ _ _ us hl=>match us,hl with | [_],_=>rfl)
   (case a=>k_is);(case l=>k_is);(case c=>k_is);(case k=>k_is))
  have p3:=(by
   refine' Ye (x:="put_or") (st:=Ub) (ps:=["rows","branches"]) KX G ?a ?l ?c ?k (fun _ _ _ _ _ _ us hl=>match us,hl with | [_,_],_=>rfl)
   (case a=>k_is);(case l=>k_is);(case c=>k_is);(case k=>k_is))
  have p4:=(by
   refine' Ye (x:="put_times") (st:=Wa) (ps:=["rows","low","high","how","part"]) KX G ?a ?l ?c ?k (fun _ _ _ _ _ _ us hl=>match us,hl with | [_,_,_,_,_],_=>rfl)
   (case a=>k_is);(case l=>k_is);(case c=>k_is);(case k=>k_is))
  have p5:=(by
   refine' Ye (x:="put_have") (st:=V6) (ps:=["rows","number","yes","no"]) KX G ?a ?l ?c ?k (fun _ _ _ _ _ _ us hl=>match us,hl with | [_,_,_,_],_=>rfl)
   (case a=>k_is);(case l=>k_is);(case c=>k_is);(case k=>k_is))
  have p6:=(by
   refine' Ye (x:="put_look") (st:=V5) (ps:=["rows","kind","part"]) KX G ?a ?l ?c ?k (fun _ _ _ _ _ _ us hl=>match us,hl with | [_,_,_],_=>rfl)
   (case a=>k_is);(case l=>k_is);(case c=>k_is);(case k=>k_is))
  have p7:=(by
   refine' Ye (x:="takes_sign") (st:=X6) (ps:=["row","text","at"]) KX G ?a ?l ?c ?k (fun _ _ _ _ _ _ us hl=>match us,hl with | [_,_,_],_=>rfl)
   (case a=>k_is);(case l=>k_is);(case c=>k_is);(case k=>k_is))
  have p8:=(by
   refine' Ye (x:="lies_in") (st:=V1) (ps:=["runs","sign"]) KX G ?a ?l ?c ?k (fun _ _ _ _ _ _ us hl=>match us,hl with | [_,_],_=>rfl)
   (case a=>k_is);(case l=>k_is);(case c=>k_is);(case k=>k_is))
  have p9:=(by
   refine' Ye (x:="with_entry") (st:=X5) (ps:=["groups","number","begin","end"]) KX G ?a ?l ?c ?k (fun _ _ _ _ _ _ us hl=>match us,hl with | [_,_,_,_],_=>rfl)
   (case a=>k_is);(case l=>k_is);(case c=>k_is);(case k=>k_is))
  have l0:=(by
   refine' Ye (x:="first_find") (st:=Ws) (ps:=["pattern","text","start","most"]) KX G ?a ?l ?c ?k (fun _ _ _ _ _ _ us hl=>match us,hl with | [_,_,_,_],_=>rfl)
   (case a=>k_is);(case l=>k_is);(case c=>k_is);(case k=>k_is))
  have l1:=(by
   refine' Ye (x:="all_finds") (st:=Ve) (ps:=["pattern","text","most"]) KX G ?a ?l ?c ?k (fun _ _ _ _ _ _ us hl=>match us,hl with | [_,_,_],_=>rfl)
   (case a=>k_is);(case l=>k_is);(case c=>k_is);(case k=>k_is))
  have l2:=(by
   refine' Ye (x:="parted") (st:=Tp) (ps:=["pattern","text","most"]) KX G ?a ?l ?c ?k (fun _ _ _ _ _ _ us hl=>match us,hl with | [_,_,_],_=>rfl)
   (case a=>k_is);(case l=>k_is);(case c=>k_is);(case k=>k_is))
  have l3:=(by
   refine' Ye (x:="replaced") (st:=Vp) (ps:=["pattern","text","form","most"]) KX G ?a ?l ?c ?k (fun _ _ _ _ _ _ us hl=>match us,hl with | [_,_,_,_],_=>rfl)
   (case a=>k_is);(case l=>k_is);(case c=>k_is);(case k=>k_is))
  have l4:=(by
   refine' Ye (x:="texts_around") (st:=Xt) (ps:=["text","finds"]) KX G ?a ?l ?c ?k (fun _ _ _ _ _ _ us hl=>match us,hl with | [_,_],_=>rfl)
   (case a=>k_is);(case l=>k_is);(case c=>k_is);(case k=>k_is))
  have l5:=(by
   refine' Ye (x:="parts_of") (st:=Vq) (ps:=["pattern"]) KX G ?a ?l ?c ?k (fun _ _ _ _ _ _ us hl=>match us,hl with | [_],_=>rfl)
   (case a=>k_is);(case l=>k_is);(case c=>k_is);(case k=>k_is))
  have l6:=(by
   refine' Ye (x:="groups_in") (st:=Wb) (ps:=["pattern"]) KX G ?a ?l ?c ?k (fun _ _ _ _ _ _ us hl=>match us,hl with | [_],_=>rfl)
   (case a=>k_is);(case l=>k_is);(case c=>k_is);(case k=>k_is))
  have l7:=(by
   refine' Ye (x:="form_pieces") (st:=W5) (ps:=["form","groups"]) KX G ?a ?l ?c ?k (fun _ _ _ _ _ _ us hl=>match us,hl with | [_,_],_=>rfl)
   (case a=>k_is);(case l=>k_is);(case c=>k_is);(case k=>k_is))
  have l8:=(by
   refine' Ye (x:="marked_piece") (st:=Xu) (ps:=["sign","groups"]) KX G ?a ?l ?c ?k (fun _ _ _ _ _ _ us hl=>match us,hl with | [_,_],_=>rfl)
   (case a=>k_is);(case l=>k_is);(case c=>k_is);(case k=>k_is))
  have l9:=(by
   refine' Ye (x:="filled") (st:=Uc) (ps:=["pieces","text","find"]) KX G ?a ?l ?c ?k (fun _ _ _ _ _ _ us hl=>match us,hl with | [_,_,_],_=>rfl)
   (case a=>k_is);(case l=>k_is);(case c=>k_is);(case k=>k_is))
  have l10:=(by
   refine' Ye (x:="taken_text") (st:=Wr) (ps:=["number","text","find"]) KX G ?a ?l ?c ?k (fun _ _ _ _ _ _ us hl=>match us,hl with | [_,_,_],_=>rfl)
   (case a=>k_is);(case l=>k_is);(case c=>k_is);(case k=>k_is))
  have q0:=(by
   refine' Ye (x:="_law_take") (st:=Tq) (ps:=["_law_box","_law_many"]) KX G ?a ?l ?c ?k (fun _ _ _ _ _ _ us hl=>match us,hl with | [_,_],_=>rfl)
   (case a=>k_is);(case l=>k_is);(case c=>k_is);(case k=>k_is))
  have q1:=(by
   refine' Ye (x:="_law_sign") (st:=Ts) (ps:=["_law_cell"]) KX G ?a ?l ?c ?k (fun _ _ _ _ _ _ us hl=>match us,hl with | [_],_=>rfl)
   (case a=>k_is);(case l=>k_is);(case c=>k_is);(case k=>k_is))
  have q2:=(by
   refine' Ye (x:="_law_alike") (st:=V2) (ps:=["_law_found","_law_due_here"]) KX G ?a ?l ?c ?k (fun _ _ _ _ _ _ us hl=>match us,hl with | [_,_],_=>rfl)
   (case a=>k_is);(case l=>k_is);(case c=>k_is);(case k=>k_is))
  have q3:=(by
   refine' Ye (x:="_law_asked") (st:=Uj) (ps:=["_law_way","_law_one","_law_text","_law_start","_law_most"]) KX G ?a ?l ?c ?k (fun _ _ _ _ _ _ us hl=>match us,hl with | [_,_,_,_,_],_=>rfl)
   (case a=>k_is);(case l=>k_is);(case c=>k_is);(case k=>k_is))
  have q4:=(by
   refine' Ye (x:="_law_due") (st:=Z0v) (ps:=["_law_way","_law_one","_law_text","_law_start","_law_place"]) KX G ?a ?l ?c ?k (fun _ _ _ _ _ _ us hl=>match us,hl with | [_,_,_,_,_],_=>rfl)
   (case a=>k_is);(case l=>k_is);(case c=>k_is);(case k=>k_is))
  have xn:∃CN CE,L2.XC (Z7g KX) mg "NoForm" CN CE:=by
   dsimp only[Z7g]
   refine' Zhg KX G ?a ?l ?ln ?l2 ?ln2 ?s1 ?s2 ?i1 ?i2
   (case a=>k_is);(case l=>k_is);(case ln=>k_is);(case l2=>k_is);(case ln2=>k_is);(case s1=>kernel_rfl);(case s2=>kernel_rfl);(case i1=>kernel_rfl);(case i2=>kernel_rfl)
  have bv:mg "ValueError" = none:=by
   refine' z KX ?b
   (case b=>k_is)
  have xo:∃CO CE CM CN CU,L2.XC (Z7g KX) mg "Over" CO CE/\mg "SeekError" = some (.ref CE)/\mg "Memory" = some (.ref CM)/\mg "NoForm" = some (.ref CN)/\mg "Unread" = some (.ref CU)/\Seek.XOv (Z7g KX) CO CE CM CN CU:=by
   dsimp only[Z7g]
   refine' Zhf KX G ?a1 ?l ?ln ?l2 ?ln2 ?s1 ?s2 ?i1 ?i2 ?a2 ?a3 ?a4 ?a5 ?z1 ?z2 ?z3 ?z4 ?z5 ?z6 ?z7 ?v1 ?m1 ?m2 ?m3 ?m4 ?o1 ?o2 ?o3 ?o4 ?u1 ?u2 ?u3 ?u4
   (case a1=>k_is);(case l=>k_is);(case ln=>k_is);(case l2=>k_is);(case ln2=>k_is);(case s1=>kernel_rfl);(case s2=>kernel_rfl);(case i1=>kernel_rfl);(case i2=>kernel_rfl);(case a2=>k_is);(case a3=>k_is);(case a4=>k_is);(case a5=>k_is);(case z1=>k_is);(case z2=>k_is);(case z3=>k_is);(case z4=>k_is);(case z5=>k_is);(case z6=>k_is);(case z7=>k_is);(case v1=>k_is);(case m1=>k_is);(case m2=>k_is);(case m3=>k_is);(case m4=>decide);(case o1=>k_is);(case o2=>k_is);(case o3=>k_is);(case o4=>decide);(case u1=>k_is);(case u2=>k_is);(case u3=>k_is);(case u4=>decide)
  have bz:mg "zip" = none:=by
   refine' z KX ?b
   (case b=>k_is)
  have c1:∃pl,mg "ITSELF" = some (.ref pl)/\∀H,L2.SqT (Z7g KX) H pl Te:=by
   dsimp only[Z7g]
   refine' Z2y KX G ?a ?l
   (case a=>k_is);(case l=>k_is)
  have c2:∃pl,mg "LEANING" = some (.ref pl)/\∀H,L2.SqT (Z7g KX) H pl V0:=by
   dsimp only[Z7g]
   refine' Z9m KX G ?a ?l
   (case a=>k_is);(case l=>k_is)
  have c3:∃pl,mg "LAST_ROWS" = some (.ref pl)/\Zem (Z7g KX) w pl V8:=by
   dsimp only[Z7g]
   refine' Z6s KX G ?a ?l ?d ?e ?n
   (case a=>k_is);(case l=>k_is);(case d=>decide);(case e=>exact⟨rfl,rfl,rfl,rfl,rfl⟩);(case n=>decide +kernel)
  have c4:∃pl,mg "PART_LAST" = some (.ref pl)/\∀H,L2.SqT (Z7g KX) H pl W3:=by
   dsimp only[Z7g]
   refine' Z2y KX G ?a ?l
   (case a=>k_is);(case l=>k_is)
  have c5:∃t1,mg "DIGITS" = some (.str Seek.digS t1):=by
   refine' Z9l KX G ?a
   (case a=>k_is)
  obtain⟨CN',CE',xn⟩:=xn
  obtain⟨CO,CE,CM,CN,CU,xc,x1,x2,x3,x4,Z⟩:=xo
  obtain⟨plA,hpa,hPL⟩:=c4
  obtain⟨t1,hdg⟩:=c5
  obtain⟨it,hit,hIT⟩:=c1
  obtain⟨le,hle,hLE⟩:=c2
  obtain⟨ls,hls,hLS⟩:=c3
  obtain⟨C,MA⟩:=mc
  obtain⟨CS,SD⟩:=sk
  obtain⟨dn,ds,hdn,hDN,DD⟩:=dc
  refine' Zf3 KX G hmg ?a ?l ?c ?k (Zgf T hit hIT hle hLE hls hLS MA SD hdn hDN DD ⟨p0,p1,p2,p3,p4,p5,p6,p7,p8,p9⟩ ⟨l0,l1,l2,l3,l4,l5,l6,l7,l8,l9,l10⟩ bz bv hdg hpa hPL q0 q1 q2 q3 q4 xn xc x1 x2 x3 x4 Z)
  (case a=>k_is);(case l=>k_is);(case c=>k_is);(case k=>k_is)