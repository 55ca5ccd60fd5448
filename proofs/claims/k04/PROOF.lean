import PyProof.Rows.All
import Wide.All
import OpenK.AllK
import Wide.FinOn
import Lean
import PyProof.EqAt
import PyProof.EqKinds
import PyProof.TupleCall
import PyProof.StrLawsIdx
import PySem.Challenge.RW_seek_k04_read_back
set_option Elab.async false
set_option linter.all false
set_option maxRecDepth 100000
set_option maxHeartbeats 4000000
namespace L2
open PySem PySem.Spec PyProof.Rows
abbrev V6:=Sum Int Str
def Ul:V6->Value->Bool
 |.inl k,v=>Value.isInt k v
 |.inr x,v=>Value.isStrOf x v
def Zg6(w:World):V6->Int
 |.inl k=>hashInt k
 |.inr x=>hashStr w x
theorem Ys:∀ {k:V6} {v:Value},Ul k v=true->(∃i t,k=Sum.inl i/\v=Value.int i t)∨(∃x t,k=Sum.inr x/\v=Value.str x t)
 |.inl i,v,h=>by
  obtain⟨t,e⟩:=Value.isInt_shape (k:=i) (v:=v) h
  exact .inl ⟨i,t,rfl,e⟩
 |.inr x,v,h=>by
  obtain⟨t,e⟩:=Value.isStrOf_shape (x:=x) (v:=v) h
  exact .inr ⟨x,t,rfl,e⟩
theorem Z7s(i:Int)(t:Tok):Ul (.inl i) (.int i t)=true:=by simp[Ul,Value.isInt]
theorem Z23(x:Str)(t:Tok):Ul (.inr x) (.str x t)=true:=by simp[Ul,Value.isStrOf]
theorem Zea(a b:Int):decide ((Sum.inl a:V6)=Sum.inl b)=(a==b):=by
 by_cases e:a=b
 ·subst e;simp
 ·have h:¬(Sum.inl a:V6)=Sum.inl b:=fun q=>e (Sum.inl.inj q)
  rw[decide_eq_false h]
  exact(beq_eq_false_iff_ne.mpr e).symm
theorem Ze7(a b:Str):decide ((Sum.inr a:V6)=Sum.inr b)=decide (a=b):=by
 by_cases e:a=b
 ·subst e;simp
 ·have h:¬(Sum.inr a:V6)=Sum.inr b:=fun q=>e (Sum.inr.inj q)
  rw[decide_eq_false h,decide_eq_false e]
theorem Ze9(a:Int)(b:Str):decide ((Sum.inl a:V6)=Sum.inr b)=false:=decide_eq_false (fun q=>nomatch q)
theorem Ze8(a:Str)(b:Int):decide ((Sum.inr a:V6)=Sum.inl b)=false:=decide_eq_false (fun q=>nomatch q)
def Yp(prog:Program)(w:World):PySem.KeyKind prog w V6 where
 is:=Ul
 hash:=Zg6 w
 inj:=fun v a b ha hb=>by
  rcases Ys ha with⟨i,t,rfl,rfl⟩ | ⟨x,t,rfl,rfl⟩
  ·rcases Ys hb with⟨j,u,rfl,e⟩ | ⟨y,u,rfl,e⟩
   ·injection e with e1 _;rw[e1]
   ·exact nomatch e
  ·rcases Ys hb with⟨j,u,rfl,e⟩ | ⟨y,u,rfl,e⟩
   ·exact nomatch e
   ·injection e with e1 _;rw[e1]
 byValue:=fun k v h=>by
  rcases Ys h with⟨i,t,rfl,rfl⟩ | ⟨x,t,rfl,rfl⟩ <;> rfl
 pyHash:=fun hv h=>by
  rcases Ys hv with⟨i,t,rfl,rfl⟩ | ⟨x,t,rfl,rfl⟩
  ·exact wpAny_pyHash_int h
  ·exact wpAny_pyHash_str h
 eqBool:=fun hu hv h=>by
  rcases Ys hu with⟨i,t,rfl,rfl⟩ | ⟨x,t,rfl,rfl⟩
  ·rcases Ys hv with⟨j,u,rfl,rfl⟩ | ⟨y,u,rfl,rfl⟩
   ·rw[Zea]at h;exact wpAny_eqBool_int h
   ·rw[Ze9]at h;exact SeqAt.EqAt.int_str i t y u _ _ _ _ h
  ·rcases Ys hv with⟨j,u,rfl,rfl⟩ | ⟨y,u,rfl,rfl⟩
   ·rw[Ze8]at h;exact SeqAt.EqAt.str_int x t j u _ _ _ _ h
   ·rw[Ze7]at h;exact wpAny_eqBool_str h
 «strs»:=fun k x t v h=>by
  rcases Ys h with⟨i,u,rfl,e⟩ | ⟨y,u,rfl,e⟩
  ·exact nomatch e
  ·injection e with e1 _
   subst e1
   cases v <;> rfl
theorem Z3t(prog:Program)(w:World)(i:Int)(t:Tok):(Yp prog w).is (.inl i) (.int i t)=true:=Z7s i t
theorem Z3s(prog:Program)(w:World)(x:Str)(t:Tok):(Yp prog w).is (.inr x) (.str x t)=true:=Z23 x t
inductive V where
 |non | bl (b:Bool) | int (i:Int) | str (x:Str) | byt (b:Array UInt8) | flt (b:UInt64) | ref (a:Addr) | ty (n:String)
 deriving DecidableEq
def RelV:V->Value->Prop
 |.non,u=>u=Value.none
 |.bl b,u=>u=Value.bool b
 |.int i,u=>∃t,u=Value.int i t
 |.str x,u=>∃t,u=Value.str x t
 |.byt b,u=>∃t,u=Value.bytes b t
 |.flt b,u=>∃t,u=Value.float b t
 |.ref a,u=>u=Value.ref a
 |.ty n,u=>u=Value.type n
abbrev Vals:List V->List Value->Prop:=Paired RelV
theorem Vals.length{xs:List V}{us:List Value}(r:Vals xs us):xs.length=us.length:=Paired.length r
theorem Vals.get:∀ {xs:List V} {us:List Value} {i:Nat} {x:V},Vals xs us->xs[i]? = some x->∃u,us[i]? = some u/\RelV x u
 |_,_,_,_,.nil,e=>by simp at e
 |_,_,0,_,.cons r _,e=>by simp at e;subst e;exact⟨_,rfl,r⟩
 |_,_,i+1,x,.cons _ t,e=>by
  obtain⟨u,h1,h2⟩:=Vals.get (i:=i) (x:=x) t (by simpa using e)
  exact⟨u,by simpa using h1,h2⟩
theorem Vals.set{x:V}{u:Value}(r:RelV x u):∀ {xs:List V} {us:List Value} (i:Nat),Vals xs us->Vals (xs.set i x) (us.set i u)
 |_,_,_,.nil=>.nil
 |_,_,0,.cons _ t=>.cons r t
 |_,_,i+1,.cons q t=>.cons q (Vals.set r i t)
theorem Vals.append:∀ {xs ys:List V} {us ws:List Value},Vals xs us->Vals ys ws->Vals (xs++ys) (us++ws)
 |_,_,_,_,.nil,s=>s
 |_,_,_,_,.cons r t,s=>.cons r (Vals.append t s)
theorem Vals.take:∀ {xs:List V} {us:List Value} (n:Nat),Vals xs us->Vals (xs.take n) (us.take n)
 |_,_,0,_=>.nil
 |_,_,_+1,.nil=>.nil
 |_,_,n+1,.cons r t=>.cons r (Vals.take n t)
theorem Vals.drop:∀ {xs:List V} {us:List Value} (n:Nat),Vals xs us->Vals (xs.drop n) (us.drop n)
 |_,_,0,r=>r
 |_,_,_+1,.nil=>.nil
 |_,_,n+1,.cons _ t=>Vals.drop n t
def RelO:Option V->Option Value->Prop
 |some v,some u=>RelV v u
 |none,none=>True
 |_,_=>False
def KV{κ:Type}:List (κ×V)->List (κ×Value)->Prop:=Paired fun(p:κ×V) (q:κ×Value)=>p.1=q.1/\RelV p.2 q.2
def kV:V6->V
 |.inl i=>.int i
 |.inr x=>.str x
inductive HO where
 /-- a list -/
 |lst (xs:List V)
 /-- a tuple (never changes) -/
 |tup (xs:List V)
 /-- a dict whose keys are ints and texts;one whose keys are tuples of ints and texts (the empty one is both) -/
 |dK (kvs:List (V6×V)) | dT (kvs:List (List V6×V))
 /-- a set of ints: its members,its size -/
 |set (S:Int->Bool) (n:Nat)
 /-- an instance of the class at C,its dict at dx,its attributes -/
 |ins (C dx:Addr) (fs:List (Str×V))
 /-- the dict of the instance at x -/
 |own (x:Addr)
 /-- the dict of an exception -/
 |xd (fs:List (Str×V))
 /-- a bound method,f of x -/
 |met (f x:Addr)
 /-- a range object lo,lo+1,.. below hi -/
 |rng (lo hi:Int)
 /-- a thing that is known to the object (the script;a dict while a loop walks it): read,never written while it is so -/
 |frz (o:Obj) (u:HO)
 /-- a code object's table -/
 |tbl (ps:Array Value)
 /-- any other thing,by what is true of its one object (a def of one's own: SetO a S n:=HO.ext fun h=>..) -/
 |ext (φ:Heap->Prop)
abbrev Hp:=Addr->Option HO
def Y2(H:Hp)(a:Addr)(o:HO):Hp:=fun b=>if b=a then some o else H b
theorem Z1{H:Hp}{a:Addr}{o:HO}:Y2 H a o a=some o:=by unfold Y2;rw[if_pos rfl]
theorem Zl{H:Hp}{a b:Addr}{o:HO}(h:b≠a):Y2 H a o b=H b:=by unfold Y2;rw[if_neg h]
theorem U9{H:Hp}{a:Addr}{o u:HO}:Y2 (Y2 H a o) a u=Y2 H a u:=by
 funext b;unfold Y2;split <;> rfl
theorem Z77{H:Hp}{a b:Addr}{o u:HO}(h:H a=some o)(h':H b=some u)(d:o≠u):a≠b:=by
 intro e;subst e;rw[h]at h';exact d (Option.some.inj h')
theorem Z9{H:Hp}{a b:Addr}{o:HO}(h:H a=some o)(h':H b=none):a≠b:=by
 intro e;subst e;rw[h]at h';cases h'
section
variable(P:Program)(w:World)
def ObjOk(H:Hp)(h:Heap)(a:Addr):HO->Prop
 |.lst xs=>xs.length<=sizeLine/\∃(its:List Value) (n:Nat),Vals xs its/\h.get? a=some { cls:=.type "list",data:=.seq its.toArray n }
 |.tup xs=>xs.length<=sizeLine/\∃its:List Value,Vals xs its/\IsTup h a its.toArray
 |.dK kvs=>kvs.length<=sizeLine/\(a==sysModules)=false/\∃vs,KV kvs vs/\h.DictOf (Yp P w) a vs
 |.dT kvs=>kvs.length<=sizeLine/\(a==sysModules)=false/\∃xs:List (List V6×Addr×Value),
   Paired (fun(p:List V6×V) (q:List V6×Addr×Value)=>p.1=q.1/\H q.2.1=some (.tup (p.1.map kV))/\RelV p.2 q.2.2) kvs xs /\
   ∃o es ep,h.get? a=some o/\o.ExactDict/\o.data=.dict es ep/\es.toList=xs.map (entryOfKey (tupleKind (Yp P w)))/\(xs.map (·.1)).Nodup
 |.set S n=>h.SetOf (intKind P w) a S n
 |.ins C dx fs=>H dx=some (.own a)/\fs.length<=1000/\dx≠a/\h.get? a=some (W.instObj C dx) /\
   ∃mA,h.Ns1 dx mA/\(∀f,RelO (fs.lookup f) (mA f))/\PySem.Within mA (fs.map (·.1))
 |.own _=>∃o,h.get? a=some o
 |.xd fs=>∃mA,h.Ns1 a mA/\∀f,RelO (fs.lookup f) (mA f)
 |.rng lo hi=>∃t u v,h.get? a=some { cls:=.type "range",data:=.fields #[.int lo t,.int hi u,.int 1 v] }
 |.frz o u=>h.get? a=some o/\ObjOk H h a u
 |.tbl ps=>h.get? a=some { cls:=.none,data:=.fields ps }
 |.met f x=>h.get? a=some (W.methodObj (.ref f) (.ref x))
 |.ext φ=>φ h/\(∃o,h.get? a=some o)/\∀h1 h2:Heap,φ h1->(∀o,h1.get? a=some o->h2.get? a=some o)->φ h2
def HOk(H:Hp)(h:Heap):Prop:=∀a o,H a=some o->ObjOk P w H h a o
end
section
variable{P:Program}{w:World}{H H':Hp}{h h':Heap}{a:Addr}{o:HO}
theorem ObjOk.lt(x:ObjOk P w H h a o):a<h.objs.size:=by
 cases o with
 |lst xs=>obtain⟨_,_,_,_,e⟩:=x;exact Heap.lt_size e
 |tup xs=>obtain⟨_,_,_,p⟩:=x;exact p.lt
 |dK kvs=>obtain⟨_,_,_,_,o,_,_,e,_⟩:=x;exact Heap.lt_size e
 |dT kvs=>obtain⟨_,_,_,_,o,_,_,e,_⟩:=x;exact Heap.lt_size e
 |set S n=>obtain⟨o,_,_,_,e,_⟩:=x;exact Heap.lt_size e
 |ins C dx fs=>obtain⟨_,_,_,e,_⟩:=x;exact Heap.lt_size e
 |own y=>obtain⟨_,e⟩:=x;exact Heap.lt_size e
 |xd fs=>obtain⟨_,⟨_,_,_,e,_⟩,_⟩:=x;exact Heap.lt_size e
 |rng lo hi=>obtain⟨_,_,_,e⟩:=x;exact Heap.lt_size e
 |frz ob u=>obtain⟨e,_⟩:=x;exact Heap.lt_size e
 |tbl ps=>exact Heap.lt_size (show h.get? a=some _ from x)
 |met f y=>exact Heap.lt_size (show h.get? a=some _ from x)
 |ext φ=>obtain⟨_,⟨_,e⟩,_⟩:=x;exact Heap.lt_size e
theorem Paired.mapP{α β:Type}{F G:α->β->Prop}:∀ {l₁:List α} {l₂:List β},Paired F l₁ l₂->(∀a b,F a b->G a b)->Paired G l₁ l₂
 |_,_,.nil,_=>.nil
 |_,_,.cons r t,f=>.cons (f _ _ r) (Paired.mapP t f)
theorem ObjOk.stay(x:ObjOk P w H h a o)(k:∀b u,(b=a∨H b=some (.own a))->h.get? b=some u->h'.get? b=some u)
  (ho:∀b,H b=some (.own a)->H' b=some (.own a)) (ht:∀b xs,H b=some (.tup xs)->H' b=some (.tup xs)):ObjOk P w H' h' a o:=by
 induction o with
 |lst xs=>obtain⟨z,its,n,r,e⟩:=x;exact⟨z,its,n,r,k _ _ (.inl rfl) e⟩
 |tup xs=>obtain⟨z,its,r,ob,e,c⟩:=x;exact⟨z,its,r,ob,k _ _ (.inl rfl) e,c⟩
 |dK kvs=>obtain⟨z,y,vs,r,ob,es,ep,e,c⟩:=x;exact⟨z,y,vs,r,ob,es,ep,k _ _ (.inl rfl) e,c⟩
 |dT kvs =>
  obtain⟨z,y,xs,r,ob,es,ep,e,c⟩:=x
  exact⟨z,y,xs,Paired.mapP r fun p q z=>⟨z.1,ht _ _ z.2.1,z.2.2⟩,ob,es,ep,k _ _ (.inl rfl) e,c⟩
 |set S n=>obtain⟨ob,es,ep,t,e,c⟩:=x;exact⟨ob,es,ep,t,k _ _ (.inl rfl) e,c⟩
 |ins C dx fs =>
  obtain⟨d,z,ne,e,mA,⟨od,es,ep,e2,c⟩,r⟩:=x
  exact⟨ho _ d,z,ne,k _ _ (.inl rfl) e,mA,⟨od,es,ep,k _ _ (.inr d) e2,c⟩,r⟩
 |own y=>obtain⟨ob,e⟩:=x;exact⟨ob,k _ _ (.inl rfl) e⟩
 |xd fs=>obtain⟨mA,⟨od,es,ep,e,c⟩,r⟩:=x;exact⟨mA,⟨od,es,ep,k _ _ (.inl rfl) e,c⟩,r⟩
 |rng lo hi=>obtain⟨t,u,v,e⟩:=x;exact⟨t,u,v,k _ _ (.inl rfl) e⟩
 |frz ob u ih=>obtain⟨e,q⟩:=x;exact⟨k _ _ (.inl rfl) e,ih q⟩
 |tbl ps =>
  have e:h.get? a=some { cls:=.none,data:=.fields ps }:=x
  show h'.get? a=some { cls:=.none,data:=.fields ps }
  exact k a _ (.inl rfl) e
 |met f y =>
  have e:h.get? a=some (W.methodObj (.ref f) (.ref y)):=x
  show h'.get? a=some (W.methodObj (.ref f) (.ref y))
  exact k a _ (.inl rfl) e
 |ext φ=>obtain⟨p,⟨o,e⟩,st⟩:=x;exact⟨st _ _ p fun o q=>k _ _ (.inl rfl) q,⟨o,k _ _ (.inl rfl) e⟩,st⟩
theorem HOk.lt(x:HOk P w H h)(e:H a=some o):a<h.objs.size:=(x a o e).lt
theorem HOk.fresh(x:HOk P w H h)(e:h.objs.size<=a):H a=none:=by
 cases q:H a with
 |none=>rfl
 |some u=>exact absurd (Nat.lt_of_lt_of_le (x.lt q) e) (Nat.lt_irrefl _)
theorem HOk.kept(x:HOk P w H h)(k:∀b u,h.get? b=some u->h'.get? b=some u):HOk P w H h':=fun a o e =>
 (x a o e).stay (fun b u _ q=>k b u q) (fun _ q=>q) fun _ _ q=>q
theorem HOk.laid(x:HOk P w H h)(k:∀b u,h.get? b=some u->h'.get? b=some u)(hp:h.objs.size<=a)(new:ObjOk P w (Y2 H a o) h' a o):HOk P w (Y2 H a o) h':=fun b u e=>by
 have hn:=x.fresh hp
 by_cases hb:b=a
 ·subst hb;rw[Z1]at e;cases e;exact new
 ·rw[Zl hb]at e
  exact(x b u e).stay (fun c v _ q=>k c v q) (fun c q=>by rw[Zl (Z9 q hn)];exact q) fun c xs q=>by rw[Zl (Z9 q hn)];exact q
end
def Rd(H:Hp)(a:Addr)(u:HO):Prop:=H a=some u∨∃o,H a=some (.frz o u)
theorem Rd.ok{P:Program}{w:World}{H:Hp}{h:Heap}{a:Addr}{u:HO}(r:Rd H a u)(x:HOk P w H h):ObjOk P w H h a u:=by
 rcases r with r | ⟨o,r⟩
 ·exact x a u r
 ·obtain⟨_,q⟩:=x a _ r
  exact q
def Zgg:Option HO->Prop
 |some (.lst _)=>True
 |some (.dK _)=>True
 |some (.dT _)=>True
 |some (.set _ _)=>True
 |some (.ins _ _ _)=>True
 |some (.ext _)=>True
 |_=>False
section
variable{P:Program}{w:World}{H:Hp}{h h':Heap}{x e:Addr}{o':HO}
theorem HOk.write(ok:HOk P w H h)(mu:Zgg (H x))(he:e=x∨H e=some (.own x))(k:∀b u,b≠e->h.get? b=some u->h'.get? b=some u)(heo:∃u,h'.get? e=some u)
  (new:ObjOk P w (Y2 H x o') h' x o'):HOk P w (Y2 H x o') h':=fun b u q=>by
 have nown:∀c y,H c=some (.own y)->c≠x:=fun c y r z=>by subst z;rw[r]at mu;exact mu
 have ntup:∀c xs,H c=some (.tup xs)->c≠x:=fun c xs r z=>by subst z;rw[r]at mu;exact mu
 by_cases hb:b=x
 ·subst hb;rw[Z1]at q;cases q;exact new
 ·rw[Zl hb]at q
  by_cases hbe:b=e
  ·have q':H b=some (.own x):=by
    rcases he with z | z
    ·exact absurd (hbe.trans z) hb
    ·rw[hbe];exact z
   rw[q]at q';cases q'
   obtain⟨v,hv⟩:=heo
   exact⟨v,by rw[hbe];exact hv⟩
  ·refine(ok b u q).stay (fun c v hc r=>k c v ?_ r) (fun c r=>by rw[Zl (nown c b r)];exact r) fun c xs r=>by rw[Zl (ntup c xs r)];exact r
   rcases hc with rfl | hc
   ·exact hbe
   ·rintro rfl
    rcases he with z | z
    ·exact nown c b hc z
    ·rw[hc]at z;cases z;exact hb rfl
end
structure Un(fs ex:List Addr)(H H':Hp)(h h':Heap):Prop where
 keep:∀b o,h.get? b=some o->H b=none->b∉fs->b∉ex->h'.get? b=some o
 slot:∀b o,h.get? b=some o->H b=none->b∈fs->b∉ex->∃sl,h'.get? b=some { o with slots:=sl }
 free:∀b o,h.get? b=some o->H b=none->b∉ex->H' b=none
 there:∀b o,h.get? b=some o->b∉ex->∃o',h'.get? b=some o'
 tups:∀b xs,H b=some (.tup xs)->H' b=some (.tup xs)
 frzs:∀b o u,H b=some (.frz o u)->H' b=some (.frz o u)
 tbls:∀b ps,H b=some (.tbl ps)->∃more,H' b=some (.tbl (ps++more))
section
variable{fs fs' ex ex':List Addr}{H H1 H2:Hp}{h h1 h2 h':Heap}{a x e:Addr}{o:HO}
theorem Un.any(u:Un fs ex H H1 h h1){b:Addr}{ob:Obj}(q:h.get? b=some ob)(n:H b=none)(hx:b∉ex):∃sl,h1.get? b=some { ob with slots:=sl }:=by
 by_cases hb:b∈fs
 ·exact u.slot b ob q n hb hx
 ·exact⟨ob.slots,u.keep b ob q n hb hx⟩
theorem Un.kept(k:∀b u,h.get? b=some u->h'.get? b=some u):Un fs ex H H h h' :=
 ⟨fun b ob q _ _ _=>k b ob q,fun b ob q _ _ _=>⟨ob.slots,k b ob q⟩,fun _ _ _ n _=>n,fun b ob q _=>⟨ob,k b ob q⟩,fun _ _ q=>q,fun _ _ _ q=>q,fun _ ps q=>⟨#[],by rw[q];simp⟩⟩
theorem Un.refl:Un fs ex H H h h:=Un.kept fun _ _ q=>q
theorem Un.laid(k:∀b u,h.get? b=some u->h'.get? b=some u)(hp:h.objs.size<=a)(hn:H a=none):Un fs ex H (Y2 H a o) h h' where
 keep:=fun b u q _ _ _=>k b u q
 slot:=fun b u q _ _ _=>⟨u.slots,k b u q⟩
 free:=fun b u q n _=>by rw[Zl (Nat.ne_of_lt (Nat.lt_of_lt_of_le (Heap.lt_size q) hp))];exact n
 there:=fun b u q _=>⟨u,k b u q⟩
 tups:=fun b xs q=>by rw[Zl (Z9 q hn)];exact q
 frzs:=fun b u xs q=>by rw[Zl (Z9 q hn)];exact q
 tbls:=fun b ps q=>⟨#[],by rw[Zl (Z9 q hn),q];simp⟩
theorem Un.write(mu:Zgg (H x))(he:e=x∨H e=some (.own x))(k:∀b u,b≠e->h.get? b=some u->h'.get? b=some u)(heo:∃u,h'.get? e=some u):Un fs ex H (Y2 H x o) h h':=by
 have hx:∀b,H b=none->b≠x:=fun b n z=>by subst z;rw[n]at mu;exact mu
 have hb:∀b,H b=none->b≠e:=fun b n z=>by
  subst z
  rcases he with r | r
  ·exact hx b n r
  ·rw[n]at r;cases r
 have hm:∀b u,H b=some u->¬Zgg (some u)->b≠x:=fun b u q nm z=>by subst z;rw[q]at mu;exact nm mu
 refine⟨fun b u q n _ _=>k b u (hb b n) q,fun b u q n _ _=>⟨u.slots,k b u (hb b n) q⟩,fun b u q n _=>by rw[Zl (hx b n)];exact n,fun b u q _=>?_,
  fun b xs q=>by rw[Zl (hm b _ q fun z=>z)];exact q,fun b u xs q=>by rw[Zl (hm b _ q fun z=>z)];exact q,fun b ps q=>⟨#[],by rw[Zl (hm b _ q fun z=>z),q];simp⟩⟩
 by_cases hbe:b=e
 ·subst hbe;exact heo
 ·exact⟨u,k b u hbe q⟩
end
def Zgj(h:Heap)(H:Hp):List Addr:=(List.range h.objs.size).filter fun a=>(H a).isSome
def Z4w(h:Heap)(H:Hp):Heap:=W.hideAll h (Zgj h H)
theorem Z7v(h:Heap)(H:Hp):(Z4w h H).objs.size=h.objs.size:=W.hideAll_size _ _
theorem Z9b{h:Heap}{H:Hp}{b:Addr}{o:Obj}(e:h.get? b=some o)(n:H b=none):(Z4w h H).get? b=some o :=
 W.hideAll_get _ e fun hm=>by
  have q:(H b).isSome=true:=(List.mem_filter.mp hm).2
  rw[n]at q;simp at q
theorem Zbe{h:Heap}{H:Hp}{b:Addr}{o:Obj}(e:(Z4w h H).get? b=some o):h.get? b=some o/\H b=none:=by
 have e':h.get? b=some o:=W.of_hideAll (Zgj h H) e
 refine⟨e',?_⟩
 cases q:H b with
 |none=>rfl
 |some x =>
  have hm:b∈Zgj h H:=List.mem_filter.mpr ⟨List.mem_range.mpr (Heap.lt_size e'),by simp[q]⟩
  have z:(Z4w h H).get? b=none:=W.hideAll_none (Zgj h H) hm
  rw[z]at e;cases e
def Zbw(g h:Heap)(L:Addr):List (Addr×Obj):=(List.range h.objs.size).filterMap fun a=>if a=L∨(g.get? a).isSome=true then none else(h.get? a).map fun o=>(a,o)
def rest(g h:Heap)(L d:Addr):List (Addr×Obj):=(Zbw g h L).filter fun p=>decide (p.1≠d)
structure Mod(K:W.Frag)(mg:Str->Option Value)(base:Heap):Prop where
 kin:K.In base
 glob:base.Ns mainGlobals mg
 blt:∃mb,base.Ns builtinsNs mb/\∀x:Str,x≠"__name__"->mb x=bootBuiltins x
 nolimit:base.NoLimit
structure Cx where
 prog:Program
 w:World
 K:W.Frag
 mg:Str->Option Value
 base:Heap
 A:Around
 N:List Str
 s₀:Shared
 H₀:Hp
 env:Env
 outer:List Env
 stack:List Env
 ex:List Addr
 fn:Str->Bool
 calm:Bool
 pn:List (Addr×Obj)
 xe:Value->Shared->Prop
def Zal(l:List Env):List Addr:=l.filterMap (·.frame)
abbrev Cx.fs(X:Cx):List Addr:=Zal X.outer
def Zhl(sc:Scope)(x:Str):Prop:=sc.names.lookup x=some .local∨sc.names.lookup x=some .cell∨sc.names.lookup x=some .free
def Zf9(sc:Scope)(x:Str):Prop:=sc.names.lookup x=some .local∨sc.names.lookup x=some .cell
def Zhe(env:Env)(h:Heap)(m:Str->Option Value)(x:Str)(u:Value):Prop :=
 (env.kindOf x=some .local/\m x=some u)∨((env.kindOf x=some .cell∨env.kindOf x=some .free)/\∃c,env.cells.lookup x=some c/\h.IsCell c (some u))
structure Cx.Ok(X:Cx):Prop where
 mod:Mod X.K X.mg X.base
 kind:X.env.scope.kind=.function
 glob:X.env.globals=mainGlobals
 blt:X.env.builtins=builtinsNs
 above:X.s₀.heap.objs.size<=X.env.locals
 inj:∀x y c,X.env.cells.lookup x=some c->X.env.cells.lookup y=some c->x=y
 has:∀x,(X.env.kindOf x=some .cell∨X.env.kindOf x=some .free)->∃c,X.env.cells.lookup x=some c
 cab:∀x c,X.fn x=true->X.env.cells.lookup x=some c->X.s₀.heap.objs.size<=c
 hd:X.calm=true->X.A.handled=none
 frames:X.A.frames=some X.stack
 stk:X.stack=X.outer∨(X.stack=X.env::X.outer/\X.env.frame=some X.env.locals)
 exf:∀b∈X.ex,b≠X.env.locals/\∀x c,X.env.cells.lookup x=some c->c≠b
 bs:∀b o,X.base.get? b=some o->X.s₀.heap.get? b=some o/\X.H₀ b=none
 bsz:X.base.objs.size<=X.s₀.heap.objs.size
 noex:∀b o,X.base.get? b=some o->b∉X.ex
 exfs:∀b∈X.ex,b∉X.fs
 funs:X.s₀.heap.FunFrames X.base X.outer
 frf:∀b∈X.fs,X.H₀ b=none
structure Inv(X:Cx)(Z4:List (Addr×Obj))(σ:List (Option V))(H:Hp)(s:Shared):Prop where
 ok:X.Ok
 os:s.os=X.s₀.os
 bare:AllBare s.gens
 base:Un X.fs X.ex X.H₀ H X.s₀.heap s.heap
 loc:∃m,s.heap.Ns X.env.locals m/\∀(i:Nat) (x:Str) (v:V),X.N[i]? = some x->σ[i]? = some (some v)->Zhl X.env.scope x->∃u,RelV v u/\Zhe X.env s.heap m x u
 cell:∀x c,X.env.cells.lookup x=some c->∃v,s.heap.IsCell c v
 free:H X.env.locals=none
 freeC:∀x c,X.env.cells.lookup x=some c->H c=none
 pin:∀p∈X.pn++Z4,s.heap.get? p.1=some p.2/\H p.1=none/\p.1≠X.env.locals/\p.1∉X.fs/\∀v,p.2.data≠.cell v
 hok:HOk X.prog X.w H s.heap
 len:σ.length=X.N.length
section
variable{X:Cx}{Z4:List (Addr×Obj)}{σ:List (Option V)}{H H':Hp}{s:Shared}{h':Heap}
theorem Cx.Ok.nofr(ok:X.Ok){b:Addr}{o:Obj}(e:X.base.get? b=some o):b∉X.fs:=fun hb=>by
 have:=(ok.funs.mem hb).1
 rw[e]at this;cases this
theorem Inv.bs(I:Inv X Z4 σ H s):∀b o,X.base.get? b=some o->s.heap.get? b=some o/\H b=none:=fun b o e =>
 ⟨I.base.keep b o (I.ok.bs b o e).1 (I.ok.bs b o e).2 (I.ok.nofr e) (I.ok.noex b o e),I.base.free b o (I.ok.bs b o e).1 (I.ok.bs b o e).2 (I.ok.noex b o e)⟩
theorem Inv.bk(I:Inv X Z4 σ H s):∀b o,X.base.get? b=some o->s.heap.get? b=some o:=fun b o e=>(I.bs b o e).1
theorem Inv.mod(I:Inv X Z4 σ H s):Mod X.K X.mg X.base:=I.ok.mod
theorem Inv.kIn(I:Inv X Z4 σ H s):X.K.In s.heap:=I.ok.mod.kin.keeps I.bk
theorem Inv.lt(I:Inv X Z4 σ H s):X.env.locals<s.heap.objs.size:=let⟨_,hn,_⟩:=I.loc;hn.lt
theorem Inv.sz(I:Inv X Z4 σ H s):X.s₀.heap.objs.size<=s.heap.objs.size:=Nat.le_trans I.ok.above (Nat.le_of_lt I.lt)
theorem Inv.nofs(I:Inv X Z4 σ H s){a:Addr}(h:s.heap.objs.size<=a):a∉X.fs:=fun hb=>by
 obtain⟨_,o,ho,_⟩:=I.ok.funs.mem hb
 exact absurd (Nat.lt_of_lt_of_le (Heap.lt_size ho) (Nat.le_trans I.sz h)) (Nat.lt_irrefl _)
theorem Inv.cne(I:Inv X Z4 σ H s):∀x c,X.env.cells.lookup x=some c->c≠X.env.locals:=fun x c e z=>by
 obtain⟨v,o,ho,hd⟩:=I.cell x c e
 obtain⟨m,⟨o',es,ep,ho',hd',_⟩,_⟩:=I.loc
 rw[z,ho']at ho;cases ho;rw[hd']at hd;cases hd
theorem Inv.funs(I:Inv X Z4 σ H s):s.heap.FunFrames X.base X.outer:=by
 have all:∀(l:List Env),(∀b∈Zal l,b∈X.fs)->X.s₀.heap.FunFrames X.base l->s.heap.FunFrames X.base l:=by
  intro l
  induction l with
  |nil=>intro _ _;trivial
  |cons env r ih =>
   intro hs hl
   obtain⟨hk,⟨L,o,hf,hn,ho,hd⟩,hr⟩:=hl
   have hL:L∈X.fs:=hs L (by unfold Zal;rw[List.filterMap_cons,hf];exact List.mem_cons_self)
   obtain⟨sl,e⟩:=I.base.slot L o ho (I.ok.frf L hL) hL fun z=>I.ok.exfs L z hL
   exact⟨hk,⟨L,_,hf,hn,e,hd⟩,ih (fun b hb=>hs b (by unfold Zal;rw[List.filterMap_cons,hf];exact List.mem_cons_of_mem _ hb)) hr⟩
 exact all X.outer (fun _ hb=>hb) I.ok.funs
theorem Inv.stack(I:Inv X Z4 σ H s):s.heap.FunFrames X.base X.stack:=by
 rcases I.ok.stk with e | ⟨e,hf⟩
 ·rw[e];exact I.funs
 ·rw[e]
  obtain⟨m,hn,_⟩:=I.loc
  refine .cons (by rw[I.ok.kind];decide) hf hn ?_ I.funs
  exact Heap.get?_none_of_le (Nat.le_trans I.ok.bsz I.ok.above)
theorem Inv.stkSub(I:Inv X Z4 σ H s):∀b∈Zal X.stack,b∈X.env.locals::X.fs:=fun b hb=>by
 rcases I.ok.stk with e | ⟨e,hf⟩
 ·rw[e]at hb;exact List.mem_cons_of_mem _ hb
 ·rw[e]at hb
  unfold Zal at hb
  rw[List.filterMap_cons,hf]at hb
  exact hb
theorem Inv.stkFree(I:Inv X Z4 σ H s):∀b∈Zal X.stack,H b=none:=fun b hb=>by
 rcases List.mem_cons.mp (I.stkSub b hb) with e | hb
 ·rw[e];exact I.free
 ·obtain⟨_,o,ho,_⟩:=I.ok.funs.mem hb
  exact I.base.free b o ho (I.ok.frf b hb) fun z=>I.ok.exfs b z hb
theorem Inv.step{g':Array GenState}{t':Nat}{d':Drawn}{ch:List Addr}(I:Inv X Z4 σ H s)
  (hch:∀b∈ch,(b∈X.ex∨X.s₀.heap.objs.size<=b)/\b≠X.env.locals/\(∀x c,X.env.cells.lookup x=some c->c≠b)/\∀p∈X.pn++Z4,p.1≠b)
  (keep:∀b o,b≠X.env.locals->b∉X.fs->b∉ch->s.heap.get? b=some o->H b=none->h'.get? b=some o)
  (slot:∀b o,b≠X.env.locals->b∈X.fs->b∉ch->s.heap.get? b=some o->H b=none->∃sl,h'.get? b=some { o with slots:=sl }) (free:∀b o,b∉ch->s.heap.get? b=some o->H b=none->H' b=none)
  (there:∀b o,b∉ch->s.heap.get? b=some o->∃o',h'.get? b=some o')
  (tups:∀b xs,H b=some (.tup xs)->H' b=some (.tup xs)) (frzs:∀b o u,H b=some (.frz o u)->H' b=some (.frz o u)) (tbls:∀b ps,H b=some (.tbl ps)->∃more,H' b=some (.tbl (ps++more)))
  (ns:∀m,s.heap.Ns X.env.locals m->h'.Ns X.env.locals m) (hok:HOk X.prog X.w H' h') (hg:AllBare g') :
  Inv X Z4 σ H' { s with heap:=h',gens:=g',drawn:=d',toks:=t' }:=by
 have neL:∀b o,X.s₀.heap.get? b=some o->b≠X.env.locals:=fun b o e=>Nat.ne_of_lt (Nat.lt_of_lt_of_le (Heap.lt_size e) I.ok.above)
 have neC:∀b o,X.s₀.heap.get? b=some o->b∉X.ex->b∉ch:=fun b o e hx hb=>by
  rcases(hch b hb).1 with z | z
  ·exact hx z
  ·exact absurd (Nat.lt_of_lt_of_le (Heap.lt_size e) z) (Nat.lt_irrefl _)
 have cellK:∀x c,X.env.cells.lookup x=some c->∀v,s.heap.IsCell c v->h'.IsCell c v:=fun x c e v ⟨o,ho,hd⟩=>by
  have nch:c∉ch:=fun z=>(hch c z).2.2.1 x c e rfl
  by_cases hc:c∈X.fs
  ·obtain⟨sl,q⟩:=slot c o (I.cne x c e) hc nch ho (I.freeC x c e)
   exact⟨_,q,hd⟩
  ·exact⟨o,keep c o (I.cne x c e) hc nch ho (I.freeC x c e),hd⟩
 refine⟨I.ok,I.os,hg,⟨fun b o e n hb hx=>?_,fun b o e n hb hx=>?_,fun b o e n hx=>?_,fun b o e hx=>?_,fun b xs e=>tups b xs (I.base.tups b xs e),fun b o xs e=>frzs b o xs (I.base.frzs b o xs e),fun b ps e=>?_⟩,?_,fun x c e=>?_,?_,fun x c e=>?_,fun p hp=>?_,hok,I.len⟩
 ·exact keep b o (neL b o e) hb (neC b o e hx) (I.base.keep b o e n hb hx) (I.base.free b o e n hx)
 ·obtain⟨sl,e1⟩:=I.base.slot b o e n hb hx
  obtain⟨sl',e2⟩:=slot b _ (neL b o e) hb (neC b o e hx) e1 (I.base.free b o e n hx)
  exact⟨sl',e2⟩
 ·obtain⟨o',e1⟩:=I.base.there b o e hx
  exact free b o' (neC b o e hx) e1 (I.base.free b o e n hx)
 ·obtain⟨o',e1⟩:=I.base.there b o e hx
  exact there b o' (neC b o e hx) e1
 ·obtain⟨m1,e1⟩:=I.base.tbls b ps e
  obtain⟨m2,e2⟩:=tbls b _ e1
  exact⟨m1++m2,by rw[e2,Array.append_assoc]⟩
 ·obtain⟨m,hn,hl⟩:=I.loc
  refine⟨m,ns m hn,fun i x v e1 e2 e3=>?_⟩
  obtain⟨u,r,l⟩:=hl i x v e1 e2 e3
  refine⟨u,r,?_⟩
  rcases l with l | ⟨k,c,e,z⟩
  ·exact .inl l
  ·exact .inr ⟨k,c,e,cellK x c e _ z⟩
 ·obtain⟨v,z⟩:=I.cell x c e
  exact⟨v,cellK x c e v z⟩
 ·obtain⟨m,⟨o,_,_,ho,_⟩,_⟩:=I.loc
  exact free _ o (fun z=>(hch _ z).2.1 rfl) ho I.free
 ·obtain⟨v,o,ho,hd⟩:=I.cell x c e
  exact free c o (fun z=>(hch c z).2.2.1 x c e rfl) ho (I.freeC x c e)
 ·obtain⟨e,n,ne,nf,d⟩:=I.pin p hp
  have nch:p.1∉ch:=fun z=>(hch p.1 z).2.2.2 p hp rfl
  exact⟨keep p.1 p.2 ne nf nch e n,free p.1 p.2 nch e n,ne,nf,d⟩
theorem Inv.un{t':Nat}(I:Inv X Z4 σ H s)(u:Un X.fs [] H H' s.heap h')(hok:HOk X.prog X.w H' h'):Inv X Z4 σ H' { s with heap:=h',toks:=t' }:=by
 obtain⟨m,⟨o,es,ep,ho,r⟩,_⟩:=id I.loc
 obtain⟨sl,hL⟩:=u.any ho I.free (by simp)
 exact I.step (g':=s.gens) (d':=s.drawn) (ch:=[]) (fun _ z=>nomatch z) (fun b o _ hb _ e n=>u.keep b o e n hb (by simp)) (fun b o _ hb _ e n=>u.slot b o e n hb (by simp)) (fun b o _ e n=>u.free b o e n (by simp)) (fun b o _ e=>u.there b o e (by simp)) u.tups u.frzs u.tbls (fun m' hm=>by
  obtain⟨o',es',ep',ho',r'⟩:=hm
  rw[ho]at ho';cases ho'
  exact⟨_,es',ep',hL,r'⟩) hok I.bare
theorem Inv.call{g':Array GenState}{t':Nat}{d':Drawn}{ch:List Addr}(I:Inv X Z4 σ H s)(u:Un (Zal X.stack) ch H H' s.heap h')(hok:HOk X.prog X.w H' h')(hg:AllBare g')
  (hch:∀b∈ch,(b∈X.ex∨X.s₀.heap.objs.size<=b)/\b≠X.env.locals/\(∀x c,X.env.cells.lookup x=some c->c≠b)/\∀p∈X.pn++Z4,p.1≠b) :
  Inv X Z4 σ H' { s with heap:=h',gens:=g',drawn:=d',toks:=t' }:=by
 obtain⟨m,⟨o,es,ep,ho,r⟩,_⟩:=id I.loc
 obtain⟨sl,hL⟩:=u.any ho I.free fun z=>(hch _ z).2.1 rfl
 exact I.step (ch:=ch) hch (fun b o hL hb hc e n=>u.keep b o e n (fun z=>(List.mem_cons.mp (I.stkSub b z)).elim hL hb) hc) (fun b o _ _ hc e n=>u.any e n hc) (fun b o hc e n=>u.free b o e n hc) (fun b o hc e=>u.there b o e hc) u.tups u.frzs u.tbls (fun m' hm=>by
  obtain⟨o',es',ep',ho',r'⟩:=hm
  rw[ho]at ho';cases ho'
  exact⟨_,es',ep',hL,r'⟩) hok hg
theorem Inv.turned{t':Nat}{it:Addr}(I:Inv X Z4 σ H s)(k:∀b o,b≠it->s.heap.get? b=some o->h'.get? b=some o)(hn:H it=none)(hL:it≠X.env.locals)
  (h1:it∈X.ex∨X.s₀.heap.objs.size<=it) (h2:∀x c,X.env.cells.lookup x=some c->c≠it) (h3:∀p∈X.pn++Z4,p.1≠it):Inv X Z4 σ H { s with heap:=h',toks:=t' }:=by
 have nit:∀b u,H b=some u->b≠it:=fun b u e z=>by rw[z,hn]at e;cases e
 refine I.step (g':=s.gens) (d':=s.drawn) (ch:=[it]) (fun b hb=>?_) (fun b o _ _ hc e _=>k b o (fun z=>hc (by simp[z])) e) (fun b o _ _ hc e _=>⟨o.slots,k b o (fun z=>hc (by simp[z])) e⟩) (fun _ _ _ _ n=>n)
  (fun b o hc e=>⟨o,k b o (fun z=>hc (by simp[z])) e⟩) (fun _ _ e=>e) (fun _ _ _ e=>e) (fun b ps e=>⟨#[],by rw[e];simp⟩) (fun m hm=>?_) (fun b u e=>?_) I.bare
 ·have e:b=it:=by simpa using hb
  subst e
  exact⟨h1,hL,h2,h3⟩
 ·obtain⟨o,es,ep,ho,r⟩:=hm
  exact⟨o,es,ep,k _ o (Ne.symm hL) ho,r⟩
 ·refine(I.hok b u e).stay (fun c v hc q=>k c v ?_ q) (fun _ q=>q) fun _ _ q=>q
  rcases hc with z | z
  ·rw[z];exact nit b u e
  ·exact nit c _ z
theorem Inv.tok(I:Inv X Z4 σ H s)(t:Nat):Inv X Z4 σ H { s with toks:=t }:=I.un (h':=s.heap) (t':=t) Un.refl I.hok
theorem Inv.kept{t':Nat}(I:Inv X Z4 σ H s)(k:∀b u,s.heap.get? b=some u->h'.get? b=some u):Inv X Z4 σ H { s with heap:=h',toks:=t' }:=I.un (Un.kept k) (I.hok.kept k)
theorem Inv.laid{a:Addr}{o:HO}{t':Nat}(I:Inv X Z4 σ H s)(k:∀b u,s.heap.get? b=some u->h'.get? b=some u)(hp:s.heap.objs.size<=a)(new:ObjOk X.prog X.w (Y2 H a o) h' a o) :
  Inv X Z4 σ (Y2 H a o) { s with heap:=h',toks:=t' }:=I.un (Un.laid k hp (I.hok.fresh hp)) (I.hok.laid k hp new)
theorem Inv.write{x e:Addr}{o:HO}{t':Nat}(I:Inv X Z4 σ H s)(mu:Zgg (H x))(he:e=x∨H e=some (.own x))(k:∀b u,b≠e->s.heap.get? b=some u->h'.get? b=some u)(heo:∃u,h'.get? e=some u)
  (new:ObjOk X.prog X.w (Y2 H x o) h' x o):Inv X Z4 σ (Y2 H x o) { s with heap:=h',toks:=t' }:=I.un (Un.write mu he k heo) (I.hok.write mu he k heo new)
theorem Inv.pins_of{pins':List (Addr×Obj)}(I:Inv X Z4 σ H s)(h:∀p∈pins',s.heap.get? p.1=some p.2/\H p.1=none/\p.1≠X.env.locals/\p.1∉X.fs/\∀v,p.2.data≠.cell v):Inv X pins' σ H s :=
 ⟨I.ok,I.os,I.bare,I.base,I.loc,I.cell,I.free,I.freeC,fun p hp=>(List.mem_append.mp hp).elim (fun z=>I.pin p (List.mem_append_left _ z)) (h p),I.hok,I.len⟩
theorem Z4i{N:List Str}(hN:N.Nodup){i j:Nat}{x:Str}(a:N[i]? = some x)(b:N[j]? = some x):i=j:=by
 obtain⟨h1,e1⟩:=List.getElem?_eq_some_iff.mp a
 obtain⟨h2,e2⟩:=List.getElem?_eq_some_iff.mp b
 exact(List.getElem_inj hN).mp (e1.trans e2.symm)
theorem Z1w{M:Model}{A:Around}{E:Value->Shared->Prop}{i:Nat}{x:Str}{v:V}{u:Value}{Q:Unit->Shared->Prop}(I:Inv X Z4 σ H s)(hN:X.N.Nodup)(hi:X.N[i]? = some x)(hx:Zf9 X.env.scope x)(r:RelV v u)
  (h:∀s',Inv X Z4 (σ.set i (some v)) H s'->(∃a,Heap.SameBut a s.heap s'.heap/\(a=X.env.locals∨X.env.cells.lookup x=some a))->Q () s') (hf:X.fn x=true∨X.env.scope.names.lookup x=some .local:=by first | exact .inl rfl | exact .inr rfl | assumption):wpAny M A (storeName X.env x u) Q E s:=by
 obtain⟨m,hn,hl⟩:=id I.loc
 have hcls:(X.env.scope.kind==.class||(X.env.scope.kind==.module&&X.env.locals != X.env.globals))=false:=by rw[I.ok.kind];rfl
 have hiσ:i<σ.length:=by rw[I.len];exact(List.getElem?_eq_some_iff.mp hi).1
 have cne:=I.cne
 have tracked:∀ {a:Addr} {h':Heap},(∃o,s.heap.get? a=some o/\H a=none)->Heap.SameBut a s.heap h'->HOk X.prog X.w H h':=fun{a h'} ha hs b ob e=>by
  obtain⟨_,_,hfree⟩:=ha
  refine(I.hok b ob e).stay (fun c w' hc q=>(hs.2 c ?_).trans q) (fun _ q=>q) fun _ _ q=>q
  rintro rfl
  rcases hc with rfl | hc
  ·rw[hfree]at e;cases e
  ·rw[hfree]at hc;cases hc
 rcases hx with hk | hk
 ·refine wpAny_storeName_local hk hn (fun h' hn' hs=>?_) hcls
  obtain⟨oL,_,_,hoL,_⟩:=id hn
  refine h _ ⟨I.ok,I.os,I.bare,⟨fun b o e n hb hx=>?_,fun b o e n hb hx=>?_,I.base.free,fun b o e hx=>?_,I.base.tups,I.base.frzs,I.base.tbls⟩,⟨_,hn',fun j y v' e1 e2 e3=>?_⟩,fun y c e=>?_,I.free,I.freeC,fun p hp=>?_,tracked ⟨oL,hoL,I.free⟩ hs,by simpa using I.len⟩ ⟨_,hs,.inl rfl⟩
  ·exact(hs.2 b (Nat.ne_of_lt (Nat.lt_of_lt_of_le (Heap.lt_size e) I.ok.above))).trans (I.base.keep b o e n hb hx)
  ·obtain⟨sl,e1⟩:=I.base.slot b o e n hb hx
   exact⟨sl,(hs.2 b (Nat.ne_of_lt (Nat.lt_of_lt_of_le (Heap.lt_size e) I.ok.above))).trans e1⟩
  ·obtain⟨o',e1⟩:=I.base.there b o e hx
   exact⟨o',(hs.2 b (Nat.ne_of_lt (Nat.lt_of_lt_of_le (Heap.lt_size e) I.ok.above))).trans e1⟩
  ·by_cases hj:j=i
   ·subst hj
    rw[hi]at e1;cases e1
    rw[List.getElem?_set_self hiσ]at e2
    cases e2
    exact⟨u,r,.inl ⟨hk,by simp⟩⟩
   ·rw[List.getElem?_set_ne (Ne.symm hj)]at e2
    obtain⟨u',r',q⟩:=hl j y v' e1 e2 e3
    refine⟨u',r',?_⟩
    rcases q with⟨k,e⟩ | ⟨k,c,e,z⟩
    ·refine .inl ⟨k,?_⟩
     have:y≠x:=fun e=>hj (Z4i hN e1 (e ▸ hi))
     simp[this,e]
    ·exact .inr ⟨k,c,e,z.sameBut hs (cne y c e)⟩
  ·obtain⟨w',z⟩:=I.cell y c e
   exact⟨w',z.sameBut hs (cne y c e)⟩
  ·obtain⟨e,n,ne,nf,d⟩:=I.pin p hp
   exact⟨(hs.2 p.1 ne).trans e,n,ne,nf,d⟩
 ·have hfn:X.fn x=true:=by
   rcases hf with z | z
   ·exact z
   ·rw[z]at hk;cases hk
  obtain⟨c,hc⟩:=I.ok.has x (.inl hk)
  obtain⟨w',z⟩:=I.cell x c hc
  refine wpAny_storeName_cell I.ok.kind hk hc z (fun h' hc' hs=>?_)
  obtain⟨oc,hoc,hocd⟩:=id z
  refine h { s with heap:=h' } ⟨I.ok,I.os,I.bare,⟨fun b o e n hb hx=>?_,fun b o e n hb hx=>?_,I.base.free,fun b o e hx=>?_,I.base.tups,I.base.frzs,I.base.tbls⟩,⟨m,hn.sameBut hs (Ne.symm (cne x c hc)),fun j y v' e1 e2 e3=>?_⟩,fun y c' e=>?_,I.free,I.freeC,fun p hp=>?_,tracked ⟨oc,hoc,I.freeC x c hc⟩ hs,by simpa using I.len⟩ ⟨c,hs,.inr hc⟩
  ·exact(hs.2 b (Nat.ne_of_lt (Nat.lt_of_lt_of_le (Heap.lt_size e) (I.ok.cab x c hfn hc)))).trans (I.base.keep b o e n hb hx)
  ·obtain⟨sl,e1⟩:=I.base.slot b o e n hb hx
   exact⟨sl,(hs.2 b (Nat.ne_of_lt (Nat.lt_of_lt_of_le (Heap.lt_size e) (I.ok.cab x c hfn hc)))).trans e1⟩
  ·obtain⟨o',e1⟩:=I.base.there b o e hx
   exact⟨o',(hs.2 b (Nat.ne_of_lt (Nat.lt_of_lt_of_le (Heap.lt_size e) (I.ok.cab x c hfn hc)))).trans e1⟩
  ·by_cases hj:j=i
   ·subst hj
    rw[hi]at e1;cases e1
    rw[List.getElem?_set_self hiσ]at e2
    cases e2
    exact⟨u,r,.inr ⟨.inl hk,c,hc,hc'⟩⟩
   ·rw[List.getElem?_set_ne (Ne.symm hj)]at e2
    obtain⟨u',r',q⟩:=hl j y v' e1 e2 e3
    refine⟨u',r',?_⟩
    rcases q with q | ⟨k,c',e,z'⟩
    ·exact .inl q
    ·refine .inr ⟨k,c',e,z'.sameBut hs ?_⟩
     rintro rfl
     exact hj (Z4i hN e1 (I.ok.inj _ _ _ e hc ▸ hi))
  ·by_cases hcc:c'=c
   ·subst hcc;exact⟨_,hc'⟩
   ·obtain⟨w2,z2⟩:=I.cell y c' e
    exact⟨w2,z2.sameBut hs hcc⟩
  ·obtain⟨e,n,ne,nf,d⟩:=I.pin p hp
   refine⟨(hs.2 p.1 ?_).trans e,n,ne,nf,d⟩
   intro q
   rw[q,hoc]at e
   have q':oc=p.2:=Option.some.inj e
   exact d w' (by rw[← q'];exact hocd)
theorem Z47{M:Model}{A:Around}{E:Value->Shared->Prop}{i:Nat}{x:Str}{v:V}{u:Value}{Q:Unit->Shared->Prop}(I:Inv X Z4 σ H s)(hN:X.N.Nodup)(hi:X.N[i]? = some x)(hx:Zf9 X.env.scope x)(r:RelV v u)
  (h:∀s',Inv X Z4 (σ.set i (some v)) H s'->Q () s') (hf:X.fn x=true∨X.env.scope.names.lookup x=some .local:=by first | exact .inl rfl | exact .inr rfl | assumption):wpAny M A (storeName X.env x u) Q E s :=
 Z1w I hN hi hx r (fun s' I' _=>h s' I') hf
theorem Inv.call'{s':Shared}{ch:List Addr}(I:Inv X Z4 σ H s)(ho:s'.os=s.os)(u:Un (Zal X.stack) ch H H' s.heap s'.heap)(hok:HOk X.prog X.w H' s'.heap)(hg:AllBare s'.gens)
  (hch:∀b∈ch,(b∈X.ex∨X.s₀.heap.objs.size<=b)/\b≠X.env.locals/\(∀x c,X.env.cells.lookup x=some c->c≠b)/\∀p∈X.pn++Z4,p.1≠b):Inv X Z4 σ H' s':=by
 obtain⟨h',g',d',t',o'⟩:=s'
 have e:o'=s.os:=ho
 subst e
 exact I.call (g':=g') (t':=t') (d':=d') u hok hg hch
end
abbrev XK:=Value->Option Addr->Hp->Prop
abbrev St:=List (Option V)
abbrev VK:=V->Hp->Prop
abbrev TE:=St->Hp->VK->Prop
abbrev TT:=St->Hp->(Bool->Hp->Prop)->Prop
abbrev TA:=St->Hp->(List V->Hp->Prop)->Prop
structure Ends where
 nx:St->Hp->Prop
 rt:VK
 bk:St->Hp->Prop:=fun _ _=>False
 ct:St->Hp->Prop:=fun _ _=>False
abbrev TS:=Ends->St->Hp->Prop
def EP(X:Cx)(Z4:List (Addr×Obj))(σ:St)(Q:VK)(u:Value)(s':Shared):Prop:=∃v H',Inv X Z4 σ H' s'/\RelV v u/\Q v H'
def TP(X:Cx)(Z4:List (Addr×Obj))(σ:St)(Q:Bool->Hp->Prop)(b:Bool)(s':Shared):Prop:=∃H',Inv X Z4 σ H' s'/\Q b H'
def AP(X:Cx)(Z4:List (Addr×Obj))(σ:St)(Q:List V->Hp->Prop)(us:List Value)(s':Shared):Prop:=∃vs H',Inv X Z4 σ H' s'/\Vals vs us/\Q vs H'
def SP(X:Cx)(Z4:List (Addr×Obj))(D:Ends)(f:Flow)(s':Shared):Prop :=
 match f with
 |.next=>∃σ' H',Inv X Z4 σ' H' s'/\D.nx σ' H'
 |.brk=>∃σ' H',Inv X Z4 σ' H' s'/\D.bk σ' H'
 |.cont=>∃σ' H',Inv X Z4 σ' H' s'/\D.ct σ' H'
 |.ret u=>∃v σ' H',Inv X Z4 σ' H' s'/\RelV v u/\D.rt v H'
def PE(X:Cx)(e:Expr)(t:TE):Prop :=
 ∀(Z4:List (Addr×Obj)) (s:Shared) (σ:St) (H:Hp) (Q:VK),Inv X Z4 σ H s->t σ H Q->wpAny (model X.prog X.w) X.A (eval e X.env) (EP X Z4 σ Q) X.xe s
def PT(X:Cx)(e:Expr)(t:TT):Prop :=
 ∀(Z4:List (Addr×Obj)) (s:Shared) (σ:St) (H:Hp) (Q:Bool->Hp->Prop),Inv X Z4 σ H s->t σ H Q->wpAny (model X.prog X.w) X.A (isTrue e X.env (eval e X.env)) (TP X Z4 σ Q) X.xe s
def PW(X:Cx)(e:Expr)(t:TT):Prop :=
 ∀(whole:Sem Value) (Z4:List (Addr×Obj)) (s:Shared) (σ:St) (H:Hp) (Q:Bool->Hp->Prop),Inv X Z4 σ H s->t σ H Q->wpAny (model X.prog X.w) X.A (isTrue e X.env whole) (TP X Z4 σ Q) X.xe s
theorem PW.pt{X:Cx}{e:Expr}{t:TT}(h:PW X e t):PT X e t:=h _
def PA(X:Cx)(es:List Expr)(t:TA):Prop :=
 ∀(pos:Pos) (Z4:List (Addr×Obj)) (s:Shared) (σ:St) (H:Hp) (Q:List V->Hp->Prop),Inv X Z4 σ H s->t σ H Q->wpAny (model X.prog X.w) X.A (spliced (backTo pos (starEach es X.env))) (AP X Z4 σ Q) X.xe s
def PS(X:Cx)(st:Stmt)(t:TS):Prop :=
 ∀(Z4:List (Addr×Obj)) (s:Shared) (σ:St) (H:Hp) (D:Ends),Inv X Z4 σ H s->t D σ H->wpAny (model X.prog X.w) X.A (exec st X.env) (SP X Z4 D) X.xe s
def PSs(X:Cx)(st:List Stmt)(t:TS):Prop :=
 ∀(Z4:List (Addr×Obj)) (s:Shared) (σ:St) (H:Hp) (D:Ends),Inv X Z4 σ H s->t D σ H->wpAny (model X.prog X.w) X.A (execs st X.env) (SP X Z4 D) X.xe s
theorem Xt{α:Type}{t:Sem α}{Q Q':α->Shared->Prop}{M:Model}{A:Around}{E:Value->Shared->Prop}{s:Shared}(h:wpAny M A t Q E s)(hQ:∀a s,Q a s->Q' a s):wpAny M A t Q' E s:=wpAny_mono h hQ fun _ _ x=>x
section
variable{X:Cx}
theorem bin{a b:Expr}{ta tb:TE}(ha:PE X a ta)(hb:PE X b tb){Z4:List (Addr×Obj)}{s:Shared}{σ:St}{H:Hp}{R:V->V->Hp->Prop}(I:Inv X Z4 σ H s)(h:ta σ H fun x H1=>tb σ H1 fun y H2=>R x y H2)
  {α:Type} {Q:α->Shared->Prop} {f:Value->Value->Sem α}
  (hf:∀v u s2 x y H2,Inv X Z4 σ H2 s2->RelV x v->RelV y u->R x y H2->wpAny (model X.prog X.w) X.A (f v u) Q X.xe s2) :
  wpAny (model X.prog X.w) X.A (eval a X.env) (fun v s₁=>wpAny (model X.prog X.w) X.A (eval b X.env) (fun u s₂=>wpAny (model X.prog X.w) X.A (f v u) Q X.xe s₂) X.xe s₁) X.xe s:=by
 refine Xt (ha Z4 s σ H _ I h) fun v s1 ⟨x,H1,I1,r1,q1⟩=>?_
 refine Xt (hb Z4 s1 σ H1 _ I1 q1) fun u s2 ⟨y,H2,I2,r2,q2⟩=>?_
 exact hf v u s2 x y H2 I2 r1 r2 q2
def Yz(i:Nat):TE:=fun σ H Q=>∃v,σ[i]? = some (some v)/\Q v H
def tC(v:V):TE:=fun _ H Q=>Q v H
theorem Zdr{i:Nat}{x:Str}{pos:Pos}(hN:X.N[i]? = some x)(hv:Zhl X.env.scope x)(hd:(x==("__debug__":Str))=false:=by decide)(hcd:(x==("__classdict__":Str))=false:=by decide):PE X (.Name x pos) (Yz i):=by
 intro Z4 s σ H Q I h
 obtain⟨v,e,h⟩:=h
 obtain⟨m,hn,hl⟩:=I.loc
 obtain⟨u,r,l⟩:=hl i x v hN e hv
 have fin:EP X Z4 σ Q u s:=⟨v,H,I,r,h⟩
 rcases l with⟨hk,hm⟩ | ⟨hk,c,hc,hcell⟩
 ·exact wpAny_Name (wpAny_loadName_local I.ok.kind hk hn hm fin) hd
 ·rcases hk with hk | hk
  ·exact wpAny_Name (wpAny_loadName_cell I.ok.kind hk hc hcell fin) hd
  ·exact wpAny_Name (wpAny_loadName_free I.ok.kind hk hc hcell fin hcd) hd
theorem Z5{i j pos}:PE X (.Constant (.int i) j pos) (tC (.int i)):=fun _ _ _ H _ I h=>wpAny_Constant_int ⟨.int i,H,I.tok _,⟨_,rfl⟩,h⟩
theorem Vt{b j pos}:PE X (.Constant (.bool b) j pos) (tC (.bl b)):=fun _ _ _ H _ I h=>Constant_bool ⟨.bl b,H,I,rfl,h⟩
theorem Z17{j pos}:PE X (.Constant .none j pos) (tC .non):=fun _ _ _ H _ I h=>Constant_none ⟨.non,H,I,rfl,h⟩
theorem Z8{x j pos}:PE X (.Constant (.str x) j pos) (tC (.str x)):=fun _ _ _ H _ I h=>Calls.Constant_str ⟨.str x,H,I.tok _,⟨_,rfl⟩,h⟩
def Gl(X:Cx)(x:Str):Prop:=X.env.kindOf x=some .globalImplicit
theorem Z34{E:Value->Shared->Prop}{Z4:List (Addr×Obj)}{s:Shared}{σ:St}{H:Hp}{x:Str}{u:Value}{pos:Pos}{Q:Value->Shared->Prop}(I:Inv X Z4 σ H s)(hg:Gl X x)(hm:X.mg x=some u)(h:Q u s)
  (hd:(x==("__debug__":Str))=false:=by decide):wpAny (model X.prog X.w) X.A (eval (.Name x pos) X.env) Q E s :=
 Calls.Name_function_global I.ok.kind hg (Calls.loadGlobal_global (by rw[I.ok.glob];exact I.mod.glob.keeps I.bk) hm h) hd
theorem Z1a{E:Value->Shared->Prop}{Z4:List (Addr×Obj)}{s:Shared}{σ:St}{H:Hp}{x:Str}{u:Value}{pos:Pos}{Q:Value->Shared->Prop}(I:Inv X Z4 σ H s)(hg:Gl X x)(hm:X.mg x=none)(hv:bootBuiltins x=some u)(h:Q u s)
  (hn:x≠"__name__":=by decide) (hd:(x==("__debug__":Str))=false:=by decide):wpAny (model X.prog X.w) X.A (eval (.Name x pos) X.env) Q E s:=by
 obtain⟨mb,h1,h2⟩:=I.mod.blt
 exact Calls.Name_function_global I.ok.kind hg (Calls.loadGlobal_builtin (by rw[I.ok.glob];exact I.mod.glob.keeps I.bk) hm (by rw[I.ok.blt];exact h1.keeps I.bk) ((h2 x hn).trans hv) h) hd
theorem Y5{x:Str}{v:V}{u:Value}{pos:Pos}(hg:Gl X x)(hm:X.mg x=some u)(r:RelV v u)(hd:(x==("__debug__":Str))=false:=by decide):PE X (.Name x pos) (tC v) :=
 fun _ _ _ H _ I h=>Z34 I hg hm ⟨v,H,I,r,h⟩ hd
theorem W9{x:Str}{v:V}{u:Value}{pos:Pos}(hg:Gl X x)(hm:X.mg x=none)(hv:bootBuiltins x=some u)(r:RelV v u)(hn:x≠"__name__":=by decide)(hd:(x==("__debug__":Str))=false:=by decide):PE X (.Name x pos) (tC v) :=
 fun _ _ _ H _ I h=>Z1a I hg hm hv ⟨v,H,I,r,h⟩ hn hd
variable{a b:Expr}{ta tb:TE}{pos:Pos}
def PC(X:Cx)(op:CmpOp)(a b:Expr)(t:TE):Prop :=
 ∀(Z4:List (Addr×Obj)) (s:Shared) (σ:St) (H:Hp) (Q:VK),Inv X Z4 σ H s->t σ H Q ->
  wpAny (model X.prog X.w) X.A (eval a X.env) (fun v s₁=>wpAny (model X.prog X.w) X.A (eval b X.env) (fun u s₂=>wpAny (model X.prog X.w) X.A (compareOp op v u) (EP X Z4 σ Q) X.xe s₂) X.xe s₁) X.xe s
theorem Z4j(b:Expr){op:CmpOp}(h:op≠.In)(h2:op≠.NotIn):behindInMarks op b=false:=by
 have e1:(op==CmpOp.In)=false:=by cases op <;> first | rfl | exact absurd rfl h
 have e2:(op==CmpOp.NotIn)=false:=by cases op <;> first | rfl | exact absurd rfl h2
 cases b <;> simp[behindInMarks,e1,e2]
def Zgx(ta:TE):TE:=fun σ H Q=>ta σ H fun x H1=>Q (.bl (decide (x=.non))) H1
def Zfe(ta:TE):TE:=fun σ H Q=>ta σ H fun x H1=>Q (.bl (!decide (x=.non))) H1
theorem RelV.none_iff{x:V}{v:Value}(r:RelV x v):(v==Value.none)=decide (x=.non):=by
 cases x with
 |non=>cases r;rfl
 |bl _=>cases r;rfl
 |int _=>obtain⟨t,rfl⟩:=r;rfl
 |str _=>obtain⟨t,rfl⟩:=r;rfl
 |byt _=>obtain⟨t,rfl⟩:=r;rfl
 |flt _=>obtain⟨t,rfl⟩:=r;rfl
 |ref _=>cases r;rfl
 |ty _=>cases r;rfl
theorem Z3f{j pos'}(ha:PE X a ta):PC X .Is a (.Constant .none j pos') (Zgx ta):=by
 intro Z4 s σ H Q I h
 refine Xt (ha Z4 s σ H _ I h) fun v s1 ⟨x,H1,I1,r1,q1⟩=>?_
 exact Constant_none (is_none_gen ⟨.bl _,H1,I1,by rw[r1.none_iff];rfl,q1⟩)
theorem Zb4{j pos'}(ha:PE X a ta):PC X .IsNot a (.Constant .none j pos') (Zfe ta):=by
 intro Z4 s σ H Q I h
 refine Xt (ha Z4 s σ H _ I h) fun v s1 ⟨x,H1,I1,r1,q1⟩=>?_
 exact Constant_none (isnot_none_gen ⟨.bl _,H1,I1,by rw[r1.none_iff];rfl,q1⟩)
def tB(t:TE):TT:=fun σ H Q=>t σ H fun x H1=>∃c,x=.bl c/\Q c H1
theorem Zdt{op:CmpOp}{t:TE}(h:PC X op a b t)(h1:behindInMarks op b=false:=by first | exact Z4j _ (by decide) (by decide) | rfl):PE X (.Compare a [op] [b] pos) t:=fun Z4 s σ H Q I hw=>wpAny_Compare1 (h Z4 s σ H Q I hw) h1
theorem Z16{op:CmpOp}{t:TE}(h:PC X op a b t)(h1:behindInMarks op b=false:=by first | exact Z4j _ (by decide) (by decide) | rfl):PT X (.Compare a [op] [b] pos) (tB t):=by
 intro Z4 s σ H Q I hw
 refine wpAny_isTrue_Compare1 (Xt (h Z4 s σ H _ I hw) fun v s1 h1=>Xt h1 fun u s2 h2=>Xt h2 fun c s3 ⟨x,H1,I1,r1,q1⟩=>?_) h1
 obtain⟨d,rfl,q⟩:=q1
 cases r1
 exact wpAny_truthy_bool ⟨H1,I1,q⟩
theorem Yu{e:Expr}{t:TE}(h:PE X e t)(he:∀whole,isTrue e X.env whole=(do let v ← whole;standAt e.pos;holding [v] (truthy v)):=by intro _;rfl):PT X e (tB t):=by
 intro Z4 s σ H Q I hw
 refine isTrue_plain (Xt (h Z4 s σ H _ I hw) fun v s1 ⟨x,H1,I1,r1,q1⟩=>?_) (he _)
 obtain⟨d,rfl,q⟩:=q1
 cases r1
 exact wpAny_truthy_bool ⟨H1,I1,q⟩
variable{tA tB':TT}{rest:List Expr}
def Zh0(t u:TT):TT:=fun σ H Q=>t σ H fun c H1=>if c=true then u σ H1 Q else Q false H1
def Zgk(t u:TT):TT:=fun σ H Q=>t σ H fun c H1=>if c=true then Q true H1 else u σ H1 Q
def Zgw(t:TT):TT:=fun σ H Q=>t σ H fun c H1=>Q (!c) H1
theorem Z08(ha:PT X a tA):PW X (.BoolOp .And [a] pos) tA:=by
 intro wh Z4 s σ H Q I h
 refine isTrue_and (Xt (ha Z4 s σ H Q I h) fun c s1 e=>?_)
 cases c with
 |true=>exact isTrue_and_nil e
 |false=>exact e
theorem Ww(ha:PT X a tA):PW X (.BoolOp .Or [a] pos) tA:=by
 intro wh Z4 s σ H Q I h
 refine isTrue_or (Xt (ha Z4 s σ H Q I h) fun c s1 e=>?_)
 cases c with
 |false=>exact isTrue_or_nil e
 |true=>exact e
theorem Z3c(ha:PT X a tA)(hb:PW X (.BoolOp .And (b::rest) pos) tB'):PW X (.BoolOp .And (a::b::rest) pos) (Zh0 tA tB'):=by
 intro wh Z4 s σ H Q I h
 refine isTrue_and (Xt (ha Z4 s σ H _ I h) fun c s1 ⟨H1,I1,q1⟩=>?_)
 cases c with
 |true=>exact hb wh Z4 s1 σ H1 Q I1 q1
 |false=>exact⟨H1,I1,q1⟩
theorem Vn(ha:PT X a tA)(hb:PW X (.BoolOp .Or (b::rest) pos) tB'):PW X (.BoolOp .Or (a::b::rest) pos) (Zgk tA tB'):=by
 intro wh Z4 s σ H Q I h
 refine isTrue_or (Xt (ha Z4 s σ H _ I h) fun c s1 ⟨H1,I1,q1⟩=>?_)
 cases c with
 |true=>exact⟨H1,I1,q1⟩
 |false=>exact hb wh Z4 s1 σ H1 Q I1 q1
theorem Js(ha:PT X a tA):PT X (.UnaryOp .Not a pos) (Zgw tA):=by
 intro Z4 s σ H Q I h
 exact isTrue_not (ha Z4 s σ H (fun c H1=>Q (!c) H1) I h)
def Zfh(ta tb:TE):TE:=fun σ H Q=>ta σ H fun x H1=>∃c,x=.bl c/\if c=true then tb σ H1 Q else Q (.bl false) H1
def Zgv(ta tb:TE):TE:=fun σ H Q=>ta σ H fun x H1=>∃c,x=.bl c/\if c=true then Q (.bl true) H1 else tb σ H1 Q
def Zfd(ta:TE):TE:=fun σ H Q=>ta σ H fun x H1=>∃c,x=.bl c/\Q (.bl (!c)) H1
theorem Uw{op}{t:TE}(h:PE X a t):PE X (.BoolOp op [a] pos) t:=fun Z4 s σ H Q I hw=>BoolOp_one (h Z4 s σ H Q I hw)
theorem Vr(ha:PE X a ta)(hb:PE X (.BoolOp .And (b::rest) pos) tb):PE X (.BoolOp .And (a::b::rest) pos) (Zfh ta tb):=by
 intro Z4 s σ H Q I h
 refine BoolOp_and (Xt (ha Z4 s σ H _ I h) fun v s1 ⟨x,H1,I1,r1,q1⟩=>?_)
 obtain⟨c,rfl,q1⟩:=q1
 cases r1
 refine wpAny_truthy_bool ?_
 cases c with
 |true=>exact hb Z4 s1 σ H1 Q I1 q1
 |false=>exact⟨.bl false,H1,I1,rfl,q1⟩
theorem Zfj(ha:PE X a ta)(hb:PE X (.BoolOp .Or (b::rest) pos) tb):PE X (.BoolOp .Or (a::b::rest) pos) (Zgv ta tb):=by
 intro Z4 s σ H Q I h
 refine BoolOp_or (Xt (ha Z4 s σ H _ I h) fun v s1 ⟨x,H1,I1,r1,q1⟩=>?_)
 obtain⟨c,rfl,q1⟩:=q1
 cases r1
 refine wpAny_truthy_bool ?_
 cases c with
 |false=>exact hb Z4 s1 σ H1 Q I1 q1
 |true=>exact⟨.bl true,H1,I1,rfl,q1⟩
theorem Zds(ha:PE X a ta):PE X (.UnaryOp .Not a pos) (Zfd ta):=by
 intro Z4 s σ H Q I h
 refine UnaryOp_ (Xt (ha Z4 s σ H _ I h) fun v s1 ⟨x,H1,I1,r1,q1⟩=>?_)
 obtain⟨c,rfl,q1⟩:=q1
 cases r1
 exact not_of (wpAny_truthy_bool ⟨.bl (!c),H1,I1,rfl,q1⟩)
def Zhv(t:TT)(ta tb:TE):TE:=fun σ H Q=>t σ H fun c H1=>if c=true then ta σ H1 Q else tb σ H1 Q
theorem W0{c:Expr}(hc:PT X c tA)(ha:PE X a ta)(hb:PE X b tb):PE X (.IfExp c a b pos) (Zhv tA ta tb):=by
 intro Z4 s σ H Q I h
 refine wpAny_IfExp (Xt (hc Z4 s σ H _ I h) fun d s1 ⟨H1,I1,q1⟩=>?_)
 cases d with
 |true=>exact ha Z4 s1 σ H1 Q I1 q1
 |false=>exact hb Z4 s1 σ H1 Q I1 q1
end
def SqL(K:W.Frag)(H:Hp)(a:Addr)(xs:List V):Prop :=
 Rd H a (.lst xs) ∨
  ∃(o:Obj) (its:Array Value) (n:Nat),K.lookup a=some o/\o.cls=.type "list"/\o.dict=none/\o.data=.seq its n/\its.size<=sizeLine/\Vals xs its.toList
def SqT(K:W.Frag)(H:Hp)(a:Addr)(xs:List V):Prop :=
 Rd H a (.tup xs) ∨
  ∃(o:Obj) (its:Array Value) (n:Nat),K.lookup a=some o/\o.cls=.type "tuple"/\o.data=.seq its n/\its.size<=sizeLine/\Vals xs its.toList
def Zhd:Value->Option V
 |.none=>some .non
 |.bool b=>some (.bl b)
 |.int i _=>some (.int i)
 |.str x _=>some (.str x)
 |.bytes b _=>some (.byt b)
 |.float b _=>some (.flt b)
 |.ref a=>some (.ref a)
 |.type n=>some (.ty n)
 |_=>none
theorem RelV.abs{x:V}{u:Value}(r:RelV x u):Zhd u=some x:=by
 cases x with
 |non=>cases r;rfl
 |bl _=>cases r;rfl
 |int _=>obtain⟨t,rfl⟩:=r;rfl
 |str _=>obtain⟨t,rfl⟩:=r;rfl
 |byt _=>obtain⟨t,rfl⟩:=r;rfl
 |flt _=>obtain⟨t,rfl⟩:=r;rfl
 |ref _=>cases r;rfl
 |ty _=>cases r;rfl
theorem RelV.inj{x y:V}{u:Value}(r:RelV x u)(q:RelV y u):x=y:=Option.some.inj (r.abs.symm.trans q.abs)
theorem Vals.inj:∀ {xs ys:List V} {us:List Value},Vals xs us->Vals ys us->xs=ys
 |_,_,_,.nil,.nil=>rfl
 |_,_,_,.cons r t,.cons r' t'=>by rw[r.inj r',Vals.inj t t']
section
variable{X:Cx}{Z4:List (Addr×Obj)}{σ:St}{H:Hp}{s:Shared}{a:Addr}{xs ys:List V}
theorem SqL.of{K:W.Frag}(h:H a=some (.lst xs)):SqL K H a xs:=.inl (.inl h)
theorem SqT.of{K:W.Frag}(h:H a=some (.tup xs)):SqT K H a xs:=.inl (.inl h)
theorem Inv.list(I:Inv X Z4 σ H s)(h:SqL X.K H a xs):∃its:List Value,Vals xs its/\PlainL s.heap a its.toArray/\xs.length<=sizeLine:=by
 rcases h with h | ⟨o,its,n,hk,hc,hd,hs,hz,r⟩
 ·obtain⟨z,its,n,r,e⟩:=h.ok I.hok
  exact⟨its,r,⟨_,n,e,rfl,rfl,rfl⟩,z⟩
 ·refine⟨its.toList,r,⟨o,n,I.kIn a o hk,hc,hd,by simpa using hs⟩,?_⟩
  have e:=r.length
  simp only[Array.length_toList]at e
  omega
theorem Inv.tuple(I:Inv X Z4 σ H s)(h:SqT X.K H a xs):∃its:List Value,Vals xs its/\IsTup s.heap a its.toArray/\xs.length<=sizeLine:=by
 rcases h with h | ⟨o,its,n,hk,hc,hs,hz,r⟩
 ·obtain⟨z,its,r,p⟩:=h.ok I.hok
  exact⟨its,r,p,z⟩
 ·refine⟨its.toList,r,⟨o,I.kIn a o hk,hc,n,by simpa using hs⟩,?_⟩
  have e:=r.length
  simp only[Array.length_toList]at e
  omega
theorem Inv.list_inj(I:Inv X Z4 σ H s)(h:SqL X.K H a xs)(h':SqL X.K H a ys):xs=ys:=by
 obtain⟨its,r,⟨o,n,e,_,_,d⟩,_⟩:=I.list h
 obtain⟨its',r',⟨o',n',e',_,_,d'⟩,_⟩:=I.list h'
 rw[e]at e';cases e'
 rw[d]at d'
 injection d' with d1 _
 have:its=its':=by simpa using congrArg Array.toList d1
 subst this
 exact r.inj r'
theorem Inv.tuple_inj(I:Inv X Z4 σ H s)(h:SqT X.K H a xs)(h':SqT X.K H a ys):xs=ys:=by
 obtain⟨its,r,⟨o,e,_,n,d⟩,_⟩:=I.tuple h
 obtain⟨its',r',⟨o',e',_,n',d'⟩,_⟩:=I.tuple h'
 rw[e]at e';cases e'
 rw[d]at d'
 injection d' with d1 _
 have:its=its':=by simpa using congrArg Array.toList d1
 subst this
 exact r.inj r'
end
abbrev Cx.wish(X:Cx)(E:Value->Shared->Prop):Cx:={ X with xe:=E }
abbrev Cx.nox(X:Cx):Cx:=X.wish fun _ _=>False
theorem Cx.Ok.wish{X:Cx}(ok:X.Ok)(E:Value->Shared->Prop):(X.wish E).Ok :=
 ⟨ok.mod,ok.kind,ok.glob,ok.blt,ok.above,ok.inj,ok.has,ok.cab,ok.hd,ok.frames,ok.stk,ok.exf,ok.bs,ok.bsz,ok.noex,ok.exfs,ok.funs,ok.frf⟩
theorem Cx.Ok.unwish{X:Cx}{E:Value->Shared->Prop}(ok:(X.wish E).Ok):X.Ok :=
 ⟨ok.mod,ok.kind,ok.glob,ok.blt,ok.above,ok.inj,ok.has,ok.cab,ok.hd,ok.frames,ok.stk,ok.exf,ok.bs,ok.bsz,ok.noex,ok.exfs,ok.funs,ok.frf⟩
section
variable{X:Cx}{Z4:List (Addr×Obj)}{σ:St}{H:Hp}{s:Shared}{E:Value->Shared->Prop}{st:Stmt}{rest:List Stmt}{t u:TS}{e:Expr}{te:TE}{pos:Pos}
theorem Inv.wish(I:Inv X Z4 σ H s)(E:Value->Shared->Prop):Inv (X.wish E) Z4 σ H s:=⟨I.ok.wish E,I.os,I.bare,I.base,I.loc,I.cell,I.free,I.freeC,I.pin,I.hok,I.len⟩
theorem Inv.unwish(I:Inv (X.wish E) Z4 σ H s):Inv X Z4 σ H s:=⟨I.ok.unwish,I.os,I.bare,I.base,I.loc,I.cell,I.free,I.freeC,I.pin,I.hok,I.len⟩
theorem SP.unwish{D:Ends}{f:Flow}{s':Shared}(h:SP (X.wish E) Z4 D f s'):SP X Z4 D f s':=by
 cases f with
 |next=>obtain⟨σ',H',I,q⟩:=h;exact⟨σ',H',I.unwish,q⟩
 |brk=>obtain⟨σ',H',I,q⟩:=h;exact⟨σ',H',I.unwish,q⟩
 |cont=>obtain⟨σ',H',I,q⟩:=h;exact⟨σ',H',I.unwish,q⟩
 |ret u=>obtain⟨v,σ',H',I,r,q⟩:=h;exact⟨v,σ',H',I.unwish,r,q⟩
theorem PSs.nox{st:List Stmt}{t:TS}(h:PSs X.nox st t):PSs X st t:=fun Z4 s σ H D I hw =>
 wpAny_mono (h Z4 s σ H D (I.wish _) hw) (fun _ _ q=>q.unwish) fun _ _ z=>False.elim z
def Ze:TS:=fun D σ H=>D.nx σ H
def Zb(t u:TS):TS:=fun D σ H=>t { D with nx:=u D } σ H
theorem Zh:PSs X [] Ze:=fun _ _ σ H _ I h=>wpAny_execs_nil ⟨σ,H,I,h⟩
theorem Z3(h1:PS X st t)(h2:PSs X rest u):PSs X (st::rest) (Zb t u):=by
 intro Z4 s σ H D I h
 refine wpAny_execs_cons (Xt (h1 Z4 s σ H { D with nx:=u D } I h) fun f s1 q=>?_)
 cases f with
 |next =>
  obtain⟨σ',H',I',q⟩:=q
  exact h2 Z4 s1 σ' H' D I' q
 |ret v=>exact q
 |brk=>exact q
 |cont=>exact q
theorem Z6(h1:PS X st t):PSs X [st] t:=by
 intro Z4 s σ H D I h
 refine wpAny_execs_cons (Xt (h1 Z4 s σ H D I h) fun f s1 q=>?_)
 cases f with
 |next=>exact wpAny_execs_nil q
 |ret v=>exact q
 |brk=>exact q
 |cont=>exact q
theorem Inv.quiet{Z4:List (Addr×Obj)}{σ:St}{H:Hp}{s:Shared}(I:Inv X Z4 σ H s):interactive X.env=false:=by simp[interactive,I.ok.kind]
def Zfg(te:TE):TS:=fun D σ H=>te σ H fun _ H1=>D.nx σ H1
theorem X8(he:PE X e te)(hs:swapsWith e none pos.line X.env=pure false:=by rfl):PS X (.Expr e pos) (Zfg te):=by
 intro Z4 s σ H D I h
 exact wpAny_Expr_any (Xt (he Z4 s σ H _ I h) fun v s1 ⟨x,H1,I1,r1,q1⟩=>⟨σ,H1,I1,q1⟩) I.quiet hs
def Z1s(te:TE):TS:=fun D σ H=>te σ H D.rt
theorem Zd(he:PE X e te):PS X (.Return (some e) pos) (Z1s te):=by
 intro Z4 s σ H D I h
 exact wpAny_Return_some (Xt (he Z4 s σ H _ I h) fun v s1 ⟨x,H1,I1,r1,q1⟩=>⟨x,σ,H1,I1,r1,q1⟩)
def Zn(c:TT)(t u:TS):TS:=fun D σ H=>c σ H fun b H1=>if b=true then t D σ H1 else u D σ H1
theorem Zq{c:Expr}{a b:List Stmt}{tc:TT}(hc:PT X c tc)(ha:PSs X a t)(hb:PSs X b u):PS X (.If c a b pos) (Zn tc t u):=by
 intro Z4 s σ H D I h
 refine wpAny_If (Xt (hc Z4 s σ H _ I h) fun d s1 ⟨H1,I1,q1⟩=>?_)
 cases d with
 |true=>exact ha Z4 s1 σ H1 D I1 q1
 |false=>exact hb Z4 s1 σ H1 D I1 q1
def Zco:TS:=fun _ _ _=>False
theorem Vf:PS X st Zco:=fun _ _ _ _ _ _ h=>h.elim
end
abbrev TG:=V->St->Hp->(St->Hp->Prop)->Prop
abbrev Zf8:=List V->St->Hp->(St->Hp->Prop)->Prop
def PG(X:Cx)(target:Expr)(t:TG):Prop :=
 ∀(Z4:List (Addr×Obj)) (s:Shared) (σ:St) (H:Hp) (v:V) (u:Value) (Q:St->Hp->Prop),Inv X Z4 σ H s->RelV v u->t v σ H Q ->
  wpAny (model X.prog X.w) X.A (assign target X.env u) (fun _ s'=>∃σ' H',Inv X Z4 σ' H' s'/\Q σ' H') X.xe s
def Zgr(X:Cx)(ts:List Expr)(t:Zf8):Prop :=
 ∀(Z4:List (Addr×Obj)) (s:Shared) (σ:St) (H:Hp) (vs:List V) (us:List Value) (Q:St->Hp->Prop),Inv X Z4 σ H s->Vals vs us->t vs σ H Q ->
  wpAny (model X.prog X.w) X.A (assignInOrder ((assignEach ts X.env).map (·.2)) us) (fun _ s'=>∃σ' H',Inv X Z4 σ' H' s'/\Q σ' H') X.xe s
abbrev Zf2:=V->V->V->Hp->(Hp->Prop)->Prop
def Zg9(X:Cx)(t:Zf2):Prop :=
 ∀(Z4:List (Addr×Obj)) (s:Shared) (σ:St) (H:Hp) (o i v:V) (ov iv u:Value) (Q:Hp->Prop),Inv X Z4 σ H s->RelV o ov->RelV i iv->RelV v u->t o i v H Q ->
  wpAny (model X.prog X.w) X.A (setItem ov iv u) (fun _ s'=>∃H',Inv X Z4 σ H' s'/\Q H') X.xe s
section
variable{X:Cx}{pos:Pos}
def Wg(i:Nat):TG:=fun v σ H Q=>Q (σ.set i (some v)) H
theorem Z30{i:Nat}{x:Str}(hN:X.N.Nodup)(hi:X.N[i]? = some x)(hx:Zf9 X.env.scope x)(hf:X.fn x=true∨X.env.scope.names.lookup x=some .local:=by first | exact .inl rfl | exact .inr rfl | assumption):PG X (.Name x pos) (Wg i):=by
 intro Z4 s σ H v u Q I r h
 exact wpAny_assign_Name (Z47 I hN hi hx r (fun s' I'=>⟨_,H,I',h⟩) hf)
def Zc4:Zf8:=fun vs σ H Q=>vs=[]/\Q σ H
def Z1h(t:TG)(u:Zf8):Zf8:=fun vs σ H Q=>∃v r,vs=v::r/\t v σ H fun σ' H'=>u r σ' H' Q
theorem Zay:Zgr X [] Zc4:=by
 intro Z4 s σ H vs us Q I r h
 obtain⟨e,h⟩:=h
 subst e
 cases r
 exact assignInOrder_nil ⟨σ,H,I,h⟩
theorem Z4c{e:Expr}{es:List Expr}{t:TG}{u:Zf8}(h1:PG X e t)(h2:Zgr X es u)
  (hs:(assignEach (e::es) X.env).map (·.2)=assign e X.env::(assignEach es X.env).map (·.2):=by rfl):Zgr X (e::es) (Z1h t u):=by
 intro Z4 s σ H vs us Q I r h
 obtain⟨v,vr,e1,h⟩:=h
 subst e1
 cases r with
 |cons r rr =>
  rw[hs]
  refine assignInOrder_cons (Xt (h1 Z4 s σ H _ _ _ I r h) fun _ s1 ⟨σ1,H1,I1,q1⟩=>?_)
  exact h2 Z4 s1 σ1 H1 _ _ Q I1 rr q1
def Zc3(K:W.Frag)(n:Nat)(t:Zf8):TG:=fun v σ H Q=>∃a xs,v=.ref a/\SqT K H a xs/\xs.length=n/\t xs σ H Q
theorem Zdq{es:List Expr}{k:Nat}{t:Zf8}{n:Nat}(hc:X.calm=true)(h:Zgr X es t)
  (hn:(assignEach es X.env).length=n:=by rfl) (hst:(assignEach es X.env).findIdx? (·.1)=none:=by rfl):PG X (.Tuple es k pos) (Zc3 X.K n t):=by
 intro Z4 s σ H v u Q I r hw
 obtain⟨a,xs,e1,hq,hl,hw⟩:=hw
 subst e1
 cases r
 obtain⟨its,rv,ht,hz⟩:=I.tuple hq
 refine assign_Tuple_tuple (I.ok.hd hc) ht (by simp[hn,← hl,rv.length]) hst fun h' hx=>?_
 have I1:Inv X Z4 σ H { s with heap:=h' }:=I.kept (t':=s.toks) fun b o e=>hx b o (Nat.ne_of_lt (Heap.lt_size e)) e
 exact h Z4 _ σ H xs _ Q I1 (by simpa using rv) hw
def Zhb(to ti:TE)(t:Zf2):TG:=fun v σ H Q=>to σ H fun o H1=>ti σ H1 fun i H2=>t o i v H2 fun H3=>Q σ H3
theorem Z68{o i:Expr}{to ti:TE}{t:Zf2}(ho:PE X o to)(hi:PE X i ti)(hs:Zg9 X t)
  (ha:∀v,assign (.Subscript o i pos) X.env v=(do
   let ov ← holding [v] (eval o X.env)
   let iv ← holding [v,ov] (eval i X.env)
   standAt pos
   holding [v,ov,iv] (setItem ov iv v)
   release [v,ov,iv] []):=by intro _;rfl):PG X (.Subscript o i pos) (Zhb to ti t):=by
 intro Z4 s σ H v u Q I r h
 rw[ha]
 refine wpAny_bind (wpAny_holding (Xt (ho Z4 s σ H _ I h) fun ov s1 ⟨x,H1,I1,r1,q1⟩=>?_))
 refine wpAny_bind (wpAny_holding (Xt (hi Z4 s1 σ H1 _ I1 q1) fun iv s2 ⟨y,H2,I2,r2,q2⟩=>?_))
 refine wpAny_bind (wpAny_standAt (wpAny_bind (wpAny_holding (Xt (hs Z4 s2 σ H2 x y v ov iv u _ I2 r1 r2 r q2) fun _ s3 ⟨H3,I3,q3⟩=>?_))))
 exact wpAny_release ⟨σ,H3,I3,q3⟩
def Z1t(te:TE)(g:TG):TS:=fun D σ H=>te σ H fun x H1=>g x σ H1 D.nx
theorem Z67{tg e:Expr}{te:TE}{g:TG}(he:PE X e te)(hg:PG X tg g)(hs:swapsWithSole [tg] e pos.line X.env=pure false:=by rfl)(hw:swappedStores [tg] e X.env=pure none:=by rfl)
  (h1:(assignEach [tg] X.env).map (·.2)=[assign tg X.env]:=by rfl):PS X (.Assign [tg] e pos) (Z1t te g):=by
 intro Z4 s σ H D I h
 refine wpAny_Assign_stores (Xt (he Z4 s σ H _ I h) fun v s1 ⟨x,H1,I1,r1,q1⟩=>?_) hs hw
 rw[h1]
 exact Xt (hg Z4 s1 σ H1 x v _ I1 r1 q1) fun _ s2 q=>q
theorem Zdn{i:Nat}{x:Str}{e:Expr}{te:TE}{pos':Pos}(hN:X.N.Nodup)(hi:X.N[i]? = some x)(hx:Zf9 X.env.scope x)(he:PE X e te)(hs:swapsWith e (some (.Name x pos')) pos.line X.env=pure false:=by rfl)(hf:X.fn x=true∨X.env.scope.names.lookup x=some .local:=by first | exact .inl rfl | exact .inr rfl | assumption) :
  PS X (.Assign [.Name x pos'] e pos) (Z1t te (Wg i)):=by
 intro Z4 s σ H D I h
 refine wpAny_Assign_Name (Xt (he Z4 s σ H _ I h) fun v s1 ⟨y,H1,I1,r1,q1⟩=>?_) hs
 exact Z47 I1 hN hi hx r1 (fun s2 I2=>⟨_,H1,I2,q1⟩) hf
def Z12(c:TT)(tb:TS):TS:=fun D σ H=>∃W:Nat->St->Hp->Prop,(∃m,W m σ H)/\∀m σ H,W m σ H ->
 c σ H fun b H1=>if b=true then ∃N:St->Hp->Prop,(∀σ' H',N σ' H'->∃m',m'<m/\W m' σ' H')/\tb { D with nx:=N,ct:=N,bk:=D.nx } σ H1 else D.nx σ H1
theorem Z0x{c:Expr}{body:List Stmt}{tc:TT}{tb:TS}(hp:PassesOwn (model X.prog X.w) X.A X.env X.xe)(hc:PT X c tc)(hb:PSs X body tb):PS X (.While c body [] pos) (Z12 tc tb):=by
 intro Z4 s σ H D I h
 obtain⟨W,⟨m0,w0⟩,turn⟩:=h
 refine wpAny_While (codeAny_whileLoop (fun n s'=>∃σ' H',Inv X Z4 σ' H' s'/\W n σ' H') ?_ m0 ⟨σ,H,I,w0⟩)
 rintro n s1 ⟨σ1,H1,I1,w1⟩
 refine wpAny_passesOwn hp (Xt (hc Z4 s1 σ1 H1 _ I1 (turn n σ1 H1 w1)) fun b s2 ⟨H2,I2,q2⟩=>?_)
 cases b with
 |true =>
  obtain⟨N,hN,q2⟩:=q2
  rw[if_pos rfl]
  refine wpAny_passesOwn hp (Xt (hb Z4 s2 σ1 H2 _ I2 q2) fun f s3 q3=>?_)
  cases f with
  |next =>
   obtain⟨σ3,H3,I3,n3⟩:=q3
   obtain⟨m',hm,w3⟩:=hN σ3 H3 n3
   exact⟨m',hm,σ3,H3,I3,w3⟩
  |cont =>
   obtain⟨σ3,H3,I3,n3⟩:=q3
   obtain⟨m',hm,w3⟩:=hN σ3 H3 n3
   exact⟨m',hm,σ3,H3,I3,w3⟩
  |brk=>exact q3
  |ret v=>exact q3
 |false =>
  rw[if_neg Bool.false_ne_true]
  exact wpAny_execs_nil ⟨σ1,H2,I2,q2⟩
end
structure It where
 go:Nat->Hp->Prop
 yld:Nat->Hp->V->Hp->Prop
 stop:Nat->Hp->Prop
def T7(X:Cx)(Z4:List (Addr×Obj))(H:Hp)(b:Addr):Prop :=
 H b=none/\b≠X.env.locals/\b∉X.fs/\(b∈X.ex∨X.s₀.heap.objs.size<=b)/\(∀x c,X.env.cells.lookup x=some c->c≠b)/\∀p∈X.pn++Z4,p.1≠b
theorem Inv.fpOk{X:Cx}{Z4:List (Addr×Obj)}{σ:St}{H H':Hp}{s:Shared}{b:Addr}(I:Inv X Z4 σ H s)(hb:s.heap.objs.size<=b)(hn:H' b=none):T7 X Z4 H' b:=by
 refine⟨hn,Nat.ne_of_gt (Nat.lt_of_lt_of_le I.lt hb),I.nofs hb,.inr (Nat.le_trans I.sz hb),fun x c e z=>?_,fun p hp z=>?_⟩
 ·obtain⟨v,q⟩:=I.cell x c e
  exact absurd (Nat.lt_of_lt_of_le q.lt (by rw[z];exact hb)) (Nat.lt_irrefl _)
 ·exact absurd (Nat.lt_of_lt_of_le (Heap.lt_size (I.pin p hp).1) (by rw[z];exact hb)) (Nat.lt_irrefl _)
structure Turn(P:Program)(w:World)(K:W.Frag)(tg:Expr)(J:It)(fp:List Addr)(it:Addr)(tn:Nat->Heap->Prop):Prop where
 mem:it∈fp
 obj:∀i h,tn i h->∀b∈fp,∃o,h.get? b=some o/\∀v,o.data≠.cell v
 keep:∀i h h',tn i h->(∀b∈fp,∀o,h.get? b=some o->h'.get? b=some o)->tn i h'
 item:∀(X:Cx),X.prog=P->X.w=w->X.K=K->X.calm=true->∀(i:Nat) (Z4:List (Addr×Obj)) (s:Shared) (σ:St) (H:Hp) (E:Value->Shared->Prop),Inv X Z4 σ H s->(∀b∈fp,T7 X Z4 H b)->tn i s.heap->J.go i H ->
  wpAny (model P w) X.A (pyNext (.ref it)) (fun r s1=>∃u,r=some u /\
   wpAny (model P w) X.A (letOwnedTupleGo tg (.ref it) u) (fun _ s2=>∃x H',Inv X Z4 σ H' s2/\RelV x u/\J.yld i H x H'/\tn (i+1) s2.heap/\∀b∈fp,H' b=none) E s1) E s
 done:∀(X:Cx),X.prog=P->X.w=w->X.K=K->X.calm=true->∀(i:Nat) (Z4:List (Addr×Obj)) (s:Shared) (σ:St) (H:Hp) (E:Value->Shared->Prop),Inv X Z4 σ H s->(∀b∈fp,T7 X Z4 H b)->tn i s.heap->J.stop i H ->
  wpAny (model P w) X.A (pyNext (.ref it)) (fun r s1=>r=none/\Inv X Z4 σ H s1) E s
 self:∀(A:Around) (i:Nat) (s:Shared) (Q:Value->Shared->Prop) (E:Value->Shared->Prop),tn i s.heap->Q (.ref it) s->wpAny (model P w) A (pyIter (.ref it)) Q E s
abbrev TI:=St->Hp->(It->Hp->Prop)->Prop
def Zhs(X:Cx)(Z4:List (Addr×Obj))(σ:St)(tg:Expr)(R:It->Hp->Prop)(itv:Value)(s2:Shared):Prop :=
 ∃(it:Addr) (fp:List Addr) (tn:Nat->Heap->Prop) (J:It) (H':Hp),itv=.ref it/\Inv X Z4 σ H' s2/\Turn X.prog X.w X.K tg J fp it tn/\tn 0 s2.heap/\(∀b∈fp,T7 X Z4 H' b)/\R J H'
def PI(X:Cx)(tg iter:Expr)(wi:TI):Prop :=
 ∀(Z4:List (Addr×Obj)) (s:Shared) (σ:St) (H:Hp) (R:It->Hp->Prop),Inv X Z4 σ H s->wi σ H R ->
  wpAny (model X.prog X.w) X.A (eval iter X.env) (fun v s1=>wpAny (model X.prog X.w) X.A (pyIter v) (Zhs X Z4 σ tg R) X.xe s1) X.xe s
theorem Z54 {M : Model} {A : Around} {E : Value → Shared → Prop} {s : Shared} {tg : Expr} {it : Addr} {u : Value} {o : Obj} {n : String} {vs : Array Value} {Q : Unit → Shared → Prop} (ho : s.heap.get? it = some o) (hc : o.cls = .type n) (hd : o.data = .fields vs)
    (hn : ["enumerate", "zip", "dict_itemiterator", "dict_reverseitemiterator", "odict_iterator", "itertools.zip_longest", "itertools.pairwise"].contains n = false) (hQ : Q () s) : wpAny M A (letOwnedTupleGo tg (.ref it) u) Q E s := by
  unfold letOwnedTupleGo
  cases tg <;> first
    | exact wpAny_pure hQ
    | (cases u <;> first
        | exact wpAny_pure hQ
        | (refine wpAny_bind (wpAny_load ho ?_)
           rw [hc, hd]
           show wpAny M A (if (["enumerate", "zip", "dict_itemiterator", "dict_reverseitemiterator", "odict_iterator", "itertools.zip_longest", "itertools.pairwise"].contains n && vs[0]? == some (rawInt _)) = true then _ else _) Q E s
           rw [if_neg (by intro h; rw [hn, Bool.false_and] at h; cases h)]
           exact wpAny_pure hQ))
def Zgi(K:W.Frag)(a:Addr):It :=
 ⟨fun i H=>∃xs x,SqL K H a xs/\xs[i]? = some x,fun i H x H'=>H'=H/\∀xs,SqL K H a xs->xs[i]? = some x,fun i H=>∃xs,SqL K H a xs/\xs.length<=i⟩
def Zgh(K:W.Frag)(a:Addr):It :=
 ⟨fun i H=>∃xs x,SqT K H a xs/\xs[i]? = some x,fun i H x H'=>H'=H/\∀xs,SqT K H a xs->xs[i]? = some x,fun i H=>∃xs,SqT K H a xs/\xs.length<=i⟩
def Zfa(lo:Int)(n:Nat):It:=⟨fun i _=>i<n,fun i H x H'=>H'=H/\x=.int (lo+i),fun i _=>n<=i⟩
theorem Z7f{P:Program}{w:World}{K:W.Frag}{tg:Expr}(a it:Addr):Turn P w K tg (Zgi K a) [it] it (fun i h=>h.IsListIter it a i) where
 mem:=by simp
 obj:=fun i h st b hb=>by
  have e:b=it:=by simpa using hb
  subst e
  obtain⟨o,e,c,d⟩:=st
  exact⟨o,e,fun v z=>by rw[d]at z;cases z⟩
 keep:=fun i h h' st k=>st.at fun o e=>k it (by simp) o e
 item:=by
  intro X hP hw hK hc i Z4 s σ H E I hf st hg
  subst hP hw hK
  obtain⟨xs,x,hq,hx⟩:=hg
  obtain⟨its,rv,p,hz⟩:=I.list hq
  obtain⟨u,hu,ru⟩:=rv.get hx
  obtain⟨f0,f1,f2,f3,f4,f5⟩:=hf it (by simp)
  refine wpAny_pyNext_list_item st p.isList (x:=u) (by simpa using hu) fun h' st' sb=>?_
  have I1:Inv X Z4 σ H { s with heap:=h' }:=I.turned (t':=s.toks) (fun b o hb e=>(sb.2 b hb).trans e) f0 f1 f3 f4 f5
  obtain⟨o,e,c,d⟩:=id st'
  exact⟨u,rfl,Z54 (s:={ s with heap:=h' }) e c d (by decide) ⟨x,H,I1,ru,⟨rfl,fun ys hy=>by rw[I.list_inj hy hq];exact hx⟩,st',fun b hb=>(hf b hb).1⟩⟩
 done:=by
  intro X hP hw hK hc i Z4 s σ H E I hf st hg
  subst hP hw hK
  obtain⟨xs,hq,hx⟩:=hg
  obtain⟨its,rv,p,hz⟩:=I.list hq
  obtain⟨f0,f1,f2,f3,f4,f5⟩:=hf it (by simp)
  have hl:=rv.length
  exact wpAny_pyNext_list_end (I.ok.hd hc) st p.isList (by simp;omega) fun h' eb=>⟨rfl,I.turned (t':=s.toks) (fun b o hb e=>eb b o hb e) f0 f1 f3 f4 f5⟩
 self:=fun _ _ _ _ _ st h=>wpAny_pyIter_listiter st h
theorem Z57{P:Program}{w:World}{K:W.Frag}{tg:Expr}(a it:Addr):Turn P w K tg (Zgh K a) [it] it (fun i h=>h.IsTupleIter it a i) where
 mem:=by simp
 obj:=fun i h st b hb=>by
  have e:b=it:=by simpa using hb
  subst e
  obtain⟨o,e,c,d⟩:=st
  exact⟨o,e,fun v z=>by rw[d]at z;cases z⟩
 keep:=fun i h h' st k=>st.at fun o e=>k it (by simp) o e
 item:=by
  intro X hP hw hK hc i Z4 s σ H E I hf st hg
  subst hP hw hK
  obtain⟨xs,x,hq,hx⟩:=hg
  obtain⟨its,rv,p,hz⟩:=I.tuple hq
  obtain⟨u,hu,ru⟩:=rv.get hx
  obtain⟨f0,f1,f2,f3,f4,f5⟩:=hf it (by simp)
  refine wpAny_pyNext_tuple_item st (show s.heap.IsTuple a its.toArray from p) (x:=u) (by simpa using hu) fun h' st' sb=>?_
  have I1:Inv X Z4 σ H { s with heap:=h' }:=I.turned (t':=s.toks) (fun b o hb e=>(sb.2 b hb).trans e) f0 f1 f3 f4 f5
  obtain⟨o,e,c,d⟩:=id st'
  exact⟨u,rfl,Z54 (s:={ s with heap:=h' }) e c d (by decide) ⟨x,H,I1,ru,⟨rfl,fun ys hy=>by rw[I.tuple_inj hy hq];exact hx⟩,st',fun b hb=>(hf b hb).1⟩⟩
 done:=by
  intro X hP hw hK hc i Z4 s σ H E I hf st hg
  subst hP hw hK
  obtain⟨xs,hq,hx⟩:=hg
  obtain⟨its,rv,p,hz⟩:=I.tuple hq
  obtain⟨f0,f1,f2,f3,f4,f5⟩:=hf it (by simp)
  have hl:=rv.length
  exact wpAny_pyNext_tuple_end (I.ok.hd hc) st (show s.heap.IsTuple a its.toArray from p) (by simp;omega) fun h' eb=>⟨rfl,I.turned (t':=s.toks) (fun b o hb e=>eb b o hb e) f0 f1 f3 f4 f5⟩
 self:=fun _ _ _ _ _ st h=>wpAny_pyIter_tupleiter st h
theorem Z58{P:Program}{w:World}{K:W.Frag}{tg:Expr}(it:Addr)(lo:Int)(n:Nat):Turn P w K tg (Zfa lo n) [it] it (fun i h=>IsRangeIter h it (lo+(i:Nat)*1) ((n:Int)-(i:Nat)) 1) where
 mem:=by simp
 obj:=fun i h st b hb=>by
  have e:b=it:=by simpa using hb
  subst e
  exact⟨_,st,fun v z=>by
   have z':Data.fields _=Data.cell v:=z
   cases z'⟩
 keep:=fun i h h' st k=>k it (by simp) _ st
 item:=by
  intro X hP hw hK hc i Z4 s σ H E I hf st hg
  subst hP hw hK
  obtain⟨f0,f1,f2,f3,f4,f5⟩:=hf it (by simp)
  have W:=Walks.range (prog:=X.prog) (w:=X.w) (I.ok.hd hc) it lo 1 n
  refine W.item i s _ _ hg st fun v h' tk hv st' kk=>?_
  obtain⟨t,rfl⟩:=hv
  have I1:Inv X Z4 σ H { s with heap:=h',toks:=tk }:=I.turned (fun b o hb e=>kk b o (by simpa using hb) e) f0 f1 f3 f4 f5
  refine⟨_,rfl,Z54 (s:={ s with heap:=h',toks:=tk }) (n:="range_iterator") st' rfl rfl (by decide) ⟨.int (lo+i),H,I1,⟨t,?_⟩,⟨rfl,rfl⟩,st',fun b hb=>(hf b hb).1⟩⟩
  rw[Int.mul_one]
 done:=by
  intro X hP hw hK hc i Z4 s σ H E I hf st hg
  subst hP hw hK
  obtain⟨f0,f1,f2,f3,f4,f5⟩:=hf it (by simp)
  exact wpAny_pyNext_range_end (I.ok.hd hc) st (by have:n<=i:=hg;omega) fun h' eb=>⟨rfl,I.turned (t':=s.toks) (fun b o hb e=>eb b o hb e) f0 f1 f3 f4 f5⟩
 self:=fun _ _ _ _ _ st h=>wpAny_pyIter_rangeiter st h
section
variable{X:Cx}{tg:Expr}
def Zfw(K:W.Frag)(tl:TE):TI:=fun σ H R=>tl σ H fun x H1=>∃a,x=.ref a/\(∃xs,SqL K H1 a xs)/\R (Zgi K a) H1
def Zf0(K:W.Frag)(tl:TE):TI:=fun σ H R=>tl σ H fun x H1=>∃a,x=.ref a/\(∃xs,SqT K H1 a xs)/\R (Zgh K a) H1
theorem Zax{l:Expr}{tl:TE}(hl:PE X l tl):PI X tg l (Zfw X.K tl):=by
 intro Z4 s σ H R I h
 refine Xt (hl Z4 s σ H _ I h) fun v s1 ⟨x,H1,I1,r1,q1⟩=>?_
 obtain⟨a,e,⟨xs,hq⟩,q⟩:=q1
 subst e
 cases r1
 obtain⟨its,rv,p,hz⟩:=I1.list hq
 refine wpAny_pyIter_list p.isList ?_
 refine⟨s1.heap.objs.size,[s1.heap.objs.size],_,_,H1,rfl,I1.kept (t':=s1.toks) fun b o e=>Heap.get?_push_of_some _ e,Z7f a _,⟨_,Heap.get?_push_size _ rfl,rfl,rfl⟩,fun b hb=>?_,q⟩
 have e:b=s1.heap.objs.size:=by simpa using hb
 subst e
 exact I1.fpOk (Nat.le_refl _) (I1.hok.fresh (Nat.le_refl _))
theorem Vh{l:Expr}{tl:TE}(hl:PE X l tl):PI X tg l (Zf0 X.K tl):=by
 intro Z4 s σ H R I h
 refine Xt (hl Z4 s σ H _ I h) fun v s1 ⟨x,H1,I1,r1,q1⟩=>?_
 obtain⟨a,e,⟨xs,hq⟩,q⟩:=q1
 subst e
 cases r1
 obtain⟨its,rv,p,hz⟩:=I1.tuple hq
 refine wpAny_pyIter_tuple (show s1.heap.IsTuple a its.toArray from p) ?_
 refine⟨s1.heap.objs.size,[s1.heap.objs.size],_,_,H1,rfl,I1.kept (t':=s1.toks) fun b o e=>Heap.get?_push_of_some _ e,Z57 a _,⟨_,Heap.get?_push_size _ rfl,rfl,rfl⟩,fun b hb=>?_,q⟩
 have e:b=s1.heap.objs.size:=by simpa using hb
 subst e
 exact I1.fpOk (Nat.le_refl _) (I1.hok.fresh (Nat.le_refl _))
theorem Z8r{Z4:List (Addr×Obj)}{σ:St}{H:Hp}{s:Shared}{R:It->Hp->Prop}{E:Value->Shared->Prop}{lo hi:Int}{t u v:Tok}{tk:Nat}(I:Inv X Z4 σ H s)(h1:-(2 ^ 62)<=lo)(h2:lo<2 ^ 62)(h3:-(2 ^ 62)<=hi)(h4:hi<2 ^ 62)
  (q:R (Zfa lo (hi-lo).toNat) H):wpAny (model X.prog X.w) X.A (pyIter (.ref s.heap.objs.size)) (Zhs X Z4 σ tg R) E { s with heap:=s.heap.push { cls:=.type "range",data:=.fields #[.int lo t,.int hi u,.int 1 v] },toks:=tk }:=by
 refine wpAny_pyIter_range (IsRange.new ..) (small_one h1 h2 h3 h4) ?_
 have I1:Inv X Z4 σ H { s with heap:=s.heap.push { cls:=.type "range",data:=.fields #[.int lo t,.int hi u,.int 1 v] },toks:=tk }:=I.kept fun b o e=>Heap.get?_push_of_some _ e
 refine⟨(s.heap.push { cls:=.type "range",data:=.fields #[.int lo t,.int hi u,.int 1 v] }).objs.size,[(s.heap.push { cls:=.type "range",data:=.fields #[.int lo t,.int hi u,.int 1 v] }).objs.size],_,_,H,rfl,
  I1.kept (t':=tk) fun b o e=>Heap.get?_push_of_some _ e,Z58 _ lo (hi-lo).toNat,?_,fun b hb=>?_,q⟩
 ·have e1:lo+((0:Nat):Int)*1=lo:=by simp
  have e2:(((hi-lo).toNat:Nat):Int)-((0:Nat):Int)=Builtin.Range.rangeSize lo hi 1:=by rw[rangeSize_one];split <;> omega
  show IsRangeIter _ _ (lo+((0:Nat):Int)*1) ((((hi-lo).toNat:Nat):Int)-((0:Nat):Int)) 1
  rw[e1,e2]
  exact Heap.get?_push_size _ rfl
 ·have e:b=(s.heap.push { cls:=.type "range",data:=.fields #[.int lo t,.int hi u,.int 1 v] }).objs.size:=by simpa using hb
  subst e
  exact I1.fpOk (Nat.le_refl _) (I1.hok.fresh (Nat.le_refl _))
def Zfv(ta:TA):TI:=fun σ H R=>ta σ H fun vs H1=>∃j:Int,vs=[.int j]/\-(2 ^ 62)<=j/\j<2 ^ 62/\R (Zfa 0 j.toNat) H1
theorem Yr{a:Expr}{ta:TA}{p pos:Pos}(hg:Gl X "range")(hm:X.mg "range" = none)(ha:PA X [a] ta)(hs:starEach [a] X.env=[(false,eval a X.env)]:=by rfl):PI X tg (.Call (.Name "range" p) [a] [] pos) (Zfv ta):=by
 intro Z4 s σ H R I h
 refine Call_ (Z1a I hg hm boot_range (PyProof.Rows.callWith_type1 (Xt (ha pos Z4 s σ H _ I h) fun us s1 ⟨vs,H1,I1,r1,q1⟩=>?_) hs rfl))
 obtain⟨j,e,q1,q2,q⟩:=q1
 subst e
 cases r1 with
 |cons r rr =>
  cases rr
  obtain⟨t,rfl⟩:=r
  exact call_range_1 (Z8r I1 (by omega) (by omega) q1 q2 (by simpa using q))
def Vj(wi:TI)(g:TG)(tb:TS):TS:=fun D σ H=>wi σ H fun J H1=>∃W:Nat->Nat->St->Hp->Prop,(∃m,W 0 m σ H1)/\∀i m σ H,W i m σ H ->
 (J.stop i H/\D.nx σ H)∨(J.go i H/\∃N:St->Hp->Prop,(∀σ' H',N σ' H'->∃m',m'<m/\W (i+1) m' σ' H')/\∀x H',J.yld i H x H'->g x σ H' fun σ2 H2=>tb { D with nx:=N,ct:=N,bk:=D.nx } σ2 H2)
def Uv(fp:List Addr)(h:Heap):List (Addr×Obj):=fp.filterMap fun b=>(h.get? b).map fun o=>(b,o)
theorem Wh{fp:List Addr}{h:Heap}{b:Addr}{o:Obj}(hb:b∈fp)(e:h.get? b=some o):(b,o)∈Uv fp h:=List.mem_filterMap.mpr ⟨b,hb,by rw[e];rfl⟩
theorem Z7q{fp:List Addr}{h:Heap}{p:Addr×Obj}(hp:p∈Uv fp h):p.1∈fp/\h.get? p.1=some p.2:=by
 obtain⟨b,hb,e⟩:=List.mem_filterMap.mp hp
 cases q:h.get? b with
 |none=>rw[q]at e;cases e
 |some o =>
  rw[q]at e
  have e':(b,o)=p:=Option.some.inj e
  subst e'
  exact⟨hb,q⟩
theorem Inv.pinned{Z4:List (Addr×Obj)}{σ:St}{H:Hp}{s:Shared}{fp:List Addr}(I:Inv X Z4 σ H s)(hf:∀b∈fp,T7 X Z4 H b)(ho:∀b∈fp,∃o,s.heap.get? b=some o/\∀v,o.data≠.cell v):Inv X (Z4++Uv fp s.heap) σ H s :=
 I.pins_of fun p hp=>(List.mem_append.mp hp).elim (fun z=>I.pin p (List.mem_append_right _ z)) fun z=>by
  obtain⟨hb,e⟩:=Z7q z
  obtain⟨f0,f1,f2,_⟩:=hf p.1 hb
  obtain⟨o,e',d⟩:=ho p.1 hb
  rw[e]at e';cases e'
  exact⟨e,f0,f1,f2,d⟩
theorem Inv.unpinned{Z4 pl:List (Addr×Obj)}{σ:St}{H:Hp}{s:Shared}(I:Inv X (Z4++pl) σ H s):Inv X Z4 σ H s:=I.pins_of fun p hp=>I.pin p (List.mem_append_right _ (List.mem_append_left _ hp))
theorem V7{iter:Expr}{body:List Stmt}{wi:TI}{g:TG}{tb:TS}{pos:Pos}(hp:PassesOwn (model X.prog X.w) X.A X.env X.xe)(hc:X.calm=true)(hi:PI X tg iter wi)(hg:PG X tg g)(hb:PSs X body tb)
  (hs:∀x,foldedSetIterable iter X.env x=pure x:=by intro _;rfl):PS X (.For tg iter body [] pos) (Vj wi g tb):=by
 intro Z4 s σ H D I h
 refine wpAny_For (Xt (hi Z4 s σ H _ I h) fun v s1 h1=>Xt h1 fun itv s2 h2=>?_) hs
 obtain⟨it,fp,tn,J,H2,e,I2,T,st2,f2,W,⟨m0,w0⟩,turn⟩:=h2
 subst e
 have stat:∀ {H':Hp},(∀b∈fp,H' b=none)->∀b∈fp,T7 X Z4 H' b:=fun hn b hb=>⟨hn b hb,(f2 b hb).2⟩
 refine codeAny_forLoop_any (fun n s'=>∃i σ' H',Inv X Z4 σ' H' s'/\tn i s'.heap/\(∀b∈fp,H' b=none)/\W i n σ' H') ?_ m0 ⟨0,σ,H2,I2,st2,fun b hb=>(f2 b hb).1,w0⟩
 rintro n s3 ⟨i,σ3,H3,I3,st3,fr3,w3⟩
 rcases turn i n σ3 H3 w3 with⟨stop,qn⟩ | ⟨go,N,hN,step⟩
 ·refine wpAny_passesOwn hp (Xt (T.done X rfl rfl rfl hc i Z4 s3 σ3 H3 X.xe I3 (stat fr3) st3 stop) fun r s4 ⟨hr,I4⟩=>?_)
  subst hr
  exact wpAny_execs_nil ⟨σ3,H3,I4,qn⟩
 ·refine wpAny_passesOwn hp (Xt (T.item X rfl rfl rfl hc i Z4 s3 σ3 H3 X.xe I3 (stat fr3) st3 go) fun r s4 ⟨u,hr,h4⟩=>?_)
  subst hr
  refine wpAny_passesOwn hp (Xt h4 fun _ s5 ⟨x,H5,I5,r5,y5,st5,fr5⟩=>?_)
  have I5':=I5.pinned (stat fr5) (T.obj _ _ st5)
  refine wpAny_passesOwn hp (Xt (hg _ s5 σ3 H5 x u _ I5' r5 (step x H5 y5)) fun _ s6 ⟨σ6,H6,I6,q6⟩=>?_)
  refine wpAny_passesOwn hp (Xt (hb _ s6 σ6 H6 _ I6 q6) fun f s7 q7=>?_)
  have again:∀ {σ7:St} {H7:Hp},Inv X (Z4++Uv fp s5.heap) σ7 H7 s7->N σ7 H7->∃m,m<n/\∃i σ' H',Inv X Z4 σ' H' s7/\tn i s7.heap/\(∀b∈fp,H' b=none)/\W i m σ' H':=fun{σ7 H7} I7 n7=>by
   obtain⟨m',hm,w7⟩:=hN σ7 H7 n7
   refine⟨m',hm,i+1,σ7,H7,I7.unpinned,T.keep _ _ _ st5 fun b hb o e=>(I7.pin (b,o) (List.mem_append_right _ (List.mem_append_right _ (Wh hb e)))).1,fun b hb=>?_,w7⟩
   obtain⟨o,e,d⟩:=T.obj _ _ st5 b hb
   exact(I7.pin (b,o) (List.mem_append_right _ (List.mem_append_right _ (Wh hb e)))).2.1
  cases f with
  |next=>obtain⟨σ7,H7,I7,n7⟩:=q7;exact again I7 n7
  |cont=>obtain⟨σ7,H7,I7,n7⟩:=q7;exact again I7 n7
  |brk=>obtain⟨σ7,H7,I7,q7⟩:=q7;exact⟨σ7,H7,I7.unpinned,q7⟩
  |ret v=>obtain⟨x7,σ7,H7,I7,r7,q7⟩:=q7;exact⟨x7,σ7,H7,I7.unpinned,r7,q7⟩
end
theorem Z9d{K:W.Frag}{a:Addr}{xs:List V}{g:TG}{tb:TS}{D:Ends}{σ:St}{H:Hp}(Pv:Nat->St->Hp->Prop)(h0:Pv 0 σ H)(hl:∀i σ H,i<=xs.length->Pv i σ H->SqL K H a xs)
  (hs:∀i x σ H,xs[i]? = some x->Pv i σ H->g x σ H fun σ2 H2=>tb { D with nx:=Pv (i+1),ct:=Pv (i+1),bk:=D.nx } σ2 H2) (hd:∀σ H,Pv xs.length σ H->D.nx σ H) :
  ∃W:Nat->Nat->St->Hp->Prop,(∃m,W 0 m σ H)/\∀i m σ H,W i m σ H ->
   ((Zgi K a).stop i H/\D.nx σ H)∨((Zgi K a).go i H/\∃N:St->Hp->Prop,(∀σ' H',N σ' H'->∃m',m'<m/\W (i+1) m' σ' H')/\∀x H',(Zgi K a).yld i H x H'->g x σ H' fun σ2 H2=>tb { D with nx:=N,ct:=N,bk:=D.nx } σ2 H2):=by
 refine⟨fun i m σ H=>m=xs.length-i/\i<=xs.length/\Pv i σ H,⟨xs.length,by simp,Nat.zero_le _,h0⟩,?_⟩
 rintro i m σ H ⟨rfl,hi,p⟩
 have q:=hl i σ H hi p
 by_cases hlt:i<xs.length
 ·refine .inr ⟨⟨xs,xs[i],q,by simp[hlt]⟩,Pv (i+1),fun σ' H' p'=>⟨xs.length-(i+1),by omega,rfl,hlt,p'⟩,fun x H' y=>?_⟩
  obtain⟨e,y⟩:=y
  subst e
  exact hs i x σ _ (y xs q) p
 ·have e:i=xs.length:=by omega
  subst e
  exact .inl ⟨⟨xs,q,Nat.le_refl _⟩,hd σ H p⟩
theorem Xo{lo:Int}{n:Nat}{g:TG}{tb:TS}{D:Ends}{σ:St}{H:Hp}(Pv:Nat->St->Hp->Prop)(h0:Pv 0 σ H)
  (hs:∀i σ H,i<n->Pv i σ H->g (.int (lo+i)) σ H fun σ2 H2=>tb { D with nx:=Pv (i+1),ct:=Pv (i+1),bk:=D.nx } σ2 H2) (hd:∀σ H,Pv n σ H->D.nx σ H) :
  ∃W:Nat->Nat->St->Hp->Prop,(∃m,W 0 m σ H)/\∀i m σ H,W i m σ H ->
   ((Zfa lo n).stop i H/\D.nx σ H)∨((Zfa lo n).go i H/\∃N:St->Hp->Prop,(∀σ' H',N σ' H'->∃m',m'<m/\W (i+1) m' σ' H')/\∀x H',(Zfa lo n).yld i H x H'->g x σ H' fun σ2 H2=>tb { D with nx:=N,ct:=N,bk:=D.nx } σ2 H2):=by
 refine⟨fun i m σ H=>m=n-i/\i<=n/\Pv i σ H,⟨n,by simp,Nat.zero_le _,h0⟩,?_⟩
 rintro i m σ H ⟨rfl,hi,p⟩
 by_cases hlt:i<n
 ·refine .inr ⟨hlt,Pv (i+1),fun σ' H' p'=>⟨n-(i+1),by omega,rfl,hlt,p'⟩,fun x H' y=>?_⟩
  obtain⟨e,y⟩:=y
  subst e y
  exact hs i σ _ hlt p
 ·have e:i=n:=by omega
  subst e
  exact .inl ⟨Nat.le_refl _,hd σ H p⟩
abbrev R2:=V->V->Hp->VK->Prop
def Z3l(X:Cx)(f:Value->Value->Sem Value)(r:R2):Prop :=
 ∀(Z4:List (Addr×Obj)) (s:Shared) (σ:St) (H:Hp) (x y:V) (v u:Value) (Q:VK),Inv X Z4 σ H s->RelV x v->RelV y u->r x y H Q ->
  wpAny (model X.prog X.w) X.A (f v u) (EP X Z4 σ Q) X.xe s
def Zhm(X:Cx)(f:Value->Sem Value)(r:V->Hp->VK->Prop):Prop :=
 ∀(Z4:List (Addr×Obj)) (s:Shared) (σ:St) (H:Hp) (x:V) (v:Value) (Q:VK),Inv X Z4 σ H s->RelV x v->r x H Q ->
  wpAny (model X.prog X.w) X.A (f v) (EP X Z4 σ Q) X.xe s
def Vu(X:Cx)(f:Value)(r:List V->Hp->VK->Prop):Prop :=
 ∀(Z4:List (Addr×Obj)) (s:Shared) (σ:St) (H:Hp) (xs:List V) (us:List Value) (Q:VK),Inv X Z4 σ H s->Vals xs us->r xs H Q ->
  wpAny (model X.prog X.w) X.A (call f us) (EP X Z4 σ Q) X.xe s
def Te(r:R2)(ta tb:TE):TE:=fun σ H Q=>ta σ H fun x H1=>tb σ H1 fun y H2=>r x y H2 Q
def Zhh(r:V->Hp->VK->Prop)(ta:TE):TE:=fun σ H Q=>ta σ H fun x H1=>r x H1 Q
def rI(C:Int->Int->Prop)(g:Int->Int->V):R2:=fun x y H Q=>∃i j,x=.int i/\y=.int j/\C i j/\Q (g i j) H
def Zf6(g:Int->Int->V):R2:=fun x y H Q=>∃i j,x=.int i/\y=.int j/\Q (g i j) H
def rU(g:Int->V):V->Hp->VK->Prop:=fun x H Q=>∃i,x=.int i/\Q (g i) H
section
variable{X:Cx}{a b c:Expr}{ta tb tc:TE}{pos:Pos}
theorem Zf1(ha:PE X a ta)(hb:PE X b tb){Z4:List (Addr×Obj)}{s:Shared}{σ:St}{H:Hp}{R:V->V->Hp->Prop}(I:Inv X Z4 σ H s)
  (h:ta σ H fun x H1=>tb σ H1 fun y H2=>R x y H2) {Q:Value->Shared->Prop} {f:Value->Value->Sem Value}
  (hf:∀v u s2 x y H2,Inv X Z4 σ H2 s2->RelV x v->RelV y u->R x y H2->wpAny (model X.prog X.w) X.A (f v u) Q X.xe s2) :
  wpAny (model X.prog X.w) X.A (eval a X.env) (fun v s₁=>wpAny (model X.prog X.w) X.A (eval b X.env) (fun u s₂=>wpAny (model X.prog X.w) X.A (f v u) Q X.xe s₂) X.xe s₁) X.xe s:=by
 refine Xt (ha Z4 s σ H _ I h) fun v s1 ⟨x,H1,I1,r1,q1⟩=>?_
 refine Xt (hb Z4 s1 σ H1 _ I1 q1) fun u s2 ⟨y,H2,I2,r2,q2⟩=>?_
 exact hf v u s2 x y H2 I2 r1 r2 q2
theorem Zs{op:Operator}{r:R2}(ho:Z3l X (binaryOp op) r)(ha:PE X a ta)(hb:PE X b tb):PE X (.BinOp a op b pos) (Te r ta tb):=by
 intro Z4 s σ H Q I h
 exact wpAny_BinOp (Zf1 ha hb I h fun v u s2 x y H2 I2 rx ry q=>ho Z4 s2 σ H2 x y v u Q I2 rx ry q)
theorem Zca{op:UnaryOp}{r:V->Hp->VK->Prop}(ho:Zhm X (unaryOp op) r)(ha:PE X a ta):PE X (.UnaryOp op a pos) (Zhh r ta):=by
 intro Z4 s σ H Q I h
 exact UnaryOp_ (Xt (ha Z4 s σ H _ I h) fun v s1 ⟨x,H1,I1,r1,q1⟩=>ho Z4 s1 σ H1 x v Q I1 r1 q1)
theorem Zhj{f:Value->Value->Sem Value}{C:Int->Int->Prop}{g:Int->Int->Int}
  (rule:∀(i j:Int) (t u:Tok) (s:Shared) (Q:Value->Shared->Prop) (E:Value->Shared->Prop),C i j->Q (.int (g i j) s.toks) { s with toks:=s.toks+1 }->wpAny (model X.prog X.w) X.A (f (.int i t) (.int j u)) Q E s) :
  Z3l X f (rI C fun i j=>.int (g i j)):=by
 intro Z4 s σ H x y v u Q I rx ry h
 obtain⟨i,j,rfl,rfl,hc,q⟩:=h
 obtain⟨t,rfl⟩:=rx
 obtain⟨t',rfl⟩:=ry
 exact rule i j t t' s _ _ hc ⟨.int (g i j),H,I.tok _,⟨_,rfl⟩,q⟩
theorem Zg5{f:Value->Value->Sem Value}{g:Int->Int->Int}
  (rule:∀(i j:Int) (t u:Tok) (s:Shared) (Q:Value->Shared->Prop) (E:Value->Shared->Prop),Q (.int (g i j) s.toks) { s with toks:=s.toks+1 }->wpAny (model X.prog X.w) X.A (f (.int i t) (.int j u)) Q E s) :
  Z3l X f (Zf6 fun i j=>.int (g i j)):=by
 intro Z4 s σ H x y v u Q I rx ry h
 obtain⟨i,j,rfl,rfl,q⟩:=h
 obtain⟨t,rfl⟩:=rx
 obtain⟨t',rfl⟩:=ry
 exact rule i j t t' s _ _ ⟨.int (g i j),H,I.tok _,⟨_,rfl⟩,q⟩
theorem Zey{f:Value->Value->Sem Value}{g:Int->Int->Bool}
  (rule:∀(i j:Int) (t u:Tok) (s:Shared) (Q:Value->Shared->Prop) (E:Value->Shared->Prop),Q (.bool (g i j)) s->wpAny (model X.prog X.w) X.A (f (.int i t) (.int j u)) Q E s) :
  Z3l X f (Zf6 fun i j=>.bl (g i j)):=by
 intro Z4 s σ H x y v u Q I rx ry h
 obtain⟨i,j,rfl,rfl,q⟩:=h
 obtain⟨t,rfl⟩:=rx
 obtain⟨t',rfl⟩:=ry
 exact rule i j t t' s _ _ ⟨.bl (g i j),H,I,rfl,q⟩
def Zhf(i j:Int):Prop:=0<j/\j<1073741824
def CMul(i j:Int):Prop:=(-(2 ^ 64)<i/\i<2 ^ 64)∨(-(2 ^ 64)<j/\j<2 ^ 64)
theorem CMul.ok{i j:Int}(h:CMul i j):IntMulOk i j:=by
 rcases h with⟨h1,h2⟩ | ⟨h1,h2⟩
 ·exact .of_left (intBits_le_64 h1 h2)
 ·exact .of_right (intBits_le_64 h1 h2)
theorem Xs:Z3l X (binaryOp .Add) (Zf6 fun i j=>.int (i+j)):=Zg5 fun _ _ _ _ _ _ _ q=>add_int q
theorem Uf:Z3l X (binaryOp .Sub) (Zf6 fun i j=>.int (i-j)):=Zg5 fun _ _ _ _ _ _ _ q=>sub_int q
theorem Zdw:Z3l X (binaryOp .Mult) (rI CMul fun i j=>.int (i*j)):=Zhj fun _ _ _ _ _ _ _ hc q=>mul_int q hc.ok
theorem Z33:Z3l X (binaryOp .FloorDiv) (rI Zhf fun i j=>.int (i / j)):=Zhj fun i j _ _ _ _ _ hc q=>by
 have h1:(0:Int)<j:=hc.1
 have h2:j<1073741824:=hc.2
 exact floordiv_int (by omega) (by rw[Int.fdiv_eq_ediv_of_nonneg i (by omega)];exact q) (.inl (PyProof.noPylong_small (by omega)))
theorem Z6a:Z3l X (binaryOp .Mod) (rI (fun _ j=>0<j) fun i j=>.int (i % j)):=Zhj fun i j _ _ _ _ _ hc q=>by
 have h1:(0:Int)<j:=hc
 exact mod_int' (by omega) (by rw[Int.fmod_eq_emod_of_nonneg i (by omega)];exact q)
theorem Zhu{f:Value->Sem Value}{g:Int->Int}
  (rule:∀(i:Int) (t:Tok) (s:Shared) (Q:Value->Shared->Prop) (E:Value->Shared->Prop),Q (.int (g i) s.toks) { s with toks:=s.toks+1 }->wpAny (model X.prog X.w) X.A (f (.int i t)) Q E s) :
  Zhm X f (rU fun i=>.int (g i)):=by
 intro Z4 s σ H x v Q I rx h
 obtain⟨i,rfl,q⟩:=h
 obtain⟨t,rfl⟩:=rx
 exact rule i t s _ _ ⟨.int (g i),H,I.tok _,⟨_,rfl⟩,q⟩
theorem Z9n:Zhm X (unaryOp .USub) (rU fun i=>.int (-i)):=Zhu fun _ _ _ _ _ q=>neg_int q
end
def Zg4:V->V->Bool
 |.non,.non=>true | .non,.int _=>true | .int _,.non=>true | .non,.bl _=>true | .bl _,.non=>true | .non,.str _=>true | .str _,.non=>true
 |.int _,.int _=>true | .bl _,.bl _=>true | .str _,.str _=>true | .byt _,.byt _=>true
 |.int _,.str _=>true | .str _,.int _=>true | .bl _,.str _=>true | .str _,.bl _=>true
 |_,_=>false
def Zf7:R2:=fun x y H Q=>Zg4 x y=true/\Q (.bl (decide (x=y))) H
def Zhw:R2:=fun x y H Q=>Zg4 x y=true/\Q (.bl (!decide (x=y))) H
theorem Z6w{i j:Int}:decide (V.int i=V.int j)=(i==j):=by
 rw[Bool.eq_iff_iff]
 simp
theorem Za0{i j:Bool}:decide (V.bl i=V.bl j)=(i==j):=by
 rw[Bool.eq_iff_iff]
 simp
theorem Z6v{i j:Str}:decide (V.str i=V.str j)=(i==j):=by
 rw[Bool.eq_iff_iff]
 simp
theorem Z6x{i j:Array UInt8}:decide (V.byt i=V.byt j)=(i.toList==j.toList):=by
 rw[Bool.eq_iff_iff]
 cases i
 cases j
 simp
section
variable{X:Cx}{a b c:Expr}{ta tb tc:TE}{pos:Pos}
theorem Yd{Z4:List (Addr×Obj)}{σ:St}{H:Hp}{s:Shared}{Q:VK}{k k':Bool}(I:Inv X Z4 σ H s)(q:Q (.bl k) H)(e:k=k'):EP X Z4 σ Q (.bool k') s:=by
 subst e
 exact⟨.bl k,H,I,rfl,q⟩
theorem Y1:Z3l X (compareOp .Eq) Zf7:=by
 intro Z4 s σ H x y v u Q I rx ry h
 obtain⟨hs,q⟩:=h
 cases x with
 |non =>
  cases rx
  cases y with
  |non=>cases ry;exact PySem.EqNone.eq_none_none (Yd I q (by simp))
  |bl j=>cases ry;exact PySem.EqNone.eq_none_bool (Yd I q (by simp))
  |int j=>obtain⟨t',rfl⟩:=ry;exact PySem.EqNone.eq_none_int (Yd I q (by simp))
  |str j=>obtain⟨t',rfl⟩:=ry;exact PySem.EqNone.eq_none_str (Yd I q (by simp))
  |_=>exact absurd (show false=true from hs) Bool.false_ne_true
 |bl i =>
  cases rx
  cases y with
  |non=>cases ry;exact PySem.EqNone.eq_bool_none (Yd I q (by simp))
  |bl j=>cases ry;exact eq_bool (Yd I q Za0)
  |str j=>obtain⟨t',rfl⟩:=ry;exact PySem.EqMixed.eq_bool_str (Yd I q (by simp))
  |_=>exact absurd (show false=true from hs) Bool.false_ne_true
 |int i =>
  obtain⟨t,rfl⟩:=rx
  cases y with
  |non=>cases ry;exact PySem.EqNone.eq_int_none (Yd I q (by simp))
  |int j=>obtain⟨t',rfl⟩:=ry;exact eq_int (Yd I q Z6w)
  |str j=>obtain⟨t',rfl⟩:=ry;exact PySem.EqMixed.eq_int_str (Yd I q (by simp))
  |_=>exact absurd (show false=true from hs) Bool.false_ne_true
 |str i =>
  obtain⟨t,rfl⟩:=rx
  cases y with
  |non=>cases ry;exact PySem.EqNone.eq_str_none (Yd I q (by simp))
  |bl j=>cases ry;exact PySem.EqMixed.eq_str_bool (Yd I q (by simp))
  |int j=>obtain⟨t',rfl⟩:=ry;exact PySem.EqMixed.eq_str_int (Yd I q (by simp))
  |str j=>obtain⟨t',rfl⟩:=ry;exact eq_str (Yd I q Z6v)
  |_=>exact absurd (show false=true from hs) Bool.false_ne_true
 |byt i =>
  obtain⟨t,rfl⟩:=rx
  cases y with
  |byt j=>obtain⟨t',rfl⟩:=ry;exact W.eq_bytes (Yd I q Z6x)
  |_=>exact absurd (show false=true from hs) Bool.false_ne_true
 |_=>cases y <;> exact absurd (show false=true from hs) Bool.false_ne_true
theorem Z02:Z3l X (compareOp .NotEq) Zhw:=by
 intro Z4 s σ H x y v u Q I rx ry h
 obtain⟨hs,q⟩:=h
 cases x with
 |non =>
  cases rx
  cases y with
  |non=>cases ry;exact PySem.EqNone.ne_none_none (Yd I q (by simp))
  |bl j=>cases ry;exact PySem.EqNone.ne_none_bool (Yd I q (by simp))
  |int j=>obtain⟨t',rfl⟩:=ry;exact PySem.EqNone.ne_none_int (Yd I q (by simp))
  |str j=>obtain⟨t',rfl⟩:=ry;exact PySem.EqNone.ne_none_str (Yd I q (by simp))
  |_=>exact absurd (show false=true from hs) Bool.false_ne_true
 |bl i =>
  cases rx
  cases y with
  |non=>cases ry;exact PySem.EqNone.ne_bool_none (Yd I q (by simp))
  |bl j=>cases ry;exact ne_bool (Yd I q (congrArg not Za0))
  |str j=>obtain⟨t',rfl⟩:=ry;exact PySem.EqMixed.ne_bool_str (Yd I q (by simp))
  |_=>exact absurd (show false=true from hs) Bool.false_ne_true
 |int i =>
  obtain⟨t,rfl⟩:=rx
  cases y with
  |non=>cases ry;exact PySem.EqNone.ne_int_none (Yd I q (by simp))
  |int j=>obtain⟨t',rfl⟩:=ry;exact ne_int (Yd I q (congrArg not Z6w))
  |str j=>obtain⟨t',rfl⟩:=ry;exact PySem.EqMixed.ne_int_str (Yd I q (by simp))
  |_=>exact absurd (show false=true from hs) Bool.false_ne_true
 |str i =>
  obtain⟨t,rfl⟩:=rx
  cases y with
  |non=>cases ry;exact PySem.EqNone.ne_str_none (Yd I q (by simp))
  |bl j=>cases ry;exact PySem.EqMixed.ne_str_bool (Yd I q (by simp))
  |int j=>obtain⟨t',rfl⟩:=ry;exact PySem.EqMixed.ne_str_int (Yd I q (by simp))
  |str j=>obtain⟨t',rfl⟩:=ry;exact ne_str (Yd I q (congrArg not Z6v))
  |_=>exact absurd (show false=true from hs) Bool.false_ne_true
 |byt i =>
  obtain⟨t,rfl⟩:=rx
  cases y with
  |byt j=>obtain⟨t',rfl⟩:=ry;exact W.ne_bytes (Yd I q (congrArg not Z6x))
  |_=>exact absurd (show false=true from hs) Bool.false_ne_true
 |_=>cases y <;> exact absurd (show false=true from hs) Bool.false_ne_true
theorem Z03:Z3l X (compareOp .Lt) (Zf6 fun i j=>.bl (decide (i<j))):=Zey fun _ _ _ _ _ _ _ q=>lt_int q
theorem Jc:Z3l X (compareOp .LtE) (Zf6 fun i j=>.bl (decide (i<=j))):=Zey fun _ _ _ _ _ _ _ q=>le_int q
theorem Tg:Z3l X (compareOp .Gt) (Zf6 fun i j=>.bl (decide (j<i))):=Zey fun _ _ _ _ _ _ _ q=>gt_int q
theorem Jg:Z3l X (compareOp .In) (fun x y H Q=>∃i j,x=.str i/\y=.str j/\Q (.bl (!(Builtin.Str.occurrences j i 0 j.length 1).isEmpty)) H):=by
 intro Z4 s σ H x y v u Q I rx ry h
 obtain⟨i,j,rfl,rfl,q⟩:=h
 obtain⟨t,rfl⟩:=rx
 obtain⟨t',rfl⟩:=ry
 exact in_str (Yd I q rfl)
theorem Z2f:Z3l X (compareOp .NotIn) (fun x y H Q=>∃i j,x=.str i/\y=.str j/\Q (.bl (!(!(Builtin.Str.occurrences j i 0 j.length 1).isEmpty))) H):=by
 intro Z4 s σ H x y v u Q I rx ry h
 obtain⟨i,j,rfl,rfl,q⟩:=h
 obtain⟨t,rfl⟩:=rx
 obtain⟨t',rfl⟩:=ry
 exact notIn_str (Yd I q rfl)
theorem Zj(b:Expr){op:CmpOp}(h:op≠.In:=by decide)(h2:op≠.NotIn:=by decide):behindInMarks op b=false:=by
 have e1:(op==CmpOp.In)=false:=by cases op <;> first | rfl | exact absurd rfl h
 have e2:(op==CmpOp.NotIn)=false:=by cases op <;> first | rfl | exact absurd rfl h2
 cases b <;> simp[behindInMarks,e1,e2]
theorem Yo{op:CmpOp}{r:R2}(ho:Z3l X (compareOp op) r)(ha:PE X a ta)(hb:PE X b tb)(hm:behindInMarks op b=false):PE X (.Compare a [op] [b] pos) (Te r ta tb):=by
 intro Z4 s σ H Q I h
 exact wpAny_Compare1 (Zf1 ha hb I h fun v u s2 x y H2 I2 rx ry q=>ho Z4 s2 σ H2 x y v u Q I2 rx ry q) hm
def Ja(t:TE):TT:=fun σ H Q=>t σ H fun x H'=>∃k,x=.bl k/\Q k H'
theorem Zf{op:CmpOp}{r:R2}(ho:Z3l X (compareOp op) r)(ha:PE X a ta)(hb:PE X b tb)(hm:behindInMarks op b=false):PT X (.Compare a [op] [b] pos) (Ja (Te r ta tb)):=by
 intro Z4 s σ H Q I h
 refine wpAny_isTrue_Compare1 (Xt (ha Z4 s σ H _ I h) fun v s1 ⟨x,H1,I1,r1,q1⟩=>Xt (hb Z4 s1 σ H1 _ I1 q1) fun u s2 ⟨y,H2,I2,r2,q2⟩ =>
  Xt (ho Z4 s2 σ H2 x y v u _ I2 r1 r2 q2) fun c s3 ⟨z,H3,I3,r3,k,e,q3⟩=>?_) hm
 subst e
 cases r3
 exact wpAny_truthy_bool ⟨H3,I3,q3⟩
theorem Z19:(sizeLine:Nat)<2 ^ 63:=by rw[sizeLine_eq];decide
theorem Zk:Z3l X (binaryOp .Add) (fun x y H Q=>∃i j,x=.str i/\y=.str j/\i.length+j.length<=sizeLine/\Q (.str (i++j)) H):=by
 intro Z4 s σ H x y v u Q I rx ry h
 obtain⟨i,j,rfl,rfl,hz,q⟩:=h
 obtain⟨t,rfl⟩:=rx
 obtain⟨t',rfl⟩:=ry
 exact add_str (fun t' tk=>⟨.str (i++j),H,I.tok _,⟨_,rfl⟩,q⟩) hz
theorem Uj{x:V}{us:List Value}(r:Vals [x] us):∃u,us=[u]/\RelV x u:=by
 cases r with
 |cons r1 r2=>cases r2;exact⟨_,rfl,r1⟩
theorem Za7{x y:V}{us:List Value}(r:Vals [x,y] us):∃u w',us=[u,w']/\RelV x u/\RelV y w':=by
 cases r with
 |cons r1 r2 =>
  cases r2 with
  |cons r3 r4=>cases r4;exact⟨_,_,rfl,r1,r3⟩
theorem Z83(hc:X.calm=true):Vu X (.builtin "max") (fun xs H Q=>∃i j,xs=[.int i,.int j]/\Q (.int (if j>i then j else i)) H):=by
 intro Z4 s σ H xs us Q I r h
 obtain⟨i,j,rfl,q⟩:=h
 obtain⟨u,w',rfl,⟨t,rfl⟩,⟨t',rfl⟩⟩:=Za7 r
 refine max_two_ints (I.ok.hd hc) fun h' tk k=>⟨_,H,I.kept k,?_,q⟩
 by_cases hj:j>i
 ·rw[if_pos hj,if_pos hj];exact⟨_,rfl⟩
 ·rw[if_neg hj,if_neg hj];exact⟨_,rfl⟩
theorem Z82(hc:X.calm=true):Vu X (.builtin "min") (fun xs H Q=>∃i j,xs=[.int i,.int j]/\Q (.int (if j<i then j else i)) H):=by
 intro Z4 s σ H xs us Q I r h
 obtain⟨i,j,rfl,q⟩:=h
 obtain⟨u,w',rfl,⟨t,rfl⟩,⟨t',rfl⟩⟩:=Za7 r
 refine min_two_ints (I.ok.hd hc) fun h' tk k=>⟨_,H,I.kept k,?_,q⟩
 by_cases hj:j<i
 ·rw[if_pos hj,if_pos hj];exact⟨_,rfl⟩
 ·rw[if_neg hj,if_neg hj];exact⟨_,rfl⟩
theorem Jk:Vu X (.type "int") (fun xs H Q=>(∃i,xs=[.int i]/\Q (.int i) H)∨∃k,xs=[.bl k]/\Q (.int (if k then 1 else 0)) H):=by
 intro Z4 s σ H xs us Q I r h
 rcases h with⟨i,rfl,q⟩ | ⟨k,rfl,q⟩
 ·obtain⟨u,rfl,t,rfl⟩:=Uj r
  exact call_int_int ⟨.int i,H,I,⟨_,rfl⟩,q⟩
 ·obtain⟨u,rfl,r1⟩:=Uj r
  cases r1
  exact call_int_bool ⟨.int (if k then 1 else 0),H,I.tok _,⟨_,rfl⟩,q⟩
theorem Yq:Vu X (.type "str") (fun xs H Q=>∃i,xs=[.int i]/\i.natAbs.log2<1920/\Q (.str (toString i)) H):=by
 intro Z4 s σ H xs us Q I r h
 obtain⟨i,rfl,hz,q⟩:=h
 obtain⟨u,rfl,t,rfl⟩:=Uj r
 exact PySem.P.str_of_int hz ⟨.str _,H,I.tok _,⟨_,rfl⟩,q⟩
theorem Ur:Vu X (.builtin "ord") (fun xs H Q=>∃x,xs=[.str x]/\x.length=1/\Q (.int (x.cps.getD 0 0:Nat)) H):=by
 intro Z4 s σ H xs us Q I r h
 obtain⟨x,rfl,hz,q⟩:=h
 obtain⟨u,rfl,t,rfl⟩:=Uj r
 exact ord_of_one hz ⟨.int _,H,I.tok _,⟨_,rfl⟩,q⟩
end
structure ObjM(h:Heap)(x dx C:Addr)(mA:Str->Option Value):Prop where
 obj:h.get? x=some (W.instObj C dx)
 ns:h.Ns1 dx mA
 ne:dx≠x
theorem Z7r{h:Heap}{dx:Addr}{mA:Str->Option Value}(n:h.Ns1 dx mA):∃od,h.get? dx=some od/\∀name,W.lookIn name od=some (mA name):=by
 obtain⟨o,es,ep,ho,hd,hk,_,hm⟩:=n
 refine⟨o,ho,fun name=>?_⟩
 have e:=hm name
 unfold nsFind findBy at e
 rw[← Array.find?_toList]at e
 unfold W.lookIn
 rw[hd]
 dsimp only
 split
 ·rename_i y q
  rw[q]at e
  exact congrArg some e
 ·rename_i q
  rw[q]at e
  have a:es.toList.any (·.refKey)=false:=by
   rw[List.any_eq_false]
   intro y hy
   obtain⟨z,t,hkey⟩:=hk y (Array.mem_toList_iff.mp hy)
   simp[DictEntry.refKey,hkey]
  have a':¬es.toList.any (·.refKey)=true:=by rw[a];exact Bool.false_ne_true
  rw[if_neg a']
  exact congrArg some e
theorem ObjM.look{h:Heap}{x dx C:Addr}{mA:Str->Option Value}(I:ObjM h x dx C mA):∃od,W.InstAt h x (W.instObj C dx) C (some od)/\∀name,W.lookIn name od=some (mA name) :=
 let⟨od,ho,hl⟩:=Z7r I.ns
 ⟨od,⟨I.obj,rfl,rfl,ho⟩,hl⟩
section
variable{prog:Program}{w:World}{A:Around}{E:Value->Shared->Prop}{s:Shared}{K:W.Frag}{x dx C f:Addr}{mA:Str->Option Value}{name:Str}{v:Value}
theorem Zbj{expr:Bool}{Q:Value->Shared->Prop}(X:K.In s.heap)(I:ObjM s.heap x dx C mA)(hg:W.plainGet K C name=true)(hh:W.hasDictIn K C=true)
  (ha:W.findIn K (.ref C) name=some none) (hv:mA name=some v) (hv':W.handedIn v=true) (h:Q v { s with toks:=s.toks+1 }) :
  wpAny (model prog w) A (getAttr (.ref x) name expr) Q E s:=by
 obtain⟨od,J,hl⟩:=I.look
 exact W.get_value X J (W.plainGet_of hg).1 (W.findObj_own hh ha rfl (by rw[hl,hv])) hv' h
theorem Z9c{pl:Sem Bool}{Q:Value×List Value->Shared->Prop}(X:K.In s.heap)(I:ObjM s.heap x dx C mA)(hg:W.plainGet K C name=true)
  (hf:W.findIn K (.ref C) name=some (some (.ref f))) (ht:W.isFn K (.ref f)=true) (hv:mA name=none) (h:Q (.ref f,[.ref x]) s) :
  wpAny (model prog w) A (getMethod (.ref x) name pl) Q E s:=by
 obtain⟨od,J,hl⟩:=I.look
 exact W.method_fn X J (W.plainGet_of hg).1 (W.plainGet_of hg).2 hf (beq_iff_eq.mp ht) (by show(W.lookIn name od).map (·.isSome)=some false;rw[hl,hv];rfl) h
theorem Zaq{ns:List Str}{Q:Unit->Shared->Prop}(X:K.In s.heap)(I:ObjM s.heap x dx C mA)
  (hs:W.findIn K (.ref C) "__setattr__" = some (some (.builtin "object.__setattr__"))) (hp:W.plainOver K C=true) (ht:W.takerIn K C name=some none) (hh:W.hasDictIn K C=true)
  (hw:PySem.Within mA ns) (hsz:ns.length<=sizeLine)
  (h:∀h',ObjM h' x dx C (fun y=>if y=name then some v else mA y)->Heap.SameBut dx s.heap h'->Q () { s with heap:=h',toks:=s.toks+2 }) :
  wpAny (model prog w) A (setAttr (.ref x) name v) Q E s:=by
 obtain⟨od,J,hl⟩:=I.look
 refine W.set_plain X J hs (W.osa_open (s:={ s with toks:=s.toks+1 }) (r:=none) X J hp ht fun b=>?_)
 obtain⟨cd,hc,hd'⟩:=W.any_some hh
 have hx:s.heap.get? x=some ⟨.ref C,some dx,.plain,#[]⟩:=I.obj
 refine wpAny_bind (wpAny_pure (wpAny_bind (wpAny_bind (wpAny_loadPart hx (wpAny_bind (W.Looks.here (s:={ s with toks:=s.toks+1 }) (W.looks_clsIn X hc) ?_))))))
 rw[hd']
 refine wpAny_pure (a:=some dx) (wpAny_bind (wpAny_pure (wpAny_bind ?_)))
 refine wpAny_nsSet1 (s:={ s with toks:=s.toks+1 }) I.ns fun h' hn2 hs2=>?_
 obtain⟨oD,esD,epD,hoD,hdD,hcD⟩:=hn2.count (PySem.Within.cons name v hw)
 refine wpAny_bind (wpAny_lookBehind hoD (by rw[hdD];exact pastItsLine_dict (Nat.le_trans hcD (by rw[List.length_cons];omega))) ?_)
 exact wpAny_pure (h _ ⟨(hs2.2 _ (Ne.symm I.ne)).trans I.obj,hn2,I.ne⟩ hs2)
theorem Z96{R:Result->Shared->Prop}{vs:List Value}{kw:List (Str×Value)}(X:K.In s.heap)(hm:W.makesIn K C=true)
  (hi:W.findIn K (.ref C) "__init__" = some (some (.ref f))) (hf:W.typeIn K (.ref f)=some (.type "function"))
  (h:codeAny (model prog w) (A.under (.builtin "type.__call__" ⟨.ref C::vs,kw⟩)) (.call (.ref f) ⟨.ref (s.heap.objs.size+1)::vs,kw⟩) (W.InitBack (s.heap.objs.size+1) R)
   { s with heap:=(s.heap.push W.emptyDict).push (W.instObj C s.heap.objs.size) }) :
  codeAny (model prog w) A (.call (.ref C) ⟨vs,kw⟩) R s:=by
 obtain⟨hh,g,d,t,os⟩:=s
 exact W.make_core (W.makes_of X hm) (W.looks_findIn X hi) (fun self=>W.bind_fn X self hf) (.inl rfl) h
end
def Vk(f:Str)(v:V):List (Str×V)->List (Str×V)
 | []=>[(f,v)]
 |(g,x)::r=>if g=f then(g,v)::r else(g,x)::Vk f v r
theorem Jn(f g:Str)(v:V):∀fs:List (Str×V),(Vk f v fs).lookup g=if g=f then some v else fs.lookup g
 | []=>by
  show List.lookup g [(f,v)]=_
  by_cases h:g=f
  ·have hb:(g==f)=true:=beq_iff_eq.mpr h
   simp only[List.lookup,hb,if_pos h]
  ·have hb:(g==f)=false:=beq_eq_false_iff_ne.mpr h
   simp only[List.lookup,hb,if_neg h]
 |(k,x)::r=>by
  have ih:=Jn f g v r
  rw[show Vk f v ((k,x)::r)=(if k=f then(k,v)::r else(k,x)::Vk f v r) from rfl]
  by_cases hk:k=f
  ·rw[if_pos hk]
   by_cases h:g=k
   ·have hb:(g==k)=true:=beq_iff_eq.mpr h
    simp only[List.lookup,hb,if_pos (h.trans hk)]
   ·have hb:(g==k)=false:=beq_eq_false_iff_ne.mpr h
    simp only[List.lookup,hb,if_neg (fun e:g=f=>h (e.trans hk.symm))]
  ·rw[if_neg hk]
   by_cases h:g=k
   ·have hb:(g==k)=true:=beq_iff_eq.mpr h
    simp only[List.lookup,hb,if_neg (fun e:g=f=>hk (h.symm.trans e))]
   ·have hb:(g==k)=false:=beq_eq_false_iff_ne.mpr h
    simp only[List.lookup,hb]
    exact ih
theorem Jh(f:Str)(v:V):∀fs:List (Str×V),f∈(Vk f v fs).map (·.1)/\∀g,g∈fs.map (·.1)->g∈(Vk f v fs).map (·.1)
 | []=>⟨by simp[Vk],fun g h=>by simp at h⟩
 |(k,x)::r=>by
  obtain⟨i1,i2⟩:=Jh f v r
  rw[show Vk f v ((k,x)::r)=(if k=f then(k,v)::r else(k,x)::Vk f v r) from rfl]
  by_cases hk:k=f
  ·rw[if_pos hk]
   subst hk
   exact⟨by simp,fun g h=>by simpa using h⟩
  ·rw[if_neg hk]
   refine⟨?_,fun g h=>?_⟩
   ·rw[List.map_cons]
    exact List.mem_cons_of_mem _ i1
   ·rw[List.map_cons]at h ⊢
    rcases List.mem_cons.mp h with e | e
    ·exact List.mem_cons.mpr (.inl e)
    ·exact List.mem_cons_of_mem _ (i2 g e)
theorem Jo(f:Str)(v:V):∀fs:List (Str×V),(Vk f v fs).length<=fs.length+1
 | []=>by simp[Vk]
 |(k,x)::r=>by
  have ih:=Jo f v r
  rw[show Vk f v ((k,x)::r)=(if k=f then(k,v)::r else(k,x)::Vk f v r) from rfl]
  by_cases hk:k=f
  ·rw[if_pos hk,List.length_cons,List.length_cons];omega
  ·rw[if_neg hk,List.length_cons,List.length_cons];omega
theorem RelO.some_of{v:V}{o:Option Value}(r:RelO (some v) o):∃u,o=some u/\RelV v u:=by
 cases o with
 |none=>exact(show False from r).elim
 |some u=>exact⟨u,rfl,r⟩
theorem RelO.none_of{o:Option Value}(r:RelO none o):o=none:=by
 cases o with
 |none=>rfl
 |some u=>exact(show False from r).elim
theorem Z7w{v:V}{u:Value}(r:RelV v u):W.handedIn u=true:=by
 cases v with
 |non=>cases(show u=Value.none from r);rfl
 |bl b=>cases(show u=Value.bool b from r);rfl
 |int i=>obtain⟨t,e⟩:=(show ∃t,u=Value.int i t from r);cases e;rfl
 |str x=>obtain⟨t,e⟩:=(show ∃t,u=Value.str x t from r);cases e;rfl
 |byt b=>obtain⟨t,e⟩:=(show ∃t,u=Value.bytes b t from r);cases e;rfl
 |flt b=>obtain⟨t,e⟩:=(show ∃t,u=Value.float b t from r);cases e;rfl
 |ref a=>cases(show u=Value.ref a from r);rfl
 |ty n=>cases(show u=Value.type n from r);rfl
section
variable{P:Program}{w:World}{H H':Hp}{h h':Heap}{a C dx:Addr}{fs fs':List (Str×V)}
theorem Z09(hok:HOk P w H h)(e:H a=some (.ins C dx fs)):∃mA,ObjM h a dx C mA/\(∀f,RelO (fs.lookup f) (mA f))/\PySem.Within mA (fs.map (·.1))/\fs.length<=1000/\H dx=some (.own a):=by
 obtain⟨d,z,ne,ob,mA,n,r,q⟩:=(show ObjOk P w H h a (.ins C dx fs) from hok a _ e)
 exact⟨mA,⟨ob,n,ne⟩,r,q,z,d⟩
end
structure Cls(K:W.Frag)(C:Addr):Prop where
 pg:W.plainGet K C Str.empty=true
 hd:W.hasDictIn K C=true
 po:W.plainOver K C=true
 sa:W.findIn K (.ref C) "__setattr__" = some (some (.builtin "object.__setattr__"))
theorem Cls.get{K:W.Frag}{C:Addr}(c:Cls K C)(f:Str):W.plainGet K C f=true:=c.pg
def NoAttr(K:W.Frag)(C:Addr)(f:Str):Prop:=W.findIn K (.ref C) f=some none
theorem NoAttr.taker{K:W.Frag}{C:Addr}{f:Str}(n:NoAttr K C f):W.takerIn K C f=some none:=by
 unfold W.takerIn
 rw[show W.findIn K (.ref C) f=some none from n]
 rfl
structure Meth(K:W.Frag)(C:Addr)(m:Str)(f:Addr):Prop where
 at_:W.findIn K (.ref C) m=some (some (.ref f))
 fn:W.isFn K (.ref f)=true
 kp:W.keepIn K (.ref f)=true
section
variable{X:Cx}{Z4:List (Addr×Obj)}{σ:St}{H:Hp}{s:Shared}{a C dx:Addr}{fs:List (Str×V)}{f:Str}{v:V}{A:Around}{E:Value->Shared->Prop}
theorem Z0q{b:Bool}{Q:Value->Shared->Prop}(I:Inv X Z4 σ H s)(e:H a=some (.ins C dx fs))(c:Cls X.K C)(n:NoAttr X.K C f)(l:fs.lookup f=some v)
  (h:∀u s',Inv X Z4 σ H s'->RelV v u->Q u s'):wpAny (model X.prog X.w) A (getAttr (.ref a) f b) Q E s:=by
 obtain⟨mA,O,r,_,_,_⟩:=Z09 I.hok e
 obtain⟨u,hu,ru⟩:=RelO.some_of (v:=v) (o:=mA f) (by rw[← l];exact r f)
 exact Zbj I.kIn O (c.get f) c.hd n hu (Z7w ru) (h u _ (I.tok _) ru)
theorem Tc{m:Str}{g:Addr}{pl:Sem Bool}{Q:Value×List Value->Shared->Prop}(I:Inv X Z4 σ H s)(e:H a=some (.ins C dx fs))(c:Cls X.K C)(k:Meth X.K C m g)(l:fs.lookup m=none)
  (h:Q (.ref g,[.ref a]) s):wpAny (model X.prog X.w) A (getMethod (.ref a) m pl) Q E s:=by
 obtain⟨mA,O,r,_,_,_⟩:=Z09 I.hok e
 have hn:mA m=none:=RelO.none_of (by rw[← l];exact r m)
 exact Z9c I.kIn O (c.get m) k.at_ k.fn hn h
theorem Z0n{y:V}{u:Value}{Q:Unit->Shared->Prop}(I:Inv X Z4 σ H s)(e:H a=some (.ins C dx fs))(c:Cls X.K C)(n:NoAttr X.K C f)(hl:fs.length<1000)(ry:RelV y u)
  (h:∀s',Inv X Z4 σ (Y2 H a (.ins C dx (Vk f y fs))) s'->Q () s'):wpAny (model X.prog X.w) A (setAttr (.ref a) f u) Q E s:=by
 obtain⟨mA,O,r,wi,_,ho⟩:=Z09 I.hok e
 have hz:(fs.map (·.1)).length<=sizeLine:=by rw[List.length_map,sizeLine_eq];omega
 refine Zaq I.kIn O c.sa c.po n.taker c.hd wi hz fun h' O' sb=>h _ ?_
 have hd:∃o,h'.get? dx=some o:=let⟨o,_,_,e',_⟩:=O'.ns;⟨o,e'⟩
 refine I.write (x:=a) (e:=dx) (by rw[e];exact True.intro) (.inr ho) (fun b q hb z=>(sb.2 b hb).trans z) hd ?_
 refine⟨by rw[Zl O.ne];exact ho,?_,O.ne,O'.obj,_,O'.ns,fun g=>?_,fun g hg=>?_⟩
 ·have:=Jo f y fs;omega
 ·show RelO ((Vk f y fs).lookup g) (if g=f then some u else mA g)
  rw[Jn]
  by_cases q:g=f
  ·rw[if_pos q,if_pos q];exact ry
  ·rw[if_neg q,if_neg q];exact r g
 ·by_cases q:g=f
  ·rw[q];exact(Jh f y fs).1
  ·refine(Jh f y fs).2 g (wi g fun z=>hg ?_)
   show(if g=f then some u else mA g)=none
   rw[if_neg q];exact z
theorem Inv.made(I:Inv X Z4 σ H s):Inv X Z4 σ (Y2 (Y2 H s.heap.objs.size (.own (s.heap.objs.size+1))) (s.heap.objs.size+1) (.ins C s.heap.objs.size []))
  { s with heap:=(s.heap.push W.emptyDict).push (W.instObj C s.heap.objs.size) }:=by
 have e1:(s.heap.push W.emptyDict).get? s.heap.objs.size=some W.emptyDict:=Heap.get?_push_size s.heap rfl
 have e2:((s.heap.push W.emptyDict).push (W.instObj C s.heap.objs.size)).get? (s.heap.objs.size+1)=some (W.instObj C s.heap.objs.size):=by
  have:=Heap.get?_push_size (s.heap.push W.emptyDict) (o:=W.instObj C s.heap.objs.size) rfl
  rwa [Heap.size_push]at this
 have e3:(s.heap.push W.emptyDict).Ns s.heap.objs.size (fun _=>none):=⟨W.emptyDict,#[],_,e1,rfl,(fun e he=>absurd he (by simp)),fun _=>rfl⟩
 have I1:=I.laid (a:=s.heap.objs.size) (o:=.own (s.heap.objs.size+1)) (h':=s.heap.push W.emptyDict) (t':=s.toks) (fun b u q=>Heap.get?_push_of_some _ q) (Nat.le_refl _) ⟨_,e1⟩
 refine I1.laid (a:=s.heap.objs.size+1) (o:=.ins C s.heap.objs.size []) (t':=s.toks) (fun b u q=>Heap.get?_push_of_some _ q) (Nat.le_of_eq (Heap.size_push _ _)) ?_
 have ne:s.heap.objs.size≠s.heap.objs.size+1:=Nat.ne_of_lt (Nat.lt_succ_self _)
 refine⟨by rw[Zl ne,Z1],Nat.zero_le _,ne,e2,fun _=>none,(Heap.Ns1.of_empty e3).at fun o q=>Heap.get?_push_of_some _ q,fun _=>True.intro,fun y hy=>absurd rfl hy⟩
theorem Zbt{prog:Program}{w:World}{env:Env}{e:Expr}{f:Str}{pos:Pos}{s:Shared}{Q:Value->Shared->Prop}(hb:attributeBase e f env (eval e env)=eval e env)
  (h:wpAny (model prog w) A (eval e env) (fun o s₁=>wpAny (model prog w) A (getAttr o f true) Q E s₁) E s):wpAny (model prog w) A (eval (.Attribute e f pos) env) Q E s :=
 Attribute_any_ h (by rw[arm_eval_Attribute,hb])
end
def Zgy(K:W.Frag)(ta:TE)(f:Str):TE:=fun σ H Q=>ta σ H fun x H1=>∃a C dx fs v,x=.ref a/\H1 a=some (.ins C dx fs)/\Cls K C/\NoAttr K C f/\fs.lookup f=some v/\Q v H1
def Zh1(K:W.Frag)(ta tv:TE)(f:Str):TS:=fun D σ H=>tv σ H fun y H1=>ta σ H1 fun x H2=>∃a C dx fs,x=.ref a/\H2 a=some (.ins C dx fs)/\Cls K C/\NoAttr K C f/\fs.length<1000 /\
 D.nx σ (Y2 H2 a (.ins C dx (Vk f y fs)))
def Zf5(X:Cx)(op:Operator)(rd:V->V->Hp->VK->Prop):Prop :=
 ∀(Z4:List (Addr×Obj)) (s:Shared) (σ:St) (H:Hp) (x y:V) (u v:Value) (Q:VK),Inv X Z4 σ H s->RelV x u->RelV y v->rd x y H Q->wpAny (model X.prog X.w) X.A (inplaceOp op u v) (EP X Z4 σ Q) X.xe s
def Zar(K:W.Frag)(ta tv:TE)(rd:V->V->Hp->VK->Prop)(f:Str):TS:=fun D σ H=>ta σ H fun x H1=>∃a C dx fs v,x=.ref a/\H1 a=some (.ins C dx fs)/\Cls K C/\NoAttr K C f/\fs.lookup f=some v /\
 tv σ H1 fun y H2=>rd v y H2 fun z H3=>∃dx' fs',H3 a=some (.ins C dx' fs')/\fs'.length<1000/\D.nx σ (Y2 H3 a (.ins C dx' (Vk f z fs')))
section
variable{X:Cx}{o e value:Expr}{f:Str}{pos pos' tpos:Pos}{ta tv:TE}{Z4:List (Addr×Obj)}{σ:St}{H:Hp}{s:Shared}{A:Around}{E Q:Value->Shared->Prop}{c:Value}{b:Bool}
theorem Z18(he:PE X e ta)(hb:attributeBase e f X.env (eval e X.env)=eval e X.env):PE X (.Attribute e f pos) (Zgy X.K ta f):=by
 intro Z4 s σ H Q I h
 refine Zbt hb (Xt (he Z4 s σ H _ I h) fun u s1 ⟨x,H1,I1,rx,a,C,dx,fs,v,ex,ea,c,n,l,q⟩=>?_)
 subst ex
 obtain rfl:u=Value.ref a:=rx
 exact Z0q I1 ea c n l fun u' s2 I2 ru=>⟨v,H1,I2,ru,q⟩
theorem Z3e(ha:PE X o ta)(hv:PE X value tv)(hs:swapsWith value (some (.Attribute o f pos')) pos.line X.env=pure false):PS X (.Assign [.Attribute o f pos'] value pos) (Zh1 X.K ta tv f):=by
 intro Z4 s σ H D I h
 refine plainObj_wpAny_Assign_Attribute (Xt (hv Z4 s σ H _ I h) fun u s1 ⟨y,H1,I1,ry,q⟩=>Xt (ha Z4 s1 σ H1 _ I1 q) fun ov s2 ⟨x,H2,I2,rx,a,C,dx,fs,ex,ea,c,n,l,q2⟩=>?_) hs
 subst ex
 obtain rfl:ov=Value.ref a:=rx
 exact Z0n I2 ea c n l ry fun s3 I3=>⟨σ,_,I3,q2⟩
theorem U0{op:Operator}{rd:V->V->Hp->VK->Prop}(ha:PE X o ta)(hv:PE X value tv)(hop:Zf5 X op rd):PS X (.AugAssign (.Attribute o f tpos) op value pos) (Zar X.K ta tv rd f):=by
 intro Z4 s σ H D I h
 refine wpAny_AugAssign_AttributeAny (Xt (ha Z4 s σ H _ I h) fun ov s1 ⟨x,H1,I1,rx,a,C,dx,fs,v,ex,ea,c,n,l,q⟩=>?_)
 subst ex
 obtain rfl:ov=Value.ref a:=rx
 refine Z0q I1 ea c n l fun u s2 I2 ru=>Xt (hv Z4 s2 σ H1 _ I2 q) fun w3 s3 ⟨y,H2,I3,ry,q3⟩=>Xt (hop Z4 s3 σ H2 v y u w3 _ I3 ru ry q3) fun w4 s4 ⟨z,H3,I4,rz,dx',fs',ea',l',q4⟩=>?_
 exact Z0n I4 ea' c n l' rz fun s5 I5=>⟨σ,_,I5,q4⟩
def Zh9:V->V->Hp->VK->Prop:=fun x y H Q=>∃i j,x=.int i/\y=.int j/\Q (.int (i+j)) H
def Zh3:V->V->Hp->VK->Prop:=fun x y H Q=>∃i j,x=.int i/\y=.int j/\Q (.int (i-j)) H
theorem Z3i:Zf5 X .Add Zh9:=by
 rintro Z4 s σ H x y u v Q I rx ry ⟨i,j,rfl,rfl,q⟩
 obtain⟨t,rfl⟩:=(show ∃t,u=Value.int i t from rx)
 obtain⟨t',rfl⟩:=(show ∃t',v=Value.int j t' from ry)
 exact PyProof.Rows.iadd_int ⟨.int (i+j),H,I.tok _,⟨_,rfl⟩,q⟩
theorem Zeb:Zf5 X .Sub Zh3:=by
 rintro Z4 s σ H x y u v Q I rx ry ⟨i,j,rfl,rfl,q⟩
 obtain⟨t,rfl⟩:=(show ∃t,u=Value.int i t from rx)
 obtain⟨t',rfl⟩:=(show ∃t',v=Value.int j t' from ry)
 exact PyProof.Rows.isub_int ⟨.int (i-j),H,I.tok _,⟨_,rfl⟩,q⟩
theorem methcall_of{pl:Sem Bool}{m:Str}{apos:Pos}{args:List Expr}{Z4:List (Addr×Obj)}{s:Shared}{σ:St}{H:Hp}{Q:Value->Shared->Prop}{te:TE}(he:PE X e te)(I:Inv X Z4 σ H s)
  (h:te σ H fun x H1=>∃a C dx fs g,x=.ref a/\H1 a=some (.ins C dx fs)/\Cls X.K C/\Meth X.K C m g/\fs.lookup m=none /\
   ∀s1,Inv X Z4 σ H1 s1->wpAny (model X.prog X.w) X.A (callWith pos (.ref g) [.ref a] (backTo pos (starEach args X.env)) (backToKw pos (keywordEach [] X.env))) Q X.xe s1)
  (ht:eval (.Call (.Attribute e m apos) args [] pos) X.env=(do
   let ov ← eval e X.env
   standAt apos.atName
   let(f,first) ← holding [ov] (getMethod ov m pl)
   callWith pos f first (backTo pos (starEach args X.env)) (backToKw pos (keywordEach [] X.env)))) :
  wpAny (model X.prog X.w) X.A (eval (.Call (.Attribute e m apos) args [] pos) X.env) Q X.xe s:=by
 refine W.methodCall_KW (pl:=pl) (Xt (he Z4 s σ H _ I h) fun u s1 ⟨x,H1,I1,rx,a,C,dx,fs,g,ex,ea,c,k,l,q⟩=>?_) ht
 subst ex
 obtain rfl:u=Value.ref a:=rx
 exact Tc I1 ea c k l (q s1 I1)
inductive TyOf(K:W.Frag)(H:Hp):V->Value->Prop where
 |non:TyOf K H .non (.type "NoneType")
 |bl (x:Bool):TyOf K H (.bl x) (.type "bool")
 |int (i:Int):TyOf K H (.int i) (.type "int")
 |str (x:Str):TyOf K H (.str x) (.type "str")
 |flt (x:UInt64):TyOf K H (.flt x) (.type "float")
 |lst {a:Addr} {xs:List V} (e:H a=some (.lst xs)):TyOf K H (.ref a) (.type "list")
 |frz {a:Addr} {o:Obj} {xs:List V} (e:H a=some (.frz o (.lst xs))):TyOf K H (.ref a) (.type "list")
 |tup {a:Addr} {xs:List V} (e:H a=some (.tup xs)):TyOf K H (.ref a) (.type "tuple")
 |dK {a:Addr} {kvs:List (V6×V)} (e:H a=some (.dK kvs)):TyOf K H (.ref a) (.type "dict")
 |dT {a:Addr} {kvs:List (List V6×V)} (e:H a=some (.dT kvs)):TyOf K H (.ref a) (.type "dict")
 |ins {a C dx:Addr} {fs:List (Str×V)} (e:H a=some (.ins C dx fs)) (cl:Cls K C) (ha:W.findIn K (.ref C) "__class__" = some (some (.builtin "object.__class__")))
   (hn:W.specialIn K (.builtin "object.__class__") "__get__" = some (some (.builtin "getset_descriptor.__get__"))) (htk:W.takesIn K (.builtin "object.__class__")=some true)
   (hm:W.mroIn K C (.type "object")=some true):TyOf K H (.ref a) (.ref C)
theorem Z7t{x:V}{u t:Value}(I:Inv X Z4 σ H s)(rx:RelV x u)(ty:TyOf X.K H x t)(e:W.kitOne X.K t c=some b)(h:∀tk,Q (.bool b) { s with toks:=tk }) :
  wpAny (model X.prog X.w) A (call (.builtin "isinstance") [u,c]) Q E s:=by
 cases ty with
 |non=>cases(show u=Value.none from rx);exact W.kia_one W.kitx_none I.kIn True.intro e (fun z=>nomatch z) h
 |bl y=>cases(show u=Value.bool y from rx);exact W.kia_one W.kitx_bool I.kIn True.intro e (fun z=>nomatch z) h
 |int i=>obtain⟨t,q⟩:=(show ∃t,u=Value.int i t from rx);cases q;exact W.kia_one W.kitx_int I.kIn True.intro e (fun z=>nomatch z) h
 |str y=>obtain⟨t,q⟩:=(show ∃t,u=Value.str y t from rx);cases q;exact W.kia_one W.kitx_str I.kIn True.intro e (fun z=>nomatch z) h
 |flt y=>obtain⟨t,q⟩:=(show ∃t,u=Value.float y t from rx);cases q;exact W.kia_one W.kitx_float I.kIn True.intro e (fun z=>nomatch z) h
 | @lst a xs ea =>
  cases(show u=Value.ref a from rx)
  obtain⟨_,_,n,_,h1⟩:=(show ObjOk X.prog X.w H s.heap a (.lst xs) from I.hok a _ ea)
  exact W.kia_one W.kitx_list I.kIn ⟨_,h1,rfl⟩ e (fun z=>nomatch z) h
 | @frz a ob xs ea =>
  cases(show u=Value.ref a from rx)
  obtain⟨_,_,_,n,_,h1⟩:=(show ObjOk X.prog X.w H s.heap a (.frz ob (.lst xs)) from I.hok a _ ea)
  exact W.kia_one W.kitx_list I.kIn ⟨_,h1,rfl⟩ e (fun z=>nomatch z) h
 | @tup a xs ea =>
  cases(show u=Value.ref a from rx)
  obtain⟨_,_,_,p⟩:=(show ObjOk X.prog X.w H s.heap a (.tup xs) from I.hok a _ ea)
  obtain⟨o,h1,h2,_⟩:=p
  exact W.kia_one W.kitx_tuple I.kIn ⟨o,h1,h2⟩ e (fun z=>nomatch z) h
 | @dK a kvs ea =>
  cases(show u=Value.ref a from rx)
  obtain⟨_,_,vs,_,p⟩:=(show ObjOk X.prog X.w H s.heap a (.dK kvs) from I.hok a _ ea)
  obtain⟨o,es,ep,h1,h2,_⟩:=p
  exact W.kia_one W.kitx_dict I.kIn ⟨o,h1,h2.1⟩ e (fun z=>nomatch z) h
 | @dT a kvs ea =>
  cases(show u=Value.ref a from rx)
  obtain⟨_,_,xs,_,o,es,ep,h1,h2,_⟩:=(show ObjOk X.prog X.w H s.heap a (.dT kvs) from I.hok a _ ea)
  exact W.kia_one W.kitx_dict I.kIn ⟨o,h1,h2.1⟩ e (fun z=>nomatch z) h
 | @ins a C dx fs ea cl ha hn htk hm =>
  cases(show u=Value.ref a from rx)
  obtain⟨mA,O,_⟩:=Z09 I.hok ea
  obtain⟨od,J,_⟩:=O.look
  exact W.kia_one (W.kitx_own (cl.get _) cl.hd ha hn htk hm) I.kIn J e (fun z=>nomatch z) h
end
structure Room(k:Nat)(A:Around):Prop where
 hd:A.handled=none
 dp:A.depth+3*k+5<recursionLimit
 un:A.units+16*k+200<cLine
theorem Room.mono{j k:Nat}{A:Around}(r:Room k A)(h:j<=k):Room j A:=⟨r.hd,by have:=r.dp;omega,by have:=r.un;omega⟩
theorem Room.deeper{k:Nat}{A:Around}(r:Room (k+1) A)(env:Env):Room k (A.deeper env) :=
 ⟨r.hd,by have:=r.dp;show A.depth+1+3*k+5<_;omega,by have:=r.un;show A.units+3+16*k+200<_;omega⟩
theorem Z5i{A:Around}{C:Addr}{us:List Value}{kw:List (Str×Value)}:(A.under (.builtin "type.__call__" ⟨.ref C::us,kw⟩)).depth=A.depth+1:=by
 first | rfl | simp[Around.under,Code.weight,Code.isCreation,Code.isGuard,Code.isCaller,Code.frames,Code.isFrame,guardIds]
theorem Z5h{A:Around}{C:Addr}{us:List Value}{kw:List (Str×Value)}:(A.under (.builtin "type.__call__" ⟨.ref C::us,kw⟩)).units=A.units+1:=by
 first | rfl | simp[Around.under,Code.cUnits,Code.frames,Code.isFrame]
theorem Room.make{k:Nat}{A:Around}(r:Room (k+1) A)(C:Addr)(us:List Value)(kw:List (Str×Value)):Room k (A.under (.builtin "type.__call__" ⟨.ref C::us,kw⟩)) :=
 ⟨r.hd,by have:=r.dp;rw[Z5i];omega,by have:=r.un;rw[Z5h];omega⟩
theorem Room.depth{k:Nat}{A:Around}(r:Room k A):A.depth<recursionLimit:=by have:=r.dp;omega
theorem Room.units{k:Nat}{A:Around}(r:Room k A):A.units+64<cLine:=by have:=r.un;omega
theorem Room.units0{k:Nat}{A:Around}(r:Room k A):A.units<cLine:=by have:=r.un;omega
def V0:TA:=fun _ H Q=>Q [] H
def Yf(ta:TE)(tr:TA):TA:=fun σ H Q=>ta σ H fun x H1=>tr σ H1 fun xs H2=>Q (x::xs) H2
section
variable{X:Cx}{e:Expr}{es:List Expr}{te:TE}{t:TA}{pos:Pos}
theorem Z2:PA X [] V0:=fun _ _ _ _ H Q I h=>Calls.spliced_nil ⟨[],H,I,.nil,h⟩
theorem Z0(ha:PE X e te)(hr:PA X es t)(hs:starEach (e::es) X.env=(false,eval e X.env)::starEach es X.env:=by rfl):PA X (e::es) (Yf te t):=by
 intro pos Z4 s σ H Q I h
 rw[hs]
 show wpAny _ _ (spliced ((false,eval e X.env)::backTo pos (starEach es X.env))) _ _ s
 refine Calls.spliced_cons (Xt (ha Z4 s σ H _ I h) fun u s1 ⟨x,H1,I1,r1,q1⟩=>?_)
 exact Xt (hr pos Z4 s1 σ H1 _ I1 q1) fun us s2 ⟨xs,H2,I2,r2,q2⟩=>⟨x::xs,H2,I2,.cons r1 r2,q2⟩
def Z8b(t:TA):TE:=fun σ H Q=>t σ H fun xs H1=>xs.length<=sizeLine/\∀p,H1 p=none->Q (.ref p) (Y2 H1 p (.tup xs))
def Z8c(t:TA):TE:=fun σ H Q=>t σ H fun xs H1=>xs.length<=sizeLine/\∀p,H1 p=none->Q (.ref p) (Y2 H1 p (.lst xs))
theorem Zr{x1}(h:PA X es t):PE X (.Tuple es x1 pos) (Z8b t):=by
 intro Z4 s σ H Q I hq
 refine wpAny_Tuple_spliced (Xt (h pos Z4 s σ H _ I hq) fun us s1 ⟨xs,H1,I1,r,z,q⟩=>⟨by rw[← r.length];exact z,?_⟩)
 have hf:H1 s1.heap.objs.size=none:=I1.hok.fresh (Nat.le_refl _)
 refine⟨.ref s1.heap.objs.size,Y2 H1 s1.heap.objs.size (.tup xs),I1.laid (t':=s1.toks) (fun b u e=>Heap.get?_push_of_some _ e) (Nat.le_refl _) ?_,rfl,q _ hf⟩
 exact⟨z,us,r,⟨_,Heap.get?_push_size _ rfl,rfl,_,rfl⟩⟩
theorem Yl(h:PA X es t):PE X (.List es pos) (Z8c t):=by
 intro Z4 s σ H Q I hq
 refine wpAny_List_spliced (Xt (h pos Z4 s σ H _ I hq) fun us s1 ⟨xs,H1,I1,r,z,q⟩=>⟨by rw[← r.length];exact z,?_⟩)
 have hf:H1 s1.heap.objs.size=none:=I1.hok.fresh (Nat.le_refl _)
 refine⟨.ref s1.heap.objs.size,Y2 H1 s1.heap.objs.size (.lst xs),I1.laid (t':=s1.toks) (fun b u e=>Heap.get?_push_of_some _ e) (Nat.le_refl _) ?_,rfl,q _ hf⟩
 exact⟨z,us,0,r,Heap.get?_push_size _ rfl⟩
end
abbrev Sp:=List V->Hp->VK->XK->Prop
abbrev Zby:=List Env->Hp->Shared->XK->Value->Shared->Prop
structure Env0(P:Program)(w:World)(K:W.Frag)(mg:Str->Option Value)(base:Heap)(A:Around)(outer:List Env)(s:Shared)(H:Hp):Prop where
 frames:A.frames=some outer
 mod:Mod K mg base
 bs:∀b o,base.get? b=some o->s.heap.get? b=some o/\H b=none
 bsz:base.objs.size<=s.heap.objs.size
 funs:s.heap.FunFrames base outer
 frf:∀b∈Zal outer,H b=none
 hok:HOk P w H s.heap
 bare:AllBare s.gens
def CE(outer:List Env)(P:Program)(w:World)(H:Hp)(s:Shared)(Q:VK)(u:Value)(s':Shared):Prop :=
 ∃v H',s'.os=s.os/\AllBare s'.gens/\Un (Zal outer) [] H H' s.heap s'.heap/\HOk P w H' s'.heap/\RelV v u/\Q v H'
def CR(CX:Zby)(outer:List Env)(P:Program)(w:World)(H:Hp)(s:Shared)(Q:VK)(E:XK)(r:Result)(s':Shared):Prop :=
 match r with
 |.ok (.ret u)=>CE outer P w H s Q u s'
 |.ok _=>False
 |.error e=>CX outer H s E e s'
structure FnOk(P:Program)(w:World)(K:W.Frag)(mg:Str->Option Value)(base:Heap)(CX:Zby)(k:Nat)(f:Addr)(fd:FuncData)(ps:List Str)(sp:Sp):Prop where
 len:∀vs H Q E,sp vs H Q E->vs.length=ps.length
 run:∀(A:Around) (outer:List Env) (s:Shared) (H:Hp) (args:Args) (us:List Value) (vs:List V) (Q:VK) (E:XK),Room k A->Env0 P w K mg base A outer s H->BindsTo s fd args (ps.zip us)->Vals vs us->sp vs H Q E ->
  codeAny (model P w) A (.call (.ref f) args) (CR CX outer P w H s Q E) s
theorem FnOk.mono{P:Program}{w:World}{K:W.Frag}{mg:Str->Option Value}{base:Heap}{CX:Zby}{j k:Nat}{f:Addr}{fd:FuncData}{ps:List Str}{sp:Sp}(F:FnOk P w K mg base CX j f fd ps sp)(h:j<=k) :
  FnOk P w K mg base CX k f fd ps sp:=⟨F.len,fun A outer s H args us vs Q E hr=>F.run A outer s H args us vs Q E (hr.mono h)⟩
theorem Env0.make{P:Program}{w:World}{K:W.Frag}{mg:Str->Option Value}{base:Heap}{A:Around}{outer:List Env}{s:Shared}{H:Hp}(e:Env0 P w K mg base A outer s H)(C:Addr)(us:List Value)(kw:List (Str×Value)) :
  Env0 P w K mg base (A.under (.builtin "type.__call__" ⟨.ref C::us,kw⟩)) outer s H:=⟨by first | exact e.frames | (simpa[Around.under,Code.envs,Code.isFrame,pushEnvs] using e.frames),e.mod,e.bs,e.bsz,e.funs,e.frf,e.hok,e.bare⟩
section
variable{X:Cx}{Z4:List (Addr×Obj)}{σ:St}{H:Hp}{s s':Shared}
theorem Inv.env0(I:Inv X Z4 σ H s):Env0 X.prog X.w X.K X.mg X.base X.A X.stack s H :=
 ⟨I.ok.frames,I.ok.mod,I.bs,Nat.le_trans I.ok.bsz I.sz,I.stack,I.stkFree,I.hok,I.bare⟩
theorem Inv.after{Q:VK}{u:Value}(I:Inv X Z4 σ H s)(h:CE X.stack X.prog X.w H s Q u s'):EP X Z4 σ Q u s':=by
 obtain⟨v,H',os,bare,un,hok,r,q⟩:=h
 obtain⟨hh,g,d,t,os'⟩:=s'
 obtain rfl:os'=s.os:=os
 exact⟨v,H',I.call (h':=hh) (g':=g) (d':=d) (t':=t) (ch:=[]) un hok bare (fun b z=>absurd z (by simp)),r,q⟩
end
def T5(sp:Sp)(dvs:List V)(E:XK)(t:TA):TE:=fun σ H Q=>t σ H fun vs H1=>sp (vs++dvs) H1 Q E
def Z4y(C:Addr)(m:Str)(sp:Sp)(dvs:List V)(E:XK)(ta:TE)(t:TA):TE:=fun σ H Q=>ta σ H fun x H1=>∃a dx fs,x=.ref a/\H1 a=some (.ins C dx fs)/\fs.lookup m=none /\
 t σ H1 fun vs H2=>sp (x::(vs++dvs)) H2 Q E
def Zc7(C:Addr)(sp:Sp)(dvs:List V)(E:XK)(t:TA):TE:=fun σ H Q=>t σ H fun vs H1=>∀x dx,H1 x=none->H1 dx=none->dx≠x ->
 sp (.ref x::(vs++dvs)) (Y2 (Y2 H1 dx (.own x)) x (.ins C dx [])) (fun v H2=>v=.non/\Q (.ref x) H2) E
def Binds(K:W.Frag)(fd:FuncData)(ps:List Str)(ds:List Value):Prop :=
 ∀(s:Shared) (us:List Value),K.In s.heap->(us++ds).length=ps.length->BindsTo s fd ⟨us,[]⟩ (ps.zip (us++ds))
theorem Binds.all{K:W.Frag}{fd:FuncData}{ps:List Str}(h:∀us:List Value,us.length=ps.length->bindArgs fd ⟨us,[]⟩=pure (ps.zip us)):Binds K fd ps []:=fun s us _ hl=>by
 rw[List.append_nil]at hl ⊢
 exact .of_eq (h us hl)
def Tl(CX:Zby)(X:Cx)(E:XK):Prop:=∀(Z4:List (Addr×Obj)) (σ:St) (H:Hp) (s:Shared) (e:Value) (s':Shared),Inv X Z4 σ H s->CX X.stack H s E e s'->X.xe e s'
section
variable{X:Cx}{CX:Zby}{k:Nat}{f C:Addr}{fd:FuncData}{ps:List Str}{sp:Sp}{dvs:List V}{ds:List Value}{E:XK}{x m:Str}{p pos apos:Pos}{e o:Expr}{es:List Expr}{ta:TE}{t:TA}
theorem Z65{Z4:List (Addr×Obj)}{σ:St}{H:Hp}{s:Shared}{Q:VK}{us:List Value}{vs:List V}(F:FnOk X.prog X.w X.K X.mg X.base CX k f fd ps sp)(hr:Room k X.A)(hb:Binds X.K fd ps ds)(hd:Vals dvs ds)(hx:Tl CX X E)
  (I:Inv X Z4 σ H s) (r:Vals vs us) (h:sp (vs++dvs) H Q E):wpAny (model X.prog X.w) X.A (call (.ref f) us) (EP X Z4 σ Q) X.xe s:=by
 have r2:Vals (vs++dvs) (us++ds):=r.append hd
 have hl:(us++ds).length=ps.length:=by rw[← r2.length];exact F.len _ _ _ _ h
 refine wpAny_call (codeAny_mono (F.run X.A X.stack s H ⟨us,[]⟩ (us++ds) (vs++dvs) Q E hr I.env0 (hb s us I.kIn hl) r2 h) fun r s' hq=>?_)
 cases r with
 |error e=>exact hx Z4 σ H s e s' I hq
 |ok fl =>
  cases fl with
  |ret u=>exact I.after hq
  |next=>exact False.elim hq
  |brk=>exact False.elim hq
  |cont=>exact False.elim hq
theorem Zb3(F:FnOk X.prog X.w X.K X.mg X.base CX k f fd ps sp)(hr:Room k X.A)(hg:Gl X x)(hm:X.mg x=some (.ref f))(hk:W.keepIn X.K (.ref f)=true)(hb:Binds X.K fd ps ds)(hd:Vals dvs ds)(hx:Tl CX X E)
  (ha:PA X (e::es) t) (hdb:(x==("__debug__":Str))=false:=by decide) (he:starEach (e::es) X.env=(false,eval e X.env)::starEach es X.env:=by rfl) (hpl:(backTo pos (starEach es X.env)).any (·.1)=false:=by rfl) :
  PE X (.Call (.Name x p) (e::es) [] pos) (T5 sp dvs E t):=by
 intro Z4 s σ H Q I h
 refine wpAny_Call_Name_kw (Z34 I hg hm ?_ hdb)
 refine W.callWith_K (h₀:=X.base) I.ok.mod.kin hk (Xt (ha pos Z4 s σ H _ I h) fun us s1 ⟨vs,H1,I1,r,q⟩=>⟨I1.kIn,?_⟩) he hpl
 exact Z65 F hr hb hd hx I1 r q
theorem Zb0{pl:Sem Bool}(he:PE X o ta)(c:Cls X.K C)(hm:Meth X.K C m f)(F:FnOk X.prog X.w X.K X.mg X.base CX k f fd ps sp)(hr:Room k X.A)(hb:Binds X.K fd ps ds)(hd:Vals dvs ds)(hx:Tl CX X E)(ha:PA X (e::es) t)
  (hst:starEach (e::es) X.env=(false,eval e X.env)::starEach es X.env:=by rfl) (hpl:(backTo pos (starEach es X.env)).any (·.1)=false:=by rfl)
  (ht:eval (.Call (.Attribute o m apos) (e::es) [] pos) X.env=(do
   let ov ← eval o X.env
   standAt apos.atName
   let(f,first) ← holding [ov] (getMethod ov m pl)
   callWith pos f first (backTo pos (starEach (e::es) X.env)) (backToKw pos (keywordEach [] X.env))):=by rfl) :
  PE X (.Call (.Attribute o m apos) (e::es) [] pos) (Z4y C m sp dvs E ta t):=by
 intro Z4 s σ H Q I h
 refine W.methodCall_KW (pl:=pl) (Xt (he Z4 s σ H _ I h) fun u s1 ⟨x,H1,I1,rx,a,dx,fs,ex,ea,l,q⟩=>?_) ht
 subst ex
 obtain rfl:u=Value.ref a:=rx
 refine Tc I1 ea c hm l ?_
 refine W.callWith_K (first:=[.ref a]) (h₀:=X.base) I.ok.mod.kin hm.kp (Xt (ha pos Z4 s1 σ H1 _ I1 q) fun us s2 ⟨vs,H2,I2,r,q2⟩=>⟨I2.kIn,?_⟩) hst hpl
 exact Z65 (us:=.ref a::us) (vs:=.ref a::vs) F hr hb hd hx I2 (.cons rfl r) q2
theorem Z8u{pl:Sem Bool}(he:PE X o ta)(c:Cls X.K C)(hm:Meth X.K C m f)(F:FnOk X.prog X.w X.K X.mg X.base CX k f fd ps sp)(hr:Room k X.A)(hb:Binds X.K fd ps ds)(hd:Vals dvs ds)(hx:Tl CX X E)
  (ht:eval (.Call (.Attribute o m apos) [] [] pos) X.env=(do
   let ov ← eval o X.env
   standAt apos.atName
   let(f,first) ← holding [ov] (getMethod ov m pl)
   callWith pos f first (backTo pos (starEach [] X.env)) (backToKw pos (keywordEach [] X.env))):=by rfl) :
  PE X (.Call (.Attribute o m apos) [] [] pos) (Z4y C m sp dvs E ta V0):=by
 intro Z4 s σ H Q I h
 refine W.methodCall_KW (pl:=pl) (Xt (he Z4 s σ H _ I h) fun u s1 ⟨x,H1,I1,rx,a,dx,fs,ex,ea,l,q⟩=>?_) ht
 subst ex
 obtain rfl:u=Value.ref a:=rx
 refine Tc I1 ea c hm l ?_
 exact W.callWith_K0 (first:=[.ref a]) I1.kIn hm.kp (Z65 (us:=[.ref a]) (vs:=[.ref a]) F hr hb hd hx I1 (.cons rfl .nil) q)
structure Mk(K:W.Frag)(C f:Addr):Prop where
 makes:W.makesIn K C=true
 init:W.findIn K (.ref C) "__init__" = some (some (.ref f))
 fn:W.isFn K (.ref f)=true
 kp:W.keepIn K (.ref C)=true
theorem Z8q{Z4:List (Addr×Obj)}{σ:St}{H:Hp}{s:Shared}{Q:VK}{us:List Value}{vs:List V}(M:Mk X.K C f)(F:FnOk X.prog X.w X.K X.mg X.base CX k f fd ps sp)(hr:Room (k+1) X.A)(hb:Binds X.K fd ps ds)(hd:Vals dvs ds)
  (hx:Tl CX X E) (I:Inv X Z4 σ H s) (r:Vals vs us)
  (h:∀x dx,H x=none->H dx=none->dx≠x->sp (.ref x::(vs++dvs)) (Y2 (Y2 H dx (.own x)) x (.ins C dx [])) (fun v H2=>v=.non/\Q (.ref x) H2) E) :
  wpAny (model X.prog X.w) X.A (call (.ref C) us) (EP X Z4 σ Q) X.xe s:=by
 have hq:=h (s.heap.objs.size+1) s.heap.objs.size (I.hok.fresh (Nat.le_succ _)) (I.hok.fresh (Nat.le_refl _)) (Nat.ne_of_lt (Nat.lt_succ_self _))
 have I2:=Inv.made (C:=C) I
 have r2:Vals (V.ref (s.heap.objs.size+1)::(vs++dvs)) (Value.ref (s.heap.objs.size+1)::(us++ds)):=.cons rfl (r.append hd)
 have hl:(Value.ref (s.heap.objs.size+1)::us++ds).length=ps.length:=by
  have e:=r2.length
  rw[F.len _ _ _ _ hq]at e
  exact e.symm
 refine wpAny_call (Z96 (f:=f) I.kIn M.makes M.init (beq_iff_eq.mp M.fn) (codeAny_mono (F.run _ X.stack _ _ ⟨Value.ref (s.heap.objs.size+1)::us,[]⟩ (Value.ref (s.heap.objs.size+1)::(us++ds)) _ _ E (hr.make C us [])
  (I2.env0.make C us []) (hb _ (Value.ref (s.heap.objs.size+1)::us) I2.kIn hl) r2 hq) fun r s' hq'=>?_))
 cases r with
 |error e=>exact hx Z4 σ _ _ e s' I2 hq'
 |ok fl =>
  cases fl with
  |ret u =>
   obtain⟨v,H',I3,rv,ev,q3⟩:=I2.after hq'
   subst ev
   exact⟨rv,⟨V.ref (s.heap.objs.size+1),H',I3,rfl,q3⟩⟩
  |next=>exact False.elim hq'
  |brk=>exact False.elim hq'
  |cont=>exact False.elim hq'
theorem Zb2(M:Mk X.K C f)(F:FnOk X.prog X.w X.K X.mg X.base CX k f fd ps sp)(hr:Room (k+1) X.A)(hg:Gl X x)(hm:X.mg x=some (.ref C))(hb:Binds X.K fd ps ds)(hd:Vals dvs ds)(hx:Tl CX X E)
  (ha:PA X (e::es) t) (hdb:(x==("__debug__":Str))=false:=by decide) (he:starEach (e::es) X.env=(false,eval e X.env)::starEach es X.env:=by rfl) (hpl:(backTo pos (starEach es X.env)).any (·.1)=false:=by rfl) :
  PE X (.Call (.Name x p) (e::es) [] pos) (Zc7 C sp dvs E t):=by
 intro Z4 s σ H Q I h
 refine wpAny_Call_Name_kw (Z34 I hg hm ?_ hdb)
 refine W.callWith_K (h₀:=X.base) I.ok.mod.kin M.kp (Xt (ha pos Z4 s σ H _ I h) fun us s1 ⟨vs,H1,I1,r,q⟩=>⟨I1.kIn,?_⟩) he hpl
 exact Z8q M F hr hb hd hx I1 r q
end
def PK(X:Cx)(kws:List Keyword)(t:TA):Prop :=
 ∀(pos:Pos) (Z4:List (Addr×Obj)) (s:Shared) (σ:St) (H:Hp) (Q:List V->Hp->Prop),Inv X Z4 σ H s->t σ H Q->wpAny (model X.prog X.w) X.A (evalAll ((backToKw pos (keywordEach kws X.env)).map (·.2))) (AP X Z4 σ Q) X.xe s
section
variable{X:Cx}{CX:Zby}{k:Nat}{f C:Addr}{fd:FuncData}{ps ks:List Str}{sp:Sp}{E:XK}{x m:Str}{p pos apos kpos:Pos}{e o:Expr}{es:List Expr}{kws:List Keyword}{te ta:TE}{t tk:TA}{nm:Option Str}
theorem Zdo:PK X [] V0:=fun _ _ _ _ H Q I h=>wpAny_evalAll_nil ⟨[],H,I,.nil,h⟩
theorem Zaw(ha:PE X e te)(hr:PK X kws t):PK X (⟨nm,e,kpos⟩::kws) (Yf te t):=by
 intro pos Z4 s σ H Q I h
 show wpAny _ _ (evalAll ((do let v ← eval e X.env;standAt pos;pure v)::(backToKw pos (keywordEach kws X.env)).map (·.2))) _ _ s
 refine wpAny_evalAll_cons (wpAny_bind (Xt (ha Z4 s σ H _ I h) fun u s1 ⟨x,H1,I1,r1,q1⟩=>wpAny_bind (wpAny_standAt (wpAny_pure ?_))))
 exact Xt (hr pos Z4 s1 σ H1 _ I1 q1) fun us s2 ⟨xs,H2,I2,r2,q2⟩=>⟨x::xs,H2,I2,.cons r1 r2,q2⟩
variable{g:List Value->List Value->List Value}{gV:List V->List V->List V}
end
structure FnScope(N P:List Str)(sc:Scope):Prop where
 kind:sc.kind=.function
 co:sc.isCoroutine=false
 gen:sc.isGenerator=false
 nd:N.Nodup
 pre:N.take P.length=P
 par:∀x∈P,sc.names.lookup x=some .local∨sc.names.lookup x=some .cell
 nofree:∀y∈sc.names,y.2≠.free
theorem Z26{kindOf:Str->Option NameKind}{x:Str}:∀ {binds:List (Str×Value)} {m:Str->Option Value},(∀v,(x,v)∉binds)->bindL kindOf binds m x=m x
 | [],_,_=>rfl
 |(n,v)::r,m,h=>by
  unfold bindL
  rw[Z26 fun w hw=>h w (List.mem_cons_of_mem _ hw)]
  split
  ·have:x≠n:=by rintro rfl;exact h v List.mem_cons_self
   simp[this]
  ·rfl
theorem Z28{kindOf:Str->Option NameKind}{x:Str}:∀ {binds:List (Str×Value)} {m:Str->Option Value},(∀v,(x,v)∉binds)->bindC kindOf binds m x=m x
 | [],_,_=>rfl
 |(n,v)::r,m,h=>by
  unfold bindC
  rw[Z28 fun w hw=>h w (List.mem_cons_of_mem _ hw)]
  split
  ·rfl
  ·have:x≠n:=by rintro rfl;exact h v List.mem_cons_self
   simp[this]
theorem Z27{kindOf:Str->Option NameKind}{x:Str}{v:Value}:∀ {P:List Str} {vs:List Value} {i:Nat} {m:Str->Option Value},P.Nodup->P[i]? = some x->vs[i]? = some v->kindOf x=some .local ->
  bindL kindOf (P.zip vs) m x=some v
 | [],_,_,_,_,h,_,_=>by simp at h
 |_::_,[],_,_,_,_,h,_=>by simp at h
 |p::P,w::vs,0,m,nd,h1,h2,hk=>by
  simp at h1 h2;subst h1;subst h2
  show bindL kindOf ((p,w)::P.zip vs) m p=_
  unfold bindL
  rw[Z26 fun v hv=>(List.nodup_cons.mp nd).1 (List.of_mem_zip hv).1,if_pos hk]
  simp
 |p::P,w::vs,i+1,m,nd,h1,h2,hk=>by
  show bindL kindOf ((p,w)::P.zip vs) m x=_
  unfold bindL
  exact Z27 (i:=i) (List.nodup_cons.mp nd).2 (by simpa using h1) (by simpa using h2) hk
theorem Z29{kindOf:Str->Option NameKind}{x:Str}{v:Value}:∀ {P:List Str} {vs:List Value} {i:Nat} {m:Str->Option Value},P.Nodup->P[i]? = some x->vs[i]? = some v->kindOf x≠some .local ->
  bindC kindOf (P.zip vs) m x=some v
 | [],_,_,_,_,h,_,_=>by simp at h
 |_::_,[],_,_,_,_,h,_=>by simp at h
 |p::P,w::vs,0,m,nd,h1,h2,hk=>by
  simp at h1 h2;subst h1;subst h2
  show bindC kindOf ((p,w)::P.zip vs) m p=_
  unfold bindC
  rw[Z28 fun v hv=>(List.nodup_cons.mp nd).1 (List.of_mem_zip hv).1,if_neg hk]
  simp
 |p::P,w::vs,i+1,m,nd,h1,h2,hk=>by
  show bindC kindOf ((p,w)::P.zip vs) m x=_
  unfold bindC
  exact Z29 (i:=i) (List.nodup_cons.mp nd).2 (by simpa using h1) (by simpa using h2) hk
def start(N:List Str)(vs:List V):St:=vs.map some++List.replicate (N.length-vs.length) none
def Z8f(CX:Zby)(P:Program)(w:World)(K:W.Frag)(mg:Str->Option Value)(base:Heap)(N:List Str)(qual:Str)(scope:Scope)(f:Addr)(cd:Value)(A:Around)(outer:List Env)(s:Shared)(H:Hp)(E:XK):Cx where
 prog:=P
 w:=w
 K:=K
 mg:=mg
 base:=base
 A:=A.deeper (envOfC qual scope s.heap.objs.size f cd)
 N:=N
 s₀:=s
 H₀:=H
 env:=envOfC qual scope s.heap.objs.size f cd
 outer:=outer
 stack:=envOfC qual scope s.heap.objs.size f cd::outer
 ex:=[]
 calm:=true
 fn:=fun _=>true
 pn:=[]
 xe:=fun e s'=>wpAny (model P w) (A.deeper (envOfC qual scope s.heap.objs.size f cd)) (leaving (envOfC qual scope s.heap.objs.size f cd) e) (fun _ s''=>CX outer H s E e s'') (fun e' s''=>CX outer H s E e' s'') s'
theorem Z4o{sc:Scope}{n:Nat}{x:Str}(h:sc.names.lookup x=some .cell):∃c,(cellsFrom n sc.names []).lookup x=some c:=by
 have q:=W.cellsFrom_some sc.names n [] (.inl h)
 exact Option.isSome_iff_exists.mp q
theorem Z7u{CX:Zby}{P:Program}{w:World}{K:W.Frag}{mg:Str->Option Value}{base:Heap}{N ps:List Str}{qual:Str}{scope:Scope}{f:Addr}{cd:Value}{A:Around}{outer:List Env}{s s1:Shared}{H:Hp}{E:XK}{us:List Value}{vs:List V}
  (S:FnScope N ps scope) (hd:A.handled=none) (e0:Env0 P w K mg base A outer s H) (hl:vs.length=ps.length) (r:Vals vs us)
  (x:InCallC s s.heap.objs.size (bindL (envOfC qual scope s.heap.objs.size f cd).kindOf (ps.zip us) fun _=>none) (cellsFrom (s.heap.objs.size+1) scope.names []) (bindC (envOfC qual scope s.heap.objs.size f cd).kindOf (ps.zip us) fun _=>none) s1) :
  Inv (Z8f CX P w K mg base N qual scope f cd A outer s H E) [] (start N vs) H s1:=by
 have hpl:ps.length<=N.length:=by have:=congrArg List.length S.pre;rw[List.length_take]at this;omega
 obtain⟨h1,tk,rfl,hk⟩:=x.done
 have noA:∀b:Addr,b∉(Z8f CX P w K mg base N qual scope f cd A outer s H E).ex:=fun b z=>absurd (show b∈([]:List Addr) from z) (by simp)
 refine⟨⟨e0.mod,S.kind,rfl,rfl,Nat.le_refl _,fun y z c h1 h2=>?_,fun y hy=>?_,fun y c _ h=>?_,fun _=>hd,Around.frames_deeper e0.frames,.inr ⟨rfl,rfl⟩,fun b z=>absurd z (noA b),e0.bs,e0.bsz,fun b _ _=>noA b,fun b z=>absurd z (noA b),e0.funs,e0.frf⟩,
  rfl,e0.bare,Un.kept hk,⟨_,x.toInCall.ns,fun i y v h1 h2 h3=>?_⟩,fun y c h=>⟨_,x.cell y c h⟩,e0.hok.fresh (Nat.le_refl _),fun y c h=>?_,fun p hp=>absurd (show p∈([]:List (Addr×Obj)) from hp) (by simp),e0.hok.kept hk,?_⟩
 ·exact name_of_addr x.apart (PySem.mem_of_lookup h1) (PySem.mem_of_lookup h2)
 ·have hy:scope.names.lookup y=some .cell∨scope.names.lookup y=some .free:=hy
  rcases hy with hy | hy
  ·exact Z4o hy
  ·exact absurd rfl (S.nofree _ (PySem.mem_of_lookup hy))
 ·exact Nat.le_of_lt (x.above y c (PySem.mem_of_lookup h))
 ·have hi:i<vs.length:=by
   unfold start at h2
   by_cases hi:i<vs.length
   ·exact hi
   ·rw[List.getElem?_append_right (by simpa using hi)]at h2
    rw[List.getElem?_replicate]at h2
    split at h2 <;> cases h2
  have ha:vs[i]? = some v:=by
   unfold start at h2
   rw[List.getElem?_append_left (by simpa using hi),List.getElem?_map]at h2
   cases e:vs[i]? with
   |none=>rw[e]at h2;cases h2
   |some a=>rw[e]at h2;cases h2;rfl
  obtain⟨u,hu,rv⟩:=r.get ha
  have hp:ps[i]? = some y:=by
   rw[← S.pre,List.getElem?_take_of_lt (by omega)];exact h1
  have ndP:ps.Nodup:=by rw[← S.pre];exact S.nd.sublist (List.take_sublist _ _)
  refine⟨u,rv,?_⟩
  rcases S.par y (List.mem_of_getElem? hp) with k | k
  ·exact .inl ⟨k,Z27 ndP hp hu k⟩
  ·obtain⟨c,e⟩:=Z4o (n:=s.heap.objs.size+1) k
   refine .inr ⟨.inl k,c,e,?_⟩
   have q:=x.cell y c e
   rw[Z29 ndP hp hu (by show scope.names.lookup y≠_;rw[k];decide)]at q
   exact q
 ·exact e0.hok.fresh (Nat.le_of_lt (x.above y c (PySem.mem_of_lookup h)))
 ·unfold start
  show _=N.length
  rw[List.length_append,List.length_map,List.length_replicate]
  omega
theorem Zfy{CX:Zby}{P:Program}{w:World}{K:W.Frag}{mg:Str->Option Value}{base:Heap}{k:Nat}{f:Addr}{name qual:Str}{params:Arguments}{body:List Stmt}{scope:Scope}{dV kV doc pm cdv ct oc:Value}{an od:Option Addr}
  {osl:Array (Option Value)} {N ps:List Str} {sp:Sp} (lk:K.lookup f=some ⟨oc,od,.func (W.fnOf name qual params body scope dV kV doc pm an cdv ct),osl⟩) (hcd:W.codeIn K cdv qual=true) (S:FnScope N ps scope)
  (len:∀vs H Q E,sp vs H Q E->vs.length=ps.length)
  (hbody:∀(A:Around) (outer:List Env) (s:Shared) (H:Hp) (vs:List V) (Q:VK) (E:XK),Room k (A.deeper (envOfC qual scope s.heap.objs.size f cdv))->sp vs H Q E ->
   ∃t,PSs (Z8f CX P w K mg base N qual scope f cdv A outer s H E) body t/\t { nx:=fun _ H'=>Q .non H',rt:=Q } (start N vs) H) :
  FnOk P w K mg base CX (k+1) f (W.fnOf name qual params body scope dV kV doc pm an cdv ct) ps sp:=by
 refine⟨len,fun A outer s H args us vs Q E hr e0 hb r hsp=>?_⟩
 have hl:=len _ _ _ _ hsp
 have KX:K.In s.heap:=e0.mod.kin.keeps fun b o e=>(e0.bs b o e).1
 have lim:s.heap.NoLimit:=e0.mod.nolimit.keeps fun b o e=>(e0.bs b o e).1
 have hkind:∀y∈ps.zip us,scope.names.lookup y.1=some .local∨(scope.names.lookup y.1=some .cell/\((cellsFrom (s.heap.objs.size+1) scope.names []).lookup y.1).isSome=true):=fun⟨n,v⟩ hy=>by
  rcases S.par n (List.of_mem_zip hy).1 with q | q
  ·exact .inl q
  ·exact .inr ⟨q,W.cellsFrom_some _ _ _ (.inl q)⟩
 refine codeAny_call_function hr.depth (KX _ _ lk) rfl S.co S.gen rfl (W.codeRec_of KX hcd) (hb _ _ _ _ ?_)
 refine wpAny_newFunctionEnv_cells S.kind hkind fun env he s1 x=>?_
 subst he
 refine⟨lim.keeps x.toInCall.keep,codeAny_func ?_⟩
 obtain⟨t,ht,hq⟩:=hbody A outer s H vs Q E (hr.deeper _) hsp
 have I:Inv (Z8f CX P w K mg base N qual scope f cdv A outer s H E) [] (start N vs) H s1:=Z7u S hr.hd e0 hl r x
 refine wpAny_mono (ht [] s1 (start N vs) H _ I hq) (fun fl s' hs=>?_) fun e s' hs=>hs
 have fin:∀ {σ':St} {H':Hp} {v:V} {u:Value},Inv (Z8f CX P w K mg base N qual scope f cdv A outer s H E) [] σ' H' s'->RelV v u->Q v H'->CE outer P w H s Q u s' :=
  fun{σ' H' v u} J rv q=>⟨v,H',J.os,J.bare,J.base,J.hok,rv,q⟩
 cases fl with
 |ret u =>
  obtain⟨v,σ',H',J,rv,q⟩:=hs
  exact fin J rv q
 |next =>
  obtain⟨σ',H',J,q⟩:=hs
  exact fin (v:=V.non) (u:=Value.none) J rfl q
 |brk =>
  obtain⟨_,_,_,q⟩:=hs
  exact False.elim q
 |cont =>
  obtain⟨_,_,_,q⟩:=hs
  exact False.elim q
section
variable{X:Cx}{x:Str}{p pos:Pos}{e:Expr}{es:List Expr}{t:TA}{id T:String}{r:List V->Hp->VK->Prop}
def Zgl(r:List V->Hp->VK->Prop)(t:TA):TE:=fun σ H Q=>t σ H fun vs H1=>r vs H1 Q
theorem Zx(hc:Vu X (.builtin id) r)(hg:Gl X x)(hm:X.mg x=none)(hv:bootBuiltins x=some (.builtin id))(ha:PA X (e::es) t)(hn:x≠"__name__":=by decide)(hdb:(x==("__debug__":Str))=false:=by decide)
  (he:starEach (e::es) X.env=(false,eval e X.env)::starEach es X.env:=by rfl) (hpl:(backTo pos (starEach es X.env)).any (·.1)=false:=by rfl):PE X (.Call (.Name x p) (e::es) [] pos) (Zgl r t):=by
 intro Z4 s σ H Q I h
 refine wpAny_Call_Name_kw (Z1a I hg hm hv ?_ hn hdb)
 exact PyProof.Rows.callWith_builtin1 (Xt (ha pos Z4 s σ H _ I h) fun us s1 ⟨vs,H1,I1,r1,q1⟩=>hc Z4 s1 σ H1 vs us Q I1 r1 q1) he hpl
theorem Zw(hc:Vu X (.type T) r)(hg:Gl X x)(hm:X.mg x=none)(hv:bootBuiltins x=some (.type T))(ha:PA X (e::es) t)(hn:x≠"__name__":=by decide)(hdb:(x==("__debug__":Str))=false:=by decide)
  (he:starEach (e::es) X.env=(false,eval e X.env)::starEach es X.env:=by rfl) (hpl:(backTo pos (starEach es X.env)).any (·.1)=false:=by rfl):PE X (.Call (.Name x p) (e::es) [] pos) (Zgl r t):=by
 intro Z4 s σ H Q I h
 refine wpAny_Call_Name_kw (Z1a I hg hm hv ?_ hn hdb)
 exact PyProof.Rows.callWith_type1 (Xt (ha pos Z4 s σ H _ I h) fun us s1 ⟨vs,H1,I1,r1,q1⟩=>hc Z4 s1 σ H1 vs us Q I1 r1 q1) he hpl
end
end L2
namespace HT
open PySem PyProof.Rows
section
open PySem.SeqAt
open PySem.AutoSeq1 (wpAny_loadPart')
open PySem.MeetsSeq PySem.MeetsSeq2 PySem.MeetsSeq3
end
section
variable{prog:Program}{w:World}{A:Around}{E:Value->Shared->Prop}{s:Shared}
def sIx(n d:Nat):Option Int->Nat
 |none=>d
 |some v=>if v<0 then(v+(n:Int)).toNat else min v.toNat n
theorem sIx_none(n d:Nat):sIx n d none=d:=rfl
theorem sIx_nat(n d k:Nat):sIx n d (some (k:Int))=min k n:=by
 show(if(k:Int)<0 then((k:Int)+(n:Int)).toNat else min (k:Int).toNat n)=min k n
 rw[if_neg (by omega),Int.toNat_natCast]
theorem Zcs(n d:Nat)(hd:d<=n)(o:Option Int):sIx n d o<=n:=by
 cases o with
 |none=>exact hd
 |some v =>
  show(if v<0 then(v+(n:Int)).toNat else min v.toNat n)<=n
  by_cases hv:v<0
  ·rw[if_pos hv];omega
  ·rw[if_neg hv];exact Nat.min_le_right _ _
theorem Z6y(v:Int)(n d:Nat):(if v<0 then max (v+(n:Int)) 0 else min v (n:Int))=((sIx n d (some v):Nat):Int):=by
 show(if v<0 then max (v+(n:Int)) 0 else min v (n:Int))=(((if v<0 then(v+(n:Int)).toNat else min v.toNat n):Nat):Int)
 by_cases hv:v<0
 ·simp only[if_pos hv];omega
 ·simp only[if_neg hv];omega
theorem Z5q(lo hi:Option Int)(n:Nat):Builtin.Slice.sliceAdjust lo hi 1 (n:Int)=(((sIx n 0 lo:Nat):Int),((sIx n n hi:Nat):Int)):=by
 have h1:¬((1:Int)<0):=by omega
 unfold Builtin.Slice.sliceAdjust
 simp only[h1,if_false]
 refine Prod.ext ?_ ?_
 ·cases lo with
  |none=>rfl
  |some v=>exact Z6y v n 0
 ·cases hi with
  |none=>rfl
  |some v=>exact Z6y v n n
theorem Z5b(i j:Nat):Builtin.Slice.slicePlaces (i:Int) (j:Int) 1=j-i:=by
 unfold Builtin.Slice.slicePlaces
 have h1:(1:Int)>0:=by omega
 simp only[h1,if_true,Int.ediv_one]
 split <;> omega
theorem Z0m{v:Value}{o:Option Int}{Q:Option Int->Shared->Prop}(p:IsPart v o)(h:Q o s):wpAny (model prog w) A (Builtin.Slice.slicePartIndex v) Q E s:=by
 cases p with
 |none=>exact slicePart_none h
 |int i t=>exact slicePart_int h
theorem J8{sl:Addr}{vl vu:Value}{lo hi:Option Int}{n:Nat}{Q:Int×Int×Nat->Shared->Prop}(hs:s.heap.IsSliceOf sl vl vu .none)(pl:IsPart vl lo)(pu:IsPart vu hi)
  (h:Q (((sIx n 0 lo:Nat):Int),1,sIx n n hi-sIx n 0 lo) s):wpAny (model prog w) A (Builtin.Slice.sliceApplied (.ref sl) (pure (n:Int))) Q E s:=by
 obtain⟨os,hos,hcs,hds⟩:=id hs
 unfold Builtin.Slice.sliceApplied Builtin.Slice.sliceFields
 refine wpAny_bind (wpAny_bind (wpAny_field hos hds (x:=vl) rfl (wpAny_bind (wpAny_field hos hds (x:=vu) rfl (wpAny_bind (wpAny_field hos hds (x:=.none) rfl (wpAny_pure ?_)))))))
 refine wpAny_bind (slicePart_none ?_)
 show wpAny _ _ (if((1:Int)==0)=true then _ else _) _ _ s
 rw[if_neg (by decide)]
 refine wpAny_bind (Z0m pl (wpAny_bind (Z0m pu (wpAny_bind (wpAny_pure ?_)))))
 show wpAny _ _ (match Builtin.Slice.sliceAdjust lo hi 1 (n:Int) with | (lo,hi)=>pure (lo,(1:Int),Builtin.Slice.slicePlaces lo hi 1)) _ _ s
 rw[Z5q lo hi n]
 show wpAny _ _ (pure (((sIx n 0 lo:Nat):Int),(1:Int),Builtin.Slice.slicePlaces ((sIx n 0 lo:Nat):Int) ((sIx n n hi:Nat):Int) 1)) _ _ s
 rw[Z5b]
 exact wpAny_pure h
theorem Z8t(xs:Array Value)(i k:Nat):((List.range k).filterMap fun(m:Nat)=>xs[((i:Int)+(m:Int)*1).toNat]?).toArray=((xs.toList.drop i).take k).toArray:=by
 have e:(fun(m:Nat)=>xs[((i:Int)+(m:Int)*1).toNat]?)=fun m=>xs[i+m]?:=by
  funext m
  have:((i:Int)+(m:Int)*1).toNat=i+m:=by omega
  rw[this]
 rw[e]
 have:=pick_run xs i k
 rw[List.filterMap_map]at this
 have e2:((fun x=>xs[x]?) ∘ fun x=>i+x)=fun m=>xs[i+m]?:=rfl
 rw[e2]at this
 rw[this]
theorem getItem_tuple_cut{t sl:Addr}{items:Array Value}{vl vu:Value}{lo hi:Option Int}{Q:Value->Shared->Prop}(ht:IsTup s.heap t items)(hs:s.heap.IsSliceOf sl vl vu .none)(pl:IsPart vl lo)(pu:IsPart vu hi)
  (hw:¬(sIx items.size 0 lo=0/\sIx items.size items.size hi=items.size))
  (h:Q (.ref s.heap.objs.size) { s with heap:=s.heap.push { cls:=.type "tuple",data:=.seq ((items.toList.drop (sIx items.size 0 lo)).take (sIx items.size items.size hi-sIx items.size 0 lo)).toArray } })
  (hsz:items.size<=sizeLine):wpAny (model prog w) A (getItem (.ref t) (.ref sl)) Q E s:=by
 have htake:sizeOk (.seq ((items.toList.drop (sIx items.size 0 lo)).take (sIx items.size items.size hi-sIx items.size 0 lo)).toArray):=by
  show((items.toList.drop (sIx items.size 0 lo)).take (sIx items.size items.size hi-sIx items.size 0 lo)).toArray.size<=sizeLine
  rw[List.size_toArray,List.length_take,List.length_drop,Array.length_toList]
  omega
 have hj:sIx items.size items.size hi<=items.size:=Zcs _ _ (Nat.le_refl _) hi
 obtain⟨os,hos,hcs,hds⟩:=id hs
 have hTs:s.TypeIs (.ref sl) "slice":=⟨os,hos,hcs⟩
 unfold getItem
 try with_reducible refine wpAny_holding ?_
 first | refine wpAny_bind (wpAny_pure ?_) | skip
 refine wpAny_bind (wpAny_sequenceKey ht.typeIs (by decide) ?_)
 refine wpAny_bind (wpAny_callSpecial?_slot (name:=Str.ofString "__getitem__") ht.typeIs PyProof.Rows.slot_tuple_getitem
  (wpAny_call_entry PyProof.Rows.slot_tuple_getitem ht.typeIs entry_tuple_getitem ?_ (args_tuple_getitem _ _)))
 show wpAny _ _ (Builtin.Tuple.tupleItemsOf (.ref t) >>= _) _ _ s
 refine wpAny_bind (tupleItemsOf_ ht ?_)
 refine wpAny_bind (wpAny_typeOf hTs ?_)
 rw[if_pos (by decide)]
 refine wpAny_bind (J8 hs pl pu ?_)
 have hno:¬((((sIx items.size 0 lo:Nat):Int)==0&&(1:Int)==1&&(sIx items.size items.size hi-sIx items.size 0 lo)==items.size)=true):=by
  intro q
  rw[Bool.and_eq_true,Bool.and_eq_true]at q
  have q1:((sIx items.size 0 lo:Nat):Int)=0:=eq_of_beq q.1.1
  have q2:sIx items.size items.size hi-sIx items.size 0 lo=items.size:=eq_of_beq q.2
  exact hw ⟨by omega,by omega⟩
 show wpAny _ _ (if(((sIx items.size 0 lo:Nat):Int)==0&&(1:Int)==1&&(sIx items.size items.size hi-sIx items.size 0 lo)==items.size)=true then _ else _) _ _ s
 rw[if_neg hno,Z8t]
 first
  |exact wpAny_bind (m:=Builtin.Tuple.tupleExact _) (wpAny_newObj_type (wpAny_pure ⟨_,rfl,wpAny_pure h⟩) htake)
  |exact wpAny_bind (m:=Builtin.Tuple.tupleExact _) (wpAny_newObj_type (wpAny_bind (wpAny_pure (wpAny_pure ⟨_,rfl,wpAny_pure h⟩))) htake)
  |exact wpAny_bind (wpAny_bind (m:=Builtin.Tuple.tupleExact _) (wpAny_newObj_type (wpAny_pure (wpAny_pure ⟨_,rfl,wpAny_pure h⟩)) htake))
  |exact wpAny_bind (wpAny_bind (m:=Builtin.Tuple.tupleExact _) (wpAny_newObj_type (wpAny_pure ⟨_,rfl,wpAny_pure h⟩) htake))
end
end HT
namespace L2
open PySem PySem.Spec PyProof.Rows
abbrev TO:=St->Hp->(Option Int->Hp->Prop)->Prop
def PO(X:Cx)(e:Option Expr)(t:TO):Prop :=
 ∀(Z4:List (Addr×Obj)) (s:Shared) (σ:St) (H:Hp) (Q:Option Int->Hp->Prop),Inv X Z4 σ H s->t σ H Q ->
  wpAny (model X.prog X.w) X.A (evalPart e X.env) (fun u s'=>∃o H',Inv X Z4 σ H' s'/\IsPart u o/\Q o H') X.xe s
def J1:TO:=fun _ H Q=>Q none H
def Z4x(t:TE):TO:=fun σ H Q=>t σ H fun x H1=>∃i,x=.int i/\Q (some i) H1
section
variable{X:Cx}{e:Expr}{te:TE}{lo hi:Option Expr}{tl th:TO}{pos p2:Pos}
theorem J4:PO X none J1:=by
 intro Z4 s σ H Q I h
 rw[evalPart_none]
 exact wpAny_pure ⟨none,H,I,.none,h⟩
theorem Ua(h:PE X e te):PO X (some e) (Z4x te):=by
 intro Z4 s σ H Q I hw
 rw[evalPart_some]
 refine Xt (h Z4 s σ H _ I hw) fun u s1 ⟨x,H1,I1,r1,q1⟩=>?_
 obtain⟨i,rfl,q⟩:=q1
 obtain⟨t,rfl⟩:=r1
 exact⟨some i,H1,I1,.int i t,q⟩
def Zgp(X:Cx)(r:V->Option Int->Option Int->Hp->VK->Prop):Prop :=
 ∀(Z4:List (Addr×Obj)) (s:Shared) (σ:St) (H:Hp) (x:V) (v vl vu:Value) (lo hi:Option Int) (sl:Addr) (Q:VK),Inv X Z4 σ H s->RelV x v->s.heap.IsSliceOf sl vl vu .none->IsPart vl lo->IsPart vu hi->r x lo hi H Q ->
  ∃T id,typeLookup (.type T) "__getitem__" = pure (some (.builtin id))/\s.TypeIs v T/\wpAny (model X.prog X.w) X.A (getItem v (.ref sl)) (EP X Z4 σ Q) X.xe s
def Zgd(r:V->Option Int->Option Int->Hp->VK->Prop)(te:TE)(tl th:TO):TE:=fun σ H Q=>te σ H fun x H1=>tl σ H1 fun l H2=>th σ H2 fun u H3=>r x l u H3 Q
theorem U2{r:V->Option Int->Option Int->Hp->VK->Prop}(hr:Zgp X r)(he:PE X e te)(hl:PO X lo tl)(hu:PO X hi th):PE X (.Subscript e (.Slice lo hi none p2) pos) (Zgd r te tl th):=by
 intro Z4 s σ H Q I h
 refine Subscript_ (Xt (he Z4 s σ H _ I h) fun v s1 ⟨x,H1,I1,r1,q1⟩=>?_)
 refine wpAny_Slice (Xt (hl Z4 s1 σ H1 _ I1 q1) fun vl s2 ⟨l,H2,I2,pl,q2⟩=>Xt (hu Z4 s2 σ H2 _ I2 q2) fun vu s3 ⟨u,H3,I3,pu,q3⟩=>?_)
 rw[evalPart_none]
 refine wpAny_pure ?_
 have I4:Inv X Z4 σ H3 { s3 with heap:=s3.heap.push { cls:=.type "slice",data:=.fields #[vl,vu,.none] } }:=I3.kept (t':=s3.toks) fun b ob q=>Heap.get?_push_of_some _ q
 obtain⟨T,id,hT,ht,hg⟩:=hr Z4 { s3 with heap:=s3.heap.push { cls:=.type "slice",data:=.fields #[vl,vu,.none] } } σ H3 x v vl vu l u s3.heap.objs.size Q I4 r1 (Heap.IsSliceOf.new ..) pl pu q3
 show wpAny (model X.prog X.w) X.A (subscriptTail e (.Slice lo hi none p2) v (.ref s3.heap.objs.size)) (EP X Z4 σ Q) X.xe { s3 with heap:=s3.heap.push { cls:=.type "slice",data:=.fields #[vl,vu,.none] } }
 exact tail_any (ops:=[.ref s3.heap.objs.size,v]) ht hT hg (by with_unfolding_all rfl)
def Vp(xs:List V)(lo hi:Option Int):List V:=(xs.drop (HT.sIx xs.length 0 lo)).take (HT.sIx xs.length xs.length hi-HT.sIx xs.length 0 lo)
theorem Vm(xs:List V)(lo hi:Option Int):(Vp xs lo hi).length<=xs.length:=by
 unfold Vp
 rw[List.length_take,List.length_drop]
 omega
def Zah(K:W.Frag):V->Option Int->Option Int->Hp->VK->Prop:=fun x lo hi H Q=>∃a xs,x=.ref a/\SqT K H a xs /\
 ¬(HT.sIx xs.length 0 lo=0/\HT.sIx xs.length xs.length hi=xs.length)/\∀p,H p=none->Q (.ref p) (Y2 H p (.tup (Vp xs lo hi)))
theorem Z9p:Zgp X (Zah X.K):=by
 intro Z4 s σ H x v vl vu lo hi sl Q I rx hs pl pu h
 obtain⟨a,xs,rfl,hx,hw,q⟩:=h
 cases rx
 obtain⟨its,r,ht,hz⟩:=I.tuple hx
 have hlen:its.toArray.size=xs.length:=by rw[List.size_toArray];exact r.length.symm
 refine⟨"tuple",_,PyProof.Rows.slot_tuple_getitem.lookup,ht.typeIs,?_⟩
 refine HT.getItem_tuple_cut ht hs pl pu (by rw[hlen];exact hw) ?_ (by rw[hlen];exact hz)
 rw[hlen]
 refine⟨.ref s.heap.objs.size,_,I.laid (t':=s.toks) (o:=.tup (Vp xs lo hi)) (fun b ob q=>Heap.get?_push_of_some _ q) (Nat.le_refl _) ?_,rfl,q _ (I.hok.fresh (Nat.le_refl _))⟩
 exact⟨Nat.le_trans (Vm xs lo hi) hz,_,(r.drop (HT.sIx xs.length 0 lo)).take (HT.sIx xs.length xs.length hi-HT.sIx xs.length 0 lo),IsTup.new _ _⟩
end
def Zel(n:Nat)(i:Int):Option Nat:=if 0<=i then(if i<n then some i.toNat else none) else if -(n:Int)<=i then some (i+n).toNat else none
def Z89{α:Type}(xs:List α)(i:Int):Option α:=(Zel xs.length i).bind fun j=>xs[j]?
theorem Z6u{n:Nat}{i:Int}{j:Nat}(h:Zel n i=some j):seqIndex? i n=some j/\j<n/\-(n:Int)<=i/\i<n:=by
 unfold Zel at h
 by_cases h0:0<=i
 ·rw[if_pos h0]at h
  by_cases h1:i<n
  ·rw[if_pos h1]at h
   have e:i.toNat=j:=Option.some.inj h
   exact⟨by rw[seqIndex_of h0 h1,e],by omega,by omega,h1⟩
  ·rw[if_neg h1]at h;cases h
 ·rw[if_neg h0]at h
  by_cases h1:-(n:Int)<=i
  ·rw[if_pos h1]at h
   have e:(i+n).toNat=j:=Option.some.inj h
   exact⟨by rw[seqIndex_neg (by omega) h1,e],by omega,h1,by omega⟩
  ·rw[if_neg h1]at h;cases h
theorem Z36{α:Type}{xs:List α}{i:Int}{v:α}(h:Z89 xs i=some v):∃j,seqIndex? i xs.length=some j/\xs[j]? = some v/\j<xs.length/\-(xs.length:Int)<=i/\i<xs.length:=by
 unfold Z89 at h
 cases e:Zel xs.length i with
 |none=>rw[e]at h;cases h
 |some j =>
  rw[e]at h
  obtain⟨h1,h2,h3,h4⟩:=Z6u e
  exact⟨j,h1,h,h2,h3,h4⟩
theorem Z0b{α:Type}{xs:List α}{j:Nat}{v:α}(h:xs[j]? = some v):Z89 xs (j:Int)=some v:=by
 have hj:j<xs.length:=(List.getElem?_eq_some_iff.mp h).1
 have e:Zel xs.length (j:Int)=some j:=by
  unfold Zel
  rw[if_pos (by omega),if_pos (by omega)];simp
 unfold Z89;rw[e];exact h
def Zbx(b:Expr):Prop:=∀o i,subscripted b false o i=operate [o,i] (getItem o i)
def Zgs(X:Cx)(r:R2):Prop :=
 ∀(value slice:Expr) (Z4:List (Addr×Obj)) (s:Shared) (σ:St) (H:Hp) (x y:V) (v u:Value) (Q:VK),Inv X Z4 σ H s->RelV x v->RelV y u->r x y H Q ->
  subscripted slice false v u=operate [v,u] (getItem v u)->wpAny (model X.prog X.w) X.A (subscriptTail value slice v u) (EP X Z4 σ Q) X.xe s
def Zht(X:Cx)(id:String)(r:V->List V->Hp->VK->Prop):Prop :=
 ∀(Z4:List (Addr×Obj)) (s:Shared) (σ:St) (H:Hp) (x:V) (xs:List V) (v:Value) (us:List Value) (Q:VK),Inv X Z4 σ H s->RelV x v->Vals xs us->r x xs H Q ->
  wpAny (model X.prog X.w) X.A (call (.builtin id) (v::us)) (EP X Z4 σ Q) X.xe s
section
variable{X:Cx}{a b:Expr}{ta tb:TE}{pos:Pos}
theorem Zo{r:R2}(hr:Zgs X r)(ha:PE X a ta)(hb:PE X b tb)(hs:Zbx b):PE X (.Subscript a b pos) (Te r ta tb):=by
 intro Z4 s σ H Q I h
 exact Subscript_ (Zf1 ha hb I h fun v u s2 x y H2 I2 rx ry q=>hr a b Z4 s2 σ H2 x y v u Q I2 rx ry q (hs _ _))
def Z71(K:W.Frag):R2:=fun x y H Q=>∃p xs i v,x=.ref p/\y=.int i/\SqL K H p xs/\Z89 xs i=some v/\Q v H
def Z05(K:W.Frag):R2:=fun x y H Q=>∃p xs i v,x=.ref p/\y=.int i/\SqT K H p xs/\Z89 xs i=some v/\Q v H
def Zh6:R2:=fun x y H Q=>∃z i c,x=.str z/\y=.int i/\z.length<=sizeLine/\Z89 z.cps.toList i=some c/\Q (.str ⟨#[c]⟩) H
theorem Y0:Zgs X (Z71 X.K):=by
 intro value slice Z4 s σ H x y v u Q I rx ry h hs
 obtain⟨p,xs,i,z,rfl,rfl,hq,he,q⟩:=h
 cases rx
 obtain⟨t,rfl⟩:=ry
 obtain⟨its,r,pl,hz⟩:=I.list hq
 obtain⟨j,h1,h2,h3,h4,h5⟩:=Z36 he
 obtain⟨w,ew,rw'⟩:=r.get h2
 have hl:=r.length
 have hn:=Z19
 have fin:EP X Z4 σ Q w s:=⟨z,H,I,rw',q⟩
 by_cases h0:0<=i
 ·have hj:i.toNat=j:=by
   rw[seqIndex_of h0 h5]at h1
   exact Option.some.inj h1
  exact item_listR pl.isList h0 (by omega) (by rw[hj];simpa using ew) fin hs
 ·have hj:(i+(its.toArray.size:Int)).toNat=j:=by
   rw[seqIndex_neg (by omega) h4]at h1
   rw[List.size_toArray,← hl]
   exact Option.some.inj h1
  exact subscriptTail_builtinR (x:=w) pl.isList.typeIs slot_list_getitem.lookup
   (wpAny_getItem_list_neg (Q:=fun r s'=>r=w/\EP X Z4 σ Q r s') pl.isList (by omega) (by rw[List.size_toArray] <;> omega) (by omega) (by rw[hj];simpa using ew) ⟨rfl,fin⟩) hs
theorem Zt:Zgs X (Z05 X.K):=by
 intro value slice Z4 s σ H x y v u Q I rx ry h hs
 obtain⟨p,xs,i,z,rfl,rfl,hq,he,q⟩:=h
 cases rx
 obtain⟨t,rfl⟩:=ry
 obtain⟨its,r,pl,hz⟩:=I.tuple hq
 obtain⟨j,h1,h2,h3,h4,h5⟩:=Z36 he
 obtain⟨w,ew,rw'⟩:=r.get h2
 have hl:=r.length
 have hn:=Z19
 have fin:EP X Z4 σ Q w s:=⟨z,H,I,rw',q⟩
 exact subscriptTail_builtinR (x:=w) pl.typeIs slot_tuple_getitem.lookup
  (getItem_tuple (j:=j) (Q:=fun r s'=>r=w/\EP X Z4 σ Q r s') pl (by omega) (by omega) (by rw[List.size_toArray,← hl];exact h1) (by simpa using ew) ⟨rfl,fin⟩) hs
theorem Z6d:Zgs X Zh6:=by
 intro value slice Z4 s σ H x y v u Q I rx ry h hs
 obtain⟨z,i,c,rfl,rfl,hz,he,q⟩:=h
 obtain⟨t,rfl⟩:=rx
 obtain⟨t',rfl⟩:=ry
 obtain⟨j,h1,h2,h3,h4,h5⟩:=Z36 he
 have hl:z.cps.toList.length=z.length:=by simp[Str.length]
 rw[hl]at h1 h4 h5
 have hn:=Z19
 exact tail_any (typeIs_str s z t) slot_str_getitem.lookup (getItem_str (c:=c) (by
  have e1:decide (i < -(2 ^ 63:Int))=false:=decide_eq_false (by omega)
  have e2:decide (i≥2 ^ 63)=false:=decide_eq_false (by omega)
  rw[e1,e2,Bool.or_false]) (by rw[h1];simpa using h2) ⟨.str ⟨#[c]⟩,H,I.tok _,⟨_,rfl⟩,q⟩) hs
theorem Z5g(its:List Value)(n j:Nat)(u:Value):Obj.mapSeq (·.setIfInBounds j u) { cls:=.type "list",data:=.seq its.toArray n } = { cls:=.type "list",data:=.seq (its.set j u).toArray n }:=by
 simp[Obj.mapSeq]
theorem Inv.lst{Z4:List (Addr×Obj)}{σ:St}{H:Hp}{s:Shared}{p:Addr}{xs:List V}(I:Inv X Z4 σ H s)(h:H p=some (.lst xs)) :
  ∃(its:List Value) (n:Nat),Vals xs its/\s.heap.get? p=some { cls:=.type "list",data:=.seq its.toArray n }/\xs.length<=sizeLine:=by
 obtain⟨z,its,n,r,e⟩:=I.hok p _ h
 exact⟨its,n,r,e,z⟩
theorem Inv.lstUpd{Z4:List (Addr×Obj)}{σ:St}{H:Hp}{s:Shared}{p:Addr}{xs ys:List V}{its its':List Value}{n n':Nat}{f:Obj->Obj}(I:Inv X Z4 σ H s)(h:H p=some (.lst xs))
  (ho:s.heap.get? p=some { cls:=.type "list",data:=.seq its.toArray n }) (hf:f { cls:=.type "list",data:=.seq its.toArray n } = { cls:=.type "list",data:=.seq its'.toArray n' }) (r:Vals ys its') (hz:ys.length<=sizeLine) (t:Nat) :
  Inv X Z4 σ (Y2 H p (.lst ys)) { s with heap:=s.heap.update p f,toks:=t }:=by
 have e:(s.heap.update p f).get? p=some { cls:=.type "list",data:=.seq its'.toArray n' }:=by
  rw[Heap.get?_update_self f ho (by rw[hf] <;> rfl),hf]
 refine I.write (x:=p) (e:=p) (by rw[h];trivial) (.inl rfl) (fun b u hb q=>(Heap.get?_update_other _ _ (Ne.symm hb)).trans q) ⟨_,e⟩ ?_
 exact⟨hz,its',n',r,e⟩
def Zfi:V->V->V->Hp->(Hp->Prop)->Prop:=fun o i v H Q=>∃p xs k j,o=.ref p/\i=.int k/\H p=some (.lst xs)/\Zel xs.length k=some j/\Q (Y2 H p (.lst (xs.set j v)))
theorem Z0w:Zg9 X Zfi:=by
 intro Z4 s σ H o i v ov iv u Q I ro ri rv h
 obtain⟨p,xs,k,j,rfl,rfl,hp,hj,q⟩:=h
 cases ro
 obtain⟨t,rfl⟩:=ri
 obtain⟨its,n,r,ho,hz⟩:=I.lst hp
 obtain⟨h1,h2,h3,h4⟩:=Z6u hj
 have hl:=r.length
 have hn:=Z19
 have I':Inv X Z4 σ (Y2 H p (.lst (xs.set j v))) { s with heap:=s.heap.update p (Obj.mapSeq (·.setIfInBounds j u)) } :=
  I.lstUpd hp ho (Z5g its n j u) (r.set rv j) (by rw[List.length_set];exact hz) s.toks
 by_cases h0:0<=k
 ·have hk:k.toNat=j:=by
   rw[seqIndex_of h0 h4]at h1
   exact Option.some.inj h1
  exact W.ki_setAt ho h0 (by omega) (by rw[List.size_toArray,← hl];exact h4) (by rw[hk];exact⟨_,I',q⟩)
 ·have hk:(k+(its.toArray.size:Int)).toNat=j:=by
   rw[seqIndex_neg (by omega) h3]at h1
   rw[List.size_toArray,← hl]
   exact Option.some.inj h1
  exact W.ki_setBack ho (by omega) (by rw[List.size_toArray,← hl];exact h3) (by omega) (by rw[hk];exact⟨_,I',q⟩)
theorem Z2b(lo hi:Option Int)(n:Nat):(sliceBounds lo hi none n).1=((HT.sIx n 0 lo:Nat):Int)/\(sliceBounds lo hi none n).2.1=((HT.sIx n n hi:Nat):Int)/\(sliceBounds lo hi none n).2.2=1:=by
 refine⟨?_,?_,rfl⟩
 ·cases lo with
  |none=>simp[sliceBounds,HT.sIx]
  |some i =>
   simp only[sliceBounds,HT.sIx,Option.getD_none,show(1:Int)>0 by decide,if_true]
   by_cases h:i<0
   ·simp only[h,if_true] <;> omega
   ·simp only[h,if_false] <;> omega
 ·cases hi with
  |none=>simp[sliceBounds,HT.sIx]
  |some i =>
   simp only[sliceBounds,HT.sIx,Option.getD_none,show(1:Int)>0 by decide,if_true]
   by_cases h:i<0
   ·simp only[h,if_true] <;> omega
   ·simp only[h,if_false] <;> omega
theorem Z1j(its:List Value)(lo hi:Option Int):slicePick its.toArray lo hi none=((its.drop (HT.sIx its.length 0 lo)).take (HT.sIx its.length its.length hi-HT.sIx its.length 0 lo)).toArray:=by
 obtain⟨h1,h2,h3⟩:=Z2b lo hi its.toArray.size
 unfold slicePick
 rw[h1,h2,h3]
 simp only[sliceRange_one,pick_run,List.size_toArray] <;> rfl
def Zh5(K:W.Frag):V->Option Int->Option Int->Hp->VK->Prop:=fun x lo hi H Q=>∃a xs,x=.ref a/\SqL K H a xs/\∀p,H p=none->Q (.ref p) (Y2 H p (.lst (Vp xs lo hi)))
theorem Z2y:Zgp X (Zh5 X.K):=by
 intro Z4 s σ H x v vl vu lo hi sl Q I rx hs pl pu h
 obtain⟨a,xs,rfl,hx,q⟩:=h
 cases rx
 obtain⟨its,r,ht,hz⟩:=I.list hx
 have hlen:=r.length
 refine⟨"list",_,slot_list_getitem.lookup,ht.isList.typeIs,?_⟩
 refine wpAny_getItem_list_slice ht.isList hs pl pu .none (by simp) ?_ (by rw[List.size_toArray] <;> omega)
 rw[Z1j,← hlen]
 refine⟨.ref s.heap.objs.size,_,I.laid (t':=s.toks) (o:=.lst (Vp xs lo hi)) (fun b ob q=>Heap.get?_push_of_some _ q) (Nat.le_refl _) ?_,rfl,q _ (I.hok.fresh (Nat.le_refl _))⟩
 exact⟨Nat.le_trans (Vm xs lo hi) hz,_,0,(r.drop (HT.sIx xs.length 0 lo)).take (HT.sIx xs.length xs.length hi-HT.sIx xs.length 0 lo),Heap.get?_push_size _ rfl⟩
def Jd:V->Bool
 |.non=>true
 |.bl _=>true
 |.int _=>true
 |.str _=>true
 |_=>false
def Zem:V->V->Bool
 |.non,.non=>true
 |.bl a,.bl b=>a==b
 |.bl a,.int b=>(if a then 1 else 0)==b
 |.int a,.bl b=>a==(if b then 1 else 0)
 |.int a,.int b=>a==b
 |.str a,.str b=>a==b
 |_,_=>false
theorem Zec{A:Around}{s:Shared}{y x:V}{u v:Value}(ry:RelV y u)(rx:RelV x v)(fy:Jd y=true)(fx:Jd x=true):SeqAt.EqAt A s u v (Zem y x):=by
 cases y with
 |non =>
  cases ry
  cases x with
  |non=>cases rx;exact SeqAt.EqAt.same _
  |bl b=>cases rx;exact SeqAt.EqAt.none_bool b
  |int b=>obtain⟨t,rfl⟩:=rx;exact SeqAt.EqAt.none_int b t
  |str b=>obtain⟨t,rfl⟩:=rx;exact SeqAt.EqAt.none_str b t
  |_=>exact absurd (show false=true from fx) Bool.false_ne_true
 |bl a =>
  cases ry
  cases x with
  |non=>cases rx;exact SeqAt.EqAt.bool_none a
  |bl b=>cases rx;exact SeqAt.EqAt.bool_bool a b
  |int b=>obtain⟨t,rfl⟩:=rx;exact SeqAt.EqAt.bool_int a b t
  |str b=>obtain⟨t,rfl⟩:=rx;exact SeqAt.EqAt.bool_str a b t
  |_=>exact absurd (show false=true from fx) Bool.false_ne_true
 |int a =>
  obtain⟨t',rfl⟩:=ry
  cases x with
  |non=>cases rx;exact SeqAt.EqAt.int_none a t'
  |bl b=>cases rx;exact SeqAt.EqAt.int_bool a t' b
  |int b=>obtain⟨t,rfl⟩:=rx;exact SeqAt.EqAt.int_int a t' b t
  |str b=>obtain⟨t,rfl⟩:=rx;exact SeqAt.EqAt.int_str a t' b t
  |_=>exact absurd (show false=true from fx) Bool.false_ne_true
 |str a =>
  obtain⟨t',rfl⟩:=ry
  cases x with
  |non=>cases rx;exact SeqAt.EqAt.str_none a t'
  |bl b=>cases rx;exact SeqAt.EqAt.str_bool a t' b
  |int b=>obtain⟨t,rfl⟩:=rx;exact SeqAt.EqAt.str_int a t' b t
  |str b=>obtain⟨t,rfl⟩:=rx;exact SeqAt.EqAt.str_str a t' b t
  |_=>exact absurd (show false=true from fx) Bool.false_ne_true
 |_=>exact absurd (show false=true from fy) Bool.false_ne_true
def Z9l(x:V)(u:Value):Bool:=match u with
 |.none=>Zem .non x
 |.bool b=>Zem (.bl b) x
 |.int i _=>Zem (.int i) x
 |.str z _=>Zem (.str z) x
 |_=>false
theorem Z9z{x y:V}{u:Value}(r:RelV y u)(f:Jd y=true):Z9l x u=Zem y x:=by
 cases y with
 |non=>cases r;rfl
 |bl b=>cases r;rfl
 |int i=>obtain⟨t,rfl⟩:=r;rfl
 |str z=>obtain⟨t,rfl⟩:=r;rfl
 |_=>exact absurd (show false=true from f) Bool.false_ne_true
theorem J7{x:V}:∀ {xs:List V} {us:List Value},Vals xs us->xs.all Jd=true->us.any (Z9l x)=xs.any fun y=>Zem y x
 |_,_,.nil,_=>rfl
 |y::xs,u::us,.cons r t,f=>by
  rw[List.all_cons,Bool.and_eq_true]at f
  rw[List.any_cons,List.any_cons,Z9z r f.1,J7 t f.2]
theorem Uq{A:Around}{s:Shared}{x:V}{v:Value}(rx:RelV x v)(fx:Jd x=true):∀ {xs:List V} {us:List Value},Vals xs us->xs.all Jd=true->∀u∈us,SeqAt.EqAt A s u v (Z9l x u)
 |_,_,.nil,_=>fun u hu=>by cases hu
 |y::xs,u::us,.cons r t,f=>fun u' hu=>by
  rw[List.all_cons,Bool.and_eq_true]at f
  rcases List.mem_cons.mp hu with rfl | hu
  ·rw[Z9z r f.1];exact Zec r rx f.1 fx
  ·exact Uq rx fx t f.2 u' hu
def Z1u(x:V)(xs:List V):Bool:=xs.any fun y=>Zem y x
def Zgm(K:W.Frag)(neg:Bool):R2:=fun x y H Q=>∃p xs,y=.ref p/\(SqL K H p xs∨SqT K H p xs)/\Jd x=true/\xs.all Jd=true/\Q (.bl (if neg then !Z1u x xs else Z1u x xs)) H
theorem U1:Z3l X (compareOp .In) (Zgm X.K false):=by
 intro Z4 s σ H x y v u Q I rx ry h
 obtain⟨p,xs,rfl,hq,fx,fs,q⟩:=h
 cases ry
 rcases hq with hq | hq
 ·obtain⟨its,r,pl,hz⟩:=I.list hq
  refine SeqAt.in_listAt (Z9l x) pl.isList (fun w hw=>Uq rx fx r fs w (by simpa using hw)) ⟨.bl _,H,I,rfl,?_⟩
  rw[show its.toArray.any (Z9l x)=its.any (Z9l x) by simp,J7 r fs]
  exact q
 ·obtain⟨its,r,pl,hz⟩:=I.tuple hq
  refine SeqAt.in_tupleAt (Z9l x) pl (fun w hw=>Uq rx fx r fs w (by simpa using hw)) ⟨.bl _,H,I,rfl,?_⟩
  rw[show its.toArray.any (Z9l x)=its.any (Z9l x) by simp,J7 r fs]
  exact q
theorem Z2g:Z3l X (compareOp .NotIn) (Zgm X.K true):=by
 intro Z4 s σ H x y v u Q I rx ry h
 obtain⟨p,xs,rfl,hq,fx,fs,q⟩:=h
 cases ry
 rcases hq with hq | hq
 ·obtain⟨its,r,pl,hz⟩:=I.list hq
  refine SeqAt.notIn_listAt (Z9l x) pl.isList (fun w hw=>Uq rx fx r fs w (by simpa using hw)) ⟨.bl _,H,I,rfl,?_⟩
  rw[show its.toArray.any (Z9l x)=its.any (Z9l x) by simp,J7 r fs]
  exact q
 ·obtain⟨its,r,pl,hz⟩:=I.tuple hq
  refine SeqAt.notIn_tupleAt (Z9l x) pl (fun w hw=>Uq rx fx r fs w (by simpa using hw)) ⟨.bl _,H,I,rfl,?_⟩
  rw[show its.toArray.any (Z9l x)=its.any (Z9l x) by simp,J7 r fs]
  exact q
theorem Yi:Vu X (.builtin "len") (fun xs H Q=>∃p ys,xs=[.ref p]/\(SqL X.K H p ys∨SqT X.K H p ys)/\Q (.int ys.length) H):=by
 intro Z4 s σ H xs us Q I r h
 obtain⟨p,ys,rfl,hq,q⟩:=h
 obtain⟨u,rfl,rx⟩:=Uj r
 cases rx
 have hn:=Z19
 rcases hq with hq | hq
 ·obtain⟨its,r',pl,hz⟩:=I.list hq
  have hlen:=r'.length
  exact Calls.call_len_list pl.isList (by simp only[List.size_toArray] <;> omega) ⟨.int ys.length,H,I.tok _,⟨s.toks+1,by rw[List.size_toArray,hlen]⟩,q⟩
 ·obtain⟨its,r',pl,hz⟩:=I.tuple hq
  have hlen:=r'.length
  exact len_tuple pl (by simp only[List.size_toArray] <;> omega) ⟨.int ys.length,H,I.tok _,⟨s.toks+1,by rw[List.size_toArray,hlen]⟩,q⟩
theorem Tm:Vu X (.type "list") (fun xs H Q=>∃p ys,xs=[.ref p]/\(SqL X.K H p ys∨SqT X.K H p ys)/\∀l,H l=none->Q (.ref l) (Y2 H l (.lst ys))):=by
 intro Z4 s σ H xs us Q I r h
 obtain⟨p,ys,rfl,hq,q⟩:=h
 obtain⟨u,rfl,rx⟩:=Uj r
 cases rx
 have fin:∀(its:List Value),Vals ys its->ys.length<=sizeLine->∀(h':Heap) (c':Nat),(∀b o',s.heap.get? b=some o'->h'.get? b=some o') ->
   h'.get? s.heap.objs.size=some { cls:=.type "list",dict:=none,data:=.seq its.toArray c',slots:=#[] }->EP X Z4 σ Q (.ref s.heap.objs.size) { s with heap:=h' }:=fun its r' hz h' c' kp e =>
  ⟨.ref s.heap.objs.size,_,I.laid (t':=s.toks) kp (Nat.le_refl _) (show ObjOk X.prog X.w _ h' _ (.lst ys) from⟨hz,its,c',r',e⟩),rfl,q _ (I.hok.fresh (Nat.le_refl _))⟩
 rcases hq with hq | hq
 ·obtain⟨its,r',pl,hz⟩:=I.list hq
  have hlen:=r'.length
  obtain⟨o,ho,hc,n,hd⟩:=pl.isList
  exact call_list_seq p (.inl rfl) ho hc hd (fun h' c' kp e=>fin its r' hz h' c' kp e) (by simp only[List.size_toArray] <;> omega)
 ·obtain⟨its,r',pl,hz⟩:=I.tuple hq
  have hlen:=r'.length
  obtain⟨o,ho,hc,n,hd⟩:=pl
  exact call_list_seq p (.inr rfl) ho hc hd (fun h' c' kp e=>fin its r' hz h' c' kp e) (by simp only[List.size_toArray] <;> omega)
theorem Y3:Vu X (.type "tuple") (fun xs H Q=>∃p ys,xs=[.ref p]/\((SqL X.K H p ys/\∀l,H l=none->Q (.ref l) (Y2 H l (.tup ys)))∨(SqT X.K H p ys/\Q (.ref p) H))):=by
 intro Z4 s σ H xs us Q I r h
 obtain⟨p,ys,rfl,h⟩:=h
 obtain⟨u,rfl,rx⟩:=Uj r
 cases rx
 rcases h with⟨hq,q⟩ | ⟨hq,q⟩
 ·obtain⟨its,r',pl,hz⟩:=I.list hq
  have hlen:=r'.length
  refine call_tuple_list pl.isList (fun h' kp=>?_) (by simp only[List.size_toArray] <;> omega)
  have I1:Inv X Z4 σ H { s with heap:=h' }:=I.kept (t':=s.toks) kp
  have I2:Inv X Z4 σ (Y2 H h'.objs.size (.tup ys)) { s with heap:=h'.push { cls:=.type "tuple",data:=.seq its.toArray } } :=
   I1.laid (t':=s.toks) (fun b o e=>Heap.get?_push_of_some _ e) (Nat.le_refl _) (show ObjOk X.prog X.w _ _ _ (.tup ys) from⟨hz,its,r',IsTup.new _ _⟩)
  exact⟨.ref h'.objs.size,_,I2,rfl,q _ (I1.hok.fresh (Nat.le_refl _))⟩
 ·obtain⟨its,r',pl,hz⟩:=I.tuple hq
  exact call_tuple_same pl ⟨.ref p,H,I,rfl,q⟩
def Zhg(K:W.Frag)(T:String)(x:V)(H:Hp):Prop:=match x with
 |.str _=>T="str"
 |.int _=>T="int"
 |.ref p=>(T="list"/\∃xs,SqL K H p xs)∨(T="tuple"/\∃o,K.lookup p=some o/\o.cls=.type "tuple"/\o.dict=none) ∨
   (T="dict"/\((∃kvs,H p=some (.dK kvs))∨∃kvs,H p=some (.dT kvs)))∨(T="set"/\∃S n,H p=some (.set S n))
 |_=>False
theorem Zcm{Z4:List (Addr×Obj)}{σ:St}{H:Hp}{s:Shared}{T:String}{x:V}{v:Value}(I:Inv X Z4 σ H s)(r:RelV x v)(ty:Zhg X.K T x H) :
  s.TypeIs v T/\∀a,v=.ref a->∃ob,s.heap.get? a=some ob/\ob.dict=none:=by
 cases x with
 |str z =>
  obtain⟨t,rfl⟩:=r
  cases(show T="str" from ty)
  exact⟨typeIs_str s z t,fun _ e=>nomatch e⟩
 |int i =>
  obtain⟨t,rfl⟩:=r
  cases(show T="int" from ty)
  exact⟨typeIs_int s i t,fun _ e=>nomatch e⟩
 |ref p =>
  cases r
  rcases ty with⟨rfl,xs,hq⟩ | ⟨rfl,o,hk,hc,hd⟩ | ⟨rfl,hk⟩ | ⟨rfl,S,n,hk⟩
  ·obtain⟨its,_,pl,_⟩:=I.list hq
   refine⟨pl.isList.typeIs,fun a e=>?_⟩
   cases e
   obtain⟨o,n,e,c,hd,_⟩:=pl
   exact⟨o,e,hd⟩
  ·refine⟨⟨o,I.kIn p o hk,hc⟩,fun a e=>?_⟩
   cases e
   exact⟨o,I.kIn _ o hk,hd⟩
  ·have z:∃o,s.heap.get? p=some o/\o.ExactDict:=by
    rcases hk with⟨kvs,hk⟩ | ⟨kvs,hk⟩
    ·obtain⟨_,_,_,_,o,_,_,e,ex,_⟩:=I.hok p _ hk
     exact⟨o,e,ex⟩
    ·obtain⟨_,_,_,_,o,_,_,e,ex,_⟩:=I.hok p _ hk
     exact⟨o,e,ex⟩
   obtain⟨o,e,ex⟩:=z
   refine⟨⟨o,e,ex.1⟩,fun a e2=>?_⟩
   cases e2
   exact⟨o,e,ex.2.1⟩
  ·obtain⟨o,_,_,_,e,ex,_⟩:=I.hok p _ hk
   refine⟨⟨o,e,ex.1⟩,fun a e2=>?_⟩
   cases e2
   exact⟨o,e,ex.2.1⟩
 |_=>exact False.elim ty
def Zhi(K:W.Frag)(T:String)(r:V->List V->Hp->VK->Prop)(to:TE)(t:TA):TE:=fun σ H Q=>to σ H fun x H1=>Zhg K T x H1/\t σ H1 fun xs H2=>r x xs H2 Q
variable{o e:Expr}{es:List Expr}{to:TE}{t:TA}{name:Str}{apos cpos:Pos}{T id:String}{r:V->List V->Hp->VK->Prop}
theorem V2(pa:PlainAttrs T)(slot:Slot T name id)(hty:typeOf (.builtin id)=pure (.type "method_descriptor"))(hm:Zht X id r)(ho:PE X o to)(ha:PA X (e::es) t)
  (hbase:attributeBase o name X.env (eval o X.env)=eval o X.env:=by rfl)
  (hfew:((backTo cpos (starEach (e::es) X.env)).all (fun x=>!x.1)&&(backToKw cpos (keywordEach [] X.env)).all (fun x=>x.1.isSome)
   && decide ((e::es).length+([]:List Keyword).length+(if([]:List Keyword).isEmpty then 0 else 1)<30))=true:=by rfl)
  (hline:(apos.endLine==cpos.line)=true:=by rfl) (hs:starEach (e::es) X.env=(false,eval e X.env)::starEach es X.env:=by rfl) (hplain:(backTo cpos (starEach es X.env)).any (·.1)=false:=by rfl) :
  PE X (.Call (.Attribute o name apos) (e::es) [] cpos) (Zhi X.K T r to t):=by
 intro Z4 s σ H Q I h
 refine wpAny_Call_method_late hbase hfew hline rfl (Xt (ho Z4 s σ H _ I h) fun v s1 ⟨x,H1,I1,r1,ty,q1⟩=>?_)
 obtain⟨h1,h2⟩:=Zcm I1 r1 ty
 refine⟨T,id,pa,slot,hty,h1,h2,?_⟩
 have hA:=ha cpos Z4 s1 σ H1 _ I1 q1
 rw[hs]at hA ⊢
 refine Calls.callWith_builtin (by show(false||(backTo cpos (starEach es X.env)).any (·.1))=false;rw[hplain] <;> rfl) (Calls.evalArgs_plain ?_)
 exact Xt hA fun us s2 ⟨vs,H2,I2,r2,q2⟩=>hm Z4 s2 σ H2 x vs v us Q I2 r1 r2 q2
end
def Zhn(X:Cx)(id:String)(r:V->List V->Hp->VK->Prop):Prop :=
 ∀(Z4:List (Addr×Obj)) (s:Shared) (σ:St) (H:Hp) (x:V) (xs:List V) (v:Value) (us:List Value) (Q:VK),Inv X Z4 σ H s->RelV x v->Vals xs us->r x xs H Q ->
  wpAny (model X.prog X.w) X.A (call (.builtin id) (v::us)) (EP X Z4 σ Q) X.xe s
theorem Vals.one:∀ {x:V} {us:List Value},Vals [x] us->∃u,us=[u]/\RelV x u
 |_,_,.cons r .nil=>⟨_,rfl,r⟩
theorem Vals.eraseIdx:∀ {xs:List V} {us:List Value} (i:Nat),Vals xs us->Vals (xs.eraseIdx i) (us.eraseIdx i)
 |_,_,_,.nil=>.nil
 |_,_,0,.cons _ t=>t
 |_,_,i+1,.cons r t=>.cons r (Vals.eraseIdx i t)
theorem Z22{α:Type}:∀(l:List α) (i:Nat),(l.eraseIdx i).length<=l.length
 | [],_=>Nat.le_refl _
 |_::_,0=>Nat.le_succ _
 |_::r,i+1=>Nat.succ_le_succ (Z22 r i)
section
variable{X:Cx}{Z4:List (Addr×Obj)}{σ:St}{H:Hp}{s:Shared}{l b:Addr}{xs ys zs:List V}{prog:Program}{w:World}{A:Around}{E:Value->Shared->Prop}
theorem Inv.lset{its its':List Value}{n:Nat}{f:Array Value->Array Value}{t':Nat}(I:Inv X Z4 σ H s)(hH:H l=some (.lst xs))
  (e:s.heap.get? l=some { cls:=.type "list",data:=.seq its.toArray n }) (hf:f its.toArray=its'.toArray) (hv:Vals ys its') (hz:ys.length<=sizeLine) :
  Inv X Z4 σ (Y2 H l (.lst ys)) { s with heap:=s.heap.update l (Obj.mapSeq f),toks:=t' }:=by
 have q:=PySem.IsL.update e f
 rw[hf]at q
 refine I.write (x:=l) (e:=l) (by rw[hH];exact trivial) (.inl rfl) (fun b' u hb hu=>(Heap.get?_update_other s.heap (Obj.mapSeq f) (Ne.symm hb)).trans hu) ⟨_,q⟩ ?_
 exact⟨hz,its',_,hv,q⟩
theorem Inv.lnew{its:List Value}{t':Nat}(I:Inv X Z4 σ H s)(hv:Vals ys its)(hz:ys.length<=sizeLine) :
  Inv X Z4 σ (Y2 H s.heap.objs.size (.lst ys)) { s with heap:=s.heap.push { cls:=.type "list",data:=.seq its.toArray },toks:=t' } :=
 I.laid (fun _ _ q=>Heap.get?_push_of_some _ q) (Nat.le_refl _) ⟨hz,its,0,hv,Heap.get?_push_size _ rfl⟩
theorem Inv.fresh(I:Inv X Z4 σ H s):H s.heap.objs.size=none:=I.hok.fresh (Nat.le_refl _)
theorem Inv.lstM(I:Inv X Z4 σ H s)(hH:H l=some (.lst xs)):xs.length<=sizeLine/\∃(its:List Value) (n:Nat),Vals xs its/\xs.length=its.length/\s.heap.get? l=some { cls:=.type "list",data:=.seq its.toArray n }:=by
 obtain⟨z,its,n,r,e⟩:=I.hok l _ hH
 exact⟨z,its,n,r,r.length,e⟩
theorem Z93{n:Nat}(h:n<=sizeLine):Builtin.List.listTooLong n=false:=by
 unfold Builtin.List.listTooLong
 exact decide_eq_false (by omega)
def Zav:V->List V->Hp->VK->Prop:=fun x vs H Q=>∃l xs y,x=.ref l/\vs=[y]/\H l=some (.lst xs)/\xs.length<sizeLine/\Q .non (Y2 H l (.lst (xs++[y])))
theorem Xb:Zhn X "list.append" Zav:=by
 intro Z4 s σ H x vs v us Q I rx rv h
 obtain⟨l,xs,y,rfl,rfl,hH,hz,q⟩:=h
 cases rx
 obtain⟨u,rfl,ru⟩:=rv.one
 obtain⟨z,its,n,r,hl,e⟩:=I.lstM hH
 refine call_meets F.slot_list_append ⟨_,e,rfl⟩ F.entry_list_append (F.args_list_append_2 _ _) (PySem.list_append l its.toArray n u (by rw[List.size_toArray];omega)) ⟨e,?_⟩
 refine⟨.non,_,I.lset (its':=its++[u]) hH e (by simp) (r.append (.cons ru .nil)) ?_,rfl,q⟩
 rw[List.length_append,List.length_singleton]
 omega
def Zau:V->List V->Hp->VK->Prop:=fun x vs H Q=>∃l b xs zs,x=.ref l/\vs=[.ref b]/\H l=some (.lst xs)/\H b=some (.lst zs)/\xs.length+zs.length<=sizeLine/\Q .non (Y2 H l (.lst (xs++zs)))
theorem mt_extend:Zhn X "list.extend" Zau:=by
 intro Z4 s σ H x vs v us Q I rx rv h
 obtain⟨l,b,xs,zs,rfl,rfl,hH,hB,hz,q⟩:=h
 cases rx
 obtain⟨u,rfl,ru⟩:=rv.one
 cases ru
 obtain⟨z,its,n,r,hl,e⟩:=I.lstM hH
 obtain⟨z2,its2,n2,r2,hl2,e2⟩:=I.lstM hB
 have hsz:its.toArray.size+its2.toArray.size<=sizeLine:=by rw[List.size_toArray,List.size_toArray];omega
 have hlong:¬(!its.toArray.isEmpty&&Builtin.List.listTooLong (its.toArray.size+its2.toArray.size))=true:=by
  rw[Z93 hsz,Bool.and_false]
  exact Bool.false_ne_true
 refine call_meets F.slot_list_extend ⟨_,e,rfl⟩ F.entry_list_extend (F.args_list_extend_2 _ _)
  (AutoSeq1.list_extend_list_list_0 l its.toArray n b its2.toArray n2 hlong (by rw[List.size_toArray];omega) (by omega)) ⟨e,e2,?_⟩
 refine⟨.non,_,I.lset (its':=its++its2) hH e (by simp) (r.append r2) ?_,rfl,q⟩
 rw[List.length_append]
 omega
def Z9q:V->List V->Hp->VK->Prop:=fun x vs H Q=>∃l xs i k y,x=.ref l/\vs=[.int i]/\H l=some (.lst xs)/\-(2 ^ 63)<=i/\i<2 ^ 63/\seqIndex? i xs.length=some k/\xs[k]? = some y/\Q y (Y2 H l (.lst (xs.eraseIdx k)))
theorem Z95:Zhn X "list.pop" Z9q:=by
 intro Z4 s σ H x vs v us Q I rx rv h
 obtain⟨l,xs,i,k,y,rfl,rfl,hH,h1,h2,hk,hy,q⟩:=h
 cases rx
 obtain⟨u,rfl,ru⟩:=rv.one
 obtain⟨t,rfl⟩:=ru
 obtain⟨z,its,n,r,hl,e⟩:=I.lstM hH
 obtain⟨w,hw,rw'⟩:=r.get hy
 refine call_meets F.slot_list_pop ⟨_,e,rfl⟩ F.entry_list_pop (F.args_list_pop_2 _ _)
  (MeetsSeq.list_pop_at l its.toArray n i t k w (fitsIndex_both h1 h2) (by rw[List.size_toArray,← hl];exact hk) (by rw[← Array.getElem?_toList];exact hw) (by rw[List.size_toArray];omega)) ⟨e,?_⟩
 refine⟨y,_,I.lset (its':=its.eraseIdx k) hH e ?_ (r.eraseIdx k) ?_,rw',q⟩
 ·show its.toArray.eraseIdxIfInBounds k=(its.eraseIdx k).toArray
  rw[List.eraseIdxIfInBounds_toArray]
 ·have:=Z22 xs k
  omega
def Zh7:R2:=fun x y H Q=>∃l b xs zs,x=.ref l/\y=.ref b/\H l=some (.lst xs)/\H b=some (.lst zs)/\xs.length+zs.length<=sizeLine/\∀p,H p=none->Q (.ref p) (Y2 H p (.lst (xs++zs)))
theorem Z3g:Z3l X (binaryOp .Add) Zh7:=by
 intro Z4 s σ H x y v u Q I rx ry h
 obtain⟨l,b,xs,zs,rfl,rfl,hH,hB,hz,q⟩:=h
 cases rx
 cases ry
 obtain⟨z,its,n,r,hl,e⟩:=I.lstM hH
 obtain⟨z2,its2,n2,r2,hl2,e2⟩:=I.lstM hB
 refine PySem.P.add_list e e2 ?_ (by rw[List.size_toArray,List.size_toArray];omega)
 have ea:its.toArray++its2.toArray=(its++its2).toArray:=by simp
 rw[ea]
 exact⟨.ref _,_,I.lnew (t':=s.toks) (r.append r2) (by rw[List.length_append];omega),rfl,q _ I.fresh⟩
end
end L2
namespace Att
open PySem PySem.W PySem.Calls PyProof.Rows
theorem Z00{P:Params}{h:Heap}:∀(ns:List Int) (vs:List Value),WellAll P h vs (ns.map WData.int)->IntsAre vs ns:=by
 intro ns
 induction ns with
 |nil =>
  intro vs w
  rw[List.map_nil]at w
  cases w
  exact .nil
 |cons n ns ih =>
  intro vs w
  rw[List.map_cons]at w
  cases w with
  |cons a b =>
   cases a
   exact .cons _ _ (ih _ b)
theorem Z7i{l:OpenLaw}{n:Nat}(hn:l.most=some n){P:Params}{h:Heap}{args:List WData}{vals:List Value}
  (hpre:l.row.toRowW.claim.pre args=true) (hwl:WellAll P h vals args) :
  ∃a vs ns,vals=[Value.ref a]/\args=[WData.list (ns.map WData.int)]/\h.get? a=some { cls:=.type "list",data:=.seq vs.toArray }/\IntsAre vs ns/\ns.length<=n:=by
 have hsh:WShape.hasAll [] args [.list .int]=true:=(pre_splitW hpre).1
 have hc:l.pre.holds [] { args:=args }=true:=(pre_splitW hpre).2
 obtain⟨d,r,rfl,h1,h2⟩:=hasAllW_cons hsh
 obtain rfl:=hasAllW_nil h2
 obtain⟨xs,rfl,h3⟩:=hasW_list h1
 obtain⟨ns,rfl⟩:=items_int h3
 have hlen:ns.length<=n:=by
  unfold OpenLaw.pre at hc
  have h4:(WTm.not (.lt (.lit (.int (n:Int))) (.len (.arg 0)))).holds [] { args:=[.list (ns.map .int)] }=true:=by
   have h4:=(holds_andW hc).1
   rw[hn]at h4
   exact h4
  have h5:=condW_of h4 (w_not (w_lt w_lit (w_len_list (w_arg rfl))))
  rw[List.length_map]at h5
  refine Nat.le_of_not_lt fun q=>?_
  have q':(n:Int)<((ns.length:Nat):Int):=by omega
  first
   |(rw[decide_eq_true q']at h5;exact absurd h5 (by decide))
   |(simp at h5;omega)
 cases hwl with
 |cons w1 w2 =>
  cases w2
  cases w1 with
  |list ho hall=>exact⟨_,_,ns,rfl,rfl,ho,Z00 ns _ hall,hlen⟩
theorem Z7l(l:OpenLaw)(args:List WData):l.row.toRowW.claim.post args (.bool true) args=true :=
 postW_of (r:=l.row.toRowW) (X:=(true==true))
  (show WShape.has [] (.bool true) .bool=true by first | rfl | decide | simp[WShape.has,WShape.arms,WShape.armsAll])
  (show(WTm.eq .res (.lit (.bool true))).value [] { args:=args,res:=some (.bool true),after:=args }=some (.bool (true==true)) from w_eq_bool (w_res rfl) w_lit) rfl
theorem attach_call{l:OpenLaw}{n:Nat}{q:Program}{loose:List Str}{XP:(Str->Option Value)->Heap->Prop}{YP:World->Heap->Prop}{d:DefRec}
  (hn:l.most=some n) (hdf:d.params.defaults=[])
  (call:∀(w:World) (s₀ s₁:Shared) (mg mb:Str->Option Value) (fa:Addr) (o:Obj) (pm cd doc:Value) (a:Addr) (vs:List Value) (ns:List Int),
   Ground q loose [] XP w s₀ mg mb s₁.heap->YP w s₁.heap ->
   s₁.heap.get? fa=some o->o.data=.func (docDef d.name d.params d.body d.scope pm cd doc)->s₁.heap.CodeRec cd d.name->mg d.name=some (.ref fa) ->
   s₁.heap.get? a=some { cls:=.type "list",data:=.seq vs.toArray }->IntsAre vs ns->ns.length<=n->s₁.gens = #[] ->
   codeAny (model l.prog w) callerA (.call (.ref fa) ⟨[.ref a],[]⟩) (fun r s'=>r=.ok (.ret (.bool true))/\OldK s₁.heap s'.heap/\s'.os=s₁.os/\AllBare s'.gens) s₁) :
  WalkO q loose XP YP l.row.toRowW d [] (fun f vs=>PySem.call f vs):=by
 intro w s₀ s₁ mg mb G Y fa o pm cd doc dV kV ho hd hcd hD hmg hg args vals as hpre hlay hrd hwl hlo
 obtain rfl:dV=.none:=Dflts.none hD hdf
 obtain rfl:kV=.none:=Dflts.noKw hD
 obtain⟨a,vs,ns,rfl,rfl,hobj,hints,hlen⟩:=Z7i hn hpre hwl
 refine enter_call (codeAny_mono (call w s₀ s₁ mg mb fa o pm cd doc a vs ns G Y ho (fd_plain hd) hcd hmg hobj hints hlen hg) fun r s' hq=>?_)
 obtain⟨rfl,h2,h3,h4⟩:=hq
 exact⟨.inl ⟨.bool true,.bool true,[],rfl,fun _=>rfl,.bool true,Z7l l _,fun _=>⟨List.Pairwise.nil,fun _ hm=>(nomatch hm)⟩⟩,h2,h3,h4⟩
section
variable{prog:Program}{w:World}{A:Around}{E:Value->Shared->Prop}{s:Shared}{K:Frag}
def ledger(h:Heap)(L d:Addr):List (Addr×Obj):=(List.range h.objs.size).filterMap fun a=>if a=L∨a=d then none else(h.get? a).map fun o=>(a,o)
end
end Att
namespace L2
open PySem PySem.Spec PyProof.Rows
theorem Z1v:∀ {vs:List Value} {ns:List Int},IntsAre vs ns->Vals (ns.map V.int) vs
 |_,_,.nil=>.nil
 |_,_,.cons n t h=>.cons ⟨t,rfl⟩ (Z1v h)
def Zf3(H:Hp):Prop:=∀b,H b=none∨∃o xs,H b=some (.frz o (.lst xs))
theorem Z99{P:Program}{w:World}{K:W.Frag}{mg mb:Str->Option Value}{CX:Zby}{k:Nat}{fa a:Addr}{fd:FuncData}{x:Str}{sp:Sp}{s₁:Shared}{vs:List Value}{ns:List Int}
  (KX:K.In s₁.heap) (hns:s₁.heap.Ns mainGlobals mg) (hb:s₁.heap.Ns builtinsNs mb) (hbb:∀x:Str,x≠"__name__"->mb x=bootBuiltins x) (hlim:s₁.heap.NoLimit) (hg:s₁.gens = #[])
  (ha:s₁.heap.get? a=some { cls:=.type "list",data:=.seq vs.toArray }) (hi:IntsAre vs ns) (hl:ns.length<=sizeLine) (hr:Room k callerA)
  (F:∀base:Heap,K.In base->base.Ns mainGlobals mg->FnOk P w K mg base CX k fa fd [x] sp) (hbind:∀(s:Shared) (u:Value),BindsTo s fd ⟨[u],[]⟩ [(x,u)])
  (hsp:∀H:Hp,Zf3 H->SqL K H a (ns.map V.int)->sp [.ref a] H (fun v _=>v=.bl true) fun _ _ _=>False)
  (hCX:∀H e s',CX [] H s₁ (fun _ _ _=>False) e s'->False) :
  codeAny (model P w) callerA (.call (.ref fa) ⟨[.ref a],[]⟩) (fun r s'=>r=.ok (.ret (.bool true))/\OldK s₁.heap s'.heap/\s'.os=s₁.os/\AllBare s'.gens) s₁:=by
 have rv:=Z1v hi
 have lenV:=hi.length
 have core:∀H:Hp,Zf3 H->SqL K H a (ns.map V.int)->HOk P w H s₁.heap->(∀b,H b≠none->b=a)->(H a≠none->K.lookup a=none) ->
   codeAny (model P w) callerA (.call (.ref fa) ⟨[.ref a],[]⟩) (fun r s'=>r=.ok (.ret (.bool true))/\OldK s₁.heap s'.heap/\s'.os=s₁.os/\AllBare s'.gens) s₁:=by
  intro H hO hS hok hA hK
  have base_of:∀ {b:Addr} {o:Obj},s₁.heap.get? b=some o->H b=none->(Z4w s₁.heap H).get? b=some o:=fun e n=>Z9b e n
  have noA:∀ {b:Addr} {o:Obj} {es:Array DictEntry} {ep:Nat},s₁.heap.get? b=some o->o.data=.dict es ep->H b=none:=fun{b o es ep} e d=>by
   cases q:H b with
   |none=>rfl
   |some u =>
    have e':b=a:=hA b (by rw[q];simp)
    subst e'
    rw[ha]at e;cases e
    have d':Data.seq vs.toArray _=Data.dict es ep:=d
    cases d'
  have nsK:∀ {b:Addr} {m:Str->Option Value},s₁.heap.Ns b m->(Z4w s₁.heap H).Ns b m:=fun{b m} ⟨o,es,ep,e,d,r⟩=>⟨o,es,ep,base_of e (noA e d),d,r⟩
  have hKb:K.In (Z4w s₁.heap H):=fun b o e=>base_of (KX b o e) (by
   cases q:H b with
   |none=>rfl
   |some u =>
    have e':b=a:=hA b (by rw[q];simp)
    subst e'
    rw[hK (by rw[q];simp)]at e;cases e)
  have hM:Mod K mg (Z4w s₁.heap H):=⟨hKb,nsK hns,⟨mb,nsK hb,hbb⟩,let⟨mc,h1,h2⟩:=hlim;⟨mc,nsK h1,h2⟩⟩
  have e0:Env0 P w K mg (Z4w s₁.heap H) callerA [] s₁ H:=⟨rfl,hM,fun b o e=>Zbe e,Nat.le_of_eq (Z7v _ _),trivial,fun b hb=>absurd (show b∈([]:List Addr) from hb) (by simp),hok,.of_eq hg⟩
  refine codeAny_mono ((F _ hKb (nsK hns)).run callerA [] s₁ H ⟨[.ref a],[]⟩ [.ref a] [.ref a] _ _ hr e0 (hbind s₁ (.ref a)) (.cons rfl .nil) (hsp H hO hS)) fun r s' h=>?_
  cases r with
  |error e=>exact(hCX H e s' h).elim
  |ok fl =>
   cases fl with
   |next=>exact False.elim h
   |brk=>exact False.elim h
   |cont=>exact False.elim h
   |ret u =>
    obtain⟨v,H',os,bare,un,hok',r',q⟩:=h
    have q':v=.bl true:=q
    subst q'
    obtain rfl:u=Value.bool true:=r'
    refine⟨rfl,OldK.of_keep fun b o e=>?_,os,bare⟩
    cases q:H b with
    |none=>exact un.keep b o e q (by intro z;exact absurd (show b∈([]:List Addr) from z) (by simp)) (by simp)
    |some u =>
     rcases hO b with z | ⟨ob,xs,z⟩
     ·rw[q]at z;cases z
     ·have z2:=un.frzs b ob _ z
      obtain⟨e1,_⟩:=hok b _ z
      obtain⟨e2,_⟩:=hok' b _ z2
      rw[e]at e1;cases e1
      exact e2
 cases hk:K.lookup a with
 |some o =>
  have e:=KX a o hk
  rw[ha]at e
  cases e
  refine core (fun _=>none) (fun _=>.inl rfl) (.inr ⟨_,vs.toArray,_,hk,rfl,rfl,rfl,by rw[List.size_toArray,lenV];exact hl,by simpa using rv⟩) (fun b u z=>by have z':(none:Option HO)=some u:=z;cases z') (fun b z=>absurd rfl z) fun z=>absurd rfl z
 |none =>
  refine core (fun b=>if b=a then some (.frz { cls:=.type "list",data:=.seq vs.toArray } (.lst (ns.map V.int))) else none) (fun b=>?_) (.inl (.inr ⟨{ cls:=.type "list",data:=.seq vs.toArray },if_pos rfl⟩)) (fun b u z=>?_) (fun b z=>?_) fun _=>hk
  ·by_cases hb:b=a
   ·exact .inr ⟨_,_,if_pos hb⟩
   ·exact .inl (if_neg hb)
  ·by_cases hb:b=a
   ·have z':=(if_pos hb).symm.trans z
    cases z'
    subst hb
    exact⟨ha,by rw[List.length_map];exact hl,vs,_,rv,ha⟩
   ·have z':=(if_neg hb).symm.trans z
    cases z'
  ·by_cases hb:b=a
   ·exact hb
   ·exact absurd (if_neg hb) z
abbrev Z87{K:W.Frag}{h:Heap}(_:K.In h):W.Frag:=K
theorem Zam{l:W.OpenLaw}{n k:Nat}{q:Program}{loose:List Str}{XP:(Str->Option Value)->Heap->Prop}{YP:World->Heap->Prop}{d:DefRec}{K:Params->W.Frag}{CX:World->Zby}{sp:World->Sp}{x:Str}
  (hn:l.most=some n) (hn2:n<=sizeLine) (hdf:d.params.defaults=[]) (hr:Room k callerA)
  (hY:∀(w:World) (h:Heap),YP w h->(K w.params).In h)
  (F:∀(w:World) (mg:Str->Option Value) (fa:Addr) (h:Heap),(K w.params).In h->h.Ns mainGlobals mg->mg d.name=some (.ref fa) ->
   ∃fd:FuncData,(∀(s:Shared) (u:Value),BindsTo s fd ⟨[u],[]⟩ [(x,u)]) /\
    ∀base:Heap,(K w.params).In base->base.Ns mainGlobals mg->FnOk l.prog w (K w.params) mg base (CX w) k fa fd [x] (sp w))
  (hsp:∀(w:World) (H:Hp) (a:Addr) (ns:List Int),ns.length<=n->Zf3 H->SqL (K w.params) H a (ns.map V.int)->sp w [.ref a] H (fun v _=>v=.bl true) fun _ _ _=>False)
  (hCX:∀(w:World) (H:Hp) (s:Shared) (e:Value) (s':Shared),CX w [] H s (fun _ _ _=>False) e s'->False) :
  W.WalkO q loose XP YP l.row.toRowW d [] (fun f vs=>PySem.call f vs):=by
 refine Att.attach_call hn hdf fun w s₀ s₁ mg mb fa o pm cd doc a vs ns G Y ho hd hcd hmg hobj hints hlen hg=>?_
 have KX:=hY w _ Y
 obtain⟨fd,hb,hF⟩:=F w mg fa _ KX G.T.g hmg
 exact Z99 KX G.T.g G.T.b G.T.builtins G.T.nolimit hg hobj hints (Nat.le_trans hlen hn2) hr hF hb (fun H hO hS=>hsp w H a ns hlen hO hS) fun H e s'=>hCX w H s₁ e s'
def Yx(s:Stmt)(j:Nat):Stmt:=match s with
 |.ClassDef _ _ _ body _ _ _ _ _ _ _=>body.getD j (.Pass ⟨0,0,0,0⟩)
 |_=>.Pass ⟨0,0,0,0⟩
def Wy(s:Stmt):Arguments:=match s with
 |.FunctionDef _ a _ _ _ _ _ _ _ _=>a
 |_=>{ posonlyargs:=[],args:=[],vararg:=none,kwonlyargs:=[],kw_defaults:=[],kwarg:=none,defaults:=[] }
def Wb(s:Stmt):List Stmt:=match s with
 |.FunctionDef _ _ b _ _ _ _ _ _ _=>b
 |_=>[]
def Zc(s:Stmt):Scope:=match s with
 |.FunctionDef _ _ _ _ _ _ sc _ _ _=>sc
 |_=>{ kind:=.function,names:=[],isGenerator:=false,isCoroutine:=false }
abbrev V1:Zby:=fun _ _ _ _ _ _=>False
abbrev E0:XK:=fun _ _ _=>False
theorem Z76{X:Cx}:Tl V1 X E0:=fun _ _ _ _ _ _ _ h=>h.elim
structure Fun(K:W.Frag)(x qual:Str)(st:Stmt)(f:Addr)(fd:FuncData):Prop where
 ex:∃(oc:Value) (od:Option Addr) (kV doc pm:Value) (an:Option Addr) (cdv ct:Value) (osl:Array (Option Value)),
  fd=W.fnOf x qual (Wy st) (Wb st) (Zc st) .none kV doc pm an cdv ct/\K.lookup f=some ⟨oc,od,.func fd,osl⟩/\W.codeIn K cdv qual=true
 kp:W.keepIn K (.ref f)=true
section
variable{P:Program}{w:World}{K:W.Frag}{mg:Str->Option Value}{base:Heap}
theorem Fun.ok{x qual:Str}{st:Stmt}{f:Addr}{fd:FuncData}{N ps:List Str}{k:Nat}{sp:Sp}(F:Fun K x qual st f fd)(S:FnScope N ps (Zc st))(len:∀vs H Q E,sp vs H Q E->vs.length=ps.length)
  (hbody:∀(cdv:Value) (A:Around) (outer:List Env) (s:Shared) (H:Hp) (vs:List V) (Q:VK) (E:XK),Room k (A.deeper (envOfC qual (Zc st) s.heap.objs.size f cdv))->sp vs H Q E ->
   ∃t,PSs (Z8f V1 P w K mg base N qual (Zc st) f cdv A outer s H E).nox (Wb st) t/\t { nx:=fun _ H'=>Q .non H',rt:=Q } (start N vs) H):FnOk P w K mg base V1 (k+1) f fd ps sp:=by
 obtain⟨oc,od,kV,doc,pm,an,cdv,ct,osl,rfl,lk,hcd⟩:=F.ex
 refine Zfy lk hcd S len fun A outer s H vs Q E hr hsp=>?_
 obtain⟨t,h,q⟩:=hbody cdv A outer s H vs Q E hr hsp
 exact⟨t,h.nox,q⟩
theorem Fun.binds{x qual:Str}{st:Stmt}{f:Addr}{fd:FuncData}{ps:List Str}(F:Fun K x qual st f fd)
  (h:∀(kV doc pm:Value) (an:Option Addr) (cdv ct:Value) (us:List Value),us.length=ps.length->bindArgs (W.fnOf x qual (Wy st) (Wb st) (Zc st) .none kV doc pm an cdv ct) ⟨us,[]⟩=pure (ps.zip us)):Binds K fd ps []:=by
 obtain⟨oc,od,kV,doc,pm,an,cdv,ct,osl,rfl,lk,hcd⟩:=F.ex
 exact .all (h kV doc pm an cdv ct)
theorem Z1b{x qual:Str}{st:Stmt}{f:Addr}{oc:Value}{od an:Option Addr}{osl:Array (Option Value)}{kV doc pm cdv ct:Value}(l:K.lookup f=some ⟨oc,od,.func (W.fnOf x qual (Wy st) (Wb st) (Zc st) .none kV doc pm an cdv ct),osl⟩)
  (c:W.codeIn K cdv qual=true) (k:W.keepIn K (.ref f)=true):Fun K x qual st f (W.fnOf x qual (Wy st) (Wb st) (Zc st) .none kV doc pm an cdv ct):=⟨⟨oc,od,kV,doc,pm,an,cdv,ct,osl,rfl,l,c⟩,k⟩
end
theorem Z7b{A:Around}{k:Nat}(hr:Room k A):A.units+1<cLine:=Nat.lt_of_le_of_lt (Nat.add_le_add_left (by decide:1<=64) _) hr.units
theorem Zz{n:Nat}(h:n<=1000):n<sizeLine:=Nat.lt_of_le_of_lt h (by decide)
section
variable{X:Cx}
theorem pv(i:Nat){x:Str}{pos:Pos}(hN:X.N[i]? = some x:=by rfl)(hv:Zhl X.env.scope x:=by first | exact Or.inl rfl | exact Or.inr (Or.inl rfl) | exact Or.inr (Or.inr rfl))(hd:(x==("__debug__":Str))=false:=by decide)
  (hcd:(x==("__classdict__":Str))=false:=by decide):PE X (.Name x pos) (Yz i):=Zdr hN hv hd hcd
end
theorem Ui{A B:Prop}(h:B):if false=true then A else B:=by
 rw[if_neg Bool.false_ne_true]
 exact h
theorem Jw{A B:Prop}(h:A):if true=true then A else B:=by
 rw[if_pos rfl]
 exact h
theorem X5{c A B:Prop}[Decidable c](h1:c->A)(h2:¬c->B):if c then A else B:=by
 by_cases h:c
 ·rw[if_pos h]
  exact h1 h
 ·rw[if_neg h]
  exact h2 h
def V8(cells:List (Str×Addr))(cs:List (Str×Addr))(p:Str×NameKind):List (Str×Addr) :=
 if(p.2==.free)=true then(match cells.lookup p.1 with | some c=>(p.1,c)::cs | none=>cs) else cs
def Z1e(names:List (Str×NameKind))(cells:List (Str×Addr)):List (Str×Addr):=names.foldl (V8 cells) []
theorem Z5j{α β:Type}{l:List α}{f:α->β->Sem (ForInStep β)}(g:β->α->β):∀(c:β),(∀x∈l,∀c,f x c=pure (.yield (g c x)))->forIn l c f=pure (l.foldl g c):=by
 induction l with
 |nil=>intro c _;rfl
 |cons x l ih =>
  intro c h
  rw[List.forIn_cons,h x List.mem_cons_self,pure_bind]
  exact ih _ fun y hy=>h y (List.mem_cons_of_mem _ hy)
theorem Vo{scope:Scope}{env:Env}(h:∀p∈scope.names,p.2=.free->∃c,env.cells.lookup p.1=some c):closureFor scope env=pure (Z1e scope.names env.cells):=by
 simp only[closureFor]
 rw[Z5j (V8 env.cells) [] (fun p hp c=>by
  obtain⟨n,k⟩:=p
  by_cases hk:k=.free
  ·subst hk
   obtain⟨a,e⟩:=h _ hp rfl
   have e':env.cells.lookup n=some a:=e
   simp[V8,cellOf,e']
  ·have hb:(k==NameKind.free)=false:=by simpa using hk
   simp[V8,hb])]
 rfl
theorem Z5n{cells:List (Str×Addr)}{cs:List (Str×Addr)}{p:Str×NameKind}(h:∀y c,cs.lookup y=some c->cells.lookup y=some c):∀y c,(V8 cells cs p).lookup y=some c->cells.lookup y=some c:=by
 intro y c e
 unfold V8 at e
 split at e
 ·split at e
  ·rename_i c' hc'
   rw[List.lookup_cons]at e
   split at e
   ·rename_i hy
    have:y=p.1:=by simpa using hy
    rw[this,hc']
    exact e
   ·exact h y c e
  ·exact h y c e
 ·exact h y c e
theorem Tz(names:List (Str×NameKind))(cells:List (Str×Addr)):∀y c,(Z1e names cells).lookup y=some c->cells.lookup y=some c:=by
 have all:∀(names:List (Str×NameKind)) (cs:List (Str×Addr)),(∀y c,cs.lookup y=some c->cells.lookup y=some c)->∀y c,(names.foldl (V8 cells) cs).lookup y=some c->cells.lookup y=some c:=by
  intro names
  induction names with
  |nil=>intro cs h;exact h
  |cons p r ih=>intro cs h;exact ih _ (Z5n h)
 exact all names [] (fun y c e=>by simp at e)
theorem Z3x{cells cs:List (Str×Addr)}{p:Str×NameKind}{y:Str}(h:(cs.lookup y).isSome=true):((V8 cells cs p).lookup y).isSome=true:=by
 unfold V8
 split
 ·split
  ·rw[List.lookup_cons]
   split
   ·rfl
   ·exact h
  ·exact h
 ·exact h
theorem Z4n{names:List (Str×NameKind)}{cells:List (Str×Addr)}{y:Str}{c:Addr}(hm:(y,NameKind.free)∈names)(hc:cells.lookup y=some c):∃c,(Z1e names cells).lookup y=some c:=by
 have kp:∀(names:List (Str×NameKind)) (cs:List (Str×Addr)),(cs.lookup y).isSome=true->((names.foldl (V8 cells) cs).lookup y).isSome=true:=by
  intro names
  induction names with
  |nil=>intro cs h;exact h
  |cons p r ih=>intro cs h;exact ih _ (Z3x h)
 have all:∀(names:List (Str×NameKind)) (cs:List (Str×Addr)),(y,NameKind.free)∈names->((names.foldl (V8 cells) cs).lookup y).isSome=true:=by
  intro names
  induction names with
  |nil=>intro cs h;cases h
  |cons p r ih =>
   intro cs h
   rcases List.mem_cons.mp h with e | h
   ·subst e
    refine kp r _ ?_
    unfold V8
    simp[hc]
   ·exact ih _ h
 exact Option.isSome_iff_exists.mp (all names [] hm)
theorem Yy(env:Env):∀(names:List (Str×NameKind)) (y:Str),
  (names.map fun(n,k)=>if(k==NameKind.free&&env.scope.kind==.function&&env.kindOf n==some .cell) then(n,NameKind.cell) else(n,k)).lookup y =
   (names.lookup y).map fun k=>if(k==NameKind.free&&env.scope.kind==.function&&env.kindOf y==some .cell) then NameKind.cell else k
 | [],_=>rfl
 |(n,k)::r,y=>by
  have ih:=Yy env r y
  show List.lookup y ((if(k==NameKind.free&&env.scope.kind==.function&&env.kindOf n==some .cell)=true then(n,NameKind.cell) else(n,k))::_)=_
  cases hx:y==n with
  |true =>
   have e:y=n:=by simpa using hx
   subst e
   by_cases hc:(k==NameKind.free&&env.scope.kind==.function&&env.kindOf y==some .cell)=true
   ·rw[if_pos hc];simp only[List.lookup_cons,hx,Option.map_some];rw[if_pos hc]
   ·rw[if_neg hc];simp only[List.lookup_cons,hx,Option.map_some];rw[if_neg hc]
  |false =>
   by_cases hc:(k==NameKind.free&&env.scope.kind==.function&&env.kindOf n==some .cell)=true
   ·rw[if_pos hc];simp only[List.lookup_cons,hx];exact ih
   ·rw[if_neg hc];simp only[List.lookup_cons,hx];exact ih
def Wf(X:Cx)(N':List Str)(scope:Scope)(x:Str)(C:Addr)(s:Shared)(H:Hp)(ex:List Addr):Cx :=
 { X with N:=x::N',s₀:=s,H₀:=H,env:=compEnvC scope (Z1e scope.names X.env.cells) C X.env,outer:=X.stack,ex:=ex,fn:=fun _=>false,pn:=[],xe:=fun _ _=>False }
structure CScope3(x:Str)(N N':List Str)(osc scope:Scope):Prop where
 kind:scope.kind=.function
 nd:(x::N').Nodup
 own:scope.names.lookup x=some .local
 nocell:∀y∈scope.names,y.2≠.cell
 names:∀y∈scope.names,y.2=.local->scope.names.lookup y.1=some .local
 free:∀y∈scope.names,y.2=.free->osc.names.lookup y.1=some .cell
 nol:∀y∈N',scope.names.lookup y≠some .local
 len:N'.length=N.length
 hid:∀p∈N'.zip N,p.1=p.2∨scope.names.lookup p.1=none
section
variable{X:Cx}{N':List Str}{Z4:List (Addr×Obj)}{σ:St}{H:Hp}{s:Shared}
theorem CScope3.has{x:Str}{scope:Scope}(S:CScope3 x X.N N' X.env.scope scope)(ok:X.Ok):∀p∈scope.names,p.2=.free->∃c,X.env.cells.lookup p.1=some c:=fun p hp hk =>
 ok.has p.1 (.inl (S.free p hp hk))
theorem Z4s{x y:Str}{scope:Scope}{C:Addr}{H₀:Hp}{ex:List Addr}(S:CScope3 x X.N N' X.env.scope scope)(ok:X.Ok)(hk:(Wf X N' scope x C s H₀ ex).env.kindOf y=some .cell∨(Wf X N' scope x C s H₀ ex).env.kindOf y=some .free) :
  X.env.kindOf y=some .cell/\∃c,(Z1e scope.names X.env.cells).lookup y=some c:=by
 have e:(Wf X N' scope x C s H₀ ex).env.kindOf y=(scope.names.lookup y).map fun k=>if(k==NameKind.free&&X.env.scope.kind==.function&&X.env.kindOf y==some .cell) then NameKind.cell else k:=Yy X.env scope.names y
 rw[e]at hk
 cases q:scope.names.lookup y with
 |none=>rw[q]at hk;simp at hk
 |some k =>
  rw[q]at hk
  have hm:=PySem.mem_of_lookup q
  have hfree:k=.free:=by
   cases k with
   |free=>rfl
   |cell=>exact absurd rfl (S.nocell _ hm)
   |_=>simp at hk
  subst hfree
  have h1:=S.free _ hm rfl
  obtain⟨c,hc⟩:=ok.has y (.inl h1)
  exact⟨h1,Z4n hm hc⟩
theorem Z5p{x:Str}{scope:Scope}{C acc:Addr}{fp:List Addr}{h':Heap}{t':Nat}{m:Str->Option Value}(S:CScope3 x X.N N' X.env.scope scope)(I:Inv X Z4 σ H s)(hf:∀b∈fp,T7 X Z4 H b)(ho:∀b∈fp,∃o,s.heap.get? b=some o)
  (hC:s.heap.objs.size<=C) (hn:h'.Ns C m) (old:∀b o,s.heap.get? b=some o->h'.get? b=some o):Inv (Wf X N' scope x C s H fp) [] (none::σ) H { s with heap:=h',toks:=t' }:=by
 have sub:=Tz scope.names X.env.cells
 refine⟨⟨I.ok.mod,S.kind,I.ok.glob,I.ok.blt,hC,fun y z c h1 h2=>I.ok.inj y z c (sub _ _ h1) (sub _ _ h2),fun y hy=>(Z4s S I.ok hy).2,fun y c z _=>absurd (show false=true from z) Bool.false_ne_true,I.ok.hd,I.ok.frames,.inl rfl,fun b hb=>⟨?_,fun y c e=>?_⟩,I.bs,Nat.le_trans I.ok.bsz I.sz,fun b o e hb=>?_,fun b hb z=>?_,I.stack,I.stkFree⟩,
  rfl,I.bare,Un.kept old,⟨m,hn,fun i y v h1 h2 h3=>?_⟩,fun y c e=>?_,I.hok.fresh hC,fun y c e=>I.freeC y c (sub _ _ e),fun p hp=>absurd (show p∈([]:List (Addr×Obj)) from hp) (by simp),I.hok.kept old,?_⟩
 ·obtain⟨o,e⟩:=ho b hb
  exact Nat.ne_of_lt (Nat.lt_of_lt_of_le (Heap.lt_size e) hC)
 ·exact(hf b hb).2.2.2.2.1 y c (sub _ _ e)
 ·rcases(hf b hb).2.2.2.1 with z | z
  ·exact I.ok.noex b o e z
  ·exact absurd (Nat.lt_of_lt_of_le (Heap.lt_size e) (Nat.le_trans I.ok.bsz z)) (Nat.lt_irrefl _)
 ·rcases List.mem_cons.mp (I.stkSub b z) with e | e
  ·exact(hf b hb).2.1 e
  ·exact(hf b hb).2.2.1 e
 ·cases i with
  |zero=>simp at h2
  |succ i =>
   have h0':N'[i]? = some y:=h1
   have h2':σ[i]? = some (some v):=by simpa using h2
   have hk:(Wf X N' scope x C s H fp).env.kindOf y=some .cell∨(Wf X N' scope x C s H fp).env.kindOf y=some .free:=by
    rcases h3 with h3 | h3
    ·exfalso
     have e:(Wf X N' scope x C s H fp).env.kindOf y=(scope.names.lookup y).map fun k=>if(k==NameKind.free&&X.env.scope.kind==.function&&X.env.kindOf y==some .cell) then NameKind.cell else k:=Yy X.env scope.names y
     have h3':(Wf X N' scope x C s H fp).env.kindOf y=some .local:=h3
     rw[e]at h3'
     cases q:scope.names.lookup y with
     |none=>rw[q]at h3';cases h3'
     |some k =>
      rw[q]at h3'
      rw[Option.map_some]at h3'
      split at h3'
      ·cases h3'
      ·cases h3'
       exact S.nol y (List.mem_of_getElem? h0') q
    ·exact h3
   obtain⟨hk1,c,hc⟩:=Z4s S I.ok hk
   have h1':X.N[i]? = some y:=by
    have hlt:i<N'.length:=(List.getElem?_eq_some_iff.mp h0').1
    have hlt2:i<X.N.length:=by rw[← S.len];exact hlt
    have hz:(y,X.N[i])∈N'.zip X.N:=by
     refine List.mem_iff_getElem?.mpr ⟨i,?_⟩
     rw[List.getElem?_zip_eq_some]
     exact⟨h0',List.getElem?_eq_getElem hlt2⟩
    rcases S.hid _ hz with e | e
    ·have e':y=X.N[i]:=e
     rw[List.getElem?_eq_getElem hlt2,← e']
    ·exfalso
     have e':scope.names.lookup y=none:=e
     have e2:(Wf X N' scope x C s H fp).env.kindOf y=(scope.names.lookup y).map fun k=>if(k==NameKind.free&&X.env.scope.kind==.function&&X.env.kindOf y==some .cell) then NameKind.cell else k:=Yy X.env scope.names y
     rw[e2,e']at hk
     rcases hk with hk | hk <;> cases hk
   obtain⟨m1,hn1,hl⟩:=I.loc
   obtain⟨u,r,l⟩:=hl i y v h1' h2' (.inr (.inl hk1))
   refine⟨u,r,.inr ⟨hk,c,hc,?_⟩⟩
   rcases l with⟨l,_⟩ | ⟨_,c',hc',z⟩
   ·rw[hk1]at l;cases l
   ·have:=sub _ _ hc
    rw[hc']at this
    cases this
    obtain⟨o,e,d⟩:=z
    exact⟨o,old _ _ e,d⟩
 ·obtain⟨v,o,e1,d⟩:=I.cell y c (sub _ _ e)
  exact⟨v,o,old _ _ e1,d⟩
 ·show(none::σ).length=(x::N').length
  simp[I.len,S.len]
def Zen(X:Cx)(ifs:List Expr)(t:TT):Prop :=
 ∀(Z4:List (Addr×Obj)) (s:Shared) (σ:St) (H:Hp) (Q:Bool->Hp->Prop),Inv X Z4 σ H s->t σ H Q ->
  wpAny (model X.prog X.w) X.A (forIn ifs true fun c r=>if r=true then do let ok ← isTrue c X.env (eval c X.env);pure (ForInStep.yield ok) else pure (ForInStep.yield r)) (TP X Z4 σ Q) X.xe s
def Z5r:TT:=fun _ H Q=>Q true H
theorem X7:Zen X [] Z5r:=fun _ _ _ H _ I h=>wpAny_tests_nil ⟨H,I,h⟩
def Zgc(J:It)(σ:St)(tt:TT)(te:TE)(Fin:List V->Hp->Prop)(H1:Hp):Prop:=∃W:Nat->Nat->List V->Hp->Prop,(∃m,W 0 m [] H1)/\∀i m ys H,W i m ys H ->
 (J.stop i H/\Fin ys H)∨(J.go i H/\ys.length<sizeLine/\∃N:List V->Hp->Prop,(∀ys' H',N ys' H'->∃m',m'<m/\W (i+1) m' ys' H')/\∀x H',J.yld i H x H'->tt (some x::σ) H' fun b H2 =>
  if b=true then te (some x::σ) H2 fun y H3=>N (ys++[y]) H3 else N ys H2)
def Zga(wi:TI)(tt:TT)(te:TE):TE:=fun σ H Q=>wi σ H fun J H1=>Zgc J σ tt te (fun ys H=>∀l,H l=none->Q (.ref l) (Y2 H l (.lst ys))) H1
theorem Z0s{elt iter:Expr}{x:Str}{px pos:Pos}{scope:Scope}{ifs:List Expr}{tt:TT}{te:TE}{s2:Shared}{it:Addr}{fp:List Addr}{tn:Nat->Heap->Prop}{J:It}{H2:Hp}{E:Value->Shared->Prop}{Fin:List V->Hp->Prop}{RR:Value->Addr->Result->Shared->Prop}
  (hc:X.calm=true) (S:CScope3 x X.N N' X.env.scope scope) (I2:Inv X Z4 σ H2 s2) (T:Turn X.prog X.w X.K (.Name x px) J fp it tn) (st2:tn 0 s2.heap) (f2:∀b∈fp,T7 X Z4 H2 b) (hw:Zgc J σ tt te Fin H2)
  (ht:∀C s H ex,Zen (Wf X N' scope x C s H ex) ifs tt) (he:∀C s H ex,PE (Wf X N' scope x C s H ex) elt te)
  (hRR:∀D C s4 ys H3 m5,Inv X Z4 σ (Y2 H3 D (.lst ys)) s4->s4.heap.Ns C m5->T7 X Z4 (Y2 H3 D (.lst ys)) C->H3 D=none->Fin ys H3->RR (.ref D) C (.ok .next) s4) :
  wpAny (model X.prog X.w) X.A (newList []) (fun acc s₃=>wpAny (model X.prog X.w) X.A (newFunctionEnv scope X.env.globals (Z1e scope.names X.env.cells) [] X.env.qual none .none (some X.env)) (fun cenv s₄ =>
   codeAny (model X.prog X.w) X.A (.compStart (.ListComp elt [⟨.Name x px,iter,ifs,0⟩] scope pos) 0 (.ref it) acc { cenv with scope:=relabel scope X.env }) (RR acc cenv.locals) s₄) E s₃) E s2:=by
 obtain⟨W,⟨m0,w0⟩,turn⟩:=hw
 have hob:=T.obj 0 s2.heap st2
 refine wpAny_newObj_type (wpAny_newFunctionEnv S.nocell (by intro y hy;simp at hy) (fun h₁ hns₁ hsb₁=>?_) S.kind)
 dsimp only at hns₁ hsb₁ ⊢
 generalize hG2:s2.heap.push { cls:=.type "list",dict:=none,data:=.seq ([]:List Value).toArray }=G2 at hns₁ hsb₁ ⊢
 have hC:G2.objs.size=s2.heap.objs.size+1:=by rw[← hG2,Heap.size_push]
 have hDC:s2.heap.objs.size≠G2.objs.size:=by rw[hC];exact Nat.ne_of_lt (Nat.lt_succ_self _)
 have hCle:s2.heap.objs.size<=G2.objs.size:=by rw[hC];exact Nat.le_succ _
 have below:∀b,b<s2.heap.objs.size->b≠G2.objs.size/\b≠s2.heap.objs.size:=fun b hb=>⟨by rw[hC];exact Nat.ne_of_lt (Nat.lt_succ_of_lt hb),Nat.ne_of_lt hb⟩
 have old:∀b o,s2.heap.get? b=some o->h₁.get? b=some o:=fun b o e=>hsb₁.extBut b o (below b (Heap.lt_size e)).1 (Heap.get?_push_of_some _ (hG2 ▸ Heap.get?_push_of_some _ e))
 have hacc:h₁.get? s2.heap.objs.size=some { cls:=.type "list",data:=.seq ([]:List Value).toArray 0 }:=hsb₁.extBut _ _ hDC (Heap.get?_push_of_some _ (hG2 ▸ Heap.get?_push_size _ rfl))
 generalize hD:s2.heap.objs.size=D at *
 generalize hCC:G2.objs.size=C at *
 have hDf:D∉fp:=fun hm=>by
  obtain⟨o,e,_⟩:=hob D hm
  exact absurd (Heap.lt_size e) (by rw[hD];exact Nat.lt_irrefl _)
 have I4:Inv (Wf X N' scope x C s2 H2 fp) [] (none::σ) H2 { s2 with heap:=h₁,toks:=s2.toks+([]:List (Str×Value)).length } :=
  Z5p (acc:=D) S I2 f2 (fun b hb=>let⟨o,e,_⟩:=hob b hb;⟨o,e⟩) (by omega) hns₁ old
 have hDn:∀ {σ':St} {H':Hp} {s':Shared},Inv (Wf X N' scope x C s2 H2 fp) [] σ' H' s'->(∀b∈fp,H' b=none)->∀b∈fp,T7 (Wf X N' scope x C s2 H2 fp) [] H' b:=fun{σ' H' s'} I' hn b hb=>by
  refine⟨hn b hb,(I'.ok.exf b hb).1,I'.ok.exfs b hb,.inl hb,fun y c e=>(I'.ok.exf b hb).2 y c e,fun p hp=>absurd (show p∈([]:List (Addr×Obj)) from hp) (by simp)⟩
 have hDfp:∀ {σ':St} {H':Hp} {s':Shared},Inv (Wf X N' scope x C s2 H2 fp) [] σ' H' s'->H' D=none->T7 (Wf X N' scope x C s2 H2 fp) [] H' D:=fun{σ' H' s'} I' hn=>by
  refine⟨hn,hDC,fun z=>?_,.inr (by show s2.heap.objs.size<=D;omega),fun y c e=>?_,fun p hp=>absurd (show p∈([]:List (Addr×Obj)) from hp) (by simp)⟩
  ·obtain⟨_,o,e,_⟩:=I'.ok.funs.mem z
   exact absurd (show D<s2.heap.objs.size from Heap.lt_size e) (by rw[hD];exact Nat.lt_irrefl _)
  ·obtain⟨v,z⟩:=I2.cell y c (Tz _ _ _ _ e)
   intro e2
   exact absurd z.lt (by rw[hD,e2];exact Nat.lt_irrefl _)
 have hgt:∀b o,s2.heap.get? b=some o->b≠C/\b≠D:=fun b o e=>by
  have z:=below b (by rw[← hD];exact Heap.lt_size e)
  exact z
 let LI:Nat->Shared->Prop:=fun n s'=>∃i ys its k σ0 H',Inv (Wf X N' scope x C s2 H2 fp) [] (σ0::σ) H' s'/\tn i s'.heap/\(∀b∈fp,H' b=none)/\H' D=none/\Vals ys its/\ys.length<=sizeLine/\s'.heap.get? D=some { cls:=.type "list",data:=.seq its.toArray k }/\W i n ys H'
 have loop:∀s₃:Shared,s₃ = { s2 with heap:=h₁,toks:=s2.toks+([]:List (Str×Value)).length } ->
   codeAny (model X.prog X.w) X.A (.compLoop (.ListComp elt [⟨.Name x px,iter,ifs,0⟩] scope pos) 0 (.ref it) (.ref D) (compEnvC scope (Z1e scope.names X.env.cells) C X.env))
    (RR (.ref D) C) s₃:=by
  rintro s₃ rfl
  refine codeAny_compLoop_tests LI ?_ m0 ⟨0,[],[],0,none,H2,I4,T.keep _ _ _ st2 (fun b _ o e=>old b o e),fun b hb=>(f2 b hb).1,I2.hok.fresh (by rw[hD];exact Nat.le_refl _),.nil,Nat.zero_le _,hacc,w0⟩
  rintro n s3 ⟨i,ys,its,k,σ0,H3,I3,st3,fr3,frD,rv,hysz,ha3,w3⟩
  have IP:Inv (Wf X N' scope x C s2 H2 fp) [(D,{ cls:=.type "list",data:=.seq its.toArray k })] (σ0::σ) H3 s3:=I3.pins_of fun p hp=>by
   have e:p=(D,{ cls:=.type "list",data:=.seq its.toArray k }):=by simpa using hp
   subst e
   obtain⟨f0,f1,f3,_⟩:=hDfp I3 frD
   exact⟨ha3,f0,f1,f3,fun v z=>by cases z⟩
  have fpP:∀ {H':Hp},(∀b∈fp,H' b=none)->∀b∈fp,T7 (Wf X N' scope x C s2 H2 fp) [(D,{ cls:=.type "list",data:=.seq its.toArray k })] H' b:=fun{H'} hn b hb=>by
   refine⟨hn b hb,(I3.ok.exf b hb).1,I3.ok.exfs b hb,.inl hb,fun y c e=>(I3.ok.exf b hb).2 y c e,fun p hp=>?_⟩
   have e:p=(D,{ cls:=.type "list",data:=.seq its.toArray k }):=by
    have hp':p∈[(D,({ cls:=.type "list",data:=.seq its.toArray k }:Obj))]:=hp
    simpa using hp'
   subst e
   exact fun z=>hDf (by rw[show D=b from z];exact hb)
  rcases turn i n ys H3 w3 with⟨stop,qn⟩ | ⟨go,hlen,N,hN,step⟩
  ·refine wpAny_mono (T.done (Wf X N' scope x C s2 H2 fp) rfl rfl rfl hc i _ s3 (σ0::σ) H3 (fun _ _=>False) IP (fpP fr3) st3 stop) (fun r s4 ⟨hr,I5⟩=>?_) fun _ _ z=>z.elim
   subst hr
   obtain⟨m5,hn5,_⟩:=I5.loc
   have hD4:=(I5.pin _ (List.mem_append_right _ (List.mem_singleton.mpr rfl))).1
   have hcn:H3 C=none:=I5.free
   have hok':HOk X.prog X.w (Y2 H3 D (.lst ys)) s4.heap:=fun b u e=>by
    by_cases hb:b=D
    ·subst hb
     rw[Z1]at e
     cases e
     exact⟨hysz,its,k,rv,hD4⟩
    ·rw[Zl hb]at e
     exact(I5.hok b u e).stay (fun c v hc q=>q) (fun c q=>by rw[Zl (Z9 q frD)];exact q) fun c xs q=>by rw[Zl (Z9 q frD)];exact q
   have un':Un (Zal X.stack) fp H2 (Y2 H3 D (.lst ys)) s2.heap s4.heap:=by
    have u:=I5.base
    refine⟨u.keep,u.slot,fun b o q n hx=>?_,u.there,fun b xs q=>?_,fun b o xs q=>?_,fun b ps q=>?_⟩
    ·rw[Zl (hgt b o q).2]
     exact u.free b o q n hx
    ·have e:=u.tups b xs q
     rw[Zl (Z9 e frD)]
     exact e
    ·have e:=u.frzs b o xs q
     rw[Zl (Z9 e frD)]
     exact e
    ·obtain⟨more,e⟩:=u.tbls b ps q
     exact⟨more,by rw[Zl (Z9 e frD)];exact e⟩
   have I6:Inv X Z4 σ (Y2 H3 D (.lst ys)) s4:=I2.call' (ch:=fp) I5.os un' hok' I5.bare (fun b hb=>⟨(f2 b hb).2.2.2.1,(f2 b hb).2.1,(f2 b hb).2.2.2.2.1,(f2 b hb).2.2.2.2.2⟩)
   exact hRR D C s4 ys H3 m5 I6 hn5 (I2.fpOk (by rw[hD];exact hCle) (by rw[Zl (Ne.symm hDC)];exact hcn)) frD qn
  ·refine wpAny_mono (T.item (Wf X N' scope x C s2 H2 fp) rfl rfl rfl hc i _ s3 (σ0::σ) H3 (fun _ _=>False) IP (fpP fr3) st3 go) (fun r s4 ⟨u,hr,h4⟩=>?_) fun _ _ z=>z.elim
   subst hr
   show wpAny (model X.prog X.w) X.A (letOwnedTupleGo (.Name x px) (.ref it) u >>= fun _=>assign (.Name x px) (compEnvC scope (Z1e scope.names X.env.cells) C X.env) u) _ _ s4
   refine wpAny_bind (wpAny_mono h4 (fun _ s5 ⟨xv,H5,I5,r5,y5,st5,fr5⟩=>?_) fun _ _ z=>z.elim)
   have I5':=I5.pinned (fpP fr5) (T.obj _ _ st5)
   have hloc:Zf9 (Wf X N' scope x C s2 H2 fp).env.scope x:=.inl (lookup_relabel_local S.own)
   refine wpAny_mono (Z30 (X:=Wf X N' scope x C s2 H2 fp) (i:=0) S.nd rfl hloc (.inr (lookup_relabel_local S.own)) _ s5 (σ0::σ) H5 xv u (fun σ' H'=>σ'=some xv::σ/\H'=H5) I5' r5 ⟨rfl,rfl⟩) (fun _ s6 ⟨σ6,H6,I6,e1,e2⟩=>?_) fun _ _ z=>z.elim
   subst e1 e2
   refine wpAny_mono (ht C s2 H2 fp _ s6 (some xv::σ) H6 _ I6 (step xv H6 y5)) (fun b s7 ⟨H7,I7,q7⟩=>?_) fun _ _ z=>z.elim
   have hpD:∀ {σ':St} {H':Hp} {s':Shared},Inv (Wf X N' scope x C s2 H2 fp) ([(D,{ cls:=.type "list",data:=.seq its.toArray k })]++Uv fp s5.heap) σ' H' s'->s'.heap.get? D=some { cls:=.type "list",data:=.seq its.toArray k }/\H' D=none:=fun{σ' H' s'} I'=>by
    have z:=I'.pin (D,{ cls:=.type "list",data:=.seq its.toArray k }) (List.mem_append_right _ (List.mem_append_left _ (List.mem_singleton.mpr rfl)))
    exact⟨z.1,z.2.1⟩
   have hpF:∀ {σ':St} {H':Hp} {s':Shared},Inv (Wf X N' scope x C s2 H2 fp) ([(D,{ cls:=.type "list",data:=.seq its.toArray k })]++Uv fp s5.heap) σ' H' s'->(∀b∈fp,∀o,s5.heap.get? b=some o->s'.heap.get? b=some o)/\∀b∈fp,H' b=none:=fun{σ' H' s'} I'=>by
    refine⟨fun b hb o e=>(I'.pin (b,o) (List.mem_append_right _ (List.mem_append_right _ (Wh hb e)))).1,fun b hb=>?_⟩
    obtain⟨o,e,d⟩:=T.obj _ _ st5 b hb
    exact(I'.pin (b,o) (List.mem_append_right _ (List.mem_append_right _ (Wh hb e)))).2.1
   cases b with
   |false =>
    rw[if_neg Bool.false_ne_true]at q7 ⊢
    obtain⟨m',hm,w7⟩:=hN _ _ q7
    exact⟨m',hm,i+1,ys,its,k,some xv,H7,I7.pins_of (pins':=[]) (fun p hp=>absurd hp (by simp)),T.keep _ _ _ st5 (hpF I7).1,(hpF I7).2,(hpD I7).2,rv,hysz,(hpD I7).1,w7⟩
   |true =>
    rw[if_pos rfl]at q7 ⊢
    refine wpAny_mono (he C s2 H2 fp _ s7 (some xv::σ) H7 _ I7 q7) (fun u8 s8 ⟨y,H8,I8,r8,q8⟩=>?_) fun _ _ z=>z.elim
    obtain⟨m',hm,w8⟩:=hN _ _ q8
    obtain⟨hd1,hd2⟩:=hpD I8
    have hl:=rv.length
    refine append_at hd1 (fun h' hs' e'=>?_) (by rw[List.size_toArray];omega)
    have I9:Inv (Wf X N' scope x C s2 H2 fp) [] (some xv::σ) H8 s8:=I8.pins_of (pins':=[]) (fun p hp=>absurd hp (by simp))
    obtain⟨f0,f1,f3,f4,f5,f6⟩:=hDfp I9 hd2
    refine⟨m',hm,i+1,ys++[y],its++[u8],k+1,some xv,H8,I9.turned (it:=D) (t':=s8.toks) (fun b o hb e=>(hs'.2 b hb).trans e) f0 f1 f4 f5 f6,
     T.keep _ _ _ st5 (fun b hb o e=>(hs'.2 b (fun z=>hDf (by rw[← z];exact hb))).trans ((hpF I8).1 b hb o e)),(hpF I8).2,hd2,rv.append (.cons r8 .nil),by rw[List.length_append,List.length_singleton];omega,?_,w8⟩
    rw[e',List.push_toArray]
 exact codeAny_compStart_list (loop _ rfl) (T.self _ 0 _ _ _ (T.keep _ _ _ st2 (fun b _ o e=>old b o e)) (loop _ rfl))
theorem Z7n{elt iter:Expr}{x:Str}{px pos:Pos}{scope:Scope}{ifs:List Expr}{wi:TI}{tt:TT}{te:TE}(hc:X.calm=true)(S:CScope3 x X.N N' X.env.scope scope)(hi:PI X (.Name x px) iter wi)
  (ht:∀C s H ex,Zen (Wf X N' scope x C s H ex) ifs tt) (he:∀C s H ex,PE (Wf X N' scope x C s H ex) elt te) (hs:∀v,foldedSetIterable iter X.env v=pure v:=by intro _;rfl) :
  PE X (.ListComp elt [⟨.Name x px,iter,ifs,0⟩] scope pos) (Zga wi tt te):=by
 intro Z4 s σ H Q I h
 rw[eval_ListComp]
 refine wpAny_comprehension_free (use:=none) rfl hs (Vo (S.has I.ok)) S.kind S.names (Xt (hi Z4 s σ H _ I h) fun v s1 h1=>Xt h1 fun itv s2 h2=>?_)
 obtain⟨it,fp,tn,J,H2,e,I2,T,st2,f2,hw⟩:=h2
 subst e
 refine Z0s (RR:=fun acc C=>compPost (model X.prog X.w) X.A X.xe none (EP X Z4 σ Q) acc C) hc S I2 T st2 f2 hw ht he fun D C s4 ys H3 m5 I5 hn5 fC frD qn=>⟨m5,hn5,fun h' hs'=>?_⟩
 obtain⟨f0,f1,f3,f4,f5,f6⟩:=fC
 exact⟨.ref D,_,I5.turned (it:=C) (t':=s4.toks) (fun b o hb e=>(hs'.2 b hb).trans e) f0 f1 f4 f5 f6,rfl,qn D frD⟩
theorem Z7k{i:Nat}{y:Str}{elt iter:Expr}{x:Str}{px py pos spos:Pos}{scope:Scope}{ifs:List Expr}{wi:TI}{tt:TT}{te:TE}(hN:X.N.Nodup)(hi':X.N[i]? = some y)(hy:X.env.scope.names.lookup y=some .local)(hc:X.calm=true)(S:CScope3 x X.N N' X.env.scope scope)(hi:PI X (.Name x px) iter wi)
  (ht:∀C s H ex,Zen (Wf X N' scope x C s H ex) ifs tt) (he:∀C s H ex,PE (Wf X N' scope x C s H ex) elt te)
  (hsw:swapsWith (.ListComp elt [⟨.Name x px,iter,ifs,0⟩] scope pos) (some (.Name y py)) spos.line X.env=pure true) (hs:∀v,foldedSetIterable iter X.env v=pure v:=by intro _;rfl) :
  PS X (.Assign [.Name y py] (.ListComp elt [⟨.Name x px,iter,ifs,0⟩] scope pos) spos) (Z1t (Zga wi tt te) (Wg i)):=by
 intro Z4 s σ H D0 I h
 rw[exec_Assign_Name_used _ _ _ _ hsw]
 refine wpAny_bind (wpAny_standAt (wpAny_bind ?_))
 show wpAny _ X.A (do let _ ← comprehension (.ListComp elt [⟨.Name x px,iter,ifs,0⟩] scope pos) scope X.env _ (newList []) false (eval iter X.env) (some (assign (.Name y py) X.env))) _ _ s
 refine wpAny_bind (wpAny_mono (wpAny_comprehension_free (use:=some (assign (.Name y py) X.env)) (Q:=fun _ s'=>SP X Z4 D0 .next s') rfl hs (Vo (S.has I.ok)) S.kind S.names
  (Xt (hi Z4 s σ H _ I h) fun v s1 h1=>Xt h1 fun itv s2 h2=>?_)) (fun _ s' hq=>wpAny_pure (wpAny_pure hq)) fun _ _ e=>e)
 obtain⟨it,fp,tn,J,H2,e,I2,T,st2,f2,hw⟩:=h2
 subst e
 refine Z0s (RR:=fun acc C=>compPost (model X.prog X.w) X.A X.xe (some (assign (.Name y py) X.env)) (fun _ s'=>SP X Z4 D0 .next s') acc C) hc S I2 T st2 f2 hw ht he fun D C s4 ys H3 m5 I5 hn5 fC frD qn=>?_
 show wpAny _ X.A (assign (.Name y py) X.env (.ref D)) _ _ _
 obtain⟨f0,f1,f3,f4,f5,f6⟩:=fC
 refine wpAny_assign_Name (Z1w I5 hN hi' (.inl hy) (v:=.ref D) rfl (fun s' I' ⟨a,sb,ha⟩=>?_) (.inr hy))
 have hCa:C≠a:=by
  rcases ha with e | e
  ·rw[e];exact f1
  ·exact Ne.symm (f5 _ _ e)
 refine⟨m5,hn5.sameBut sb hCa,fun h' hs'=>?_⟩
 exact⟨_,_,I'.turned (it:=C) (t':=s'.toks) (fun b o hb e=>(hs'.2 b hb).trans e) f0 f1 f4 f5 f6,qn D frD⟩
abbrev Zgo(X:Cx)(scope:Scope)(x:Str)(C:Addr)(s:Shared)(H:Hp)(ex:List Addr):Cx:=Wf X X.N scope x C s H ex
structure CScope(x:Str)(N:List Str)(osc scope:Scope):Prop where
 kind:scope.kind=.function
 nd:(x::N).Nodup
 own:scope.names.lookup x=some .local
 nocell:∀y∈scope.names,y.2≠.cell
 names:∀y∈scope.names,y.2=.local->scope.names.lookup y.1=some .local
 free:∀y∈scope.names,y.2=.free->osc.names.lookup y.1=some .cell
 nol:∀y∈N,scope.names.lookup y≠some .local
theorem Z42{α:Type}:∀(l:List α),∀p∈l.zip l,p.1=p.2
 | [],p,h=>by simp at h
 |a::l,p,h=>by
  rw[List.zip_cons_cons]at h
  rcases List.mem_cons.mp h with rfl | h
  ·rfl
  ·exact Z42 l p h
theorem CScope.to3{x:Str}{N:List Str}{osc scope:Scope}(S:CScope x N osc scope):CScope3 x N N osc scope:=⟨S.kind,S.nd,S.own,S.nocell,S.names,S.free,S.nol,rfl,fun p hp=>.inl (Z42 N p hp)⟩
theorem Xa{elt iter:Expr}{x:Str}{px pos:Pos}{scope:Scope}{ifs:List Expr}{wi:TI}{tt:TT}{te:TE}(hc:X.calm=true)(S:CScope x X.N X.env.scope scope)(hi:PI X (.Name x px) iter wi)
  (ht:∀C s H ex,Zen (Zgo X scope x C s H ex) ifs tt) (he:∀C s H ex,PE (Zgo X scope x C s H ex) elt te) (hs:∀v,foldedSetIterable iter X.env v=pure v:=by intro _;rfl) :
  PE X (.ListComp elt [⟨.Name x px,iter,ifs,0⟩] scope pos) (Zga wi tt te):=Z7n hc S.to3 hi ht he hs
theorem Z8s{i:Nat}{y:Str}{elt iter:Expr}{x:Str}{px py pos spos:Pos}{scope:Scope}{ifs:List Expr}{wi:TI}{tt:TT}{te:TE}(hN:X.N.Nodup)(hi':X.N[i]? = some y)(hy:X.env.scope.names.lookup y=some .local)(hc:X.calm=true)(S:CScope x X.N X.env.scope scope)(hi:PI X (.Name x px) iter wi)
  (ht:∀C s H ex,Zen (Zgo X scope x C s H ex) ifs tt) (he:∀C s H ex,PE (Zgo X scope x C s H ex) elt te)
  (hsw:swapsWith (.ListComp elt [⟨.Name x px,iter,ifs,0⟩] scope pos) (some (.Name y py)) spos.line X.env=pure true) (hs:∀v,foldedSetIterable iter X.env v=pure v:=by intro _;rfl) :
  PS X (.Assign [.Name y py] (.ListComp elt [⟨.Name x px,iter,ifs,0⟩] scope pos) spos) (Z1t (Zga wi tt te) (Wg i)):=Z7k hN hi' hy hc S.to3 hi ht he hsw hs
theorem Z6b{J:It}{n:Nat}{σ:St}{tt:TT}{te:TE}{Fin:List V->Hp->Prop}{H1:Hp}(Pv:Nat->List V->Hp->Prop)(h0:Pv 0 [] H1)(hz:n<sizeLine)(hlen:∀i ys H,Pv i ys H->ys.length<=i)
  (hgo:∀i ys H,i<n->Pv i ys H->J.go i H) (hst:∀ys H,Pv n ys H->J.stop n H)
  (hs:∀i ys H x H',i<n->Pv i ys H->J.yld i H x H'->tt (some x::σ) H' fun b H2=>if b=true then te (some x::σ) H2 fun y H3=>Pv (i+1) (ys++[y]) H3 else Pv (i+1) ys H2)
  (hd:∀ys H,Pv n ys H->Fin ys H):Zgc J σ tt te Fin H1:=by
 refine⟨fun i m ys H=>m=n-i/\i<=n/\Pv i ys H,⟨n,by simp,Nat.zero_le _,h0⟩,?_⟩
 rintro i m ys H ⟨rfl,hi,p⟩
 by_cases hlt:i<n
 ·have hl:=hlen i ys H p
  exact .inr ⟨hgo i ys H hlt p,by omega,fun ys' H'=>Pv (i+1) ys' H',fun ys' H' p'=>⟨n-(i+1),by omega,rfl,hlt,p'⟩,fun x H' y=>hs i ys H x H' hlt p y⟩
 ·have e:i=n:=by omega
  subst e
  exact .inl ⟨hst ys H p,hd ys H p⟩
theorem Uh{K:W.Frag}{a:Addr}{xs:List V}{σ:St}{te:TE}{Fin:List V->Hp->Prop}{H1:Hp}(Pv:Nat->List V->Hp->Prop)(h0:Pv 0 [] H1)(hz:xs.length<sizeLine)(hlen:∀i ys H,Pv i ys H->ys.length<=i)
  (hl:∀i ys H,Pv i ys H->SqT K H a xs) (hs:∀i ys H x,xs[i]? = some x->Pv i ys H->te (some x::σ) H fun y H3=>Pv (i+1) (ys++[y]) H3) (hd:∀ys H,Pv xs.length ys H->Fin ys H) :
  Zgc (Zgh K a) σ Z5r te Fin H1:=by
 refine Z6b (n:=xs.length) Pv h0 hz hlen (fun i ys H hi p=>⟨xs,xs[i],hl i ys H p,by simp[hi]⟩) (fun ys H p=>⟨xs,hl _ ys H p,Nat.le_refl _⟩) (fun i ys H x H' hi p y=>?_) hd
 obtain⟨e,y⟩:=y
 subst e
 exact hs i ys _ x (y xs (hl i ys _ p)) p
theorem Z0z{lo:Int}{n:Nat}{σ:St}{te:TE}{Fin:List V->Hp->Prop}{H1:Hp}(Pv:Nat->List V->Hp->Prop)(h0:Pv 0 [] H1)(hz:n<sizeLine)(hlen:∀i ys H,Pv i ys H->ys.length<=i)
  (hs:∀i ys H,i<n->Pv i ys H->te (some (.int (lo+i))::σ) H fun y H3=>Pv (i+1) (ys++[y]) H3) (hd:∀ys H,Pv n ys H->Fin ys H) :
  Zgc (Zfa lo n) σ Z5r te Fin H1:=by
 refine Z6b (n:=n) Pv h0 hz hlen (fun i ys H hi p=>hi) (fun ys H p=>Nat.le_refl n) (fun i ys H x H' hi p y=>?_) hd
 obtain⟨e,y⟩:=y
 subst e y
 exact hs i ys _ hi p
theorem Z2t:∀ {ns:List Int} {us:List Value},Vals (ns.map V.int) us->∃ps:List (Int×Tok),us=ps.map (fun p=>Value.int p.1 p.2)/\ps.map (·.1)=ns
 | [],us,r=>by rw[List.map_nil]at r;cases r;exact⟨[],rfl,rfl⟩
 |n::ns,us,r=>by
  rw[List.map_cons]at r
  cases r with
  |cons r1 r2 =>
   obtain⟨t,e⟩:=r1
   obtain⟨ps,e1,e2⟩:=Z2t r2
   exact⟨(n,t)::ps,by rw[e,e1];rfl,by rw[List.map_cons,e2]⟩
theorem Z4p(hc:X.calm=true):Vu X (.builtin "sum") (fun xs H Q=>∃(p:Addr) (ns:List Int),xs=[.ref p]/\SqL X.K H p (ns.map V.int)/\Q (.int ns.sum) H):=by
 intro Z4 s σ H xs us Q I r h
 obtain⟨p,ns,rfl,hq,q⟩:=h
 obtain⟨u,rfl,rx⟩:=Uj r
 cases rx
 obtain⟨its,rv,pl,hz⟩:=I.list hq
 obtain⟨ps,e1,e2⟩:=Z2t rv
 have hl:s.heap.IsList p (intItems ps.toArray):=by
  have e:intItems ps.toArray=its.toArray:=by rw[e1];simp[intItems]
  rw[e];exact pl.isList
 refine sum_intListG (I.ok.hd hc) hl fun h' tk t' hk=>⟨.int ns.sum,H,I.kept hk,⟨t',?_⟩,q⟩
 rw[preSum_eq,List.take_of_length_le (by simp),e2]
theorem Z4q:∀ {bs:List Bool} {us:List Value},Vals (bs.map V.bl) us->us=bs.map Value.bool
 | [],us,r=>by rw[List.map_nil]at r;cases r;rfl
 |b::bs,us,r=>by
  rw[List.map_cons]at r
  cases r with
  |cons r1 r2=>rw[show _=Value.bool b from r1,Z4q r2];rfl
theorem Z85(bs:List Bool):(List.range bs.length).all (fun i=>bs.getD i false)=bs.all id:=by
 rw[Bool.eq_iff_iff]
 simp only[List.all_eq_true,List.mem_range,id]
 constructor
 ·intro h b hb
  obtain⟨i,hi,e⟩:=List.mem_iff_getElem.mp hb
  have:=h i hi
  rw[List.getD_eq_getElem?_getD,List.getElem?_eq_getElem hi]at this
  rw[← e];exact this
 ·intro h i hi
  rw[List.getD_eq_getElem?_getD,List.getElem?_eq_getElem hi]
  exact h _ (List.getElem_mem hi)
theorem Z10(hc:X.calm=true):Vu X (.builtin "all") (fun xs H Q=>∃(p:Addr) (bs:List Bool),xs=[.ref p]/\SqL X.K H p (bs.map V.bl)/\Q (.bl (bs.all id)) H):=by
 intro Z4 s σ H xs us Q I r h
 obtain⟨p,bs,rfl,hq,q⟩:=h
 obtain⟨u,rfl,rx⟩:=Uj r
 cases rx
 obtain⟨its,rv,pl,hz⟩:=I.list hq
 have e1:=Z4q rv
 have hl:=pl.isList
 have hlt:p<s.heap.objs.size:=by obtain⟨_,e,_⟩:=hl;exact Heap.lt_size e
 refine call_all_walk (wpAny_pyIter_list hl ?_)
 refine⟨_,_,_,_,_,_,fun i=>bs.getD i false,rfl,Walks.list (A:=X.A.in1) (I.ok.hd hc) _ p (Nat.ne_of_lt hlt) its.toArray,⟨⟨_,Heap.get?_push_size _ rfl,rfl,rfl⟩,hl.push _⟩,fun i v s' Q' E' hP hQ'=>?_,fun h' tk hk=>?_⟩
 ·have e:its[i]? = some v:=by simpa using hP
  rw[e1,List.getElem?_map]at e
  cases e2:bs[i]? with
  |none=>rw[e2]at e;cases e
  |some b =>
   rw[e2]at e
   cases e
   refine wpAny_truthy_bool ?_
   have e3:bs.getD i false=b:=by rw[List.getD_eq_getElem?_getD,e2];rfl
   have hQ2:Q' (bs.getD i false) s':=hQ'
   rw[e3]at hQ2
   exact hQ2
 ·refine⟨.bl (bs.all id),H,?_,?_,q⟩
  ·refine I.kept (t':=tk) fun b o e=>hk b o ?_ (Heap.get?_push_of_some _ e)
   intro z
   have:b=s.heap.objs.size:=by simpa using z
   subst this
   exact absurd (Heap.lt_size e) (Nat.lt_irrefl _)
  ·have e2:its.toArray.size=bs.length:=by rw[List.size_toArray,e1,List.length_map]
   show Value.bool _=Value.bool _
   rw[e2,Z85]
theorem Z8v(hu:X.A.units<cLine):Z3l X (compareOp .Eq) (fun x y H Q=>∃(p r:Addr) (xs:List V),x=.ref p/\y=.ref r/\SqL X.K H p xs/\SqL X.K H r []/\Q (.bl xs.isEmpty) H):=by
 intro Z4 s σ H x y v u Q I rx ry h
 obtain⟨p,r,xs,rfl,rfl,hp,hr,q⟩:=h
 cases rx
 cases ry
 obtain⟨its,rv,pl,hz⟩:=I.list hp
 obtain⟨its2,rv2,pl2,hz2⟩:=I.list hr
 cases rv2
 cases rv with
 |nil=>exact SeqAt.eq_listAt (e:=fun _=>true) pl.isList pl2.isList (by simp) hu (fun j h1 h2=>absurd h1 (by simp)) ⟨.bl true,H,I,rfl,q⟩
 |cons r1 r2=>exact SeqAt.eq_list_lengthsAt pl.isList pl2.isList (by simp) hu ⟨.bl false,H,I,rfl,q⟩
theorem Yk{T:String}{f:V->Hp->Bool->Prop}(hf:∀x H b,f x H b->∃t,TyOf X.K H x t/\W.kitOne X.K t (.type T)=some b) :
  Vu X (.builtin "isinstance") (fun xs H Q=>∃x b,xs=[x,.ty T]/\f x H b/\Q (.bl b) H):=by
 intro Z4 s σ H xs us Q I r h
 obtain⟨x,b,rfl,hx,q⟩:=h
 obtain⟨u,w',rfl,r1,r2⟩:=Za7 r
 cases(show w'=Value.type T from r2)
 obtain⟨t,ty,e⟩:=hf x H b hx
 exact Z7t I r1 ty e fun tk=>⟨.bl b,H,I.tok _,rfl,q⟩
def Zhz(T:String):V->Hp->Bool->Prop:=fun x H b=>match x with
 |.non=>b=(T=="NoneType")
 |.bl _=>b=(T=="bool" || T=="int")
 |.int _=>b=(T=="int")
 |.str _=>b=(T=="str")
 |.ref a=>(∃xs,H a=some (.tup xs)/\b=(T=="tuple"))∨(∃xs,H a=some (.lst xs)/\b=(T=="list"))
 |_=>False
theorem Vi{K:W.Frag}{T:String}(hT:T="bool" ∨ T="int" ∨ T="str" ∨ T="tuple" ∨ T="list"):∀x H b,Zhz T x H b->∃t,TyOf K H x t/\W.kitOne K t (.type T)=some b:=by
 intro x H b h
 cases x with
 |non=>refine⟨_,.non,?_⟩;rcases hT with rfl | rfl | rfl | rfl | rfl <;> cases h <;> rfl
 |bl y=>refine⟨_,.bl y,?_⟩;rcases hT with rfl | rfl | rfl | rfl | rfl <;> cases h <;> rfl
 |int i=>refine⟨_,.int i,?_⟩;rcases hT with rfl | rfl | rfl | rfl | rfl <;> cases h <;> rfl
 |str z=>refine⟨_,.str z,?_⟩;rcases hT with rfl | rfl | rfl | rfl | rfl <;> cases h <;> rfl
 |ref a =>
  rcases h with⟨xs,e,h⟩ | ⟨xs,e,h⟩
  ·refine⟨_,.tup e,?_⟩;rcases hT with rfl | rfl | rfl | rfl | rfl <;> cases h <;> rfl
  ·refine⟨_,.lst e,?_⟩;rcases hT with rfl | rfl | rfl | rfl | rfl <;> cases h <;> rfl
 |_=>exact(show False from h).elim
end
end L2
namespace Seek
open PySem PySem.Spec PyProof.Rows L2
structure Own(P:Program)(w:World)(K:W.Frag)(mg:Str->Option Value)(base:Heap)(k:Nat)(x:Str)(ps:List Str)(sp:Sp):Prop where
 ex:∃f fd,FnOk P w K mg base V1 k f fd ps sp/\mg x=some (.ref f)/\W.keepIn K (.ref f)=true/\Binds K fd ps []
theorem Own.mono{P:Program}{w:World}{K:W.Frag}{mg:Str->Option Value}{base:Heap}{j k:Nat}{x:Str}{ps:List Str}{sp:Sp}(O:Own P w K mg base j x ps sp)(h:j<=k):Own P w K mg base k x ps sp:=by
 obtain⟨f,fd,F,r⟩:=O.ex
 exact⟨f,fd,F.mono h,r⟩
theorem Zi{X:Cx}{k:Nat}{x:Str}{ps:List Str}{sp:Sp}{p pos:Pos}{e:Expr}{es:List Expr}{t:TA}(O:Own X.prog X.w X.K X.mg X.base k x ps sp)(hr:Room k X.A)(hg:Gl X x)(ha:PA X (e::es) t)
  (hdb:(x==("__debug__":Str))=false:=by decide) (he:starEach (e::es) X.env=(false,eval e X.env)::starEach es X.env:=by rfl) (hpl:(backTo pos (starEach es X.env)).any (·.1)=false:=by rfl) :
  PE X (.Call (.Name x p) (e::es) [] pos) (T5 sp [] E0 t):=by
 obtain⟨f,fd,F,hm,hk,hb⟩:=O.ex
 exact Zb3 F hr hg hm hk hb .nil Z76 ha hdb he hpl
structure Blt(mg:Str->Option Value):Prop where
 b_len:mg "len" = none
 b_range:mg "range" = none
 b_sum:mg "sum" = none
 b_all:mg "all" = none
 b_ord:mg "ord" = none
 b_max:mg "max" = none
 b_min:mg "min" = none
 b_int:mg "int" = none
 b_list:mg "list" = none
 b_tuple:mg "tuple" = none
 b_str:mg "str" = none
 b_bool:mg "bool" = none
 b_isinstance:mg "isinstance" = none
structure Gro(S:List Addr)(H H':Hp):Prop where
 keep:∀b o,H b=some o->b∉S->H' b=some o
 tups:∀b xs,H b=some (.tup xs)->H' b=some (.tup xs)
theorem Gro.refl{S:List Addr}{H:Hp}:Gro S H H:=⟨fun _ _ h _=>h,fun _ _ h=>h⟩
theorem Gro.trans{S:List Addr}{H H1 H2:Hp}(a:Gro S H H1)(b:Gro S H1 H2):Gro S H H2:=⟨fun c o h hc=>b.keep c o (a.keep c o h hc) hc,fun c xs h=>b.tups c xs (a.tups c xs h)⟩
theorem Gro.mono{S S':List Addr}{H H':Hp}(a:Gro S H H')(h:∀b∈S,b∈S'):Gro S' H H':=⟨fun c o q hc=>a.keep c o q fun z=>hc (h c z),a.tups⟩
theorem Gro.new{S:List Addr}{H:Hp}{p:Addr}(h:H p=none)(o:HO):Gro S H (Y2 H p o):=⟨fun b u q _=>by rw[Zl (Z9 q h)];exact q,fun b xs q=>by rw[Zl (Z9 q h)];exact q⟩
theorem Gro.set{S:List Addr}{H:Hp}{p:Addr}{xs:List V}(hp:p∈S)(h:H p=some (.lst xs))(o:HO):Gro S H (Y2 H p o) :=
 ⟨fun b u q hb=>by rw[Zl (fun z=>hb (by rw[z];exact hp))];exact q,fun b ys q=>by rw[Zl (Z77 q h (by intro z;cases z))];exact q⟩
def BoxAt(H:Hp)(b:Addr):Prop:=∃ns:List Int,H b=some (.lst (ns.map V.int))/\ns.length<=63
def Z7e(H:Hp)(l:Addr):Prop:=∃x y z:Str,H l=some (.lst [.str x,.str y,.str z])/\x.length=1/\y.length=1/\z.length=1
def CntAt(H:Hp)(c:Addr):Prop:=∃n p:Int,H c=some (.lst [.int n,.int p])/\0<=n/\n<=9
theorem BoxAt.ne_let{H:Hp}{b l:Addr}(h:BoxAt H b)(h':Z7e H l):b≠l:=by
 obtain⟨ns,e,_⟩:=h
 obtain⟨x,y,z,e',_⟩:=h'
 refine Z77 e e' fun q=>?_
 have q':ns.map V.int=[.str x,.str y,.str z]:=by injection q
 cases ns with
 |nil=>cases q'
 |cons n r=>rw[List.map_cons]at q';injection q' with q1 _;cases q1
theorem CntAt.ne_let{H:Hp}{b l:Addr}(h:CntAt H b)(h':Z7e H l):b≠l:=by
 obtain⟨n,p,e,_⟩:=h
 obtain⟨x,y,z,e',_⟩:=h'
 refine Z77 e e' fun q=>?_
 injection q with q'
 injection q' with q1 _
 cases q1
theorem BoxAt.gro{S:List Addr}{H H':Hp}{l:Addr}(h:BoxAt H l)(g:Gro S H H')(hl:l∉S):BoxAt H' l:=by
 obtain⟨x,e,r⟩:=h
 exact⟨x,g.keep _ _ e hl,r⟩
theorem BoxAt.new{H:Hp}{l p:Addr}{o:HO}(h:BoxAt H l)(hp:H p=none):BoxAt (Y2 H p o) l:=h.gro (S:=[]) (Gro.new hp o) (by simp)
theorem Jb{n:Nat}(h:n<=1000):n<=sizeLine:=Nat.le_of_lt (Zz h)
inductive How where | much | little | keep
 deriving DecidableEq
def How.text:How->Str
 |.much=>"much" |.little=>"little" |.keep=>"keep"
inductive Lk where | once | ahead | notahead | behind | notbehind
 deriving DecidableEq
def Lk.text:Lk->Str
 |.once=>"once" |.ahead=>"ahead" |.notahead=>"notahead" |.behind=>"behind" |.notbehind=>"notbehind"
inductive Hd where
 |sign (s:Str) | any | inn (rs:List (Str×Str)) | out (rs:List (Str×Str)) | beg | fin | row | alt
 |times (lo:Int) (hi:Option Int) (how:How) | grp (k:Int) | again (k:Int) | hav (k:Int) | look (w:Lk)
inductive Pat where
 |node (h:Hd) (ks:List Pat)
def Hd.word:Hd->Str
 |.sign _=>"sign" |.any=>"any" |.inn _=>"in" |.out _=>"out" |.beg=>"begin" |.fin=>"end" |.row=>"row" |.alt=>"or"
 |.times _ _ _=>"times" |.grp _=>"group" |.again _=>"again" |.hav _=>"have" |.look w=>w.text
def Z1c:Option Int->V
 |some i=>.int i
 |none=>.non
def RunsAt(H:Hp)(r:Addr)(rs:List (Str×Str)):Prop:=∃vs:List V,H r=some (.tup vs)/\Paired (fun(v:V) (p:Str×Str)=>p.1.length=1/\p.2.length=1/\∃a,v=.ref a/\H a=some (.tup [.str p.1,.str p.2])) vs rs/\rs.length<=20
def Lay(H:Hp)(a:Addr):Hd->List V->Prop
 |.sign s,kv=>kv=[]/\s.length=1/\H a=some (.tup [.str "sign",.str s])
 |.any,kv=>kv=[]/\H a=some (.tup [.str "any"])
 |.inn rs,kv=>kv=[]/\∃r,H a=some (.tup [.str "in",.ref r])/\RunsAt H r rs
 |.out rs,kv=>kv=[]/\∃r,H a=some (.tup [.str "out",.ref r])/\RunsAt H r rs
 |.beg,kv=>kv=[]/\H a=some (.tup [.str "begin"])
 |.fin,kv=>kv=[]/\H a=some (.tup [.str "end"])
 |.row,kv=>kv.length<=10/\∃r,H a=some (.tup [.str "row",.ref r])/\H r=some (.tup kv)
 |.alt,kv=>1<=kv.length/\kv.length<=10/\∃r,H a=some (.tup [.str "or",.ref r])/\H r=some (.tup kv)
 |.times lo hi how,kv=>(0<=lo/\lo<=20/\∀h,hi=some h->0<=h/\h<=20)/\∃k,kv=[k]/\H a=some (.tup [.str "times",.int lo,Z1c hi,.str how.text,k])
 |.grp n,kv=>(0<=n/\n<=20)/\∃k,kv=[k]/\H a=some (.tup [.str "group",.int n,k])
 |.again n,kv=>(0<=n/\n<=20)/\kv=[]/\H a=some (.tup [.str "again",.int n])
 |.hav n,kv=>(0<=n/\n<=20)/\∃y z,kv=[y,z]/\H a=some (.tup [.str "have",.int n,y,z])
 |.look w,kv=>∃k,kv=[k]/\H a=some (.tup [.str w.text,k])
def PatAt(H:Hp):Nat->V->Pat->Prop
 |0,_,_=>False
 |d+1,v,.node h ks=>∃a kv,v=.ref a/\Lay H a h kv/\Paired (PatAt H d) kv ks
theorem RunsAt.mono{H H':Hp}(t:∀b xs,H b=some (.tup xs)->H' b=some (.tup xs)){r:Addr}{rs:List (Str×Str)}(h:RunsAt H r rs):RunsAt H' r rs:=by
 obtain⟨vs,e,p,z⟩:=h
 exact⟨vs,t _ _ e,Paired.mapP p fun v q ⟨h1,h2,a,e1,e2⟩=>⟨h1,h2,a,e1,t _ _ e2⟩,z⟩
theorem Lay.mono{H H':Hp}(t:∀b xs,H b=some (.tup xs)->H' b=some (.tup xs)){a:Addr}{kv:List V}:∀ {h:Hd},Lay H a h kv->Lay H' a h kv
 |.sign _,⟨x,y,z⟩=>⟨x,y,t _ _ z⟩
 |.any,⟨x,z⟩=>⟨x,t _ _ z⟩
 |.inn _,⟨x,r,z,q⟩=>⟨x,r,t _ _ z,q.mono t⟩
 |.out _,⟨x,r,z,q⟩=>⟨x,r,t _ _ z,q.mono t⟩
 |.beg,⟨x,z⟩=>⟨x,t _ _ z⟩
 |.fin,⟨x,z⟩=>⟨x,t _ _ z⟩
 |.row,⟨x,r,z,q⟩=>⟨x,r,t _ _ z,t _ _ q⟩
 |.alt,⟨x,y,r,z,q⟩=>⟨x,y,r,t _ _ z,t _ _ q⟩
 |.times _ _ _,⟨x,k,y,z⟩=>⟨x,k,y,t _ _ z⟩
 |.grp _,⟨x,k,y,z⟩=>⟨x,k,y,t _ _ z⟩
 |.again _,⟨x,y,z⟩=>⟨x,y,t _ _ z⟩
 |.hav _,⟨x,k,l,y,z⟩=>⟨x,k,l,y,t _ _ z⟩
 |.look _,⟨k,y,z⟩=>⟨k,y,t _ _ z⟩
theorem PatAt.mono{H H':Hp}(t:∀b xs,H b=some (.tup xs)->H' b=some (.tup xs)):∀ {d:Nat} {v:V} {p:Pat},PatAt H d v p->PatAt H' d v p
 |0,_,_,h=>h.elim
 |d+1,v,.node h ks,⟨a,kv,e,l,p⟩=>⟨a,kv,e,l.mono t,Paired.mapP p fun _ _ q=>PatAt.mono t q⟩
theorem PatAt.deep{H:Hp}:∀ {d d':Nat} {v:V} {p:Pat},PatAt H d v p->d<=d'->PatAt H d' v p
 |0,_,_,_,h,_=>h.elim
 |d+1,0,_,_,_,hd=>absurd hd (by omega)
 |d+1,d'+1,v,.node h ks,⟨a,kv,e,l,p⟩,hd=>⟨a,kv,e,l,Paired.mapP p fun _ _ q=>PatAt.deep q (by omega)⟩
theorem Lay.head{H:Hp}{a:Addr}{kv:List V}:∀ {h:Hd},Lay H a h kv->∃r,H a=some (.tup (.str h.word::r))
 |.sign _,⟨x,y,z⟩=>⟨_,z⟩
 |.any,⟨x,z⟩=>⟨_,z⟩
 |.inn _,⟨x,r,z,q⟩=>⟨_,z⟩
 |.out _,⟨x,r,z,q⟩=>⟨_,z⟩
 |.beg,⟨x,z⟩=>⟨_,z⟩
 |.fin,⟨x,z⟩=>⟨_,z⟩
 |.row,⟨x,r,z,q⟩=>⟨_,z⟩
 |.alt,⟨x,y,r,z,q⟩=>⟨_,z⟩
 |.times _ _ _,⟨x,k,y,z⟩=>⟨_,z⟩
 |.grp _,⟨x,k,y,z⟩=>⟨_,z⟩
 |.again _,⟨x,y,z⟩=>⟨_,z⟩
 |.hav _,⟨x,k,l,y,z⟩=>⟨_,z⟩
 |.look _,⟨k,y,z⟩=>⟨_,z⟩
mutual
def Pat.groups:Pat->Int
 |.node h ks=>(match h with | .grp _=>1 | _=>0)+Y6 ks
def Y6:List Pat->Int
 | []=>0
 |k::ks=>k.groups+Y6 ks
end
theorem Z0j(xs ys:List Pat):Y6 (xs++ys)=Y6 xs+Y6 ys:=by
 induction xs with
 |nil=>simp[Y6]
 |cons k ks ih=>rw[List.cons_append,Y6,Y6,ih];omega
mutual
def Pat.size:Pat->Nat
 |.node _ ks=>1+Y8 ks
def Y8:List Pat->Nat
 | []=>0
 |k::ks=>k.size+Y8 ks
end
theorem Zu(h:Hd)(ks:List Pat):(Pat.node h ks).size=1+Y8 ks:=by rw[Pat.size]
theorem X3(xs ys:List Pat):Y8 (xs++ys)=Y8 xs+Y8 ys:=by
 induction xs with
 |nil=>simp[Y8]
 |cons k ks ih=>rw[List.cons_append,Y8,Y8,ih];omega
theorem Y9(p:Pat):Y8 [p]=p.size:=by simp[Y8]
theorem Z49{n:Nat}:∀ {ks:List Pat},(∀k∈ks,k.size<=n)->Y8 ks<=ks.length*n
 | [],_=>by simp[Y8]
 |k::ks,h=>by
  have h1:=h k (by simp)
  have h2:=Z49 (ks:=ks) fun z hz=>h z (by simp[hz])
  rw[Y8,List.length_cons,Nat.add_mul]
  omega
theorem Xk{α β:Type}{F:α->β->Prop}:∀ {xs:List α} {ys:List β},Paired F xs ys->∀y∈ys,∃x∈xs,F x y
 |_,_,.nil,y,hy=>by simp at hy
 |_,_,.cons r t,y,hy=>by
  rcases List.mem_cons.mp hy with rfl | hy
  ·exact⟨_,by simp,r⟩
  ·obtain⟨x,hx,h⟩:=Xk t y hy
   exact⟨x,by simp[hx],h⟩
theorem Lay.few{H:Hp}{a:Addr}{kv:List V}:∀ {h:Hd},Lay H a h kv->kv.length<=10
 |.sign _,⟨x,y,z⟩=>by rw[x];decide
 |.any,⟨x,z⟩=>by rw[x];decide
 |.inn _,⟨x,r,z,q⟩=>by rw[x];decide
 |.out _,⟨x,r,z,q⟩=>by rw[x];decide
 |.beg,⟨x,z⟩=>by rw[x];decide
 |.fin,⟨x,z⟩=>by rw[x];decide
 |.row,⟨x,r,z,q⟩=>x
 |.alt,⟨x,y,r,z,q⟩=>y
 |.times _ _ _,⟨x,k,y,z⟩=>by rw[y];simp
 |.grp _,⟨x,k,y,z⟩=>by rw[y];simp
 |.again _,⟨x,y,z⟩=>by rw[y];decide
 |.hav _,⟨x,k,l,y,z⟩=>by rw[y];simp
 |.look _,⟨k,y,z⟩=>by rw[y];simp
def Z8a:Nat->Nat
 |0=>0
 |d+1=>1+10*Z8a d
theorem PatAt.size_le{H:Hp}:∀ {d:Nat} {v:V} {p:Pat},PatAt H d v p->p.size<=Z8a d
 |0,_,_,h=>h.elim
 |d+1,v,.node h ks,⟨a,kv,e,l,p⟩=>by
  have h1:=l.few
  have h2:=Paired.length p
  have h3:Y8 ks<=ks.length*Z8a d:=Z49 fun k hk=>by
   obtain⟨x,_,q⟩:=Xk p k hk
   exact PatAt.size_le q
  have h4:ks.length*Z8a d<=10*Z8a d:=Nat.mul_le_mul_right _ (by omega)
  rw[Zu,Z8a]
  omega
def B(n:Nat):Nat:=3 ^ (n+1)
theorem sz{n:Nat}(h:Nat.ble n 1000=true:=by rfl):n<=sizeLine:=Jb (Nat.le_of_ble_eq_true h)
theorem Z11{x:V}{r:List V}:Z89 (x::r) 0=some x:=Z0b (j:=0) rfl
theorem Zhy{x:V}{r:List V}:Zel (x::r).length 0=some 0:=by
 unfold Zel
 rw[if_pos (Int.le_refl 0),if_pos (by rw[List.length_cons];omega)]
 rfl
theorem Gro.fresh{S:List Addr}{H H':Hp}{a:Addr}(g:Gro S H H')(ha:H a=none)(o:HO):Gro S H (Y2 H' a o) :=
 ⟨fun b u q hb=>by rw[Zl (Z9 q ha)];exact g.keep b u q hb,fun b xs q=>by rw[Zl (Z9 q ha)];exact g.tups b xs q⟩
theorem Gro.tup{S:List Addr}{H H':Hp}{p:Addr}{o:HO}(g:Gro S H H')(hp:H' p=none):Gro S H (Y2 H' p o):=g.trans (Gro.new hp o)
def RunP(H:Hp)(v:V)(p:Str×Str):Prop:=p.1.length=1/\p.2.length=1/\∃a,v=.ref a/\H a=some (.tup [.str p.1,.str p.2])
theorem RunP.mono{H H':Hp}(t:∀b xs,H b=some (.tup xs)->H' b=some (.tup xs)){v:V}{p:Str×Str}(h:RunP H v p):RunP H' v p:=by
 obtain⟨h1,h2,a,e1,e2⟩:=h
 exact⟨h1,h2,a,e1,t _ _ e2⟩
theorem Y4{H H':Hp}(t:∀b xs,H b=some (.tup xs)->H' b=some (.tup xs)){vs:List V}{rs:List (Str×Str)}(h:Paired (RunP H) vs rs):Paired (RunP H') vs rs:=Paired.mapP h fun _ _ q=>q.mono t
theorem Paired.snoc1{α β:Type}{F:α->β->Prop}{a:α}{b:β}{l₁:List α}{l₂:List β}(h:Paired F l₁ l₂)(q:F a b):Paired F (l₁++[a]) (l₂++[b]):=h.snoc q
section
variable{K:W.Frag}
end
theorem J3{X:Cx}{sts:List Stmt}{t:TS}(t2:TS)(h:PSs X sts t)(imp:∀D σ H,t2 D σ H->t D σ H):PSs X sts t2:=fun Z4 s σ H D I q=>h Z4 s σ H D I (imp D σ H q)
theorem Zce{R:Bool->Hp->Prop}{H:Hp}{c:Bool}(h1:R true H)(h2:R false H):R c H:=by
 cases c
 ·exact h2
 ·exact h1
theorem Zdv{A B:TT}{σ:L2.St}{H:Hp}{Q:Bool->Hp->Prop}(hA:∀R:Bool->Hp->Prop,R true H->R false H->A σ H R)(hB:∀R:Bool->Hp->Prop,R true H->R false H->B σ H R)(hT:Q true H)(hF:Q false H):Zgk A B σ H Q :=
 hA _ (by show if true=true then Q true H else B σ H Q;exact Jw hT) (by show if false=true then Q true H else B σ H Q;exact Ui (hB Q hT hF))
theorem Yg{H H':Hp}{d:Nat}(t:∀b xs,H b=some (.tup xs)->H' b=some (.tup xs)){vs:List V}{ps:List Pat}(h:Paired (PatAt H d) vs ps):Paired (PatAt H' d) vs ps:=Paired.mapP h fun _ _ q=>q.mono t
section
variable{P:Program}{w:World}{K:W.Frag}{mg:Str->Option Value}{base:Heap}{f:Addr}{fd:FuncData}
structure Def(K:W.Frag)(mg:Str->Option Value)(x:Str)(st:Stmt)(ps:List Str):Prop where
 ex:∃f fd,Fun K x x st f fd/\mg x=some (.ref f)/\Binds K fd ps []
theorem Def.own{x:Str}{st:Stmt}{ps:List Str}{k:Nat}{sp:Sp}(D:Def K mg x st ps)(h:∀f fd,Fun K x x st f fd->FnOk P w K mg base V1 k f fd ps sp):Own P w K mg base k x ps sp:=by
 obtain⟨f,fd,F,m,b⟩:=D.ex
 exact⟨f,fd,h f fd F,m,F.kp,b⟩
theorem FnOk.never{ps:List Str}{k:Nat}{sp:Sp}(no:∀vs H Q E,¬sp vs H Q E):FnOk P w K mg base V1 k f fd ps sp :=
 ⟨fun vs H Q E h=>absurd h (no vs H Q E),fun A outer s H args us vs Q E _ _ _ _ h=>absurd h (no vs H Q E)⟩
end
theorem Gro.drop{b c:Addr}{H H2:Hp}{o:HO}(g:Gro [b,c] (Y2 H c o) H2)(hc:H c=none):Gro [b] H H2 :=
 ⟨fun x u q hx=>g.keep x u (by rw[Zl (Z9 q hc)];exact q) (by
   have hxc:x≠c:=Z9 q hc
   have hxb:x≠b:=by simpa using hx
   simp[hxb,hxc]),fun x xs q=>g.tups x xs (by rw[Zl (Z9 q hc)];exact q)⟩
theorem Um{α β:Type}{F:α->β->Prop}:∀ {xs:List α} {ys:List β} (n:Nat),Paired F xs ys->Paired F (xs.take n) (ys.take n)
 |_,_,0,_=>.nil
 |_,_,_+1,.nil=>.nil
 |_,_,n+1,.cons r t=>.cons r (Um n t)
theorem Jl{α β:Type}{F:α->β->Prop}:∀ {xs:List α} {ys:List β} (n:Nat),Paired F xs ys->Paired F (xs.drop n) (ys.drop n)
 |_,_,0,r=>r
 |_,_,_+1,.nil=>.nil
 |_,_,n+1,.cons _ t=>Jl n t
theorem Z0o{α β:Type}{F:α->β->Prop}:∀ {xs xs':List α} {ys ys':List β},Paired F xs ys->Paired F xs' ys'->Paired F (xs++xs') (ys++ys')
 |_,_,_,_,.nil,s=>s
 |_,_,_,_,.cons r t,s=>.cons r (Z0o t s)
theorem Zc6{K:W.Frag}{σ:L2.St}{H:Hp}{Q:VK}{i:Nat}{p:Addr}{xs:List V}{j:Int}{v:V}(h:H p=some (.tup xs))(e:Z89 xs j=some v)(q:Q v H)(hs:σ[i]? = some (some (V.ref p)):=by rfl):Te (Z05 K) (Yz i) (tC (.int j)) σ H Q:=⟨_,hs,p,xs,j,v,rfl,rfl,SqT.of h,e,q⟩
theorem Z9k{K:W.Frag}{σ:L2.St}{H:Hp}{Q:VK}{i:Nat}{p:Addr}{xs:List V}{j:Int}{v:V}(h:H p=some (.lst xs))(e:Z89 xs j=some v)(q:Q v H)(hs:σ[i]? = some (some (V.ref p)):=by rfl):Te (Z71 K) (Yz i) (tC (.int j)) σ H Q:=⟨_,hs,p,xs,j,v,rfl,rfl,SqL.of h,e,q⟩
theorem Zg{α:Type}{A R:α->Prop}{v:α}(e:A v)(h:R v):∃x,A x/\R x:=⟨v,e,h⟩
theorem Ud{α β:Type}{A:α->Prop}{B:β->Prop}{R:α->β->Prop}{a:α}{b:β}(e:A a)(e':B b)(h:R a b):∃x y,A x/\B y/\R x y:=⟨a,b,e,e',h⟩
theorem genD{t:TS}{D':Ends}{σ:L2.St}{H:Hp}{Q:VK}(h:∀D:Ends,D.rt=Q->t D σ H)(e:D'.rt=Q:=by rfl):t D' σ H:=h D' e
theorem pS{X:Cx}(i:Nat){x:Str}{e:PySem.Expr}{te:TE}{pos pos':Pos}(hN:X.N.Nodup)(he:PE X e te)(hi:X.N[i]? = some x:=by rfl)(hx:Zf9 X.env.scope x:=by first | exact .inl rfl | exact .inr rfl)(hs:swapsWith e (some (.Name x pos')) pos.line X.env=pure false:=by rfl)(hf:X.fn x=true∨X.env.scope.names.lookup x=some .local:=by first | exact .inl rfl | exact .inr rfl | assumption):PS X (.Assign [.Name x pos'] e pos) (Z1t te (Wg i)):=Zdn hN hi hx he hs hf
theorem pN{X:Cx}(i:Nat){x:Str}{pos:Pos}(hN:X.N.Nodup)(hi:X.N[i]? = some x:=by rfl)(hx:Zf9 X.env.scope x:=by first | exact .inl rfl | exact .inr rfl)(hf:X.fn x=true∨X.env.scope.names.lookup x=some .local:=by first | exact .inl rfl | exact .inr rfl | assumption):PG X (.Name x pos) (Wg i):=Z30 hN hi hx hf
theorem U5{N P:List Str}{sc:Scope}(a:sc.kind=.function:=by rfl)(b:sc.isCoroutine=false:=by rfl)(c:sc.isGenerator=false:=by rfl)(d:N.Nodup:=by decide +kernel)(e:N.take P.length=P:=by rfl)(f:∀x∈P,sc.names.lookup x=some .local∨sc.names.lookup x=some .cell:=by decide +kernel)(g:∀y∈sc.names,y.2≠.free:=by decide +kernel):FnScope N P sc:=⟨a,b,c,d,e,f,g⟩
theorem U4{Y:Cx}{b:List Stmt}{D:Ends}{σ:L2.St}{H:Hp}(h:let X:=Y;∃t,PSs X b t/\t D σ H):∃t,PSs Y b t/\t D σ H:=h
inductive Wd where
 |sign | any | inn | out | beg | fin | row | alt | times | grp | again | hav | once | ahead | notahead | behind | notbehind
def Wd.text:Wd->Str
 |.sign=>"sign" |.any=>"any" |.inn=>"in" |.out=>"out" |.beg=>"begin" |.fin=>"end" |.row=>"row" |.alt=>"or" |.times=>"times" |.grp=>"group" |.again=>"again" |.hav=>"have"
 |.once=>"once" |.ahead=>"ahead" |.notahead=>"notahead" |.behind=>"behind" |.notbehind=>"notbehind"
def Hd.wd:Hd->Wd
 |.sign _=>.sign | .any=>.any | .inn _=>.inn | .out _=>.out | .beg=>.beg | .fin=>.fin | .row=>.row | .alt=>.alt
 |.times _ _ _=>.times | .grp _=>.grp | .again _=>.again | .hav _=>.hav | .look .once=>.once | .look .ahead=>.ahead | .look .notahead=>.notahead | .look .behind=>.behind | .look .notbehind=>.notbehind
theorem Hd.word_wd(h:Hd):h.word=h.wd.text:=by
 cases h with
 |look lk=>cases lk <;> rfl
 |_=>rfl
def X2(x y:Str):Bool:=decide (V.str x=V.str y)
theorem Z7{c A B:Prop}[Decidable c](h:¬c)(b:B):if c then A else B:=by rw[if_neg h];exact b
theorem Zm{c A B:Prop}[Decidable c](h:c)(a:A):if c then A else B:=by rw[if_pos h];exact a
theorem Yh{α β:Type}{F:α->β->Prop}:∀ {xs:List α} {ys:List β} {i:Nat} {x:α},Paired F xs ys->xs[i]? = some x->∃y,ys[i]? = some y/\F x y
 |_,_,_,_,.nil,e=>by simp at e
 |_,_,0,_,.cons r _,e=>by simp at e;subst e;exact⟨_,rfl,r⟩
 |_,_,i+1,x,.cons _ t,e=>by
  obtain⟨y,h1,h2⟩:=Yh (i:=i) (x:=x) t (by simpa using e)
  exact⟨y,by simpa using h1,h2⟩
theorem Wi{α:Type}{l:List α}{i:Nat}{x:α}(h:l[i]? = some x):l.take (i+1)=l.take i++[x]:=by rw[List.take_add_one,h];rfl
theorem Z4k{α β:Type}{f:α->β}{l:List α}{i:Nat}{x:α}(h:l[i]? = some x):(l.take (i+1)).map f=(l.take i).map f++[f x]:=by rw[Wi h,List.map_append];rfl
def Zgb(ns:List Int):Int:=ns.getD (argBest (fun i j=>decide (ns.getD i 0>ns.getD j 0)) (ns.length-1)) 0
theorem Z4h{ps:List (Int×Tok)}{ns:List Int}(e:ps.map (·.1)=ns):numAt ps.toArray=fun i=>ns.getD i 0:=by
 funext i
 subst e
 simp[numAt,List.getD_eq_getElem?_getD,List.getElem?_map]
theorem Zbh{ps:List (Int×Tok)}{ns:List Int}(e:ps.map (·.1)=ns){k:Nat}{v:Value}(h:(intItems ps.toArray)[k]? = some v):∃t,v=.int (ns.getD k 0) t:=by
 obtain⟨t,q⟩:=intItems_at h
 rw[Z4h e]at q
 exact⟨t,q⟩
section
variable{X:Cx}
end
def Z9u:V->Bool
 |.non=>true | .bl _=>true | .int _=>true | .str _=>true | _=>false
def SameAt(H:Hp):Nat->V->V->Prop
 |0,_,_=>False
 |n+1,x,y=>(x=y/\Z9u x=true)∨(∃(a b:Addr) (xs ys:List V),x=.ref a/\y=.ref b/\H a=some (.tup xs)/\H b=some (.tup ys)/\xs.length<=1000000/\Paired (SameAt H n) xs ys)
end Seek
namespace L2
open PySem PySem.Spec PyProof.Rows
section
variable{κ:Type}[DecidableEq κ]
def X4(kvs:List (κ×V))(k:κ):Option V:=(kvs.find? fun kv=>decide (kv.1=k)).map (·.2)
def Z5t(kvs:List (κ×V))(k:κ)(v:V):List (κ×V) :=
 if(kvs.any fun kv=>decide (kv.1=k))=true then kvs.map (fun kv=>if kv.1=k then(kv.1,v) else kv) else kvs++[(k,v)]
theorem Z44{p:κ×V}{r:List (κ×V)}{k:κ}(e:p.1=k):X4 (p::r) k=some p.2:=by simp[X4,List.find?_cons,e]
theorem Z45{p:κ×V}{r:List (κ×V)}{k:κ}(e:¬p.1=k):X4 (p::r) k=X4 r k:=by simp[X4,List.find?_cons,e]
theorem Z3v(kvs:List (κ×V))(k:κ)(v:V):(Z5t kvs k v).length<=kvs.length+1:=by
 unfold Z5t
 split
 ·rw[List.length_map];omega
 ·rw[List.length_append,List.length_cons,List.length_nil];omega
theorem RelO.isSome_eq{o:Option V}{u:Option Value}(r:RelO o u):o.isSome=u.isSome:=by
 cases o with
 |none=>cases u with
  |none=>rfl
  |some _=>exact(show False from r).elim
 |some _=>cases u with
  |none=>exact(show False from r).elim
  |some _=>rfl
theorem KV.val{kvs:List (κ×V)}{vs:List (κ×Value)}(r:KV kvs vs)(k:κ):RelO (X4 kvs k) (valueAt vs k):=by
 unfold KV at r
 induction r with
 |nil=>exact True.intro
 | @cons p q ps qs h t ih =>
  obtain⟨h1,h2⟩:=h
  by_cases e:p.1=k
  ·have e':q.1=k:=h1.symm.trans e
   have b:valueAt (q::qs) k=some q.2:=by simp[valueAt,List.find?_cons,e']
   rw[Z44 e,b];exact h2
  ·have e':¬q.1=k:=fun z=>e (h1.trans z)
   have b:valueAt (q::qs) k=valueAt qs k:=by simp[valueAt,List.find?_cons,e']
   rw[Z45 e,b];exact ih
theorem KV.any{kvs:List (κ×V)}{vs:List (κ×Value)}(r:KV kvs vs)(k:κ):(kvs.any fun kv=>decide (kv.1=k))=vs.any fun kv=>decide (kv.1=k):=by
 unfold KV at r
 induction r with
 |nil=>rfl
 |cons h t ih=>rw[List.any_cons,List.any_cons,ih,h.1]
theorem KV.repl{kvs:List (κ×V)}{vs:List (κ×Value)}(r:KV kvs vs)(k:κ){y:V}{u:Value}(ry:RelV y u) :
  KV (kvs.map fun kv=>if kv.1=k then(kv.1,y) else kv) (vs.map fun kv=>if kv.1=k then(kv.1,u) else kv):=by
 unfold KV at r ⊢
 induction r with
 |nil=>exact .nil
 | @cons p q ps qs h t ih =>
  rw[List.map_cons,List.map_cons]
  refine .cons ?_ ih
  obtain⟨h1,h2⟩:=h
  by_cases e:p.1=k
  ·rw[if_pos e,if_pos (h1.symm.trans e)];exact⟨h1,ry⟩
  ·rw[if_neg e,if_neg (fun z=>e (h1.trans z))];exact⟨h1,h2⟩
theorem KV.put{kvs:List (κ×V)}{vs:List (κ×Value)}(r:KV kvs vs)(k:κ){y:V}{u:Value}(ry:RelV y u):KV (Z5t kvs k y) (stored vs k u):=by
 unfold Z5t stored
 rw[r.any k]
 by_cases e:(vs.any fun kv=>decide (kv.1=k))=true
 ·rw[if_pos e,if_pos e];exact r.repl k ry
 ·rw[if_neg e,if_neg e];exact Paired.snoc r ⟨rfl,ry⟩
theorem KV.length{kvs:List (κ×V)}{vs:List (κ×Value)}(r:KV kvs vs):kvs.length=vs.length:=Paired.length r
end
theorem Z2q{P:Program}{w:World}{k:V6}{u:Value}(r:RelV (kV k) u):(Yp P w).is k u=true:=by
 cases k with
 |inl i=>obtain⟨t,e⟩:=(show ∃t,u=Value.int i t from r);subst e;exact Z3t P w i t
 |inr x=>obtain⟨t,e⟩:=(show ∃t,u=Value.str x t from r);subst e;exact Z3s P w x t
theorem Z25{P:Program}{w:World}:∀ {ks:List V6} {us:List Value},Vals (ks.map kV) us->ItemsAre (Yp P w) ks us
 | [],_,r=>by rw[List.map_nil]at r;cases r;exact .nil
 |k::ks,_,r=>by
  rw[List.map_cons]at r
  cases r with
  |cons h t=>exact .cons (Z2q h) (Z25 t)
abbrev KT(H:Hp):List (List V6×V)->List (List V6×Addr×Value)->Prop:=Paired fun p q=>p.1=q.1/\H q.2.1=some (.tup (p.1.map kV))/\RelV p.2 q.2.2
theorem KT.val{H:Hp}{kvs:List (List V6×V)}{xs:List (List V6×Addr×Value)}(r:KT H kvs xs)(k:List V6):RelO (X4 kvs k) ((atKey xs k).map (·.2)):=by
 induction r with
 |nil=>exact True.intro
 | @cons p q ps qs h t ih =>
  obtain⟨h1,_,h2⟩:=h
  by_cases e:p.1=k
  ·have e':q.1=k:=h1.symm.trans e
   have b:atKey (q::qs) k=some q.2:=by simp[atKey,List.find?_cons,e']
   rw[Z44 e,b];exact h2
  ·have e':¬q.1=k:=fun z=>e (h1.trans z)
   have b:atKey (q::qs) k=atKey qs k:=by simp[atKey,List.find?_cons,e']
   rw[Z45 e,b];exact ih
section
variable{P:Program}{w:World}{H:Hp}{h:Heap}{a:Addr}
theorem Zc9{u:HO}(ok:HOk P w H h)(e:Rd H a u):ObjOk P w H h a u:=e.ok ok
theorem Z7c{kvs:List (V6×V)}(ok:HOk P w H h)(e:Rd H a (.dK kvs)):kvs.length<=sizeLine/\(a==sysModules)=false/\∃vs,KV kvs vs/\h.DictOf (Yp P w) a vs :=
 show ObjOk P w H h a (.dK kvs) from Zc9 ok e
theorem Zg0{kvs:List (V6×V)}(ok:HOk P w H h)(e:H a=some (.dK kvs)):kvs.length<=sizeLine/\(a==sysModules)=false/\∃vs,KV kvs vs/\h.DictOf (Yp P w) a vs:=Z7c ok (.inl e)
theorem Z6c{ks:List V6}(ok:HOk P w H h)(e:H a=some (.tup (ks.map kV))):(tupleKind (Yp P w)).is h ks a:=by
 obtain⟨_,its,r,o,h1,h2,n,h3⟩:=(show ObjOk P w H h a (.tup (ks.map kV)) from ok a _ e)
 exact⟨o,its.toArray,n,h1,h2,h3,by simpa using Z25 r⟩
theorem Zaf{kvs:List (List V6×V)}(ok:HOk P w H h)(e:Rd H a (.dT kvs)):kvs.length<=sizeLine/\(a==sysModules)=false /\
  ∃xs,KT H kvs xs/\h.DictOfH (tupleKind (Yp P w)) a xs:=by
 obtain⟨z,y,xs,r,o,es,ep,h1,h2,h3,h4,h5⟩:=(show ObjOk P w H h a (.dT kvs) from Zc9 ok e)
 refine⟨z,y,xs,r,o,es,ep,h1,h2,h3,h4,fun x hx=>?_,h5⟩
 have all:∀ {l:List (List V6×V)} {m:List (List V6×Addr×Value)},KT H l m->∀x∈m,(tupleKind (Yp P w)).is h x.1 x.2.1:=by
  intro l m q
  induction q with
  |nil=>intro x hx;exact nomatch hx
  | @cons p q ps qs hq t ih =>
   intro x hx
   rcases List.mem_cons.mp hx with e | hx
   ·subst e
    exact Z6c ok (by rw[← hq.1];exact hq.2.1)
   ·exact ih x hx
 exact all r x hx
end
def DGet(H:Hp)(a:Addr)(y:V)(r:Option V):Prop :=
 (∃kvs k,Rd H a (.dK kvs)/\y=kV k/\r=X4 kvs k)∨∃kvs k b,Rd H a (.dT kvs)/\y=.ref b/\H b=some (.tup (k.map kV))/\r=X4 kvs k
theorem DGet.k{H:Hp}{a:Addr}{kvs:List (V6×V)}{k:V6}(e:H a=some (.dK kvs)):DGet H a (kV k) (X4 kvs k):=.inl ⟨kvs,k,.inl e,rfl,rfl⟩
section
variable{X:Cx}{Z4:List (Addr×Obj)}{σ:St}{H:Hp}{s:Shared}{a:Addr}{y v:V}{u r:Value}{o:Option V}{A:Around}{E:Value->Shared->Prop}{kvs:List (V6×V)}{k:V6}
theorem Inv.big(I:Inv X Z4 σ H s):sysModules<s.heap.objs.size:=by
 have h:mainGlobals<s.heap.objs.size:=(I.mod.glob.keeps I.bk).lt
 exact Nat.lt_trans (by decide) h
theorem Z7x{Q:Value->Shared->Prop}(hu:A.units+1<cLine)(I:Inv X Z4 σ H s)(g:DGet H a y (some v))(ry:RelV y u)(h:∀w' s',Inv X Z4 σ H s'->RelV v w'->Q w' s') :
  wpAny (model X.prog X.w) A (getItem (.ref a) u) Q E s:=by
 rcases g with⟨kvs,k,e,ey,l⟩ | ⟨kvs,k,b,e,ey,eb,l⟩
 ·subst ey
  obtain⟨z,hd,vs,rel,dd⟩:=Z7c I.hok e
  obtain⟨w',hw,rw'⟩:=RelO.some_of (v:=v) (o:=valueAt vs k) (by rw[l];exact rel.val k)
  exact wpAny_getItem_of (Z2q ry) dd.mapOf hw (h w' _ (I.tok _) rw')
 ·subst ey
  cases(show u=Value.ref b from ry)
  obtain⟨z,hd,xs,rel,dd⟩:=Zaf I.hok e
  obtain⟨w',hw,rw'⟩:=RelO.some_of (v:=v) (o:=(atKey xs k).map (·.2)) (by rw[l];exact rel.val k)
  obtain⟨p,hp,hp2⟩:=Option.map_eq_some_iff.mp hw
  refine wpAny_getItem_heap (tupleKind_room_in1 hu) (Z6c I.hok eb) dd hp ?_
  rw[hp2]
  exact h w' _ (I.tok _) rw'
theorem Zhc{Q:Value->Shared->Prop}(hu:A.units+1<cLine)(I:Inv X Z4 σ H s)(g:DGet H a y o)(ry:RelV y u)(h:∀s',Inv X Z4 σ H s'->Q (.bool o.isSome) s') :
  wpAny (model X.prog X.w) A (compareOp .In u (.ref a)) Q E s:=by
 rcases g with⟨kvs,k,e,ey,l⟩ | ⟨kvs,k,b,e,ey,eb,l⟩
 ·subst ey
  obtain⟨z,hd,vs,rel,dd⟩:=Z7c I.hok e
  refine wpAny_in_of (Z2q ry) hd dd.mapOf ?_
  rw[← (rel.val k).isSome_eq,← l]
  exact h _ (I.tok _)
 ·subst ey
  cases(show u=Value.ref b from ry)
  obtain⟨z,hd,xs,rel,dd⟩:=Zaf I.hok e
  refine wpAny_in_heap (tupleKind_room_in1 hu) (Z6c I.hok eb) hd dd ?_
  have q:=(rel.val k).isSome_eq
  rw[Option.isSome_map]at q
  rw[← q,← l]
  exact h _ (I.tok _)
theorem Zbl{h':Heap}{t':Nat}{ob:HO}(I:Inv X Z4 σ H s)(mu:Zgg (H a))(hs:Heap.SameBut a s.heap h')(he:∃q,h'.get? a=some q)(new:ObjOk X.prog X.w (Y2 H a ob) h' a ob) :
  Inv X Z4 σ (Y2 H a ob) { s with heap:=h',toks:=t' } :=
 I.write (x:=a) (e:=a) mu (.inl rfl) (fun b q hb z=>(hs.2 b hb).trans z) he new
theorem Zed{P:Program}{w:World}{H':Hp}{h':Heap}{kvs:List (V6×V)}{vs:List (V6×Value)}(z:kvs.length<=sizeLine)(hd:(a==sysModules)=false)(rel:KV kvs vs)(dd:h'.DictOf (Yp P w) a vs) :
  ObjOk P w H' h' a (.dK kvs):=⟨z,hd,vs,rel,dd⟩
end
def Zf4(i:Expr):Prop:=∀ov iv,subscripted i false ov iv=operate [ov,iv] (getItem ov iv)
theorem Z6l{prog:Program}{w:World}{A:Around}{E:Value->Shared->Prop}{s:Shared}{env:Env}{value slice:Expr}{pos:Pos}{T id:String}{Q:Value->Shared->Prop}
  (hl:typeLookup (.type T) "__getitem__" = pure (some (.builtin id))) (hs:Zf4 slice)
  (h:wpAny (model prog w) A (eval value env) (fun o s₁=>wpAny (model prog w) A (eval slice env) (fun i s₂=>s₂.TypeIs o T/\wpAny (model prog w) A (getItem o i) Q E s₂) E s₁) E s) :
  wpAny (model prog w) A (eval (.Subscript value slice pos) env) Q E s:=by
 refine Subscript_ (wpAny_mono h (fun o s₁ h₁=>wpAny_mono h₁ (fun i s₂ h₂=>?_) fun _ _ x=>x) fun _ _ x=>x)
 obtain⟨hT,h₂⟩:=h₂
 unfold subscriptTail
 refine wpAny_bind ?_
 rw[getitemInPython_of_ne hT.not_modules]
 refine wpAny_bind (wpAny_specialOf hT hl ?_)
 have fin:wpAny (model prog w) A (subscripted slice false o i) (fun r s₃=>wpAny (model prog w) A (letTemporaryGo value o r >>= fun _=>pure r) Q E s₃) E s₂:=by
  rw[hs o i]
  exact wpAny_operating (wpAny_mono h₂ (fun r s₃ h₃=>wpAny_bind (wpAny_letTemporaryGo (wpAny_pure h₃))) fun _ _ x=>x)
 first
  |exact wpAny_pure (wpAny_bind fin)
  |exact wpAny_bind (wpAny_pure (wpAny_bind fin))
  |exact wpAny_bind fin
theorem Z3w{X:Cx}{Z4:List (Addr×Obj)}{σ:St}{H:Hp}{s:Shared}{a:Addr}{y:V}{o:Option V}(I:Inv X Z4 σ H s)(g:DGet H a y o):s.TypeIs (.ref a) "dict":=by
 rcases g with⟨kvs,k,e,_,_⟩ | ⟨kvs,k,b,e,_,_,_⟩
 ·obtain⟨_,_,vs,_,dd⟩:=Z7c I.hok e
  exact dd.typeIs
 ·obtain⟨_,_,xs,_,dd⟩:=Zaf I.hok e
  exact dd.typeIs
def Za9(td ty:TE):TE:=fun σ H Q=>td σ H fun x H1=>ty σ H1 fun y H2=>∃a v,x=.ref a/\DGet H2 a y (some v)/\Q v H2
def Zgz(ty td:TE):TE:=fun σ H Q=>ty σ H fun y H1=>td σ H1 fun x H2=>∃a o,x=.ref a/\DGet H2 a y o/\Q (.bl o.isSome) H2
section
variable{X:Cx}{o i e value:Expr}{pos pos' tpos:Pos}{td ty tv:TE}
theorem Z32(hu:X.A.units+1<cLine)(ho:PE X o td)(hi:PE X i ty)(hs:Zf4 i):PE X (.Subscript o i pos) (Za9 td ty):=by
 intro Z4 s σ H Q I h
 refine Z6l PySem.F.slot_dict_getitem.lookup hs (Xt (ho Z4 s σ H _ I h) fun u s1 ⟨x,H1,I1,rx,q1⟩=>Xt (hi Z4 s1 σ H1 _ I1 q1) fun iv s2 ⟨y,H2,I2,ry,a,v,ex,g,q2⟩=>?_)
 subst ex
 obtain rfl:u=Value.ref a:=rx
 exact⟨Z3w I2 g,Z7x hu I2 g ry fun w' s3 I3 rw'=>⟨v,H2,I3,rw',q2⟩⟩
theorem Zdu(hu:X.A.units+1<cLine)(hi:PE X i ty)(ho:PE X o td):PC X .In i o (Zgz ty td):=by
 intro Z4 s σ H Q I h
 refine Xt (hi Z4 s σ H _ I h) fun iv s1 ⟨y,H1,I1,ry,q1⟩=>Xt (ho Z4 s1 σ H1 _ I1 q1) fun u s2 ⟨x,H2,I2,rx,a,ov,ex,g,q2⟩=>?_
 subst ex
 obtain rfl:u=Value.ref a:=rx
 exact Zhc hu I2 g ry fun s3 I3=>⟨.bl ov.isSome,H2,I3,rfl,q2⟩
end
theorem Z9e{P:Program}{w:World}{H:Hp}(h:Heap)(hb:sysModules<h.objs.size):ObjOk P w H (h.push { cls:=.type "dict",data:=.dict #[] }) h.objs.size (.dK []) :=
 ⟨Nat.zero_le _,beq_eq_false_iff_ne.mpr (Ne.symm (Nat.ne_of_lt hb)),[],.nil,Heap.DictOf.new h⟩
section
variable{X:Cx}{pos:Pos}
end
def Z5x:List (TE×TE)->St->Hp->(List (V×V)->Hp->Prop)->Prop
 | [],_,H,Q=>Q [] H
 |(tk,tv)::r,σ,H,Q=>tk σ H fun x H1=>tv σ H1 fun y H2=>Z5x r σ H2 fun ps H3=>Q ((x,y)::ps) H3
abbrev VV:List (V×V)->List (Value×Value)->Prop:=Paired fun p q=>RelV p.1 q.1/\RelV p.2 q.2
def Zgq(X:Cx)(pos:Pos)(keys:List (Option Expr))(values:List Expr)(trs:List (TE×TE)):Prop :=
 ∀(Z4:List (Addr×Obj)) (s:Shared) (σ:St) (H:Hp) (Q:List (V×V)->Hp->Prop),Inv X Z4 σ H s->Z5x trs σ H Q ->
  wpAny (model X.prog X.w) X.A (evalPairs (pairTrees keys values X.env pos)) (fun vs s'=>∃ps H',Inv X Z4 σ H' s'/\VV ps vs/\Q ps H') X.xe s
theorem Z2z{X:Cx}{pos:Pos}:Zgq X pos [] [] []:=fun Z4 s σ H Q I h=>pairTrees_nil_walk ⟨[],H,I,.nil,h⟩
theorem Xn{X:Cx}{pos:Pos}{k v:Expr}{ks:List (Option Expr)}{vs:List Expr}{tk tv:TE}{trs:List (TE×TE)}(hk:PE X k tk)(hv:PE X v tv)(hr:Zgq X pos ks vs trs) :
  Zgq X pos (some k::ks) (v::vs) ((tk,tv)::trs):=fun Z4 s σ H Q I h =>
 pairTrees_cons_walk (Xt (hk Z4 s σ H _ I h) fun u s1 ⟨x,H1,I1,rx,q1⟩=>Xt (hv Z4 s1 σ H1 _ I1 q1) fun w2 s2 ⟨y,H2,I2,ry,q2⟩ =>
  Xt (hr Z4 s2 σ H2 _ I2 q2) fun ws s3 ⟨ps,H3,I3,rel,q3⟩=>⟨(x,y)::ps,H3,I3,.cons ⟨rx,ry⟩ rel,q3⟩)
def Xg(kvs more:List (V6×V)):List (V6×V):=more.foldl (fun acc kv=>Z5t acc kv.1 kv.2) kvs
theorem KV.merge:∀ {more:List (V6×V)} {rs:List (V6×Value)} {kvs:List (V6×V)} {vs:List (V6×Value)},KV more rs->KV kvs vs->KV (Xg kvs more) (merged vs rs):=by
 intro more rs kvs vs r
 unfold KV at r
 induction r generalizing kvs vs with
 |nil=>intro q;exact q
 | @cons p q ps qs h t ih =>
  intro r0
  have e:KV (Z5t kvs p.1 p.2) (stored vs q.1 q.2):=by
   have:=r0.put p.1 h.2
   rw[← h.1];exact this
  exact ih e
theorem T8:∀(more kvs:List (V6×V)),(Xg kvs more).length<=kvs.length+more.length
 | [],kvs=>by show kvs.length<=kvs.length+0;omega
 |p::r,kvs=>by
  have h1:=T8 r (Z5t kvs p.1 p.2)
  have h2:=Z3v kvs p.1 p.2
  show(Xg (Z5t kvs p.1 p.2) r).length<=_
  rw[List.length_cons];omega
theorem Z0t{P:Program}{w:World}:∀ {kvs:List (V6×V)} {ws:List (Value×Value)},VV (kvs.map fun kv=>(kV kv.1,kv.2)) ws->∃rs,Carries (Yp P w) ws rs/\KV kvs rs
 | [],_,r=>by rw[List.map_nil]at r;cases r;exact⟨[],True.intro,.nil⟩
 |p::kvs,_,r=>by
  rw[List.map_cons]at r
  cases r with
  | @cons a b as bs h t =>
   obtain⟨rs,c,q⟩:=Z0t (P:=P) (w:=w) t
   obtain⟨b1,b2⟩:=b
   exact⟨(p.1,b2)::rs,⟨Z2q h.1,rfl,c⟩,.cons ⟨rfl,h.2⟩ q⟩
def Za8(trs:List (TE×TE)):TE:=fun σ H Q=>∀p,H p=none->Z5x trs σ (Y2 H p (.dK [])) fun ps H2=>H2 p=some (.dK [])/\∃kvs:List (V6×V),ps=kvs.map (fun kv=>(kV kv.1,kv.2))/\kvs.length<=15/\Q (.ref p) (Y2 H2 p (.dK (Xg [] kvs)))
theorem Z31{X:Cx}{pos:Pos}{keys:List (Option Expr)}{values:List Expr}{trs:List (TE×TE)}(h:Zgq X pos keys values trs)(hall:keys.all (·.isSome)=true)(hl:keys.length=values.length)(h0:keys≠[])
  (h15:keys.length<=15):PE X (.Dict keys values pos) (Za8 trs):=by
 intro Z4 s σ H Q I q
 have hn:=I.hok.fresh (Nat.le_refl s.heap.objs.size)
 have I1:=I.laid (a:=s.heap.objs.size) (o:=.dK []) (h':=s.heap.push { cls:=.type "dict",data:=.dict #[] }) (t':=s.toks) (fun _ _ q=>Heap.get?_push_of_some _ q) (Nat.le_refl _) (Z9e s.heap I.big)
 refine wpAny_Dict_walk (knd:=Yp X.prog X.w) hall hl h0 h15 (Xt (h Z4 _ σ _ _ I1 (q _ hn)) fun ws s2 ⟨ps,H2,I2,rel,e,kvs,ep,lk,q2⟩=>?_)
 subst ep
 obtain⟨rs,c,rk⟩:=Z0t (P:=X.prog) (w:=X.w) rel
 obtain⟨z,hd,vs0,r0,dd⟩:=Zg0 I2.hok e
 cases r0
 refine⟨rs,c,dd,fun h' dd' hs=>⟨.ref s.heap.objs.size,_,?_,rfl,q2⟩⟩
 have hz:(Xg [] kvs).length<=sizeLine:=by
  have h1:=T8 kvs []
  rw[List.length_nil]at h1
  rw[sizeLine_eq];omega
 have he:∃q,h'.get? s.heap.objs.size=some q:=let⟨q,_,_,hq,_⟩:=dd';⟨q,hq⟩
 exact Zbl I2 (by rw[e];exact True.intro) hs he (Zed hz hd (rk.merge .nil) dd')
def Zaj(w:World)(e:DictEntry)(kv:V6×V):Prop:=Ul kv.1 e.key=true/\e.hash=Zg6 w kv.1/\RelV kv.2 e.val
def DcK(K:W.Frag)(w:World)(a:Addr)(kvs:List (V6×V)):Prop:=(a==sysModules)=false/\∃(o:Obj) (es:Array DictEntry) (ep:Nat),K.lookup a=some o/\o.ExactDict/\o.data=.dict es ep/\Paired (Zaj w) es.toList kvs/\(kvs.map (·.1)).Nodup
theorem Td{P:Program}{w:World}:∀ {es:List DictEntry} {kvs:List (V6×V)},Paired (Zaj w) es kvs->∃vs:List (V6×Value),KV kvs vs/\PySem.Pairs (Yp P w) es vs/\vs.map (·.1)=kvs.map (·.1)/\∀e∈es,∃k,(Yp P w).is k e.key=true/\e.hash=(Yp P w).hash k
 |_,_,.nil=>⟨[],.nil,.nil,rfl,fun e he=>by simp at he⟩
 |e::es,kv::kvs,.cons ⟨h1,h2,h3⟩ t=>by
  obtain⟨vs,r,p,m,k⟩:=Td (P:=P) t
  refine⟨(kv.1,e.val)::vs,.cons ⟨rfl,h3⟩ r,.cons h1 rfl p,by simp[m],fun e' he'=>?_⟩
  rcases List.mem_cons.mp he' with rfl | he'
  ·exact⟨kv.1,h1,h2⟩
  ·exact k e' he'
section
variable{X:Cx}{Z4:List (Addr×Obj)}{σ:St}{H:Hp}{s:Shared}{a:Addr}{kvs:List (V6×V)}
theorem Inv.dcK(I:Inv X Z4 σ H s)(h:DcK X.K X.w a kvs):∃vs:List (V6×Value),KV kvs vs/\s.heap.DictOf (Yp X.prog X.w) a vs:=by
 obtain⟨_,o,es,ep,l,x,d,p,nd⟩:=h
 obtain⟨vs,r,pr,m,k⟩:=Td (P:=X.prog) p
 exact⟨vs,r,o,es,ep,I.kIn a o l,x,d,fun e he=>k e (by simpa using he),pr,by rw[m];exact nd⟩
end
def Zhx(K:W.Frag)(w:World):R2:=fun x y H Q=>∃a kvs k v,x=.ref a/\DcK K w a kvs/\y=kV k/\X4 kvs k=some v/\Q v H
def Zc8(K:W.Frag)(w:World)(td ty:TE):TE:=Te (Zhx K w) td ty
def Zh8(K:W.Frag)(w:World):R2:=fun y x H Q=>∃a kvs k,x=.ref a/\DcK K w a kvs/\y=kV k/\Q (.bl (X4 kvs k).isSome) H
section
variable{X:Cx}{o i:Expr}{pos:Pos}{td ty:TE}
theorem T2(ho:PE X o td)(hi:PE X i ty)(hs:Zf4 i):PE X (.Subscript o i pos) (Zc8 X.K X.w td ty):=by
 intro Z4 s σ H Q I h
 refine Z6l PySem.F.slot_dict_getitem.lookup hs (Xt (ho Z4 s σ H _ I h) fun u s1 ⟨x,H1,I1,rx,q1⟩=>Xt (hi Z4 s1 σ H1 _ I1 q1) fun iv s2 ⟨y,H2,I2,ry,a,kvs,k,v,ex,dc,ey,hv,q2⟩=>?_)
 subst ex ey
 obtain rfl:u=Value.ref a:=rx
 obtain⟨vs,rel,dd⟩:=I2.dcK dc
 obtain⟨w',hw,rw'⟩:=RelO.some_of (v:=v) (o:=valueAt vs k) (by rw[← hv];exact rel.val k)
 exact⟨dd.typeIs,wpAny_getItem_of (Z2q ry) dd.mapOf hw ⟨v,H2,I2.tok _,rw',q2⟩⟩
theorem Z9w:Z3l X (compareOp .In) (Zh8 X.K X.w):=by
 intro Z4 s σ H y x iv u Q I ry rx h
 obtain⟨a,kvs,k,rfl,dc,rfl,q⟩:=h
 obtain rfl:u=Value.ref a:=rx
 obtain⟨vs,rel,dd⟩:=I.dcK dc
 refine wpAny_in_of (Z2q ry) dc.1 dd.mapOf ?_
 rw[← (rel.val k).isSome_eq]
 exact⟨.bl (X4 kvs k).isSome,H,I.tok _,rfl,q⟩
end
theorem Z6f{K:W.Frag}{w:World}{a:Addr}{es:Array DictEntry}{ep:Nat}{kvs:List (V6×V)}(l:K.lookup a=some ⟨.type "dict",none,.dict es ep,#[]⟩)(hd:(a==sysModules)=false)(p:Paired (Zaj w) es.toList kvs)(nd:(kvs.map (·.1)).Nodup):DcK K w a kvs :=
 ⟨hd,_,es,ep,l,⟨rfl,rfl,rfl⟩,rfl,p,nd⟩
theorem W1{w:World}{h:Int}{x y:Str}{t u:Tok}(e:h=PyData.keyHash w.params x):Zaj w ⟨h,.str x t,.str y u⟩ (.inr x,.str y):=⟨Z23 x t,e,⟨u,rfl⟩⟩
def Wc(X:Cx)(scope:Scope)(xs:List Str)(C:Addr)(s:Shared)(H:Hp)(ex:List Addr):Cx :=
 { X with N:=xs++X.N,s₀:=s,H₀:=H,env:=compEnvC scope (Z1e scope.names X.env.cells) C X.env,outer:=X.stack,ex:=ex,fn:=fun _=>false,pn:=[],xe:=fun _ _=>False }
structure CScopeN(xs:List Str)(N:List Str)(osc scope:Scope):Prop where
 kind:scope.kind=.function
 nd:(xs++N).Nodup
 own:∀x∈xs,scope.names.lookup x=some .local
 nocell:∀y∈scope.names,y.2≠.cell
 names:∀y∈scope.names,y.2=.local->scope.names.lookup y.1=some .local
 free:∀y∈scope.names,y.2=.free->osc.names.lookup y.1=some .cell
 nol:∀y∈N,scope.names.lookup y≠some .local
section
variable{X:Cx}{Z4:List (Addr×Obj)}{σ:St}{H:Hp}{s:Shared}
theorem CScopeN.has{xs:List Str}{scope:Scope}(S:CScopeN xs X.N X.env.scope scope)(ok:X.Ok):∀p∈scope.names,p.2=.free->∃c,X.env.cells.lookup p.1=some c:=fun p hp hk =>
 ok.has p.1 (.inl (S.free p hp hk))
theorem Z4r{xs:List Str}{y:Str}{scope:Scope}{C:Addr}{H₀:Hp}{ex:List Addr}(S:CScopeN xs X.N X.env.scope scope)(ok:X.Ok)(hk:(Wc X scope xs C s H₀ ex).env.kindOf y=some .cell∨(Wc X scope xs C s H₀ ex).env.kindOf y=some .free) :
  X.env.kindOf y=some .cell/\∃c,(Z1e scope.names X.env.cells).lookup y=some c:=by
 have e:(Wc X scope xs C s H₀ ex).env.kindOf y=(scope.names.lookup y).map fun k=>if(k==NameKind.free&&X.env.scope.kind==.function&&X.env.kindOf y==some .cell) then NameKind.cell else k:=Yy X.env scope.names y
 rw[e]at hk
 cases q:scope.names.lookup y with
 |none=>rw[q]at hk;simp at hk
 |some k =>
  rw[q]at hk
  have hm:=PySem.mem_of_lookup q
  have hfree:k=.free:=by
   cases k with
   |free=>rfl
   |cell=>exact absurd rfl (S.nocell _ hm)
   |_=>simp at hk
  subst hfree
  have h1:=S.free _ hm rfl
  obtain⟨c,hc⟩:=ok.has y (.inl h1)
  exact⟨h1,Z4n hm hc⟩
theorem Z5o{xs:List Str}{scope:Scope}{C acc:Addr}{fp:List Addr}{h':Heap}{t':Nat}{m:Str->Option Value}(S:CScopeN xs X.N X.env.scope scope)(I:Inv X Z4 σ H s)(hf:∀b∈fp,T7 X Z4 H b)(ho:∀b∈fp,∃o,s.heap.get? b=some o)
  (hC:s.heap.objs.size<=C) (hn:h'.Ns C m) (old:∀b o,s.heap.get? b=some o->h'.get? b=some o):Inv (Wc X scope xs C s H fp) [] (List.replicate xs.length none++σ) H { s with heap:=h',toks:=t' }:=by
 have sub:=Tz scope.names X.env.cells
 refine⟨⟨I.ok.mod,S.kind,I.ok.glob,I.ok.blt,hC,fun y z c h1 h2=>I.ok.inj y z c (sub _ _ h1) (sub _ _ h2),fun y hy=>(Z4r S I.ok hy).2,fun y c z _=>absurd (show false=true from z) Bool.false_ne_true,I.ok.hd,I.ok.frames,.inl rfl,fun b hb=>⟨?_,fun y c e=>?_⟩,I.bs,Nat.le_trans I.ok.bsz I.sz,fun b o e hb=>?_,fun b hb z=>?_,I.stack,I.stkFree⟩,
  rfl,I.bare,Un.kept old,⟨m,hn,fun i y v h1 h2 h3=>?_⟩,fun y c e=>?_,I.hok.fresh hC,fun y c e=>I.freeC y c (sub _ _ e),fun p hp=>absurd (show p∈([]:List (Addr×Obj)) from hp) (by simp),I.hok.kept old,?_⟩
 ·obtain⟨o,e⟩:=ho b hb
  exact Nat.ne_of_lt (Nat.lt_of_lt_of_le (Heap.lt_size e) hC)
 ·exact(hf b hb).2.2.2.2.1 y c (sub _ _ e)
 ·rcases(hf b hb).2.2.2.1 with z | z
  ·exact I.ok.noex b o e z
  ·exact absurd (Nat.lt_of_lt_of_le (Heap.lt_size e) (Nat.le_trans I.ok.bsz z)) (Nat.lt_irrefl _)
 ·rcases List.mem_cons.mp (I.stkSub b z) with e | e
  ·exact(hf b hb).2.1 e
  ·exact(hf b hb).2.2.1 e
 ·have hi:¬i<xs.length:=fun hi=>by
   rw[List.getElem?_append_left (by simpa using hi),List.getElem?_replicate]at h2
   split at h2 <;> cases h2
  obtain⟨j,rfl⟩:∃j,i=xs.length+j:=⟨i-xs.length,by omega⟩
  all_goals
   have h1':X.N[j]? = some y:=by
    have z:(xs++X.N)[xs.length+j]? = some y:=h1
    rw[List.getElem?_append_right (by omega)]at z
    simpa using z
   have h2':σ[j]? = some (some v):=by
    rw[List.getElem?_append_right (by simp)]at h2
    simpa using h2
   have hk:(Wc X scope xs C s H fp).env.kindOf y=some .cell∨(Wc X scope xs C s H fp).env.kindOf y=some .free:=by
    rcases h3 with h3 | h3
    ·exfalso
     have e:(Wc X scope xs C s H fp).env.kindOf y=(scope.names.lookup y).map fun k=>if(k==NameKind.free&&X.env.scope.kind==.function&&X.env.kindOf y==some .cell) then NameKind.cell else k:=Yy X.env scope.names y
     have h3':(Wc X scope xs C s H fp).env.kindOf y=some .local:=h3
     rw[e]at h3'
     cases q:scope.names.lookup y with
     |none=>rw[q]at h3';cases h3'
     |some k =>
      rw[q]at h3'
      rw[Option.map_some]at h3'
      split at h3'
      ·cases h3'
      ·cases h3'
       exact S.nol y (List.mem_of_getElem? h1') q
    ·exact h3
   obtain⟨hk1,c,hc⟩:=Z4r S I.ok hk
   obtain⟨m1,hn1,hl⟩:=I.loc
   obtain⟨u,r,l⟩:=hl j y v h1' h2' (.inr (.inl hk1))
   refine⟨u,r,.inr ⟨hk,c,hc,?_⟩⟩
   rcases l with⟨l,_⟩ | ⟨_,c',hc',z⟩
   ·rw[hk1]at l;cases l
   ·have:=sub _ _ hc
    rw[hc']at this
    cases this
    obtain⟨o,e,d⟩:=z
    exact⟨o,old _ _ e,d⟩
 ·obtain⟨v,o,e1,d⟩:=I.cell y c (sub _ _ e)
  exact⟨v,o,old _ _ e1,d⟩
 ·show(List.replicate xs.length none++σ).length=(xs++X.N).length
  simp[I.len]
def Zc5(n:Nat)(g:TG)(J:It)(σ:St)(tt:TT)(te:TE)(Fin:List V->Hp->Prop)(H1:Hp):Prop:=∃W:Nat->Nat->List V->Hp->Prop,(∃m,W 0 m [] H1)/\∀i m ys H,W i m ys H ->
 (J.stop i H/\Fin ys H)∨(J.go i H/\ys.length<sizeLine/\∃N:List V->Hp->Prop,(∀ys' H',N ys' H'->∃m',m'<m/\W (i+1) m' ys' H')/\∀x H',J.yld i H x H'->∀τ:St,τ.length=n->g x (τ++σ) H' fun σ' H2=>(∃τ':St,τ'.length=n/\σ'=τ'++σ)/\tt σ' H2 fun b H3 =>
  if b=true then te σ' H3 fun y H4=>N (ys++[y]) H4 else N ys H3)
def Zg3(n:Nat)(g:TG)(wi:TI)(tt:TT)(te:TE):TE:=fun σ H Q=>wi σ H fun J H1=>Zc5 n g J σ tt te (fun ys H=>∀l,H l=none->Q (.ref l) (Y2 H l (.lst ys))) H1
theorem Zbg{prog:Program}{w:World}{A:Around}{R:Result->Shared->Prop}{s:Shared}{elt tg iter:Expr}{ifs:List Expr}{scope:Scope}{pos:Pos}{it acc:Value}{env:Env}{Er:Value->Shared->Prop}(hEr:Er=notedBy (model prog w) A env fun e s'=>R (.error e) s')(J:Nat->Shared->Prop)
  (turn:∀n s,J n s->wpAny (model prog w) A (pyNext it) (fun r s₁=>match r with
   |none=>R (.ok .next) s₁
   |some v=>wpAny (model prog w) A (letOwnedTupleGo tg it v) (fun _ s₀=>wpAny (model prog w) A (assign tg env v) (fun _ s₂ =>
     wpAny (model prog w) A (forIn ifs true fun c r=>if r=true then do let ok ← isTrue c env (eval c env);pure (ForInStep.yield ok) else pure (ForInStep.yield r)) (fun ok s₃ =>
      if ok=true then wpAny (model prog w) A (eval elt env) (fun x s₄=>wpAny (model prog w) A (call (.builtin "list.append") [acc,x]) (fun _ s₅=>∃m,m<n/\J m s₅) Er s₄) Er s₃ else ∃m,m<n/\J m s₃) Er s₂) Er s₀) Er s₁) Er s)
  (n:Nat) (h:J n s):codeAny (model prog w) A (.compLoop (.ListComp elt [⟨tg,iter,ifs,0⟩] scope pos) 0 it acc env) R s:=by
 subst hEr
 refine codeAny_loop rfl J (fun k z hz=>?_) n h
 show wpAny _ A ((compTurn (.ListComp elt [⟨tg,iter,ifs,0⟩] scope pos) 0 it acc env).onRaise (fun x=>do noteFrame x env;theTreesLotGoes x)) _ _ z
 refine wpAny_noted ?_
 rw[compTurn_list]
 refine wpAny_bind (wpAny_standAt (wpAny_bind (wpAny_mono (turn k z hz) (fun o z1 h1=>?_) fun _ _ e=>e)))
 cases o with
 |none=>exact wpAny_pure h1
 |some v =>
  refine wpAny_bind (wpAny_mono h1 (fun _ z0 h0=>?_) fun _ _ e=>e)
  refine wpAny_bind (wpAny_mono h0 (fun _ z2 h2=>wpAny_bind (wpAny_mono h2 (fun ok z3 h3=>?_) fun _ _ e=>e)) fun _ _ e=>e)
  cases ok with
  |false=>exact wpAny_pure ⟨rfl,h3⟩
  |true=>exact wpAny_bind (wpAny_bind (wpAny_mono h3 (fun x z4 h4=>wpAny_bind (wpAny_mono h4 (fun _ z5 h5=>wpAny_pure (wpAny_pure ⟨rfl,h5⟩)) fun _ _ e=>e)) fun _ _ e=>e))
theorem Z5m{elt iter tg:Expr}{g:TG}{xs:List Str}{pos:Pos}{scope:Scope}{ifs:List Expr}{tt:TT}{te:TE}{s2:Shared}{it:Addr}{fp:List Addr}{tn:Nat->Heap->Prop}{J:It}{H2:Hp}{E:Value->Shared->Prop}{Fin:List V->Hp->Prop}{RR:Value->Addr->Result->Shared->Prop}
  (hc:X.calm=true) (S:CScopeN xs X.N X.env.scope scope) (I2:Inv X Z4 σ H2 s2) (T:Turn X.prog X.w X.K tg J fp it tn) (st2:tn 0 s2.heap) (f2:∀b∈fp,T7 X Z4 H2 b) (hw:Zc5 xs.length g J σ tt te Fin H2) (hg:∀C s H ex,PG (Wc X scope xs C s H ex) tg g)
  (ht:∀C s H ex,Zen (Wc X scope xs C s H ex) ifs tt) (he:∀C s H ex,PE (Wc X scope xs C s H ex) elt te)
  (hRR:∀D C s4 ys H3 m5,Inv X Z4 σ (Y2 H3 D (.lst ys)) s4->s4.heap.Ns C m5->T7 X Z4 (Y2 H3 D (.lst ys)) C->H3 D=none->Fin ys H3->RR (.ref D) C (.ok .next) s4) :
  wpAny (model X.prog X.w) X.A (newList []) (fun acc s₃=>wpAny (model X.prog X.w) X.A (newFunctionEnv scope X.env.globals (Z1e scope.names X.env.cells) [] X.env.qual none .none (some X.env)) (fun cenv s₄ =>
   codeAny (model X.prog X.w) X.A (.compStart (.ListComp elt [⟨tg,iter,ifs,0⟩] scope pos) 0 (.ref it) acc { cenv with scope:=relabel scope X.env }) (RR acc cenv.locals) s₄) E s₃) E s2:=by
 obtain⟨W,⟨m0,w0⟩,turn⟩:=hw
 have hob:=T.obj 0 s2.heap st2
 refine wpAny_newObj_type (wpAny_newFunctionEnv S.nocell (by intro y hy;simp at hy) (fun h₁ hns₁ hsb₁=>?_) S.kind)
 dsimp only at hns₁ hsb₁ ⊢
 generalize hG2:s2.heap.push { cls:=.type "list",dict:=none,data:=.seq ([]:List Value).toArray }=G2 at hns₁ hsb₁ ⊢
 have hC:G2.objs.size=s2.heap.objs.size+1:=by rw[← hG2,Heap.size_push]
 have hDC:s2.heap.objs.size≠G2.objs.size:=by rw[hC];exact Nat.ne_of_lt (Nat.lt_succ_self _)
 have hCle:s2.heap.objs.size<=G2.objs.size:=by rw[hC];exact Nat.le_succ _
 have below:∀b,b<s2.heap.objs.size->b≠G2.objs.size/\b≠s2.heap.objs.size:=fun b hb=>⟨by rw[hC];exact Nat.ne_of_lt (Nat.lt_succ_of_lt hb),Nat.ne_of_lt hb⟩
 have old:∀b o,s2.heap.get? b=some o->h₁.get? b=some o:=fun b o e=>hsb₁.extBut b o (below b (Heap.lt_size e)).1 (Heap.get?_push_of_some _ (hG2 ▸ Heap.get?_push_of_some _ e))
 have hacc:h₁.get? s2.heap.objs.size=some { cls:=.type "list",data:=.seq ([]:List Value).toArray 0 }:=hsb₁.extBut _ _ hDC (Heap.get?_push_of_some _ (hG2 ▸ Heap.get?_push_size _ rfl))
 generalize hD:s2.heap.objs.size=D at *
 generalize hCC:G2.objs.size=C at *
 have hDf:D∉fp:=fun hm=>by
  obtain⟨o,e,_⟩:=hob D hm
  exact absurd (Heap.lt_size e) (by rw[hD];exact Nat.lt_irrefl _)
 have I4:Inv (Wc X scope xs C s2 H2 fp) [] (List.replicate xs.length none++σ) H2 { s2 with heap:=h₁,toks:=s2.toks+([]:List (Str×Value)).length } :=
  Z5o (acc:=D) S I2 f2 (fun b hb=>let⟨o,e,_⟩:=hob b hb;⟨o,e⟩) (by omega) hns₁ old
 have hDn:∀ {σ':St} {H':Hp} {s':Shared},Inv (Wc X scope xs C s2 H2 fp) [] σ' H' s'->(∀b∈fp,H' b=none)->∀b∈fp,T7 (Wc X scope xs C s2 H2 fp) [] H' b:=fun{σ' H' s'} I' hn b hb=>by
  refine⟨hn b hb,(I'.ok.exf b hb).1,I'.ok.exfs b hb,.inl hb,fun y c e=>(I'.ok.exf b hb).2 y c e,fun p hp=>absurd (show p∈([]:List (Addr×Obj)) from hp) (by simp)⟩
 have hDfp:∀ {σ':St} {H':Hp} {s':Shared},Inv (Wc X scope xs C s2 H2 fp) [] σ' H' s'->H' D=none->T7 (Wc X scope xs C s2 H2 fp) [] H' D:=fun{σ' H' s'} I' hn=>by
  refine⟨hn,hDC,fun z=>?_,.inr (by show s2.heap.objs.size<=D;omega),fun y c e=>?_,fun p hp=>absurd (show p∈([]:List (Addr×Obj)) from hp) (by simp)⟩
  ·obtain⟨_,o,e,_⟩:=I'.ok.funs.mem z
   exact absurd (show D<s2.heap.objs.size from Heap.lt_size e) (by rw[hD];exact Nat.lt_irrefl _)
  ·obtain⟨v,z⟩:=I2.cell y c (Tz _ _ _ _ e)
   intro e2
   exact absurd z.lt (by rw[hD,e2];exact Nat.lt_irrefl _)
 have hgt:∀b o,s2.heap.get? b=some o->b≠C/\b≠D:=fun b o e=>by
  have z:=below b (by rw[← hD];exact Heap.lt_size e)
  exact z
 let LI:Nat->Shared->Prop:=fun n s'=>∃i ys its k σ0 H',Inv (Wc X scope xs C s2 H2 fp) [] (σ0++σ) H' s'/\σ0.length=xs.length/\tn i s'.heap/\(∀b∈fp,H' b=none)/\H' D=none/\Vals ys its/\ys.length<=sizeLine/\s'.heap.get? D=some { cls:=.type "list",data:=.seq its.toArray k }/\W i n ys H'
 have loop:∀s₃:Shared,s₃ = { s2 with heap:=h₁,toks:=s2.toks+([]:List (Str×Value)).length } ->
   codeAny (model X.prog X.w) X.A (.compLoop (.ListComp elt [⟨tg,iter,ifs,0⟩] scope pos) 0 (.ref it) (.ref D) (compEnvC scope (Z1e scope.names X.env.cells) C X.env))
    (RR (.ref D) C) s₃:=by
  rintro s₃ rfl
  refine Zbg rfl LI ?_ m0 ⟨0,[],[],0,_,H2,I4,by simp,T.keep _ _ _ st2 (fun b _ o e=>old b o e),fun b hb=>(f2 b hb).1,I2.hok.fresh (by rw[hD];exact Nat.le_refl _),.nil,Nat.zero_le _,hacc,w0⟩
  rintro n s3 ⟨i,ys,its,k,σ0,H3,I3,hσ0,st3,fr3,frD,rv,hysz,ha3,w3⟩
  have IP:Inv (Wc X scope xs C s2 H2 fp) [(D,{ cls:=.type "list",data:=.seq its.toArray k })] (σ0++σ) H3 s3:=I3.pins_of fun p hp=>by
   have e:p=(D,{ cls:=.type "list",data:=.seq its.toArray k }):=by simpa using hp
   subst e
   obtain⟨f0,f1,f3,_⟩:=hDfp I3 frD
   exact⟨ha3,f0,f1,f3,fun v z=>by cases z⟩
  have fpP:∀ {H':Hp},(∀b∈fp,H' b=none)->∀b∈fp,T7 (Wc X scope xs C s2 H2 fp) [(D,{ cls:=.type "list",data:=.seq its.toArray k })] H' b:=fun{H'} hn b hb=>by
   refine⟨hn b hb,(I3.ok.exf b hb).1,I3.ok.exfs b hb,.inl hb,fun y c e=>(I3.ok.exf b hb).2 y c e,fun p hp=>?_⟩
   have e:p=(D,{ cls:=.type "list",data:=.seq its.toArray k }):=by
    have hp':p∈[(D,({ cls:=.type "list",data:=.seq its.toArray k }:Obj))]:=hp
    simpa using hp'
   subst e
   exact fun z=>hDf (by rw[show D=b from z];exact hb)
  rcases turn i n ys H3 w3 with⟨stop,qn⟩ | ⟨go,hlen,N,hN,step⟩
  ·refine wpAny_mono (T.done (Wc X scope xs C s2 H2 fp) rfl rfl rfl hc i _ s3 (σ0++σ) H3 (fun _ _=>False) IP (fpP fr3) st3 stop) (fun r s4 ⟨hr,I5⟩=>?_) fun _ _ z=>z.elim
   subst hr
   obtain⟨m5,hn5,_⟩:=I5.loc
   have hD4:=(I5.pin _ (List.mem_append_right _ (List.mem_singleton.mpr rfl))).1
   have hcn:H3 C=none:=I5.free
   have hok':HOk X.prog X.w (Y2 H3 D (.lst ys)) s4.heap:=fun b u e=>by
    by_cases hb:b=D
    ·subst hb
     rw[Z1]at e
     cases e
     exact⟨hysz,its,k,rv,hD4⟩
    ·rw[Zl hb]at e
     exact(I5.hok b u e).stay (fun c v hc q=>q) (fun c q=>by rw[Zl (Z9 q frD)];exact q) fun c xs q=>by rw[Zl (Z9 q frD)];exact q
   have un':Un (Zal X.stack) fp H2 (Y2 H3 D (.lst ys)) s2.heap s4.heap:=by
    have u:=I5.base
    refine⟨u.keep,u.slot,fun b o q n hx=>?_,u.there,fun b xs q=>?_,fun b o xs q=>?_,fun b ps q=>?_⟩
    ·rw[Zl (hgt b o q).2]
     exact u.free b o q n hx
    ·have e:=u.tups b xs q
     rw[Zl (Z9 e frD)]
     exact e
    ·have e:=u.frzs b o xs q
     rw[Zl (Z9 e frD)]
     exact e
    ·obtain⟨more,e⟩:=u.tbls b ps q
     exact⟨more,by rw[Zl (Z9 e frD)];exact e⟩
   have I6:Inv X Z4 σ (Y2 H3 D (.lst ys)) s4:=I2.call' (ch:=fp) I5.os un' hok' I5.bare (fun b hb=>⟨(f2 b hb).2.2.2.1,(f2 b hb).2.1,(f2 b hb).2.2.2.2.1,(f2 b hb).2.2.2.2.2⟩)
   exact hRR D C s4 ys H3 m5 I6 hn5 (I2.fpOk (by rw[hD];exact hCle) (by rw[Zl (Ne.symm hDC)];exact hcn)) frD qn
  ·refine wpAny_mono (T.item (Wc X scope xs C s2 H2 fp) rfl rfl rfl hc i _ s3 (σ0++σ) H3 (fun _ _=>False) IP (fpP fr3) st3 go) (fun r s4 ⟨u,hr,h4⟩=>?_) fun _ _ z=>z.elim
   subst hr
   refine wpAny_mono h4 (fun _ s5 ⟨xv,H5,I5,r5,y5,st5,fr5⟩=>?_) fun _ _ z=>z.elim
   have I5':=I5.pinned (fpP fr5) (T.obj _ _ st5)
   refine wpAny_mono (hg C s2 H2 fp _ s5 (σ0++σ) H5 xv u _ I5' r5 (step xv H5 y5 σ0 hσ0)) (fun _ s6 ⟨σ6,H6,I6,⟨τ,hτ,e1⟩,q6⟩=>?_) fun _ _ z=>z.elim
   subst e1
   refine wpAny_mono (ht C s2 H2 fp _ s6 (τ++σ) H6 _ I6 q6) (fun b s7 ⟨H7,I7,q7⟩=>?_) fun _ _ z=>z.elim
   have hpD:∀ {σ':St} {H':Hp} {s':Shared},Inv (Wc X scope xs C s2 H2 fp) ([(D,{ cls:=.type "list",data:=.seq its.toArray k })]++Uv fp s5.heap) σ' H' s'->s'.heap.get? D=some { cls:=.type "list",data:=.seq its.toArray k }/\H' D=none:=fun{σ' H' s'} I'=>by
    have z:=I'.pin (D,{ cls:=.type "list",data:=.seq its.toArray k }) (List.mem_append_right _ (List.mem_append_left _ (List.mem_singleton.mpr rfl)))
    exact⟨z.1,z.2.1⟩
   have hpF:∀ {σ':St} {H':Hp} {s':Shared},Inv (Wc X scope xs C s2 H2 fp) ([(D,{ cls:=.type "list",data:=.seq its.toArray k })]++Uv fp s5.heap) σ' H' s'->(∀b∈fp,∀o,s5.heap.get? b=some o->s'.heap.get? b=some o)/\∀b∈fp,H' b=none:=fun{σ' H' s'} I'=>by
    refine⟨fun b hb o e=>(I'.pin (b,o) (List.mem_append_right _ (List.mem_append_right _ (Wh hb e)))).1,fun b hb=>?_⟩
    obtain⟨o,e,d⟩:=T.obj _ _ st5 b hb
    exact(I'.pin (b,o) (List.mem_append_right _ (List.mem_append_right _ (Wh hb e)))).2.1
   cases b with
   |false =>
    rw[if_neg Bool.false_ne_true]at q7 ⊢
    obtain⟨m',hm,w7⟩:=hN _ _ q7
    exact⟨m',hm,i+1,ys,its,k,τ,H7,I7.pins_of (pins':=[]) (fun p hp=>absurd hp (by simp)),hτ,T.keep _ _ _ st5 (hpF I7).1,(hpF I7).2,(hpD I7).2,rv,hysz,(hpD I7).1,w7⟩
   |true =>
    rw[if_pos rfl]at q7 ⊢
    refine wpAny_mono (he C s2 H2 fp _ s7 (τ++σ) H7 _ I7 q7) (fun u8 s8 ⟨y,H8,I8,r8,q8⟩=>?_) fun _ _ z=>z.elim
    obtain⟨m',hm,w8⟩:=hN _ _ q8
    obtain⟨hd1,hd2⟩:=hpD I8
    have hl:=rv.length
    refine append_at hd1 (fun h' hs' e'=>?_) (by rw[List.size_toArray];omega)
    have I9:Inv (Wc X scope xs C s2 H2 fp) [] (τ++σ) H8 s8:=I8.pins_of (pins':=[]) (fun p hp=>absurd hp (by simp))
    obtain⟨f0,f1,f3,f4,f5,f6⟩:=hDfp I9 hd2
    refine⟨m',hm,i+1,ys++[y],its++[u8],k+1,τ,H8,I9.turned (it:=D) (t':=s8.toks) (fun b o hb e=>(hs'.2 b hb).trans e) f0 f1 f4 f5 f6,hτ,
     T.keep _ _ _ st5 (fun b hb o e=>(hs'.2 b (fun z=>hDf (by rw[← z];exact hb))).trans ((hpF I8).1 b hb o e)),(hpF I8).2,hd2,rv.append (.cons r8 .nil),by rw[List.length_append,List.length_singleton];omega,?_,w8⟩
    rw[e',List.push_toArray]
 exact codeAny_compStart_list (loop _ rfl) (T.self _ 0 _ _ _ (T.keep _ _ _ st2 (fun b _ o e=>old b o e)) (loop _ rfl))
theorem Z7m{elt iter tg:Expr}{g:TG}{xs:List Str}{pos:Pos}{scope:Scope}{ifs:List Expr}{wi:TI}{tt:TT}{te:TE}(hc:X.calm=true)(S:CScopeN xs X.N X.env.scope scope)(hi:PI X tg iter wi)
  (hg:∀C s H ex,PG (Wc X scope xs C s H ex) tg g) (ht:∀C s H ex,Zen (Wc X scope xs C s H ex) ifs tt) (he:∀C s H ex,PE (Wc X scope xs C s H ex) elt te) (hs:∀v,foldedSetIterable iter X.env v=pure v:=by intro _;rfl) :
  PE X (.ListComp elt [⟨tg,iter,ifs,0⟩] scope pos) (Zg3 xs.length g wi tt te):=by
 intro Z4 s σ H Q I h
 rw[eval_ListComp]
 refine wpAny_comprehension_free (use:=none) rfl hs (Vo (S.has I.ok)) S.kind S.names (Xt (hi Z4 s σ H _ I h) fun v s1 h1=>Xt h1 fun itv s2 h2=>?_)
 obtain⟨it,fp,tn,J,H2,e,I2,T,st2,f2,hw⟩:=h2
 subst e
 refine Z5m (RR:=fun acc C=>compPost (model X.prog X.w) X.A X.xe none (EP X Z4 σ Q) acc C) hc S I2 T st2 f2 hw hg ht he fun D C s4 ys H3 m5 I5 hn5 fC frD qn=>⟨m5,hn5,fun h' hs'=>?_⟩
 obtain⟨f0,f1,f3,f4,f5,f6⟩:=fC
 exact⟨.ref D,_,I5.turned (it:=C) (t':=s4.toks) (fun b o hb e=>(hs'.2 b hb).trans e) f0 f1 f4 f5 f6,rfl,qn D frD⟩
theorem Zhp{xs:List Str}{scope:Scope}{C:Addr}{H0:Hp}{ex:List Addr}{i:Nat}{x:Str}{px:Pos}(S:CScopeN xs X.N X.env.scope scope)(hi:xs[i]? = some x):PG (Wc X scope xs C s H0 ex) (.Name x px) (Wg i):=by
 have hm:x∈xs:=List.mem_of_getElem? hi
 have hl:i<xs.length:=(List.getElem?_eq_some_iff.mp hi).1
 refine Z30 (X:=Wc X scope xs C s H0 ex) (i:=i) S.nd ?_ (.inl (lookup_relabel_local (S.own x hm))) (.inr (lookup_relabel_local (S.own x hm)))
 show(xs++X.N)[i]? = some x
 rw[List.getElem?_append_left hl]
 exact hi
theorem Z20{elt iter:Expr}{x y:Str}{px py tp pos:Pos}{kk:Nat}{scope:Scope}{ifs:List Expr}{wi:TI}{tt:TT}{te:TE}(hc:X.calm=true)(S:CScopeN [x,y] X.N X.env.scope scope)(hi:PI X (.Tuple [.Name x px,.Name y py] kk tp) iter wi)
  (ht:∀C s H ex,Zen (Wc X scope [x,y] C s H ex) ifs tt) (he:∀C s H ex,PE (Wc X scope [x,y] C s H ex) elt te) (hs:∀v,foldedSetIterable iter X.env v=pure v:=by intro _;rfl) :
  PE X (.ListComp elt [⟨.Tuple [.Name x px,.Name y py] kk tp,iter,ifs,0⟩] scope pos) (Zg3 2 (Zc3 X.K 2 (Z1h (Wg 0) (Z1h (Wg 1) Zc4))) wi tt te) :=
 Z7m (xs:=[x,y]) (g:=Zc3 X.K 2 (Z1h (Wg 0) (Z1h (Wg 1) Zc4))) hc S hi (fun C s H ex=>Zdq (X:=Wc X scope [x,y] C s H ex) hc (Z4c (Zhp S rfl) (Z4c (Zhp S rfl) Zay))) ht he hs
theorem Z6t{K:W.Frag}{a:Addr}{xs:List V}{σ:St}{te:TE}{Fin:List V->Hp->Prop}{H1:Hp}{n:Nat}{g:TG}(Pv:Nat->List V->Hp->Prop)(h0:Pv 0 [] H1)(hz:xs.length<sizeLine)(hlen:∀i ys H,Pv i ys H->ys.length<=i)
  (hl:∀i ys H,Pv i ys H->SqT K H a xs) (hs:∀i ys H x,xs[i]? = some x->Pv i ys H->∀τ:St,τ.length=n->g x (τ++σ) H fun σ' H2=>(∃τ':St,τ'.length=n/\σ'=τ'++σ)/\te σ' H2 fun y H3=>Pv (i+1) (ys++[y]) H3) (hd:∀ys H,Pv xs.length ys H->Fin ys H) :
  Zc5 n g (Zgh K a) σ Z5r te Fin H1:=by
 refine⟨fun i m ys H=>m=xs.length-i/\i<=xs.length/\Pv i ys H,⟨xs.length,by simp,Nat.zero_le _,h0⟩,?_⟩
 rintro i m ys H ⟨rfl,hi,p⟩
 by_cases hlt:i<xs.length
 ·have hll:=hlen i ys H p
  refine .inr ⟨⟨xs,xs[i],hl i ys H p,by simp[hlt]⟩,by omega,fun ys' H'=>Pv (i+1) ys' H',fun ys' H' p'=>⟨xs.length-(i+1),by omega,rfl,hlt,p'⟩,fun x H' y τ hτ=>?_⟩
  obtain⟨e,y⟩:=y
  subst e
  exact hs i ys _ x (y xs (hl i ys _ p)) p τ hτ
 ·have e:i=xs.length:=by omega
  subst e
  exact .inl ⟨⟨xs,hl _ ys H p,Nat.le_refl _⟩,hd ys H p⟩
end
theorem Z0l:∀ {xs:List Str} {us:List Value},Vals (xs.map V.str) us->StrsAre us xs
 | [],_,r=>by cases r;exact .nil
 |x::xs,_,r=>by
  rw[List.map_cons]at r
  cases r with
  |cons q t =>
   obtain⟨k,rfl⟩:=q
   exact .cons x k (Z0l t)
def Zae(K:W.Frag):V->List V->Hp->VK->Prop:=fun x vs H Q=>∃(sep:Str) (l:Addr) (xs:List Str),x=.str sep/\vs=[.ref l]/\SqL K H l (xs.map V.str)/\(xs.map (·.length)).sum+xs.length*sep.length<=16777216/\Q (.str (Txt.join sep xs)) H
section
variable{X:Cx}
theorem T4:Zht X "str.join" (Zae X.K):=by
 intro Z4 s σ H x vs v us Q I rx rv h
 obtain⟨sep,l,xs,rfl,rfl,hl,hz,q⟩:=h
 obtain⟨t,rfl⟩:=rx
 obtain⟨u,rfl,ru⟩:=Vals.one rv
 obtain rfl:u=Value.ref l:=ru
 obtain⟨its,r,pl,_⟩:=I.list hl
 exact join_list pl.isList (by simpa using Z0l r) hz fun t' k=>⟨.str (Txt.join sep xs),H,I.tok _,⟨_,rfl⟩,q⟩
end
theorem Za(a b:Str):(a++b).length=a.length+b.length:=by
 show(a.cps++b.cps).size=_
 rw[Array.size_append]
 rfl
theorem Zv(a b c:Str):(a++b)++c=a++(b++c):=by
 show(⟨(a.cps++b.cps)++c.cps⟩:Str)=⟨a.cps++(b.cps++c.cps)⟩
 rw[Array.append_assoc]
theorem Z0y(sep:Str):∀xs:List Str,(Txt.join sep xs).length<=(xs.map (·.length)).sum+xs.length*sep.length:=by
 have fold:∀(xs:List Str) (acc:Array Nat),(xs.foldl (fun a p=>a++sep.cps++p.cps) acc).size=acc.size+(xs.map (·.length)).sum+xs.length*sep.length:=by
  intro xs
  induction xs with
  |nil=>intro acc;simp
  |cons x xs ih =>
   intro acc
   rw[List.foldl_cons,ih,Array.size_append,Array.size_append,List.map_cons,List.sum_cons,List.length_cons,Nat.add_mul]
   show acc.size+sep.length+x.length+_+_=_
   omega
 intro xs
 cases xs with
 |nil=>exact Nat.zero_le _
 |cons x xs =>
  show(xs.foldl (fun a p=>a++sep.cps++p.cps) x.cps).size<=_
  rw[fold,List.map_cons,List.sum_cons,List.length_cons,Nat.add_mul]
  show x.length+_+_<=_
  omega
open Builtin
section
variable{X:Cx}{prog:Program}{w:World}{A:Around}{R:Result->Shared->Prop}{it:Addr}{fp wr:List Addr}{m:Nat}{P:Nat->Value->Prop}{St:Nat->Heap->Prop}
theorem Z7o:Z3l X (compareOp .LtE) (fun x y H Q=>∃i j,x=.str i/\y=.str j/\Q (.bl (!decide (j.cps.toList<i.cps.toList))) H):=by
 intro Z4 s σ H x y v u Q I rx ry h
 obtain⟨i,j,rfl,rfl,q⟩:=h
 obtain⟨t,rfl⟩:=rx
 obtain⟨t',rfl⟩:=ry
 exact PySem.P.le_str (Yd I q rfl)
theorem Zbf{kw:List (Str×Value)}(Wk:Walks prog w A.in1 it fp wr m P St)(bt:Nat->Nat->Bool)(cmp:CmpOf prog w A.in1 .Gt P bt)(B:Addr)(nB:B∉fp) :
  ∀(k j:Nat) (z:Shared) (u:Value) (c:Nat),m-(j+1)=k->j+1<=m->St (j+1) z.heap->P (argBest bt j) u->z.heap.get? B=some ⟨.type "list",none,.seq #[u,u] c,#[]⟩ ->
  (∀v h' tk,P (argBest bt (m-1)) v->(∀b o,b∉wr->b≠B->z.heap.get? b=some o->h'.get? b=some o)->R (.ok (.ret v)) { z with heap:=h',toks:=tk }) ->
  codeAny (model prog w) A (.builtin "max.loop" ⟨[.ref it,.none,.ref B],kw⟩) R z:=by
 have nW:B∉wr:=fun h=>nB (Wk.sub _ h)
 have nm:(toString "max" ++ toString ".loop":String)="max.loop":=by decide
 intro k
 induction k with
 |zero =>
  intro j z u c ek lej sj pj gB fin
  have ej:j+1=m:=by omega
  refine codeAny_builtin PySem.F.entry_max_loop ?_
  rw[Around.under_plainId PySem.F.plain_max_loop _]
  show wpAny _ A.in1 (seqItems? (.ref B) >>= _) _ _ z
  refine wpAny_bind (wpAny_seqItems gB rfl ?_)
  show wpAny _ A.in1 (tryCatch (pyNext (.ref it)) _ >>= _) _ _ z
  refine wpAny_bind (wpAny_tryCatch (Wk.done z _ _ (ej ▸ sj) fun g tk kp=>?_))
  have gB':=kp B _ nW gB
  show wpAny _ A.in1 (updateSeq B (fun _=>#[]) >>= _) _ _ _
  refine wpAny_bind ?_
  refine wpAny_updateSeq gB' rfl (wpAny_bind (wpAny_letGo (wpAny_pure ?_)))
  exact fin u _ tk (by rw[← ej];exact pj) fun b o b1 b2 e=>(Heap.get?_update_other _ _ (Ne.symm b2)).trans (kp b o b1 e)
 |succ k ih =>
  intro j z u c ek lej sj pj gB fin
  have lt:j+1<m:=by omega
  refine codeAny_builtin PySem.F.entry_max_loop ?_
  rw[Around.under_plainId PySem.F.plain_max_loop _]
  show wpAny _ A.in1 (seqItems? (.ref B) >>= _) _ _ z
  refine wpAny_bind (wpAny_seqItems gB rfl ?_)
  show wpAny _ A.in1 (tryCatch (pyNext (.ref it)) _ >>= _) _ _ z
  refine wpAny_bind (wpAny_tryCatch (Wk.item (j+1) z _ _ lt sj fun v g tk pv sv kp=>?_))
  have gB':=kp B _ nW gB
  show wpAny _ A.in1 (tryCatch (holding [v,v] (richCompare .Gt v u >>= _)) _ >>= _) _ _ _
  refine wpAny_bind (wpAny_tryCatch (wpAny_holding (wpAny_bind (cmp (j+1) (argBest bt j) v u _ _ _ pv pj ?_))))
  refine wpAny_bind (wpAny_holding (wpAny_truthy_bool ?_))
  refine wpAny_bind (wpAny_letGo (wpAny_pure ?_))
  cases eb:bt (j+1) (argBest bt j) with
  |true =>
   simp only[if_true]
   refine wpAny_bind ?_
   refine wpAny_updateSeq gB' rfl (wpAny_bind (wpAny_letGo ?_))
   rw[nm]
   refine wpAny_pure ⟨plainId_quiet PySem.F.plain_max_loop _,ih (j+1) _ v _ (by omega) lt (Wk.frame _ _ _ sv fun b bf o e=>?_) (by simp only[argBest,eb,if_true];exact pv) (Heap.get?_update_self _ gB' rfl) fun v' g' tk' p' k'=>?_⟩
   ·exact(Heap.get?_update_other _ _ (fun q:B=b=>nB (by rw[q];exact bf))).trans e
   ·exact fin v' g' tk' p' fun b o b1 b2 e=>k' b o b1 b2 ((Heap.get?_update_other _ _ (Ne.symm b2)).trans (kp b o b1 e))
  |false =>
   simp only[Bool.false_eq_true,if_false]
   refine wpAny_bind (wpAny_letGo ?_)
   rw[nm]
   refine wpAny_pure ⟨plainId_quiet PySem.F.plain_max_loop _,ih (j+1) _ u c (by omega) lt sv (by simp only[argBest,eb,Bool.false_eq_true,if_false];exact pj) gB' fun v' g' tk' p' k'=>?_⟩
   exact fin v' g' tk' p' fun b o b1 b2 e=>k' b o b1 b2 (kp b o b1 e)
theorem Z94{kw:List (Str×Value)}{d:Value}(hkw:kw=[(("default":Str),d)])(Wk:Walks prog w A.in1 it fp wr m P St)(bt:Nat->Nat->Bool)(cmp:CmpOf prog w A.in1 .Gt P bt)(B:Addr)(nB:B∉fp){z:Shared}{c:Nat}(s0:St 0 z.heap)(gB:z.heap.get? B=some ⟨.type "list",none,.seq #[] c,#[]⟩)
  (fin:∀v h' tk,((m=0/\v=d)∨(0<m/\P (argBest bt (m-1)) v))->(∀b o,b∉wr->b≠B->z.heap.get? b=some o->h'.get? b=some o)->R (.ok (.ret v)) { z with heap:=h',toks:=tk }) :
  codeAny (model prog w) A (.builtin "max.loop" ⟨[.ref it,.none,.ref B],kw⟩) R z:=by
 subst hkw
 have nW:B∉wr:=fun h=>nB (Wk.sub _ h)
 have nm:(toString "max" ++ toString ".loop":String)="max.loop":=by decide
 refine codeAny_builtin PySem.F.entry_max_loop ?_
 rw[Around.under_plainId PySem.F.plain_max_loop _]
 show wpAny _ A.in1 (seqItems? (.ref B) >>= _) _ _ z
 refine wpAny_bind (wpAny_seqItems gB rfl ?_)
 show wpAny _ A.in1 (tryCatch (pyNext (.ref it)) _ >>= _) _ _ z
 by_cases e0:m=0
 ·refine wpAny_bind (wpAny_tryCatch (Wk.done z _ _ (e0 ▸ s0) fun g tk kp=>?_))
  show wpAny _ A.in1 (rule _ >>= _) _ _ _
  refine wpAny_bind (wpAny_rule (wpAny_pure ?_))
  exact fin d g tk (.inl ⟨e0,rfl⟩) fun b o b1 _ e=>kp b o b1 e
 ·refine wpAny_bind (wpAny_tryCatch (Wk.item 0 z _ _ (by omega) s0 fun v g tk pv sv kp=>?_))
  have gB':=kp B _ nW gB
  show wpAny _ A.in1 (updateSeq B (fun _=>#[v,v]) >>= _) _ _ _
  refine wpAny_bind ?_
  refine wpAny_updateSeq gB' rfl ?_
  rw[nm]
  refine wpAny_pure ⟨plainId_quiet PySem.F.plain_max_loop _,Zbf Wk bt cmp B nB _ 0 _ v _ rfl (by omega) (Wk.frame _ _ _ sv fun b bf o e=>?_) pv (Heap.get?_update_self _ gB' rfl) fun v' g' tk' p' k'=>?_⟩
  ·exact(Heap.get?_update_other _ _ (fun q:B=b=>nB (by rw[q];exact bf))).trans e
  ·exact fin v' g' tk' (.inr ⟨by omega,p'⟩) fun b o b1 b2 e=>k' b o b1 b2 ((Heap.get?_update_other _ _ (Ne.symm b2)).trans (kp b o b1 e))
theorem Zbu(a d:Value):argsOk "max" ⟨[a],[(("default":Str),d)]⟩:=by unfold argsOk;kernel_rfl
theorem Z2l{E:Value->Shared->Prop}{s:Shared}{id:String}{b:Builtin}{as:List Value}{kw:List (Str×Value)}{Q:Value->Shared->Prop}(hk:builtinKind id=none)(hp:plainId id=true)(hb:entryFor table id=some b)(ha:argsOk id ⟨as,kw⟩)
  (hc:wpAny (model prog w) A.in1 (b ⟨as,kw⟩) (fun fin s'=>match fin with
   |.done f=>(match(Except.ok f:Result) with | .ok (.ret v)=>Q v s' | .ok _=>False | .error e=>E e s')
   |.again c=>c.quiet=true/\codeAny (model prog w) A c (fun r s'=>match r with | .ok (.ret v)=>Q v s' | .ok _=>False | .error e=>E e s') s') E s):wpAny (model prog w) A (call (.builtin id) as kw) Q E s:=by
 refine wpAny_call (codeAny_call_builtin hp hb ?_)
 simp only[checkBuiltinCall,hk]
 cases sg:Manifest.signature? id with
 |none=>exact wpAny_pure hc
 |some sig =>
  simp only[argsOk,sg]at ha
  have h2:Bind.checkArgs id sig ⟨as,kw⟩=pure ():=ha
  show wpAny _ A.in1 (Bind.checkArgs id sig ⟨as,kw⟩) _ _ s
  rw[h2]
  exact wpAny_pure hc
theorem Z3u{E:Value->Shared->Prop}{s:Shared}{l:Addr}{xs:Array (Int×Tok)}{d:Value}{Q:Value->Shared->Prop}(hh:A.handled=none)(hl:s.heap.IsList l (intItems xs))
  (h:∀v h' tk,((xs.size=0/\v=d)∨(0<xs.size/\(intItems xs)[argBest (fun i j=>decide (numAt xs i>numAt xs j)) (xs.size-1)]? = some v))->(∀b o,s.heap.get? b=some o->h'.get? b=some o)->Q v { s with heap:=h',toks:=tk }) :
  wpAny (model prog w) A (call (.builtin "max") [.ref l] [(("default":Str),d)]) Q E s:=by
 have nm:(toString "max" ++ toString ".loop":String)="max.loop":=by decide
 refine Z2l PySem.F.kind_max PySem.F.plain_max PySem.F.entry_max (Zbu _ _) ?_
 show wpAny _ A.in1 (Builtin.Builtins.bindParams "max" ["key","default"] 0 ⟨[],[(("default":Str),d)]⟩ >>= _) _ _ s
 refine wpAny_bind (wpAny_of_eq (show Builtin.Builtins.bindParams "max" ["key","default"] 0 ⟨[],[(("default":Str),d)]⟩=pure [none,some d] from rfl) ?_)
 refine wpAny_bind (wpAny_pure ?_)
 refine wpAny_bind (iter_intList hl fun s₂ e st hfp hlI=>?_)
 subst e
 refine wpAny_bind (wpAny_newObj_type ?_)
 rw[nm]
 have Wk:=Walks.list (prog:=prog) (w:=w) (A:=A.in1) hh _ l hlI (intItems xs)
 refine wpAny_pure ⟨plainId_quiet PySem.F.plain_max_loop _,Z94 (d:=d) (kw:=[(("default":Str),d)]) rfl Wk (fun i j=>decide (numAt xs i>numAt xs j)) (CmpOf.ints_gt (numAt xs) (fun _ _=>intItems_at)) _ (fun hm=>Nat.lt_irrefl _ (hfp _ hm)) (Wk.frame _ _ _ st fun b _ o e=>Heap.get?_push_of_some _ e) (Heap.get?_push_size _ rfl) ?_⟩
 intro v h' tk hv hk
 refine h v h' tk (by simpa[intItems] using hv) fun b o e=>?_
 have lt:=Heap.lt_size e
 refine hk b o (by simpa using Nat.ne_of_lt lt) ?_ (Heap.get?_push_of_some _ (Heap.get?_push_of_some _ e))
 show b≠(s.heap.push _).objs.size
 rw[Heap.size_push]
 exact Nat.ne_of_lt (Nat.lt_succ_of_lt lt)
end
end L2
namespace Seek
open PySem PySem.Spec PyProof.Rows L2
section
variable{X:Cx}
def Zff(K:W.Frag)(t tk:TA):TE:=fun σ H Q=>t σ H fun vs H1=>tk σ H1 fun zs H2=>∃(l:Addr) (ns:List Int) (z:V),vs=[.ref l]/\zs=[z]/\SqL K H2 l (ns.map V.int)/\Q (if ns=[] then z else .int (Zgb ns)) H2
theorem Zb1{e d:Expr}{t tk:TA}{p pos kp:Pos}(hc:X.calm=true)(hg:Gl X "max")(hm:X.mg "max" = none)(ha:PA X [e] t)(hk:PK X [⟨some "default",d,kp⟩] tk)(he:backTo pos (starEach [e] X.env)=(false,eval e X.env)::backTo pos (starEach [] X.env):=by rfl)(hpl:(backTo pos (starEach [e] X.env)).any (·.1)=false:=by rfl) :
  PE X (.Call (.Name "max" p) [e] [⟨some "default",d,kp⟩] pos) (Zff X.K t tk):=by
 intro Z4 s σ H Q I h
 refine wpAny_Call_Name_kw (Z1a I hg hm PyProof.Rows.Boot.«max» ?_)
 refine PyProof.Rows.callWith_kw (Xt (ha pos Z4 s σ H _ I h) fun us s1 ⟨vs,H1,I1,r,q⟩=>Xt (hk pos Z4 s1 σ H1 _ I1 q) fun ws s2 ⟨zs,H2,I2,rz,l,ns,z,ev,ez,hl,q2⟩=>?_) he hpl
 subst ev ez
 obtain⟨u,rfl,ru⟩:=Uj r
 obtain⟨y,rfl,ry⟩:=Uj rz
 obtain rfl:u=Value.ref l:=ru
 obtain⟨its,rv,pl,hz⟩:=I2.list hl
 obtain⟨ps,e1,e2⟩:=Z2t rv
 have hlist:s2.heap.IsList l (intItems ps.toArray):=by
  have e:intItems ps.toArray=its.toArray:=by rw[e1];simp[intItems]
  rw[e];exact pl.isList
 have hlen:ps.length=ns.length:=by rw[← e2,List.length_map]
 refine Z3u (d:=y) (I2.ok.hd hc) hlist fun v h' tk hv hk=>?_
 rcases hv with⟨h0,rfl⟩ | ⟨h0,hv⟩
 ·have hn:ns=[]:=List.length_eq_zero_iff.mp (by rw[← hlen];simpa using h0)
  rw[if_pos hn]at q2
  exact⟨z,H2,I2.kept hk,ry,q2⟩
 ·have hn:ns≠[]:=fun e=>by rw[e]at hlen;simp[hlen]at h0
  rw[if_neg hn]at q2
  obtain⟨t,e⟩:=Zbh e2 hv
  rw[Z4h e2,show ps.toArray.size=ns.length by simp[hlen]]at e
  exact⟨.int (Zgb ns),H2,I2.kept hk,⟨t,e⟩,q2⟩
end
theorem Vs{x y:Str}{v:V}{l:List (Str×V)}(h:(x==y)=false):((y,v)::l).lookup x=l.lookup x:=by rw[List.lookup_cons,h]
theorem Z3h{x:Str}{v:V}{l:List (Str×V)}:((x,v)::l).lookup x=some v:=by simp
theorem Jt{x y:Str}{v u:V}{l:List (Str×V)}(h:¬y=x):Vk x v ((y,u)::l)=(y,u)::Vk x v l:=by
 show(if y=x then(y,v)::l else(y,u)::Vk x v l)=_
 rw[if_neg h]
theorem Z69{x:Str}{v u:V}{l:List (Str×V)}:Vk x v ((x,u)::l)=(x,v)::l:=by
 show(if x=x then(x,v)::l else(x,u)::Vk x v l)=_
 rw[if_pos rfl]
theorem Gro.ins{S:List Addr}{H:Hp}{p C dx:Addr}{fs:List (Str×V)}(hp:p∈S)(h:H p=some (.ins C dx fs))(o:HO):Gro S H (Y2 H p o) :=
 ⟨fun b u q hb=>by rw[Zl (fun z=>hb (by rw[z];exact hp))];exact q,fun b ys q=>by rw[Zl (Z77 q h (by intro z;cases z))];exact q⟩
structure OwnM(P:Program)(w:World)(K:W.Frag)(mg:Str->Option Value)(base:Heap)(k:Nat)(C:Addr)(m:Str)(ps:List Str)(sp:Sp):Prop where
 ex:∃f fd,FnOk P w K mg base V1 k f fd ps sp/\Meth K C m f/\Binds K fd ps []
theorem OwnM.mono{P:Program}{w:World}{K:W.Frag}{mg:Str->Option Value}{base:Heap}{j k:Nat}{C:Addr}{x:Str}{ps:List Str}{sp:Sp}(O:OwnM P w K mg base j C x ps sp)(h:j<=k):OwnM P w K mg base k C x ps sp:=by
 obtain⟨f,fd,F,r⟩:=O.ex
 exact⟨f,fd,F.mono h,r⟩
theorem Yb{X:Cx}{k:Nat}{C:Addr}{m:Str}{ps:List Str}{sp:Sp}{o e:Expr}{es:List Expr}{ta:TE}{t:TA}{apos pos:Pos}{pl:Sem Bool}(O:OwnM X.prog X.w X.K X.mg X.base k C m ps sp)(c:Cls X.K C)(hr:Room k X.A)(he:PE X o ta)(ha:PA X (e::es) t)
  (hst:starEach (e::es) X.env=(false,eval e X.env)::starEach es X.env:=by rfl) (hpl:(backTo pos (starEach es X.env)).any (·.1)=false:=by rfl)
  (ht:eval (.Call (.Attribute o m apos) (e::es) [] pos) X.env=(do
   let ov ← eval o X.env
   standAt apos.atName
   let(f,first) ← holding [ov] (getMethod ov m pl)
   callWith pos f first (backTo pos (starEach (e::es) X.env)) (backToKw pos (keywordEach [] X.env))):=by rfl):PE X (.Call (.Attribute o m apos) (e::es) [] pos) (Z4y C m sp [] E0 ta t):=by
 obtain⟨f,fd,F,hm,hb⟩:=O.ex
 exact Zb0 he c hm F hr hb .nil Z76 ha hst hpl ht
theorem Ye{X:Cx}{k:Nat}{C:Addr}{m:Str}{ps:List Str}{sp:Sp}{o:Expr}{ta:TE}{apos pos:Pos}{pl:Sem Bool}(O:OwnM X.prog X.w X.K X.mg X.base k C m ps sp)(c:Cls X.K C)(hr:Room k X.A)(he:PE X o ta)
  (ht:eval (.Call (.Attribute o m apos) [] [] pos) X.env=(do
   let ov ← eval o X.env
   standAt apos.atName
   let(f,first) ← holding [ov] (getMethod ov m pl)
   callWith pos f first (backTo pos (starEach [] X.env)) (backToKw pos (keywordEach [] X.env))):=by rfl):PE X (.Call (.Attribute o m apos) [] [] pos) (Z4y C m sp [] E0 ta V0):=by
 obtain⟨f,fd,F,hm,hb⟩:=O.ex
 exact Z8u he c hm F hr hb .nil Z76 ht
structure OwnC(P:Program)(w:World)(K:W.Frag)(mg:Str->Option Value)(base:Heap)(k:Nat)(C:Addr)(x:Str)(ps:List Str)(sp:Sp):Prop where
 ex:∃f fd,FnOk P w K mg base V1 k f fd ps sp/\Mk K C f/\mg x=some (.ref C)/\Binds K fd ps []
end Seek
namespace L2
open PySem PySem.Spec PyProof.Rows
section
variable{X:Cx}
end
end L2
namespace Seek
open PySem PySem.Spec PyProof.Rows L2
theorem OwnC.mono{P:Program}{w:World}{K:W.Frag}{mg:Str->Option Value}{base:Heap}{j k:Nat}{C:Addr}{x:Str}{ps:List Str}{sp:Sp}(O:OwnC P w K mg base j C x ps sp)(h:j<=k):OwnC P w K mg base k C x ps sp:=by
 obtain⟨f,fd,F,r⟩:=O.ex
 exact⟨f,fd,F.mono h,r⟩
theorem Zaz{X:Cx}{k:Nat}{C:Addr}{x:Str}{ps:List Str}{sp:Sp}{p pos:Pos}{e:Expr}{es:List Expr}{t:TA}(O:OwnC X.prog X.w X.K X.mg X.base k C x ps sp)(hr:Room (k+1) X.A)(hg:Gl X x)(ha:PA X (e::es) t)
  (hdb:(x==("__debug__":Str))=false:=by decide) (he:starEach (e::es) X.env=(false,eval e X.env)::starEach es X.env:=by rfl) (hpl:(backTo pos (starEach es X.env)).any (·.1)=false:=by rfl) :
  PE X (.Call (.Name x p) (e::es) [] pos) (Zc7 C sp [] E0 t):=by
 obtain⟨f,fd,F,M,hm,hb⟩:=O.ex
 exact Zb2 M F hr hg hm hb .nil Z76 ha hdb he hpl
end Seek
namespace L2
open PySem PySem.Spec PyProof.Rows
def sub(x:Str)(a b:Nat):Str:=⟨((x.cps.toList.drop a).take (b-a)).toArray⟩
theorem Zg2{k:Int}{L:Nat}(h:0<=k):min k (L:Int)=min ((min k.toNat L:Nat):Int) (L:Int):=by
 obtain⟨a,rfl⟩:=Int.eq_ofNat_of_zero_le h
 rw[Int.toNat_natCast]
 by_cases e:a<=L
 ·rw[Nat.min_eq_left e]
 ·rw[Nat.min_eq_right (Nat.le_of_not_le e),Int.min_eq_right (Int.ofNat_le.mpr (Nat.le_of_not_le e)),Int.min_self]
theorem Z21{a b L:Nat}(h:¬min a L<=min b L):b<a/\b<L:=by omega
theorem Z7h{x:Str}{i j:Int}(h0:0<=i)(h1:0<=j):Txt.slice x (some i) (some j)=sub x i.toNat j.toNat:=by
 have hl:x.cps.toList.length=x.length:=by simp[Str.length]
 have clip:Builtin.Str.strSliceIndices (some i) (some j) 1 x.length=Builtin.Str.strSliceIndices (some ((min i.toNat x.length:Nat):Int)) (some ((min j.toNat x.length:Nat):Int)) 1 x.length:=by
  unfold Builtin.Str.strSliceIndices
  have e1:¬i<0:=by omega
  have e2:¬j<0:=by omega
  have e3:¬((min i.toNat x.length:Nat):Int)<0:=Int.not_lt.mpr (Int.natCast_nonneg _)
  have e4:¬((min j.toNat x.length:Nat):Int)<0:=Int.not_lt.mpr (Int.natCast_nonneg _)
  simp only[e1,e2,e3,e4,if_false,show(1:Int)>0 by decide,if_true]
  congr 1 <;> rw[Zg2 (by assumption)]
 have ed:(x.cps.toList.drop (min i.toNat x.length)).take (min j.toNat x.length-min i.toNat x.length)=(x.cps.toList.drop i.toNat).take (j.toNat-i.toNat):=by
  by_cases hi:i.toNat<=x.length
  ·rw[Nat.min_eq_left hi]
   by_cases hj:j.toNat<=x.length
   ·rw[Nat.min_eq_left hj]
   ·rw[Nat.min_eq_right (by omega),List.take_of_length_le (by rw[List.length_drop];omega),List.take_of_length_le (by rw[List.length_drop];omega)]
  ·have e5:min i.toNat x.length=x.length:=by omega
   rw[e5,List.drop_of_length_le (show x.cps.toList.length<=x.length by omega),List.drop_of_length_le (show x.cps.toList.length<=i.toNat by omega)]
   simp
 by_cases hab:min i.toNat x.length<=min j.toNat x.length
 ·have e:Txt.slice x (some i) (some j)=StrLaws.sliceText x (some ((min i.toNat x.length:Nat):Int)) (some ((min j.toNat x.length:Nat):Int)):=by
   unfold Txt.slice StrLaws.sliceText
   rw[clip]
  rw[e,StrLaws.sliceText_nat x hab (Nat.min_le_right _ _),ed]
  rfl
 ·have em:Builtin.Str.strSliceIndices (some i) (some j) 1 x.length=[]:=by
   rw[clip]
   unfold Builtin.Str.strSliceIndices sliceRange
   have e3:¬((min i.toNat x.length:Nat):Int)<0:=Int.not_lt.mpr (Int.natCast_nonneg _)
   have e4:¬((min j.toNat x.length:Nat):Int)<0:=Int.not_lt.mpr (Int.natCast_nonneg _)
   simp only[e3,e4,if_false,show(1:Int)>0 by decide,if_true]
   rw[if_neg (by omega)]
   rfl
  have hlt:j.toNat-i.toNat=0:=Nat.sub_eq_zero_of_le (Nat.le_of_lt (Z21 hab).1)
  have hp:0<x.length:=Nat.lt_of_le_of_lt (Nat.zero_le _) (Z21 hab).2
  unfold Txt.slice sub
  rw[em,hlt,if_neg (by simp;omega)]
  simp
def Zh4:V->Option Int->Option Int->Hp->VK->Prop:=fun x lo hi H Q=>∃z:Str,x=.str z/\z.length<=sizeLine/\Q (.str (Txt.slice z lo hi)) H
section
variable{X:Cx}
theorem Zcr:Zgp X Zh4:=by
 intro Z4 s σ H x v vl vu lo hi sl Q I rx hs pl pu h
 obtain⟨z,rfl,hz,q⟩:=h
 obtain⟨t,rfl⟩:=rx
 have part:∀ {v:Value} {o:Option Int},IsPart v o->∃p:Option (Int×Tok),v=partValue p/\p.map (·.1)=o:=by
  intro v o h
  cases h with
  |none=>exact⟨none,rfl,rfl⟩
  |int i t=>exact⟨some (i,t),rfl,rfl⟩
 obtain⟨l,rfl,rfl⟩:=part pl
 obtain⟨u,rfl,rfl⟩:=part pu
 exact⟨"str",_,F.slot_str_getitem.lookup,typeIs_str _ _ _,wpAny_getItem_str_slice (l:=l) (u:=u) (st:=none) hs rfl (post_val_or_str ⟨Nat.le_trans (Txt.slice_le z _ _) hz,fun t' k=>⟨.str _,H,I.tok _,⟨_,rfl⟩,q⟩⟩)⟩
end
end L2
namespace HT
open PySem PySem.Spec PyProof.Rows
section
variable{prog:Program}{w:World}{A:Around}{E:Value->Shared->Prop}{s:Shared}
end
end HT
namespace L2
open PySem PySem.Spec PyProof.Rows
section
variable{X:Cx}
end
end L2
namespace Seek
open PySem PySem.Spec PyProof.Rows L2
theorem Zef{xs:List V}{k:Nat}(h:k<=xs.length):Vp xs none (some (k:Int))=xs.take k:=by
 unfold Vp
 rw[HT.sIx_none,HT.sIx_nat,List.drop_zero,Nat.min_eq_left h,Nat.sub_zero]
theorem Z9f{xs:List V}{k:Nat}(h:k<=xs.length):Vp xs (some (k:Int)) none=xs.drop k:=by
 unfold Vp
 rw[HT.sIx_none,HT.sIx_nat,Nat.min_eq_left h]
 exact List.take_of_length_le (by rw[List.length_drop];exact Nat.le_refl _)
theorem Zbm(xs:List V):Vp xs none (some 1)=xs.take 1:=by
 unfold Vp
 have:HT.sIx xs.length xs.length (some 1)=min 1 xs.length:=HT.sIx_nat _ _ 1
 rw[HT.sIx_none,this,List.drop_zero,Nat.sub_zero]
 by_cases h:1<=xs.length
 ·rw[Nat.min_eq_left h]
 ·match xs,h with
  | [],_=>rfl
  |x::xs,h=>exact absurd (show 1<=xs.length+1 by omega) h
abbrev itself:List V:=[.str "sign",.str "any",.str "in",.str "out",.str "begin",.str "end",.str "again"]
theorem big{n:Nat}(h:n<=1000000):n<sizeLine:=Nat.lt_of_le_of_lt h (by rw[sizeLine_eq];decide)
inductive Op where
 |pat (h:Hd) | try_ (z:Nat) | go (z:Nat) | have_ (k:Int) (z:Nat) | turns | open_ | close (k:Int) | turn (lo:Int) (hi:Option Int) (how:How) (z:Nat) | next (lo:Int) (z:Nat)
 |once | kept | peeked | bar (z:Nat) | barred | lean | here | found
section
variable{es:List Op}{t:Str}{n:Nat}
variable{e:Nat}{h:Hl}{cs:List Ch}
end
abbrev stroked:Str:="\\.[](){}<>|^$&~"
abbrev Zy:Str:="\\[]^-"
def within(i j:Str):Bool:=!(Builtin.Str.occurrences j i 0 j.length 1).isEmpty
def sg(s st:Str):Str:=if within s st=true then "\\" ++ s else s
def Xf(r:Str×Str):Str:=if decide (V.str r.1=V.str r.2)=true then sg r.1 Zy else(sg r.1 Zy++"-")++sg r.2 Zy
def Uc(i:Int):Str:=toString i
def How.sign:How->Str
 |.much=>"" |.little=>"?" |.keep=>"!"
def Zcg:Option Int->Str
 |some h=>Uc h
 |none=>""
def Vg(lo:Int)(hi:Option Int)(how:How):Str:=(((("{" ++ Uc lo)++",")++Zcg hi)++how.sign)++"}"
abbrev Ym:List V:=[.str "or"]
abbrev Y7:List V:=[.str "row",.str "or",.str "times"]
def Z0k(ws:List V)(q:Str×Str):Str:=if Z1u (.str q.1) ws=true then("<:" ++ q.2)++">" else q.2
def Lk.sign:Lk->Str
 |.once=>"!" |.ahead=>"+" |.notahead=>"-" |.behind=>"*" |.notbehind=>"/"
def q0(qs:List (Str×Str)):Str×Str:=qs.headD ("","")
def Hd.txt(h:Hd)(qs:List (Str×Str)):Str:=match h with
 |.sign s=>sg s stroked | .any=>"." |.beg=>"^" |.fin=>"$"
 |.inn rs=>("[" ++ Txt.join "" (rs.map Xf))++"]" |.out rs=>("[^" ++ Txt.join "" (rs.map Xf))++"]"
 |.row=>Txt.join "" (qs.map (Z0k Ym)) | .alt=>Txt.join "|" (qs.map (·.2))
 |.times lo hi how=>Z0k Y7 (q0 qs)++Vg lo hi how
 |.grp _=>("(" ++ (q0 qs).2)++")" |.again k=>"&" ++ Uc k
 |.hav k=>(((("<" ++ Uc k)++(q0 qs).2)++"~")++(q0 qs.tail).2)++">"
 |.look l=>(("<" ++ l.sign)++(q0 qs).2)++">"
def Pat.word:Pat->Str
 |.node h _=>h.word
mutual
def Pat.txt:Pat->Str
 |.node h ks=>h.txt (Zbz ks)
def Zbz:List Pat->List (Str×Str)
 | []=>[]
 |k::ks=>(k.word,k.txt)::Zbz ks
end
def Pat.wt(p:Pat):Str×Str:=(p.word,p.txt)
theorem Z8l(ks:List Pat):Zbz ks=ks.map Pat.wt:=by
 induction ks with
 |nil=>rfl
 |cons k ks ih=>rw[Zbz,ih];rfl
theorem X0(h:Hd)(ks:List Pat):(Pat.node h ks).txt=h.txt (ks.map Pat.wt):=by rw[Pat.txt,Z8l]
theorem Z73:("\\":Str).length=1:=by decide +kernel
theorem Uy:("-":Str).length=1:=by decide +kernel
theorem To:("{":Str).length=1:=by decide +kernel
theorem Z5u:("}":Str).length=1:=by decide +kernel
theorem Wa:(",":Str).length=1:=by decide +kernel
theorem Zak:("":Str).length=0:=by decide +kernel
theorem Zhr:("?":Str).length=1:=by decide +kernel
theorem Zhq:("!":Str).length=1:=by decide +kernel
theorem Z8e:("<:":Str).length=2:=by decide +kernel
theorem Ub:(">":Str).length=1:=by decide +kernel
theorem We:("<":Str).length=1:=by decide +kernel
theorem Z79:(".":Str).length=1:=by decide +kernel
theorem Z2p:("^":Str).length=1:=by decide +kernel
theorem Z7a:("$":Str).length=1:=by decide +kernel
theorem Jv:("[":Str).length=1:=by decide +kernel
theorem Z78:("[^":Str).length=2:=by decide +kernel
theorem Z1d:("]":Str).length=1:=by decide +kernel
theorem Z04:("|":Str).length=1:=by decide +kernel
theorem Z4v:("(":Str).length=1:=by decide +kernel
theorem Zai:(")":Str).length=1:=by decide +kernel
theorem Z1g:("&":Str).length=1:=by decide +kernel
theorem Uk:("~":Str).length=1:=by decide +kernel
theorem Wx{i:Int}(h0:0<=i)(h1:i<=20):(Uc i).length<=2:=by
 have:i=0∨i=1∨i=2∨i=3∨i=4∨i=5∨i=6∨i=7∨i=8∨i=9∨i=10∨i=11∨i=12∨i=13∨i=14∨i=15∨i=16∨i=17∨i=18∨i=19∨i=20:=by omega
 rcases this with rfl | rfl | rfl | rfl | rfl | rfl | rfl | rfl | rfl | rfl | rfl | rfl | rfl | rfl | rfl | rfl | rfl | rfl | rfl | rfl | rfl <;> decide +kernel
theorem lg{i:Int}(h0:0<=i)(h1:i<=20):i.natAbs.log2<1920:=Nat.lt_of_le_of_lt (Nat.log2_le_self _) (by omega)
theorem Z6e{hi:Option Int}(h:∀x,hi=some x->0<=x/\x<=20):(Zcg hi).length<=2:=by
 cases hi with
 |none=>decide +kernel
 |some x=>exact Wx (h x rfl).1 (h x rfl).2
theorem Z0a(how:How):how.sign.length<=1:=by cases how <;> decide +kernel
theorem Ux(l:Lk):l.sign.length=1:=by cases l <;> decide +kernel
theorem Ue{s st:Str}(h:s.length=1):(sg s st).length<=2:=by
 unfold sg
 split
 ·rw[Za,Z73,h];omega
 ·omega
theorem Zas{r:Str×Str}(h1:r.1.length=1)(h2:r.2.length=1):(Xf r).length<=5:=by
 have a:=Ue (st:=Zy) h1
 have b:=Ue (st:=Zy) h2
 unfold Xf
 split
 ·omega
 ·rw[Za,Za,Uy];omega
theorem Z9m(ws:List V)(q:Str×Str):(Z0k ws q).length<=q.2.length+3:=by
 unfold Z0k
 split
 ·rw[Za,Za,Z8e,Ub];omega
 ·omega
def Hd.tame:Hd->Prop
 |.sign s=>s.length=1
 |.inn rs=>rs.length<=20/\∀r∈rs,r.1.length=1/\r.2.length=1
 |.out rs=>rs.length<=20/\∀r∈rs,r.1.length=1/\r.2.length=1
 |.times lo hi _=>0<=lo/\lo<=20/\∀h,hi=some h->0<=h/\h<=20
 |.again k=>0<=k/\k<=20
 |.hav k=>0<=k/\k<=20
 |_=>True
theorem RunsAt.tame{H:Hp}{r:Addr}{rs:List (Str×Str)}(h:RunsAt H r rs):rs.length<=20/\∀q∈rs,q.1.length=1/\q.2.length=1:=by
 obtain⟨vs,_,p,z⟩:=h
 refine⟨z,fun q hq=>?_⟩
 obtain⟨v,_,h1,h2,_⟩:=Xk p q hq
 exact⟨h1,h2⟩
theorem Lay.tame{H:Hp}{a:Addr}{kv:List V}:∀ {h:Hd},Lay H a h kv->h.tame
 |.sign _,⟨_,y,_⟩=>y
 |.any,_=>trivial
 |.inn _,⟨_,_,_,q⟩=>q.tame
 |.out _,⟨_,_,_,q⟩=>q.tame
 |.beg,_=>trivial
 |.fin,_=>trivial
 |.row,_=>trivial
 |.alt,_=>trivial
 |.times _ _ _,⟨x,_⟩=>x
 |.grp _,_=>trivial
 |.again _,⟨x,_⟩=>x
 |.hav _,⟨x,_⟩=>x
 |.look _,_=>trivial
theorem Z9o{α:Type}(f:α->Nat)(c:Nat):∀ {xs:List α},(∀x∈xs,f x<=c)->(xs.map f).sum<=xs.length*c
 | [],_=>by simp
 |x::xs,h=>by
  have h1:=h x (by simp)
  have h2:=Z9o f c (xs:=xs) fun y hy=>h y (by simp[hy])
  rw[List.map_cons,List.sum_cons,List.length_cons,Nat.add_mul]
  omega
theorem Tv{rs:List (Str×Str)}(h:rs.length<=20/\∀r∈rs,r.1.length=1/\r.2.length=1):((rs.map Xf).map (·.length)).sum<=100:=by
 have:=Z9o (fun r=>(Xf r).length) 5 (xs:=rs) fun r hr=>Zas (h.2 r hr).1 (h.2 r hr).2
 rw[List.map_map]
 show(rs.map fun r=>(Xf r).length).sum<=100
 omega
theorem Vz{rs:List (Str×Str)}(h:rs.length<=20/\∀r∈rs,r.1.length=1/\r.2.length=1):(Txt.join "" (rs.map Xf)).length<=100:=by
 have h1:=Z0y "" (rs.map Xf)
 have h2:=Tv h
 rw[Zak]at h1
 omega
def Xe(p:Pat):Prop:=p.txt.length+10<=150*p.size
theorem Z37(ws:List V):∀ {ks:List Pat},(∀k∈ks,Xe k)->(((ks.map Pat.wt).map (Z0k ws)).map (·.length)).sum+ks.length<=150*Y8 ks
 | [],_=>by simp[Y8]
 |k::ks,h=>by
  have h1:=h k (by simp)
  have h2:=Z37 ws (ks:=ks) fun y hy=>h y (by simp[hy])
  have h3:=Z9m ws k.wt
  simp only[List.map_cons,List.sum_cons,List.length_cons,Y8]
  unfold Xe at h1
  simp only[Pat.wt]at h2 h3 ⊢
  omega
theorem Z38:∀ {ks:List Pat},(∀k∈ks,Xe k)->(((ks.map Pat.wt).map (·.2)).map (·.length)).sum+ks.length<=150*Y8 ks
 | [],_=>by simp[Y8]
 |k::ks,h=>by
  have h1:=h k (by simp)
  have h2:=Z38 (ks:=ks) fun y hy=>h y (by simp[hy])
  simp only[List.map_cons,List.sum_cons,List.length_cons,Y8]
  unfold Xe at h1
  simp only[Pat.wt]at h2 ⊢
  omega
theorem Z9t{ks:List Pat}(h:∀k∈ks,Xe k):(q0 (ks.map Pat.wt)).2.length<=150*Y8 ks:=by
 cases ks with
 |nil=>exact Nat.le_trans (by decide +kernel) (Nat.zero_le _)
 |cons k ks =>
  have h1:=h k (by simp)
  unfold Xe at h1
  show k.txt.length<=_
  rw[Y8]
  omega
theorem Z59{h:Hd}{ks:List Pat}(ht:h.tame)(ih:∀k∈ks,Xe k):Xe (.node h ks):=by
 unfold Xe
 rw[X0,Zu]
 have hq:=Z9t ih
 cases h with
 |sign s=>have:=Ue (st:=stroked) ht;show(sg s stroked).length+10<=_;omega
 |any=>show(".":Str).length+10<=_;rw[Z79];omega
 |beg=>show("^":Str).length+10<=_;rw[Z2p];omega
 |fin=>show("$":Str).length+10<=_;rw[Z7a];omega
 |inn rs=>have:=Vz ht;simp only[Hd.txt,Za,Jv,Z1d];omega
 |out rs=>have:=Vz ht;simp only[Hd.txt,Za,Z78,Z1d];omega
 |row =>
  have h1:=Z0y "" ((ks.map Pat.wt).map (Z0k Ym))
  have h2:=Z37 Ym ih
  rw[Zak]at h1
  show(Txt.join "" ((ks.map Pat.wt).map (Z0k Ym))).length+10<=_
  omega
 |alt =>
  have h1:=Z0y "|" ((ks.map Pat.wt).map (·.2))
  have h2:=Z38 ih
  rw[Z04]at h1
  simp only[List.length_map,Nat.mul_one]at h1
  show(Txt.join "|" ((ks.map Pat.wt).map (·.2))).length+10<=_
  omega
 |times lo hi how =>
  have h1:=Z9m Y7 (q0 (ks.map Pat.wt))
  have h2:=Wx ht.1 ht.2.1
  have h3:=Z6e ht.2.2
  have h4:=Z0a how
  simp only[Hd.txt,Vg,Za,To,Z5u,Wa]
  omega
 |grp n=>simp only[Hd.txt,Za,Z4v,Zai];omega
 |again n=>have:=Wx ht.1 ht.2;simp only[Hd.txt,Za,Z1g];omega
 |hav n =>
  have h2:=Wx ht.1 ht.2
  cases ks with
  |nil=>simp only[Hd.txt,q0,List.map_nil,List.headD_nil,List.tail_nil,Za,We,Ub,Uk,Zak];omega
  |cons k r =>
   have h1:=ih k (by simp)
   have h3:=Z9t (ks:=r) fun z hz=>ih z (by simp[hz])
   unfold Xe at h1
   simp only[Hd.txt,List.map_cons,List.tail_cons,Za,We,Ub,Uk,Y8]at h3 ⊢
   show 1+(Uc n).length+k.txt.length+1+_+1+10<=_
   omega
 |look l=>have:=Ux l;simp only[Hd.txt,Za,We,Ub];omega
theorem PatAt.short{H:Hp}:∀ {d:Nat} {v:V} {p:Pat},PatAt H d v p->Xe p
 |0,_,_,h=>h.elim
 |d+1,v,.node h ks,⟨a,kv,e,l,p⟩=>Z59 l.tame fun k hk=>by
  obtain⟨x,_,q⟩:=Xk p k hk
  exact PatAt.short q
theorem Yv{n:Nat}(h:n<=16000000):n<=sizeLine:=by rw[sizeLine_eq];omega
abbrev bareT:List (V6×V):=[(.inr "any",.str "."),(.inr "begin",.str "^"),(.inr "end",.str "$")]
abbrev Yn:List (V6×V):=[(.inr "in",.str "["),(.inr "out",.str "[^")]
abbrev Z2r:List (V6×V):=[(.inr "much",.str ""),(.inr "little",.str "?"),(.inr "keep",.str "!")]
abbrev bracketsT:List (V6×V):=[(.inr "once",.str "!"),(.inr "ahead",.str "+"),(.inr "notahead",.str "-"),(.inr "behind",.str "*"),(.inr "notbehind",.str "/")]
theorem Zbi(how:How):X4 Z2r (Sum.inr how.text)=some (.str how.sign):=by cases how <;> decide +kernel
theorem Z41(l:Lk):X4 bracketsT (Sum.inr l.text)=some (.str l.sign):=by cases l <;> decide +kernel
end Seek
namespace L2
open PySem PySem.Spec PyProof.Rows
section
variable{X:Cx}{Z4:List (Addr×Obj)}{σ:List (Option V)}{H H':Hp}{s:Shared}{h':Heap}
theorem Z2m:Vu X (.type "int") (fun xs H Q=>∃(x:Str) (n:Int),xs=[.str x]/\PySem.intText? x=some n/\x.length<=640/\Q (.int n) H):=by
 intro Z4 s σ H xs us Q I r h
 obtain⟨x,n,rfl,hi,hz,q⟩:=h
 obtain⟨u,rfl,t,rfl⟩:=Uj r
 exact W.KIN.call_text hi hz ⟨.int n,H,I.tok _,⟨_,rfl⟩,q⟩
end
end L2
namespace Seek
open PySem PySem.Spec PyProof.Rows L2
theorem J6(a:Str):a++("":Str)=a:=by
 show(⟨a.cps ++ #[]⟩:Str)=a
 rw[Array.append_empty]
theorem Z6s(a:Str):("":Str)++a=a:=by
 show(⟨#[]++a.cps⟩:Str)=a
 rw[Array.empty_append]
theorem Z24(xs:List Str)(y:Str):Txt.join "" (xs++[y])=Txt.join "" xs++y:=by
 cases xs with
 |nil=>exact(Z6s y).symm
 |cons x xs =>
  show(⟨(xs++[y]).foldl (fun a p=>a++("":Str).cps++p.cps) x.cps⟩:Str)=⟨xs.foldl (fun a p=>a++("":Str).cps++p.cps) x.cps++y.cps⟩
  rw[List.foldl_append]
  show(⟨(xs.foldl (fun a p=>a++("":Str).cps++p.cps) x.cps ++ #[])++y.cps⟩:Str)=_
  rw[Array.append_empty]
def Zgn(s:Str):Option Nat:=match s.cps.toList with
 | [c]=>if 48<=c/\c<=57 then some (c-48) else none
 |_=>none
abbrev digS:Str:="0123456789"
theorem Zdx{s:Str}(h:s.length=1):∃c,s=⟨#[c]⟩:=by
 have hl:s.cps.toList.length=s.length:=by simp[Str.length]
 rw[h]at hl
 match hc:s.cps.toList,hl with
 | [c],_ =>
  refine⟨c,?_⟩
  obtain⟨⟨x⟩⟩:=s
  have:x=[c]:=hc
  rw[this]
theorem Zee{s:Str}(h:s.length=1):(!(Builtin.Str.occurrences digS s 0 digS.length 1).isEmpty)=(Zgn s).isSome:=by
 obtain⟨c,rfl⟩:=Zdx h
 rw[PySem.StrLaws.found_one]
 have e:digS.cps.toList=[48,49,50,51,52,53,54,55,56,57]:=by decide +kernel
 rw[e]
 show _=(if 48<=c/\c<=57 then some (c-48) else none).isSome
 by_cases hc:48<=c/\c<=57
 ·rw[if_pos hc]
  refine decide_eq_true ?_
  simp
  omega
 ·rw[if_neg hc]
  refine decide_eq_false ?_
  simp
  omega
theorem Zbk{s:Str}{k:Nat}(h:Zgn s=some k):PySem.intText? s=some (k:Int)/\s.length=1/\k<=9:=by
 unfold Zgn at h
 split at h
 ·rename_i c hc
  split at h
  ·rename_i hr
   cases h
   have hs:s=⟨#[c]⟩:=by
    obtain⟨⟨x⟩⟩:=s
    have:x=[c]:=hc
    rw[this]
   have:c=48∨c=49∨c=50∨c=51∨c=52∨c=53∨c=54∨c=55∨c=56∨c=57:=by omega
   rcases this with rfl | rfl | rfl | rfl | rfl | rfl | rfl | rfl | rfl | rfl <;> (rw[hs];exact⟨by decide +kernel,rfl,by decide⟩)
  ·cases h
 ·cases h
def cs(x:Str):List Nat:=x.cps.toList
theorem Z6h{x y:Str}(h:cs x=cs y):x=y:=by
 obtain⟨⟨a⟩⟩:=x
 obtain⟨⟨b⟩⟩:=y
 have:a=b:=h
 rw[this]
theorem Uz(x:Str):(cs x).length=x.length:=by simp[cs,Str.length]
theorem Z6i(x y:Str):cs (x++y)=cs x++cs y:=by
 show(x.cps++y.cps).toList=_
 simp[cs]
theorem Z6g(t:Str)(a b:Nat):cs (sub t a b)=((cs t).drop a).take (b-a):=rfl
def AtT(t:Str)(i:Nat)(x:Str):Prop:=((cs t).drop i).take x.length=cs x
def U8(t:Str)(i:Nat):Str:=sub t i (i+1)
theorem AtT.le{t x:Str}{i:Nat}(h:AtT t i x)(hx:0<x.length):i+x.length<=t.length:=by
 have:=congrArg List.length h
 rw[List.length_take,List.length_drop,Uz,Uz]at this
 omega
theorem AtT.fst{t x y:Str}{i:Nat}(h:AtT t i (x++y)):AtT t i x:=by
 have e:(cs x).take x.length=cs x:=List.take_of_length_le (by rw[Uz];exact Nat.le_refl _)
 have q:=congrArg (List.take x.length) h
 rw[List.take_take,Z6i,List.take_append_of_le_length (by rw[Uz];exact Nat.le_refl _),e,Za,Nat.min_eq_left (by omega)]at q
 exact q
theorem AtT.snd{t x y:Str}{i:Nat}(h:AtT t i (x++y)):AtT t (i+x.length) y:=by
 have e:(cs x).drop x.length=[]:=List.drop_of_length_le (by rw[Uz];exact Nat.le_refl _)
 have q:=congrArg (List.drop x.length) h
 rw[List.drop_take,Z6i,List.drop_append_of_le_length (by rw[Uz];exact Nat.le_refl _),e,List.nil_append,Za,List.drop_drop,show x.length+y.length-x.length=y.length by omega]at q
 exact q
theorem AtT.all(t:Str):AtT t 0 t:=by
 unfold AtT
 rw[List.drop_zero,List.take_of_length_le (by rw[Uz];exact Nat.le_refl _)]
theorem AtT.sg{t x y:Str}{i:Nat}(h:AtT t i (x++y))(hx:x.length=1):U8 t i=x:=by
 have:=h.fst
 refine Z6h ?_
 unfold U8
 rw[Z6g,Nat.add_sub_cancel_left,← hx]
 exact this
theorem AtT.sg1{t x:Str}{i:Nat}(h:AtT t i x)(hx:x.length=1):U8 t i=x:=by
 refine Z6h ?_
 unfold U8
 rw[Z6g,Nat.add_sub_cancel_left,← hx]
 exact h
theorem Z6n{t:Str}{i:Nat}(h:t.length<=i):U8 t i="":=by
 refine Z6h ?_
 unfold U8
 rw[Z6g,List.drop_of_length_le (by rw[Uz];exact h),List.take_nil]
 rfl
end Seek
namespace L2
open PySem PySem.Spec PyProof.Rows
def Zfb(ks:List V):It:=⟨fun i _=>i<ks.length,fun i H x H'=>H'=H/\ks[i]? = some x,fun i _=>ks.length<=i⟩
theorem Zh2{k:V6}{v:Value}(h:Ul k v=true):RelV (kV k) v:=by
 cases k with
 |inl i =>
  cases v with
  |int j t =>
   have e:j=i:=by simpa[Ul,Value.isInt] using h
   exact⟨t,by rw[e]⟩
  |_=>exact absurd h (by simp[Ul,Value.isInt])
 |inr x =>
  cases v with
  |str y t =>
   have e:y=x:=by simpa[Ul,Value.isStrOf] using h
   exact⟨t,by rw[e]⟩
  |_=>exact absurd h (by simp[Ul,Value.isStrOf])
structure DcE(K:W.Frag)(w:World)(a:Addr)(kvs:List (V6×V))(ep:Nat):Prop where
 nsm:(a==sysModules)=false
 ex:∃(o:Obj) (es:Array DictEntry),K.lookup a=some o/\o.ExactDict/\o.data=.dict es ep/\Paired (Zaj w) es.toList kvs/\(kvs.map (·.1)).Nodup
theorem DcK.e{K:W.Frag}{w:World}{a:Addr}{kvs:List (V6×V)}(h:DcK K w a kvs):∃ep,DcE K w a kvs ep:=by
 obtain⟨n,o,es,ep,l,x,d,p,nd⟩:=h
 exact⟨ep,n,o,es,l,x,d,p,nd⟩
theorem Inv.dcE{X:Cx}{Z4:List (Addr×Obj)}{σ:St}{H:Hp}{s:Shared}{a:Addr}{kvs:List (V6×V)}{ep:Nat}(I:Inv X Z4 σ H s)(h:DcE X.K X.w a kvs ep):∃vs:List (V6×Value),vs.map (·.1)=kvs.map (·.1)/\s.heap.DictAt (Yp X.prog X.w) a vs ep:=by
 obtain⟨_,o,es,l,x,d,p,nd⟩:=h
 obtain⟨vs,r,pr,m,k⟩:=Td (P:=X.prog) p
 exact⟨vs,m,o,es,I.kIn a o l,x,d,fun e he=>k e (by simpa using he),pr,by rw[m];exact nd⟩
theorem Z7g{P:Program}{w:World}{K:W.Frag}{tg:Expr}{a:Addr}(it:Addr){kvs:List (V6×V)}{ep:Nat}(h:DcE K w a kvs ep):Turn P w K tg (Zfb (kvs.map fun p=>kV p.1)) [it] it (fun i h=>h.IsKeyIter it a i kvs.length ep) where
 mem:=by simp
 obj:=fun i h st b hb=>by
  have e:b=it:=by simpa using hb
  subst e
  obtain⟨o,e,c,d⟩:=st
  exact⟨o,e,fun v z=>by rw[d]at z;cases z⟩
 keep:=fun i h h' st k=>st.at fun o e=>k it (by simp) o e
 item:=by
  intro X hP hw hK hc i Z4 s σ H E I hf st hg
  subst hP hw hK
  obtain⟨vs,m,dd⟩:=I.dcE h
  obtain⟨f0,f1,f2,f3,f4,f5⟩:=hf it (by simp)
  have hl:vs.length=kvs.length:=by have:=congrArg List.length m;simpa using this
  have hi:i<kvs.length:=by simpa[Zfb] using hg
  have hx:vs[i]? = some vs[i]:=List.getElem?_eq_getElem (by omega)
  rw[← hl]at st
  refine wpAny_pyNext_dict_item st dd (k:=(vs[i]).1) (v:=(vs[i]).2) hx fun key h' hkey hit' hs'=>?_
  have I1:Inv X Z4 σ H { s with heap:=h' }:=I.turned (t':=s.toks) (fun b o hb e=>hs'.extBut b o hb e) f0 f1 f3 f4 f5
  obtain⟨o,e,c,d⟩:=id hit'
  rw[hl]at hit'
  refine⟨key,rfl,Z54 (s:={ s with heap:=h' }) e c d (by decide) ⟨kV (vs[i]).1,H,I1,Zh2 hkey,⟨rfl,?_⟩,hit',fun b hb=>(hf b hb).1⟩⟩
  have:(vs.map (·.1))[i]? = (kvs.map (·.1))[i]?:=by rw[m]
  rw[List.getElem?_map,List.getElem?_map,hx,List.getElem?_eq_getElem hi]at this
  rw[List.getElem?_map,List.getElem?_eq_getElem hi]
  simp only[Option.map_some,Option.some.injEq]at this ⊢
  rw[this]
 done:=by
  intro X hP hw hK hc i Z4 s σ H E I hf st hg
  subst hP hw hK
  obtain⟨vs,m,dd⟩:=I.dcE h
  obtain⟨f0,f1,f2,f3,f4,f5⟩:=hf it (by simp)
  have hl:vs.length=kvs.length:=by have:=congrArg List.length m;simpa using this
  have hi:kvs.length<=i:=by simpa[Zfb] using hg
  rw[← hl]at st
  exact wpAny_pyNext_dict_end (I.ok.hd hc) st dd (by simp;omega) fun h' eb=>⟨rfl,I.turned (t':=s.toks) (fun b o hb e=>eb b o hb e) f0 f1 f3 f4 f5⟩
 self:=fun _ _ _ _ _ st h=>wpAny_pyIter_keyiter st h
section
variable{X:Cx}{tg:Expr}
def Zfx(K:W.Frag)(w:World)(tl:TE):TI:=fun σ H R=>tl σ H fun x H1=>∃a kvs,x=.ref a/\DcK K w a kvs/\R (Zfb (kvs.map fun p=>kV p.1)) H1
theorem Z6p{l:Expr}{tl:TE}(hl:PE X l tl):PI X tg l (Zfx X.K X.w tl):=by
 intro Z4 s σ H R I h
 refine Xt (hl Z4 s σ H _ I h) fun v s1 ⟨x,H1,I1,r1,q1⟩=>?_
 obtain⟨a,kvs,e,dc,q⟩:=q1
 subst e
 cases r1
 obtain⟨ep,de⟩:=dc.e
 obtain⟨vs,m,dd⟩:=I1.dcE de
 have hl:vs.length=kvs.length:=by have:=congrArg List.length m;simpa using this
 refine wpAny_pyIter_dict dc.1 dd ?_
 refine⟨s1.heap.objs.size,[s1.heap.objs.size],_,_,H1,rfl,I1.kept (t':=s1.toks) fun b o e=>Heap.get?_push_of_some _ e,Z7g _ de,⟨_,Heap.get?_push_size _ rfl,rfl,by rw[hl];rfl⟩,fun b hb=>?_,q⟩
 have e:b=s1.heap.objs.size:=by simpa using hb
 subst e
 exact I1.fpOk (Nat.le_refl _) (I1.hok.fresh (Nat.le_refl _))
theorem Ty{ks:List V}{g:TG}{tb:TS}{D:Ends}{σ:St}{H:Hp}(Pv:Nat->St->Hp->Prop)(h0:Pv 0 σ H)
  (hs:∀i x σ H,ks[i]? = some x->Pv i σ H->g x σ H fun σ2 H2=>tb { D with nx:=Pv (i+1),ct:=Pv (i+1),bk:=D.nx } σ2 H2) (hd:∀σ H,Pv ks.length σ H->D.nx σ H) :
  ∃W:Nat->Nat->St->Hp->Prop,(∃m,W 0 m σ H)/\∀i m σ H,W i m σ H ->
   ((Zfb ks).stop i H/\D.nx σ H)∨((Zfb ks).go i H/\∃N:St->Hp->Prop,(∀σ' H',N σ' H'->∃m',m'<m/\W (i+1) m' σ' H')/\∀x H',(Zfb ks).yld i H x H'->g x σ H' fun σ2 H2=>tb { D with nx:=N,ct:=N,bk:=D.nx } σ2 H2):=by
 refine⟨fun i m σ H=>m=ks.length-i/\i<=ks.length/\Pv i σ H,⟨ks.length,by simp,Nat.zero_le _,h0⟩,?_⟩
 rintro i m σ H ⟨rfl,hi,p⟩
 by_cases hlt:i<ks.length
 ·refine .inr ⟨hlt,Pv (i+1),fun σ' H' q=>⟨ks.length-(i+1),by omega,rfl,by omega,q⟩,fun x H' y=>?_⟩
  obtain⟨e,y⟩:=y
  subst e
  exact hs i x σ H' y p
 ·have e:i=ks.length:=by omega
  subst e
  exact .inl ⟨Nat.le_refl _,hd σ H p⟩
end
def Zho(x:Str):It:=⟨fun i _=>i<x.cps.size,fun i H v H'=>H'=H/\∃c,x.cps[i]? = some c/\v=.str ⟨#[c]⟩,fun i _=>x.cps.size<=i⟩
theorem Z46{P:Program}{w:World}{K:W.Frag}{tg:Expr}(it:Addr)(x:Str)(t:Tok)(ty:String)(W:∀A':Around,A'.handled=none->Walks P w A' it [it] [it] x.cps.size (SignAt x) (fun i h=>h.IsStrIter it ty x t i))
  (slf:∀(A:Around) (i:Nat) (s:Shared) (Q:Value->Shared->Prop) (E:Value->Shared->Prop),s.heap.IsStrIter it ty x t i->Q (.ref it) s->wpAny (model P w) A (pyIter (.ref it)) Q E s)
  (hn:["enumerate","zip","dict_itemiterator","dict_reverseitemiterator","odict_iterator","itertools.zip_longest","itertools.pairwise"].contains ty=false):Turn P w K tg (Zho x) [it] it (fun i h=>i<=x.cps.size/\h.IsStrIter it ty x t i) where
 mem:=by simp
 obj:=fun i h st b hb=>by
  have e:b=it:=by simpa using hb
  subst e
  obtain⟨o,e,c,d⟩:=st.2
  exact⟨o,e,fun v z=>by rw[d]at z;cases z⟩
 keep:=fun i h h' st k=>⟨st.1,let⟨o,ho,r⟩:=st.2;⟨o,k it (by simp) o ho,r⟩⟩
 item:=by
  intro X hP hw hK hc i Z4 s σ H E I hf st hg
  subst hP hw hK
  obtain⟨f0,f1,f2,f3,f4,f5⟩:=hf it (by simp)
  refine(W X.A (I.ok.hd hc)).item i s _ _ hg st.2 fun v h' tk hv st' kk=>?_
  obtain⟨c,u,hc,rfl⟩:=hv
  have I1:Inv X Z4 σ H { s with heap:=h',toks:=tk }:=I.turned (fun b o hb e=>kk b o (by simpa using hb) e) f0 f1 f3 f4 f5
  obtain⟨o,e,cl,d⟩:=id st'
  exact⟨_,rfl,Z54 (s:={ s with heap:=h',toks:=tk }) e cl d hn ⟨.str ⟨#[c]⟩,H,I1,⟨u,rfl⟩,⟨rfl,c,hc,rfl⟩,⟨hg,st'⟩,fun b hb=>(hf b hb).1⟩⟩
 done:=by
  intro X hP hw hK hc i Z4 s σ H E I hf st hg
  subst hP hw hK
  obtain⟨f0,f1,f2,f3,f4,f5⟩:=hf it (by simp)
  have e:i=x.cps.size:=Nat.le_antisymm st.1 hg
  subst e
  exact(W X.A (I.ok.hd hc)).done s _ _ st.2 fun h' tk kk=>⟨rfl,I.turned (fun b o hb e=>kk b o (by simpa using hb) e) f0 f1 f3 f4 f5⟩
 self:=fun A i s Q E st h=>slf A i s Q E st.2 h
section
variable{X:Cx}{tg:Expr}
def Zha(tl:TE):TI:=fun σ H R=>tl σ H fun v H1=>∃x,v=.str x/\R (Zho x) H1
theorem Zdp{l:Expr}{tl:TE}(hl:PE X l tl):PI X tg l (Zha tl):=by
 intro Z4 s σ H R I h
 refine Xt (hl Z4 s σ H _ I h) fun v s1 ⟨x,H1,I1,r1,q1⟩=>?_
 obtain⟨x,e,q⟩:=q1
 subst e
 obtain⟨t,rfl⟩:=r1
 cases ha:x.cps.all (· < 128)
 ·refine wpAny_pyIter_wide ha ⟨s1.heap.objs.size,[s1.heap.objs.size],_,_,H1,rfl,I1.kept (t':=s1.toks) fun b o e=>Heap.get?_push_of_some _ e,Z46 _ x t "str_iterator" (fun A' hA=>Walks.strWide hA _ x t) (fun _ _ _ _ _ st h=>wpAny_pyIter_striter_wide st h) (by decide),⟨Nat.zero_le _,_,Heap.get?_push_size _ rfl,rfl,rfl⟩,fun b hb=>?_,q⟩
  have e:b=s1.heap.objs.size:=by simpa using hb
  subst e
  exact I1.fpOk (Nat.le_refl _) (I1.hok.fresh (Nat.le_refl _))
 ·refine wpAny_pyIter_ascii ha ⟨s1.heap.objs.size,[s1.heap.objs.size],_,_,H1,rfl,I1.kept (t':=s1.toks) fun b o e=>Heap.get?_push_of_some _ e,Z46 _ x t "str_ascii_iterator" (fun A' hA=>Walks.strAscii hA _ x t) (fun _ _ _ _ _ st h=>wpAny_pyIter_striter_ascii st h) (by decide),⟨Nat.zero_le _,_,Heap.get?_push_size _ rfl,rfl,rfl⟩,fun b hb=>?_,q⟩
  have e:b=s1.heap.objs.size:=by simpa using hb
  subst e
  exact I1.fpOk (Nat.le_refl _) (I1.hok.fresh (Nat.le_refl _))
theorem Ze5{x:Str}{σ:St}{te:TE}{Fin:List V->Hp->Prop}{H1:Hp}(Pv:Nat->List V->Hp->Prop)(h0:Pv 0 [] H1)(hz:x.cps.size<sizeLine)(hlen:∀i ys H,Pv i ys H->ys.length<=i)
  (hs:∀i ys H c,x.cps[i]? = some c->Pv i ys H->te (some (.str ⟨#[c]⟩)::σ) H fun v H2=>Pv (i+1) (ys++[v]) H2) (hd:∀ys H,Pv x.cps.size ys H->Fin ys H) :
  Zgc (Zho x) σ Z5r te Fin H1:=by
 refine Z6b (n:=x.cps.size) Pv h0 hz hlen (fun i ys H hi p=>hi) (fun ys H p=>Nat.le_refl _) (fun i ys H v H' hi p y=>?_) hd
 obtain⟨e,c,hc,rfl⟩:=y
 subst e
 exact hs i ys _ c hc p
end
end L2
namespace Seek
open PySem PySem.Spec PyProof.Rows L2
theorem Up{X:Cx}{es' es:List Expr}{n:Nat}{pos':Pos}{te:TE}{t:TA}(ha:PE X (.Tuple es' n pos') te)(hr:PA X es t):PA X (.Tuple es' n pos'::es) (Yf te t):=Z0 ha hr
theorem Wz{X:Cx}{es:List Expr}{c:Const}{n:Nat}{pos':Pos}{te:TE}{t:TA}(ha:PE X (.Constant c n pos') te)(hr:PA X es t):PA X (.Constant c n pos'::es) (Yf te t):=Z0 ha hr
theorem Z4d{X:Cx}{es:List Expr}{x:Str}{pos':Pos}{te:TE}{t:TA}(ha:PE X (.Name x pos') te)(hr:PA X es t):PA X (.Name x pos'::es) (Yf te t):=Z0 ha hr
theorem Zd7(h:let E:=D;let A1:=a1;let A2:=a4;let A3:=a5;let A4:=Zb (Zn c2 A2 Ze) A3;let A5:=Zb a3 A4;let A6:=Zb a2 A5;(Zb (Zn c1 A1 Ze) A6) E σ H):(Zb (Zn c1 a1 Ze) (Zb a2 (Zb a3 (Zb (Zn c2 a4 Ze) a5)))) D σ H:=h
theorem Z3a(h:let E:=D;let A1:=a3;let A2:=Zb a2 A1;(Zb a1 A2) E σ H):(Zb a1 (Zb a2 a3)) D σ H:=h
theorem Zdd(h:let E:=D;let A1:=a1;let A2:=a3;let A3:=Zb a2 A2;(Zb (Zn c1 A1 Ze) A3) E σ H):(Zb (Zn c1 a1 Ze) (Zb a2 a3)) D σ H:=h
theorem Zdg(h:let E:=D;let A1:=a1;(Zn c1 A1 Ze) E σ H):(Zn c1 a1 Ze) D σ H:=h
theorem Z9r(h:let E:=D;let A1:=a3;let A2:=a4;let A3:=Zb (Zn c1 A1 Ze) A2;let A4:=Zb a2 A3;(Zb a1 A4) E σ H):(Zb a1 (Zb a2 (Zb (Zn c1 a3 Ze) a4))) D σ H:=h
theorem Z15(h:let E:=D;let A1:=a2;let A2:=a3;let A3:=Zb (Zn c1 A1 Ze) A2;(Zb a1 A3) E σ H):(Zb a1 (Zb (Zn c1 a2 Ze) a3)) D σ H:=h
theorem Zd9(h:let E:=D;let A1:=a5;let A2:=a6;let A3:=Zn c2 A2 Ze;let A4:=a8;let A5:=Zb a7 A4;let A6:=Zb (Zn c1 A1 A3) A5;let A7:=Zb a4 A6;let A8:=Zb a3 A7;let A9:=Zb a2 A8;(Zb a1 A9) E σ H):(Zb a1 (Zb a2 (Zb a3 (Zb a4 (Zb (Zn c1 a5 (Zn c2 a6 Ze)) (Zb a7 a8)))))) D σ H:=h
theorem Zd5(h:let E:=D;let A1:=a3;let A2:=a4;let A3:=Zb (Z12 c1 A1) A2;let A4:=Zb a2 A3;(Zb a1 A4) E σ H):(Zb a1 (Zb a2 (Zb (Z12 c1 a3) a4))) D σ H:=h
theorem Zdk(h:let E:=D;let A1:=a2;let A2:=a6;let A3:=Zb a5 A2;let A4:=Zb a4 A3;let A5:=Zb a3 A4;let A6:=Zb (Zn c1 A1 Ze) A5;(Zb a1 A6) E σ H):(Zb a1 (Zb (Zn c1 a2 Ze) (Zb a3 (Zb a4 (Zb a5 a6))))) D σ H:=h
theorem Zcw(h:let E:=D;let A1:=a1;let A2:=a2;let A3:=Zn c2 A2 Ze;let A4:=a5;let A5:=Zb a4 A4;let A6:=Zb a3 A5;let A7:=Zb (Vj i1 g1 A3) A6;(Zb (Zn c1 A1 Ze) A7) E σ H):(Zb (Zn c1 a1 Ze) (Zb (Vj i1 g1 (Zn c2 a2 Ze)) (Zb a3 (Zb a4 a5)))) D σ H:=h
theorem Zcz(h:let E:=D;let A1:=a1;let A2:=a2;let A3:=a3;let A4:=a4;let A5:=a5;let A6:=Zn c5 A5 Ze;let A7:=a6;let A8:=Zb (Vj i1 g1 A6) A7;let A9:=Zb (Zn c4 A4 Ze) A8;let A10:=Zb (Zn c3 A3 Ze) A9;let A11:=Zb (Zn c2 A2 Ze) A10;(Zb (Zn c1 A1 Ze) A11) E σ H):(Zb (Zn c1 a1 Ze) (Zb (Zn c2 a2 Ze) (Zb (Zn c3 a3 Ze) (Zb (Zn c4 a4 Ze) (Zb (Vj i1 g1 (Zn c5 a5 Ze)) a6))))) D σ H:=h
theorem Z3b(h:let E:=D;let A1:=a2;(Zb a1 A1) E σ H):(Zb a1 a2) D σ H:=h
theorem Z9s(h:let E:=D;let A1:=a2;let A2:=a3;let A3:=Zb (Z12 c1 A1) A2;(Zb a1 A3) E σ H):(Zb a1 (Zb (Z12 c1 a2) a3)) D σ H:=h
theorem Z39(h:let E:=D;let A1:=a1;let A2:=a2;(Zb (Zn c1 A1 Ze) A2) E σ H):(Zb (Zn c1 a1 Ze) a2) D σ H:=h
theorem Zdl(h:let E:=D;let A1:=a1;let A2:=a2;let A3:=a3;let A4:=Zb (Zn c2 A2 Ze) A3;(Zb (Zn c1 A1 Ze) A4) E σ H):(Zb (Zn c1 a1 Ze) (Zb (Zn c2 a2 Ze) a3)) D σ H:=h
theorem Zd0(h:let E:=D;let A1:=a2;let A2:=a3;let A3:=a4;let A4:=a5;let A5:=a6;let A6:=a7;let A7:=Zb (Zn c5 A5 Ze) A6;let A8:=Zb (Zn c4 A4 Ze) A7;let A9:=Zb (Zn c3 A3 Ze) A8;let A10:=Zb (Zn c2 A2 Ze) A9;let A11:=Zb (Zn c1 A1 Ze) A10;(Zb a1 A11) E σ H):(Zb a1 (Zb (Zn c1 a2 Ze) (Zb (Zn c2 a3 Ze) (Zb (Zn c3 a4 Ze) (Zb (Zn c4 a5 Ze) (Zb (Zn c5 a6 Ze) a7)))))) D σ H:=h
theorem Zd8(h:let E:=D;let A1:=a4;let A2:=Zb a3 A1;let A3:=Zb a2 A2;(Zb a1 A3) E σ H):(Zb a1 (Zb a2 (Zb a3 a4))) D σ H:=h
theorem Zde(h:let E:=D;let A1:=a1;let A2:=a5;let A3:=a6;let A4:=a7;let A5:=Zb (Zn c3 A3 Ze) A4;let A6:=Zb (Zn c2 A2 Ze) A5;let A7:=Zb a4 A6;let A8:=Zb a3 A7;let A9:=Zb a2 A8;(Zb (Zn c1 A1 Ze) A9) E σ H):(Zb (Zn c1 a1 Ze) (Zb a2 (Zb a3 (Zb a4 (Zb (Zn c2 a5 Ze) (Zb (Zn c3 a6 Ze) a7)))))) D σ H:=h
theorem Zdm(h:let E:=D;let A1:=a2;let A2:=a3;let A3:=a4;let A4:=a5;let A5:=Zb (Zn c3 A3 Ze) A4;let A6:=Zb (Zn c2 A2 Ze) A5;let A7:=Zb (Zn c1 A1 Ze) A6;(Zb a1 A7) E σ H):(Zb a1 (Zb (Zn c1 a2 Ze) (Zb (Zn c2 a3 Ze) (Zb (Zn c3 a4 Ze) a5)))) D σ H:=h
theorem Zd4(h:let E:=D;let A1:=a2;let A2:=a3;let A3:=a4;let A4:=a5;let A5:=a6;let A6:=a7;let A7:=a8;let A8:=a9;let A9:=a10;let A10:=a11;let A11:=Zb (Zn c9 A9 Ze) A10;let A12:=Zb (Zn c8 A8 Ze) A11;let A13:=Zb (Zn c7 A7 Ze) A12;let A14:=Zb (Zn c6 A6 Ze) A13;let A15:=Zb (Zn c5 A5 Ze) A14;let A16:=Zb (Zn c4 A4 Ze) A15;let A17:=Zb (Zn c3 A3 Ze) A16;let A18:=Zb (Zn c2 A2 Ze) A17;let A19:=Zb (Zn c1 A1 Ze) A18;(Zb a1 A19) E σ H):(Zb a1 (Zb (Zn c1 a2 Ze) (Zb (Zn c2 a3 Ze) (Zb (Zn c3 a4 Ze) (Zb (Zn c4 a5 Ze) (Zb (Zn c5 a6 Ze) (Zb (Zn c6 a7 Ze) (Zb (Zn c7 a8 Ze) (Zb (Zn c8 a9 Ze) (Zb (Zn c9 a10 Ze) a11)))))))))) D σ H:=h
theorem Zdj(h:let E:=D;let A1:=a1;let A2:=a2;let A3:=a3;let A4:=a4;let A5:=Zb (Zn c3 A3 Ze) A4;let A6:=Zb (Zn c2 A2 Ze) A5;(Zb (Zn c1 A1 Ze) A6) E σ H):(Zb (Zn c1 a1 Ze) (Zb (Zn c2 a2 Ze) (Zb (Zn c3 a3 Ze) a4))) D σ H:=h
theorem Zcy(h:let E:=D;let A1:=a2;let A2:=a3;let A3:=a5;let A4:=a7;let A5:=Zb a6 A4;let A6:=Zb (Zn c4 A3 Ze) A5;let A7:=Zb a4 A6;let A8:=a8;let A9:=a9;let A10:=a10;let A11:=Zb (Zn c6 A9 Ze) A10;let A12:=Zb (Zn c5 A8 Ze) A11;let A13:=Zb (Zn c3 A7 Ze) A12;let A14:=Zb (Zn c2 A2 Ze) A13;let A15:=Zb (Zn c1 A1 Ze) A14;(Zb a1 A15) E σ H):(Zb a1 (Zb (Zn c1 a2 Ze) (Zb (Zn c2 a3 Ze) (Zb (Zn c3 (Zb a4 (Zb (Zn c4 a5 Ze) (Zb a6 a7))) Ze) (Zb (Zn c5 a8 Ze) (Zb (Zn c6 a9 Ze) a10)))))) D σ H:=h
theorem Zcx(h:let E:=D;let A1:=a1;let A2:=a2;let A3:=a3;let A4:=a4;let A5:=a5;let A6:=a6;let A7:=a7;let A8:=Zn c7 A7 Ze;let A9:=a8;let A10:=Zb (Vj i1 g1 A8) A9;let A11:=Zb (Zn c6 A6 Ze) A10;let A12:=Zb (Zn c5 A5 Ze) A11;let A13:=Zb (Zn c4 A4 Ze) A12;let A14:=Zb (Zn c3 A3 Ze) A13;let A15:=Zb (Zn c2 A2 Ze) A14;(Zb (Zn c1 A1 Ze) A15) E σ H):(Zb (Zn c1 a1 Ze) (Zb (Zn c2 a2 Ze) (Zb (Zn c3 a3 Ze) (Zb (Zn c4 a4 Ze) (Zb (Zn c5 a5 Ze) (Zb (Zn c6 a6 Ze) (Zb (Vj i1 g1 (Zn c7 a7 Ze)) a8))))))) D σ H:=h
theorem Zdb(h:let E:=D;let A1:=a4;let A2:=a5;let A3:=Zn c1 A1 A2;let A4:=Zb a3 A3;let A5:=Zb a2 A4;let A6:=a6;let A7:=Zb (Vj i1 g1 A5) A6;(Zb a1 A7) E σ H):(Zb a1 (Zb (Vj i1 g1 (Zb a2 (Zb a3 (Zn c1 a4 a5)))) a6)) D σ H:=h
theorem Zd3(h:let E:=D;let A1:=a2;let A2:=a3;let A3:=a4;let A4:=a5;let A5:=a6;let A6:=Zb (Zn c4 A4 Ze) A5;let A7:=Zb (Zn c3 A3 Ze) A6;let A8:=Zb (Zn c2 A2 Ze) A7;let A9:=Zb (Zn c1 A1 Ze) A8;(Zb a1 A9) E σ H):(Zb a1 (Zb (Zn c1 a2 Ze) (Zb (Zn c2 a3 Ze) (Zb (Zn c3 a4 Ze) (Zb (Zn c4 a5 Ze) a6))))) D σ H:=h
theorem Zdf(h:let E:=D;let A1:=a3;let A2:=a4;let A3:=Zb (Zn c1 A1 Ze) A2;let A4:=Zb a2 A3;let A5:=a5;let A6:=Zb (Vj i1 g1 A4) A5;(Zb a1 A6) E σ H):(Zb a1 (Zb (Vj i1 g1 (Zb a2 (Zb (Zn c1 a3 Ze) a4))) a5)) D σ H:=h
theorem Zdc(h:let E:=D;let A1:=a4;let A2:=a5;let A3:=Zb (Zn c1 A1 Ze) A2;let A4:=Zb a3 A3;let A5:=Zb a2 A4;(Zb a1 A5) E σ H):(Zb a1 (Zb a2 (Zb a3 (Zb (Zn c1 a4 Ze) a5)))) D σ H:=h
theorem Zcv(h:let E:=D;let A1:=a1;let A2:=a2;let A3:=a3;let A4:=a6;let A5:=Zb a5 A4;let A6:=Zb a4 A5;let A7:=Zb (Zn c4 A3 Ze) A6;let A8:=a9;let A9:=Zb a8 A8;let A10:=Zb a7 A9;let A11:=a11;let A12:=Zb a10 A11;let A13:=Zb (Zn c5 A10 Ze) A12;let A14:=Zb (Zn c3 A7 Ze) A13;let A15:=Zb (Zn c2 A2 Ze) A14;(Zb (Zn c1 A1 Ze) A15) E σ H):(Zb (Zn c1 a1 Ze) (Zb (Zn c2 a2 Ze) (Zb (Zn c3 (Zb (Zn c4 a3 Ze) (Zb a4 (Zb a5 a6))) Ze) (Zb (Zn c5 (Zb a7 (Zb a8 a9)) Ze) (Zb a10 a11))))) D σ H:=h
theorem Zdh(h:let E:=D;let A1:=a2;let A2:=a3;let A3:=a4;let A4:=Zb (Zn c2 A2 Ze) A3;let A5:=Zb (Zn c1 A1 Ze) A4;(Zb a1 A5) E σ H):(Zb a1 (Zb (Zn c1 a2 Ze) (Zb (Zn c2 a3 Ze) a4))) D σ H:=h
theorem Zd2(h:let E:=D;let A1:=a6;let A2:=Zb a5 A1;let A3:=Zb a4 A2;let A4:=Zb a3 A3;let A5:=a7;let A6:=Zb (Zn c1 A4 Ze) A5;let A7:=Zb a2 A6;(Zb a1 A7) E σ H):(Zb a1 (Zb a2 (Zb (Zn c1 (Zb a3 (Zb a4 (Zb a5 a6))) Ze) a7))) D σ H:=h
theorem Zda(h:let E:=D;let A1:=a3;let A2:=a4;let A3:=a5;let A4:=a6;let A5:=Zn c4 A4 Ze;let A6:=Zb (Zn c3 A3 Ze) A5;let A7:=Zb (Zn c2 A2 Ze) A6;let A8:=Zb (Zn c1 A1 Ze) A7;let A9:=Zb a2 A8;let A10:=a7;let A11:=Zb (Vj i1 g1 A9) A10;(Zb a1 A11) E σ H):(Zb a1 (Zb (Vj i1 g1 (Zb a2 (Zb (Zn c1 a3 Ze) (Zb (Zn c2 a4 Ze) (Zb (Zn c3 a5 Ze) (Zn c4 a6 Ze)))))) a7)) D σ H:=h
theorem Zd6(h:let E:=D;let A1:=a3;let A2:=a4;let A3:=Zb (Vj i2 g2 A1) A2;let A4:=Zb a2 A3;let A5:=a5;let A6:=Zb (Vj i1 g1 A4) A5;(Zb a1 A6) E σ H):(Zb a1 (Zb (Vj i1 g1 (Zb a2 (Zb (Vj i2 g2 a3) a4))) a5)) D σ H:=h
theorem Zdi(h:let E:=D;let A1:=a2;let A2:=a4;let A3:=Zb a3 A2;let A4:=a5;let A5:=a7;let A6:=a8;let A7:=Zb (Vj i1 g1 A5) A6;let A8:=Zb a6 A7;let A9:=a9;let A10:=Zb (Zn c4 A8 Ze) A9;let A11:=Zb (Zn c3 A4 Ze) A10;let A12:=Zb (Zn c2 A3 Ze) A11;let A13:=Zb (Zn c1 A1 Ze) A12;(Zb a1 A13) E σ H):(Zb a1 (Zb (Zn c1 a2 Ze) (Zb (Zn c2 (Zb a3 a4) Ze) (Zb (Zn c3 a5 Ze) (Zb (Zn c4 (Zb a6 (Zb (Vj i1 g1 a7) a8)) Ze) a9))))) D σ H:=h
theorem Zcu(h:let E:=D;let A1:=a6;let A2:=Zb a5 A1;let A3:=Zb a4 A2;let A4:=a7;let A5:=Zb (Vj i2 g2 A3) A4;let A6:=Zb a3 A5;let A7:=a8;let A8:=Zb (Vj i1 g1 A6) A7;let A9:=Zb a2 A8;(Zb a1 A9) E σ H):(Zb a1 (Zb a2 (Zb (Vj i1 g1 (Zb a3 (Zb (Vj i2 g2 (Zb a4 (Zb a5 a6))) a7))) a8))) D σ H:=h
theorem Zd1(h:let E:=D;let A1:=a5;let A2:=a6;let A3:=Zn c2 A2 Ze;let A4:=a7;let A5:=Zb (Vj i1 g1 A3) A4;let A6:=Zb (Zn c1 A1 Ze) A5;let A7:=Zb a4 A6;let A8:=Zb a3 A7;let A9:=Zb a2 A8;(Zb a1 A9) E σ H):(Zb a1 (Zb a2 (Zb a3 (Zb a4 (Zb (Zn c1 a5 Ze) (Zb (Vj i1 g1 (Zn c2 a6 Ze)) a7)))))) D σ H:=h
def U3(i:Nat):Stmt:=PySem.Challenge.pw_seek_k04_read_back.main.body.getD i (.Pass ⟨0,0,0,0⟩)
section
variable{P:Program}{w:World}{K:W.Frag}{mg:Str->Option Value}{base:Heap}{f:Addr}{fd:FuncData}
inductive spTakeI(vs:List V)(H:Hp)(Q:VK):Prop
 |mk (b:Addr) (m:Int) (_:vs=[.ref b,.int m]) (_:BoxAt H b) (_:0<m) (_:m<1073741824) (_:∀(r:Int) (H':Hp),0<=r->r<m->BoxAt H' b->Gro [b] H H'->Q (.int r) H')
def Xq:Sp:=fun vs H Q _=>spTakeI vs H Q
abbrev Tq:Stmt:=U3 45
theorem sc_l_take:FnScope ["_law_box","_law_many","_law_number"] ["_law_box","_law_many"] (Zc Tq):=U5
theorem Zb7(F:Fun K "_law_take" "_law_take" Tq f fd):FnOk P w K mg base V1 1 f fd ["_law_box","_law_many"] Xq:=by
 refine F.ok sc_l_take (fun vs H Q E h=>?_) (fun cdv A outer s H vs Q E hr h=>?_)
 ·obtain⟨b,m,rfl,_⟩:=h
  rfl
 obtain⟨b,m,rfl,⟨ns,hb,hl⟩,h0,h1,q⟩:=h
 refine U4 ?_
 intro Xz
 refine⟨_,(Z3 (Zq (Zf (Z8v hr.units0) (pv 0) (Yl Z2) (Zj _)) (Z6 (Zd Z5)) Zh)
  (Z3 (pS 2 sc_l_take.nd (Zo Y0 (pv 0) Z5 (fun _ _=>rfl)))
  (Z3 (Z67 (Zs Z33 (pv 2) (pv 1)) (Z68 (pv 0) Z5 Z0w))
  (Z3 (Zq (PW.pt (Vn (Zf Y1 (Zo Y0 (pv 0) Z5 (fun _ _=>rfl)) Z5 (Zj _)) (Ww (Zf Y1 (Zo Y0 (pv 0) Z5 (fun _ _=>rfl)) (Zca Z9n Z5) (Zj _))))) (Z6 (X8 (V2 PySem.F.plainAttrs_list PySem.F.slot_list_pop PySem.F.type_list_pop Z95 (pv 0) (Z0 Z5 Z2)))) Zh)
  (Z6 (Zd (Zs Z6a (pv 2) (pv 1)))))))),?_⟩
 refine Zd7 ?_
 intro Ez Az1 Az2 Az3 Az4 Az5 Az6
 refine(Zg rfl ⟨sz,fun p hp=>?_⟩)
 have np:b≠p:=Z9 hb hp
 have g1:Gro [b] H (Y2 H p (.lst [])):=Gro.new hp _
 have hb1:(Y2 H p (.lst [])) b=some (.lst (ns.map V.int)):=by rw[Zl np];exact hb
 refine⟨b,p,ns.map V.int,rfl,rfl,SqL.of hb1,SqL.of Z1,Zg rfl (?_)⟩
 cases ns with
 |nil=>exact Jw (q 0 _ (Int.le_refl 0) h0 ⟨[],hb1,hl⟩ g1)
 |cons n r =>
  refine Ui ?_
  refine(Z9k hb1 Z11 (?_))
  refine(Zg rfl (Zg rfl (Ud rfl rfl ⟨⟨h0,h1⟩,?_⟩)))
  refine(Zg rfl ⟨b,_,_,0,rfl,rfl,hb1,Zhy,?_⟩)
  have hm0:0<=n % m:=Int.emod_nonneg _ (by omega)
  have hm1:n % m<m:=Int.emod_lt_of_pos _ h0
  generalize hH2:Y2 (Y2 H p (.lst [])) b (.lst ((List.map V.int (n::r)).set 0 (V.int (n / m))))=H2
  have hb2:H2 b=some (.lst (V.int (n / m)::r.map V.int)):=by rw[← hH2,Z1];rfl
  have g2:Gro [b] H H2:=g1.trans (by rw[← hH2];exact Gro.set (by simp) hb1 _)
  have box2:BoxAt H2 b:=⟨n / m::r,hb2,by simpa using hl⟩
  have hpop:∀Q':V->Hp->Prop,Q' (.int (n / m)) (Y2 H2 b (.lst (r.map V.int)))->Z9q (.ref b) [.int 0] H2 Q':=fun Q' hq =>
   ⟨b,_,0,0,Zg rfl ⟨rfl,hb2,by decide,by decide,seqIndex_of (by omega) (by rw[List.length_cons];omega),rfl,hq⟩⟩
  have box3:BoxAt (Y2 H2 b (.lst (r.map V.int))) b:=⟨r,Z1,by simp at hl;omega⟩
  have g3:Gro [b] H (Y2 H2 b (.lst (r.map V.int))):=g2.trans (Gro.set (by simp) hb2 _)
  have ty2:Zhg K "list" (.ref b) H2:=.inl ⟨rfl,_,SqL.of hb2⟩
  refine(Z9k hb2 Z11 ⟨rfl,_,rfl,?_⟩)
  refine X5 (fun c=>?_) (fun c=>?_)
  ·refine Jw (Zg rfl ⟨ty2,?_⟩)
   refine hpop _ ?_
   refine(Zg rfl (Zg rfl (Ud rfl rfl ⟨h0,?_⟩)))
   exact q _ _ hm0 hm1 box3 g3
  ·refine(Z9k hb2 Z11 ⟨_,rfl,rfl,_,rfl,?_⟩)
   refine X5 (fun c=>?_) (fun c=>?_)
   ·refine(Zg rfl ⟨ty2,?_⟩)
    refine hpop _ ?_
    refine(Zg rfl (Zg rfl (Ud rfl rfl ⟨h0,?_⟩)))
    exact q _ _ hm0 hm1 box3 g3
   ·refine(Zg rfl (Zg rfl (Ud rfl rfl ⟨h0,?_⟩)))
    exact q _ _ hm0 hm1 box2 g2
abbrev Ts:Stmt:=U3 46
theorem sc_l_sign:FnScope ["_law_cell","_law_some_here"] ["_law_cell"] (Zc Ts):=U5
abbrev Wj:List V:=[.str "times",.str "group",.str "once",.str "ahead",.str "notahead",.str "behind",.str "notbehind"]
def Va:Sp:=fun vs H Q _=>∃(d:Nat) (v:V) (h:Hd) (ks:List Pat),vs=[v]/\PatAt H (d+1) v (.node h ks)/\∀(r:Addr) (kv:List V) (H':Hp),H' r=some (.tup kv)->kv.length<=10->Paired (PatAt H' d) kv ks->Gro [] H H'->Q (.ref r) H'
abbrev U6:Stmt:=U3 2
theorem sc_parts_of:FnScope ["pattern","kind"] ["pattern"] (Zc U6):=U5
theorem Z3p{pl:Addr}(Z3y:mg "PART_LAST" = some (.ref pl))(hPL:∀H,SqT K H pl Wj)(F:Fun K "parts_of" "parts_of" U6 f fd):FnOk P w K mg base V1 1 f fd ["pattern"] Va:=by
 refine F.ok sc_parts_of (fun vs H Q E h=>?_) (fun cdv A outer s H vs Q E hr h=>?_)
 ·obtain⟨d,v,h,ks,rfl,_⟩:=h
  rfl
 obtain⟨d,v,h,ks,rfl,hp,q⟩:=h
 refine U4 ?_
 intro Xz
 refine⟨_,(Z3 (pS 1 sc_parts_of.nd (Zo Zt (pv 0) Z5 (fun _ _=>rfl)))
  (Z3 (Zq (PW.pt (Vn (Zf Y1 (pv 1) Z8 (Zj _)) (Ww (Zf Y1 (pv 1) Z8 (Zj _))))) (Z6 (Zd (Zo Zt (pv 0) Z5 (fun _ _=>rfl)))) Zh)
  (Z3 (Zq (Zf Y1 (pv 1) Z8 (Zj _)) (Z6 (Zd (U2 Z9p (pv 0) (Ua Z5) J4))) Zh)
  (Z3 (Zq (Zf U1 (pv 1) (Y5 (v:=.ref _) rfl Z3y rfl) (by with_unfolding_all rfl)) (Z6 (Zd (U2 Z9p (pv 0) (Ua (Zca Z9n Z5)) J4))) Zh)
  (Z6 (Zd (Zr Z2))))))),?_⟩
 refine Zdm ?_
 intro Ez Az1 Az2 Az3 Az4 Az5 Az6 Az7
 obtain⟨a,kv,rfl,lay,hk⟩:=hp
 have q0:∀(r:Addr) (H':Hp),H' r=some (.tup kv)->kv.length<=10->Gro [] H H'->Q (.ref r) H':=fun r H' e z g=>q r kv H' e z (Yg g.tups hk) g
 have leaf:∀ {x:Str} {r:List V},kv=[]->H a=some (.tup (.str x::r))->decide (V.str x=V.str "row")=false->decide (V.str x=V.str "or")=false->decide (V.str x=V.str "have")=false->Z1u (.str x) Wj=false ->
   (Zb (Z1t (Te (Z05 K) (Yz 0) (tC (.int 0))) (Wg 1)) (Zb (Zn (Zgk (Ja (Te Zf7 (Yz 1) (tC (.str "row")))) (Ja (Te Zf7 (Yz 1) (tC (.str "or"))))) (Z1s (Te (Z05 K) (Yz 0) (tC (.int 1)))) Ze)
    (Zb (Zn (Ja (Te Zf7 (Yz 1) (tC (.str "have")))) (Z1s (Zgd (Zah K) (Yz 0) (Z4x (tC (.int 2))) J1)) Ze) (Zb (Zn (Ja (Te (Zgm K false) (Yz 1) (tC (.ref pl)))) (Z1s (Zgd (Zah K) (Yz 0) (Z4x (Zhh (rU fun i=>.int (-i)) (tC (.int 1)))) J1)) Ze) (Z1s (Z8b V0))))))
    { nx:=fun _ H'=>Q .non H',rt:=Q } [some (.ref a),none] H:=by
  intro x r e0 ea e1 e2 e3 e4
  refine⟨_,rfl,a,_,_,_,rfl,rfl,SqT.of ea,Z11,?_⟩
  refine⟨_,rfl,rfl,_,rfl,Z7 (by rw[e1];decide) ⟨_,rfl,rfl,_,rfl,Z7 (by rw[e2];decide) ?_⟩⟩
  refine⟨_,rfl,rfl,_,rfl,Z7 (by rw[e3];decide) ?_⟩
  refine⟨_,rfl,pl,Wj,rfl,.inr (hPL _),rfl,rfl,_,rfl,Z7 (by rw[e4];decide) ?_⟩
  exact⟨sz,fun p1 hp1=>q0 p1 _ (by rw[e0];exact Z1) (by simp[e0]) (Gro.new hp1 _)⟩
 have last:∀ {x:Str} {r:List V} {k:V},kv=[k]->H a=some (.tup (.str x::r))->Vp (.str x::r) (some (-1)) none=[k]->¬(HT.sIx (V.str x::r).length 0 (some (-1))=0/\HT.sIx (V.str x::r).length (V.str x::r).length none=(V.str x::r).length)->decide (V.str x=V.str "row")=false->decide (V.str x=V.str "or")=false->decide (V.str x=V.str "have")=false->Z1u (.str x) Wj=true ->
   (Zb (Z1t (Te (Z05 K) (Yz 0) (tC (.int 0))) (Wg 1)) (Zb (Zn (Zgk (Ja (Te Zf7 (Yz 1) (tC (.str "row")))) (Ja (Te Zf7 (Yz 1) (tC (.str "or"))))) (Z1s (Te (Z05 K) (Yz 0) (tC (.int 1)))) Ze)
    (Zb (Zn (Ja (Te Zf7 (Yz 1) (tC (.str "have")))) (Z1s (Zgd (Zah K) (Yz 0) (Z4x (tC (.int 2))) J1)) Ze) (Zb (Zn (Ja (Te (Zgm K false) (Yz 1) (tC (.ref pl)))) (Z1s (Zgd (Zah K) (Yz 0) (Z4x (Zhh (rU fun i=>.int (-i)) (tC (.int 1)))) J1)) Ze) (Z1s (Z8b V0))))))
    { nx:=fun _ H'=>Q .non H',rt:=Q } [some (.ref a),none] H:=by
  intro x r k e0 ea ec hw e1 e2 e3 e4
  refine⟨_,rfl,a,_,_,_,rfl,rfl,SqT.of ea,Z11,?_⟩
  refine⟨_,rfl,rfl,_,rfl,Z7 (by rw[e1];decide) ⟨_,rfl,rfl,_,rfl,Z7 (by rw[e2];decide) ?_⟩⟩
  refine⟨_,rfl,rfl,_,rfl,Z7 (by rw[e3];decide) ?_⟩
  refine⟨_,rfl,pl,Wj,rfl,.inr (hPL _),rfl,rfl,_,rfl,Zm (by show Z1u _ _=true;exact e4) ?_⟩
  exact⟨_,rfl,_,rfl,_,rfl,a,_,rfl,SqT.of ea,hw,fun p1 hp1=>q0 p1 _ (by rw[e0,← ec];exact Z1) (by simp[e0]) (Gro.new hp1 _)⟩
 cases h with
 |sign s=>exact leaf lay.1 lay.2.2 (by decide +kernel) (by decide +kernel) (by decide +kernel) (by decide +kernel)
 |any=>exact leaf lay.1 lay.2 (by decide +kernel) (by decide +kernel) (by decide +kernel) (by decide +kernel)
 |inn rs =>
  obtain⟨e0,r,e,_⟩:=lay
  exact leaf e0 e (by decide +kernel) (by decide +kernel) (by decide +kernel) (by decide +kernel)
 |out rs =>
  obtain⟨e0,r,e,_⟩:=lay
  exact leaf e0 e (by decide +kernel) (by decide +kernel) (by decide +kernel) (by decide +kernel)
 |beg=>exact leaf lay.1 lay.2 (by decide +kernel) (by decide +kernel) (by decide +kernel) (by decide +kernel)
 |fin=>exact leaf lay.1 lay.2 (by decide +kernel) (by decide +kernel) (by decide +kernel) (by decide +kernel)
 |again n=>exact leaf lay.2.1 lay.2.2 (by decide +kernel) (by decide +kernel) (by decide +kernel) (by decide +kernel)
 |row =>
  obtain⟨z,r,e,er⟩:=lay
  refine⟨_,rfl,a,_,_,_,rfl,rfl,SqT.of e,Z11,?_⟩
  refine⟨_,rfl,rfl,_,rfl,Zm (by decide +kernel) (Jw ?_)⟩
  exact⟨_,rfl,a,_,_,_,rfl,rfl,SqT.of e,rfl,q0 r H er z Gro.refl⟩
 |alt =>
  obtain⟨_,z,r,e,er⟩:=lay
  refine⟨_,rfl,a,_,_,_,rfl,rfl,SqT.of e,Z11,?_⟩
  refine⟨_,rfl,rfl,_,rfl,Z7 (by decide +kernel) ⟨_,rfl,rfl,_,rfl,Zm (by decide +kernel) ?_⟩⟩
  exact⟨_,rfl,a,_,_,_,rfl,rfl,SqT.of e,rfl,q0 r H er z Gro.refl⟩
 |times lo hi how =>
  obtain⟨_,k,e0,e⟩:=lay
  exact last e0 e rfl (fun z=>absurd (show HT.sIx 5 0 (some (-1))=0 from z.1) (by decide +kernel)) (by decide +kernel) (by decide +kernel) (by decide +kernel) (by decide +kernel)
 |grp n =>
  obtain⟨_,k,e0,e⟩:=lay
  exact last e0 e rfl (fun z=>absurd (show HT.sIx 3 0 (some (-1))=0 from z.1) (by decide +kernel)) (by decide +kernel) (by decide +kernel) (by decide +kernel) (by decide +kernel)
 |hav n =>
  obtain⟨_,y,z,e0,e⟩:=lay
  refine⟨_,rfl,a,_,_,_,rfl,rfl,SqT.of e,Z11,?_⟩
  refine⟨_,rfl,rfl,_,rfl,Z7 (by decide +kernel) ⟨_,rfl,rfl,_,rfl,Z7 (by decide +kernel) ?_⟩⟩
  refine⟨_,rfl,rfl,_,rfl,Zm (by decide +kernel) ?_⟩
  exact⟨_,rfl,_,rfl,a,_,rfl,SqT.of e,fun z=>absurd (show HT.sIx 4 0 (some 2)=0 from z.1) (by decide +kernel),fun p1 hp1=>q0 p1 _ (by rw[e0];exact Z1) (by simp[e0]) (Gro.new hp1 _)⟩
 |look lk =>
  obtain⟨k,e0,e⟩:=lay
  cases lk <;> exact last e0 e rfl (fun z=>absurd (show HT.sIx 2 0 (some (-1))=0 from z.1) (by decide +kernel)) (by decide +kernel) (by decide +kernel) (by decide +kernel) (by decide +kernel)
def Zgf(n:Nat):Sp:=fun vs H Q _=>∃(v:V) (p:Pat),vs=[v]/\PatAt H n v p/\∀H',Gro [] H H'->Q (.int p.groups) H'
def Hd.own:Hd->Int
 |.grp _=>1
 |_=>0
theorem Jp(h:Hd)(ks:List Pat):(Pat.node h ks).groups=h.own+Y6 ks:=by cases h <;> simp[Pat.groups,Hd.own]
theorem Z4e(h:Hd):h.own=if decide (V.str h.word=V.str "group")=true then 1 else 0:=by
 cases h with
 |look lk=>cases lk <;> decide +kernel
 |sign s=>exact(if_neg (show ¬decide (V.str "sign" = V.str "group")=true by decide +kernel)).symm
 |inn s=>exact(if_neg (show ¬decide (V.str "in" = V.str "group")=true by decide +kernel)).symm
 |out s=>exact(if_neg (show ¬decide (V.str "out" = V.str "group")=true by decide +kernel)).symm
 |times a b c=>exact(if_neg (show ¬decide (V.str "times" = V.str "group")=true by decide +kernel)).symm
 |grp n=>exact(if_pos (show decide (V.str "group" = V.str "group")=true by decide +kernel)).symm
 |again n=>exact(if_neg (show ¬decide (V.str "again" = V.str "group")=true by decide +kernel)).symm
 |hav n=>exact(if_neg (show ¬decide (V.str "have" = V.str "group")=true by decide +kernel)).symm
 |_=>decide +kernel
def Zg8(H:Hp)(n:Nat):TS:=fun D σ H1=>∃(v:V) (h:Hd) (ks:List Pat),H1=H/\σ=[some v,some (.int h.own)]/\PatAt H (n+1) v (.node h ks)/\∀H',Gro [] H H'->D.rt (.int (Pat.node h ks).groups) H'
abbrev Wv:Stmt:=U3 3
theorem sc_groups_in:FnScope ["pattern","own"] ["pattern"] (Zc Wv):=U5
theorem Z2k{n:Nat}(T:Blt mg)(O_parts_of:Own P w K mg base 1 "parts_of" ["pattern"] Va)(O_groups_in:Own P w K mg base (2+n) "groups_in" ["pattern"] (Zgf n))(F:Fun K "groups_in" "groups_in" Wv f fd) :
  FnOk P w K mg base V1 (2+n+1) f fd ["pattern"] (Zgf (n+1)):=by
 refine F.ok sc_groups_in (fun vs H Q E h=>?_) (fun cdv A outer s H vs Q E hr h=>?_)
 ·obtain⟨v,p,rfl,_⟩:=h
  rfl
 obtain⟨v,⟨h,ks⟩,rfl,hp,q⟩:=h
 refine U4 ?_
 intro Xz
 refine⟨_,(Z3 (pS 1 sc_groups_in.nd (W0 (Zf Y1 (Zo Zt (pv 0) Z5 (fun _ _=>rfl)) Z8 (Zj _)) Z5 Z5))
  (J3 (Zg8 H n) (Z6 (Zd (Zs Xs (pv 1) (Zx (Z4p rfl) rfl T.b_sum PyProof.Rows.Boot.«sum» (Z0 (Xa rfl (show CScope _ ["pattern","own"] (Zc Wv) _ from⟨rfl,by decide +kernel,rfl,by decide +kernel,by decide +kernel,by decide +kernel,by decide +kernel⟩) (Vh (Zi (O_parts_of.mono (by omega)) hr rfl (Z0 (pv 0) Z2))) (fun _ _ _ _=>X7) (fun _ _ _ _=>(Zi (O_groups_in.mono (by omega)) hr rfl (Z0 (pv 0) Z2)))) Z2))))) (fun D1 σ1 H1 hcut=>?cut1))),?_⟩
 case cut1 =>
  obtain⟨v,h,ks,rfl,rfl,hp,q⟩:=hcut
  refine⟨_,rfl,_,rfl,n,v,h,ks,rfl,hp,fun r kv H2 hr hlen hk g1=>⟨r,rfl,⟨kv,SqT.of hr⟩,?_⟩⟩
  have hkl:=Paired.length hk
  refine Uh (xs:=kv) (fun i ys H'=>∃ns:List Int,ys=ns.map V.int/\ns.length=i/\ns.sum=Y6 (ks.take i)/\Gro [] H2 H') ⟨[],rfl,rfl,by simp[Y6],Gro.refl⟩ (Zz (by omega)) (fun i ys H' ⟨ns,e1,e2,_⟩=>by rw[e1,List.length_map,e2];exact Nat.le_refl _) (fun i ys H' ⟨_,_,_,_,g⟩=>SqT.of (g.tups _ _ hr)) ?_ ?_
  ·rintro i ys H3 x hx ⟨ns,rfl,e2,e3,g3⟩
   obtain⟨p,hpi,hpx⟩:=Yh hk hx
   refine⟨_,rfl,x,p,rfl,hpx.mono g3.tups,fun H4 g4=>⟨ns++[p.groups],by simp,by simp[e2],?_,g3.trans g4⟩⟩
   rw[Wi hpi,Z0j,List.sum_append,e3]
   simp[Y6]
  ·rintro ys H3 ⟨ns,rfl,e2,e3,g3⟩ l hl
   refine⟨l,ns,rfl,SqL.of Z1,_,_,rfl,rfl,?_⟩
   rw[hkl,List.take_length]at e3
   have:=q _ ((g1.trans g3).tup (o:=.lst (ns.map V.int)) hl)
   rw[Jp]at this
   show D1.rt (V.int (h.own+ns.sum)) _
   rw[e3]
   exact this
 refine Z3b ?_
 intro Ez Az1
 obtain⟨a,kv,rfl,lay,hk⟩:=id hp
 obtain⟨r,ea⟩:=lay.head
 have c:∀o:Int,o=h.own->Zg8 H n { nx:=fun _ H'=>Q .non H',rt:=Q } [some (.ref a),some (.int o)] H:=fun o e=>⟨.ref a,h,ks,rfl,by rw[e],hp,q⟩
 refine⟨_,rfl,a,_,_,_,rfl,rfl,SqT.of ea,Z11,rfl,_,rfl,X5 (fun z=>?_) (fun z=>?_)⟩
 ·exact c 1 (by rw[Z4e,if_pos z])
 ·exact c 0 (by rw[Z4e,if_neg z])
end
def Z2a(t:Str)(i c d:Int):List (Str×V):=[("text",.str t),("place",.int i),("groups",.int c),("nested",.int d)]
theorem Zat{t:Str}{i c d:Int}:(Z2a t i c d).lookup ("text":Str)=some (.str t):=Z3h
theorem Tw{t:Str}{i c d:Int}:(Z2a t i c d).lookup ("place":Str)=some (.int i):=by unfold Z2a;rw[Vs (by decide +kernel),Z3h]
theorem Z1z{t:Str}{i c d:Int}:(Z2a t i c d).lookup ("groups":Str)=some (.int c):=by unfold Z2a;rw[Vs (by decide +kernel),Vs (by decide +kernel),Z3h]
theorem Jf{t:Str}{i c d:Int}:(Z2a t i c d).lookup ("nested":Str)=some (.int d):=by unfold Z2a;rw[Vs (by decide +kernel),Vs (by decide +kernel),Vs (by decide +kernel),Z3h]
theorem Z4b{t:Str}{i j c d:Int}:Vk "place" (.int j) (Z2a t i c d)=Z2a t j c d:=by unfold Z2a;rw[Jt (by decide +kernel),Z69]
theorem Z7j{t:Str}{i j c d:Int}:Vk "groups" (.int j) (Z2a t i c d)=Z2a t i j d:=by unfold Z2a;rw[Jt (by decide +kernel),Jt (by decide +kernel),Z69]
theorem Z1y{t:Str}{i j c d:Int}:Vk "nested" (.int j) (Z2a t i c d)=Z2a t i c j:=by unfold Z2a;rw[Jt (by decide +kernel),Jt (by decide +kernel),Jt (by decide +kernel),Z69]
theorem Zp{m t:Str}{i c d:Int}(h:(m=="text")=false/\(m=="place")=false/\(m=="groups")=false/\(m=="nested")=false):(Z2a t i c d).lookup m=none:=by
 unfold Z2a
 rw[Vs h.1,Vs h.2.1,Vs h.2.2.1,Vs h.2.2.2]
 rfl
structure TxtR(K:W.Frag)(CR:Addr):Prop where
 cl:Cls K CR
 a1:NoAttr K CR "text"
 a2:NoAttr K CR "place"
 a3:NoAttr K CR "groups"
 a4:NoAttr K CR "nested"
def Vl(CR:Addr)(H:Hp)(m dx:Addr)(t:Str)(i:Nat)(c d:Int):Prop:=H m=some (.ins CR dx (Z2a t i c d))/\t.length<=100000/\i<=200000
theorem Gro.objR{H:Hp}{m C dx:Addr}{fs fs':List (Str×V)}(h:H m=some (.ins C dx fs)):Gro [m] H (Y2 H m (.ins C dx fs')):=Gro.ins (by simp) h _
theorem Zi0{n:Nat}(h:n<=1000000):n<=sizeLine:=Nat.le_of_lt (big h)
section
variable{P:Program}{w:World}{K:W.Frag}{mg:Str->Option Value}{base:Heap}{f CR:Addr}{fd:FuncData}
inductive spSeenI(CR:Addr)(vs:List V)(H:Hp)(Q:VK):Prop
 |mk (m dx:Addr) (t:Str) (i:Nat) (c d:Int) (_:vs=[.ref m]) (_:Vl CR H m dx t i c d) (_:Q (.str (U8 t i)) H)
def Ti(CR:Addr):Sp:=fun vs H Q _=>spSeenI CR vs H Q
abbrev Wn:Stmt:=Yx (U3 43) 1
theorem Z0f:FnScope ["self"] ["self"] (Zc Wn):=U5
theorem Z6q(MTR:TxtR K CR)(F:Fun K "seen" "Reader.seen" Wn f fd):FnOk P w K mg base V1 1 f fd ["self"] (Ti CR):=by
 refine F.ok Z0f (fun vs H Q E h=>?_) (fun cdv A outer s H vs Q E hr h=>?_)
 ·obtain⟨m,dx,t,i,c,d,rfl,_⟩:=h
  rfl
 obtain⟨m,dx,t,i,c,d,rfl,⟨hm,ht,hi⟩,q⟩:=h
 refine U4 ?_
 intro Xz
 refine⟨_,(Z6 (Zd (U2 Zcr (Z18 (pv 0) rfl) (Ua (Z18 (pv 0) rfl)) (Ua (Zs Xs (Z18 (pv 0) rfl) Z5))))),?_⟩
 refine Zg rfl ⟨m,CR,dx,_,_,rfl,hm,MTR.cl,MTR.a1,Zat,Zg rfl ⟨m,CR,dx,_,_,rfl,hm,MTR.cl,MTR.a2,Tw,Zg rfl (Zg rfl ⟨m,CR,dx,_,_,rfl,hm,MTR.cl,MTR.a2,Tw,Ud rfl rfl (Zg rfl (Zg rfl ⟨Zi0 (by omega),?_⟩))⟩)⟩⟩
 rw[Z7h (by omega) (by omega)]
 exact q
inductive spTakeRI(CR:Addr)(vs:List V)(H:Hp)(Q:VK):Prop
 |mk (m dx:Addr) (t:Str) (i:Nat) (c d:Int) (_:vs=[.ref m]) (_:Vl CR H m dx t i c d) (_:i<200000) (_:∀H',Vl CR H' m dx t (i+1) c d->Gro [m] H H'->Q (.str (U8 t i)) H')
def T1(CR:Addr):Sp:=fun vs H Q _=>spTakeRI CR vs H Q
abbrev Wl:Stmt:=Yx (U3 43) 2
theorem sc_Reader_take:FnScope ["self","sign"] ["self"] (Zc Wl):=U5
theorem Z4g(MTR:TxtR K CR)(O_Reader_seen:OwnM P w K mg base 1 CR "seen" ["self"] (Ti CR))(F:Fun K "take" "Reader.take" Wl f fd):FnOk P w K mg base V1 2 f fd ["self"] (T1 CR):=by
 refine F.ok sc_Reader_take (fun vs H Q E h=>?_) (fun cdv A outer s H vs Q E hr h=>?_)
 ·obtain⟨m,dx,t,i,c,d,rfl,_⟩:=h
  rfl
 obtain⟨m,dx,t,i,c,d,rfl,⟨hm,ht,hi⟩,hi2,q⟩:=h
 refine U4 ?_
 intro Xz
 refine⟨_,(Z3 (pS 1 sc_Reader_take.nd (Ye (O_Reader_seen.mono (by omega)) MTR.cl hr (pv 0)))
  (Z3 (U0 (pv 0) Z5 Z3i)
  (Z6 (Zd (pv 1))))),?_⟩
 refine Z3a ?_
 intro Ez Az1 Az2
 refine Zg rfl ⟨m,dx,Zg rfl ⟨hm,Zp (by decide +kernel),m,dx,t,i,c,d,rfl,⟨hm,ht,hi⟩,?_⟩⟩
 refine Zg rfl ⟨m,CR,dx,_,_,rfl,hm,MTR.cl,MTR.a2,Tw,Ud rfl rfl ⟨dx,_,hm,by show 4<1000;decide,?_⟩⟩
 rw[Z4b]
 exact Zg rfl (q _ ⟨Z1,ht,by omega⟩ (Gro.objR hm))
inductive spPassI(CR:Addr)(vs:List V)(H:Hp)(Q:VK):Prop
 |mk (m dx:Addr) (t x:Str) (i:Nat) (c d:Int) (_:vs=[.ref m,.str x]) (_:Vl CR H m dx t i c d) (_:i<200000) (_:U8 t i=x->∀H',Vl CR H' m dx t (i+1) c d->Gro [m] H H'->Q (.bl true) H') (_:U8 t i≠x->Q (.bl false) H)
def Vq(CR:Addr):Sp:=fun vs H Q _=>spPassI CR vs H Q
abbrev Xx:Stmt:=Yx (U3 43) 3
theorem J9:FnScope ["self","sign"] ["self","sign"] (Zc Xx):=U5
theorem Zba(MTR:TxtR K CR)(O_Reader_seen:OwnM P w K mg base 1 CR "seen" ["self"] (Ti CR))(F:Fun K "passes" "Reader.passes" Xx f fd):FnOk P w K mg base V1 2 f fd ["self","sign"] (Vq CR):=by
 refine F.ok J9 (fun vs H Q E h=>?_) (fun cdv A outer s H vs Q E hr h=>?_)
 ·obtain⟨m,dx,t,x,i,c,d,rfl,_⟩:=h
  rfl
 obtain⟨m,dx,t,x,i,c,d,rfl,⟨hm,ht,hi⟩,hi2,q1,q2⟩:=h
 refine U4 ?_
 intro Xz
 refine⟨_,(Z3 (Zq (Zf Z02 (Ye (O_Reader_seen.mono (by omega)) MTR.cl hr (pv 0)) (pv 1) (Zj _)) (Z6 (Zd Vt)) Zh)
  (Z3 (U0 (pv 0) Z5 Z3i)
  (Z6 (Zd Vt)))),?_⟩
 refine Zdd ?_
 intro Ez Az1 Az2 Az3
 refine Zg rfl ⟨m,dx,Zg rfl ⟨hm,Zp (by decide +kernel),m,dx,t,i,c,d,rfl,⟨hm,ht,hi⟩,Zg rfl ⟨rfl,Zg rfl ?_⟩⟩⟩
 by_cases e:U8 t i=x
 ·refine Z7 (by rw[e];simp) ?_
  refine Zg rfl ⟨m,CR,dx,_,_,rfl,hm,MTR.cl,MTR.a2,Tw,Ud rfl rfl ⟨dx,_,hm,by show 4<1000;decide,?_⟩⟩
  rw[Z4b]
  exact q1 e _ ⟨Z1,ht,by omega⟩ (Gro.objR hm)
 ·refine Zm (by simp[e]) ?_
  exact q2 e
inductive spNeedI(CR:Addr)(vs:List V)(H:Hp)(Q:VK):Prop
 |mk (m dx:Addr) (t x:Str) (i:Nat) (c d:Int) (_:vs=[.ref m,.str x]) (_:Vl CR H m dx t i c d) (_:i<200000) (_:U8 t i=x) (_:∀H',Vl CR H' m dx t (i+1) c d->Gro [m] H H'->Q .non H')
def Jr(CR:Addr):Sp:=fun vs H Q _=>spNeedI CR vs H Q
abbrev Wp:Stmt:=Yx (U3 43) 4
theorem Z0g:FnScope ["self","sign"] ["self","sign"] (Zc Wp):=U5
theorem Z6r(MTR:TxtR K CR)(O_Reader_take:OwnM P w K mg base 2 CR "take" ["self"] (T1 CR))(F:Fun K "need" "Reader.need" Wp f fd):FnOk P w K mg base V1 3 f fd ["self","sign"] (Jr CR):=by
 refine F.ok Z0g (fun vs H Q E h=>?_) (fun cdv A outer s H vs Q E hr h=>?_)
 ·obtain⟨m,dx,t,x,i,c,d,rfl,_⟩:=h
  rfl
 obtain⟨m,dx,t,x,i,c,d,rfl,⟨hm,ht,hi⟩,hi2,e,q⟩:=h
 refine U4 ?_
 intro Xz
 refine⟨_,(Z6 (Zq (Zf Z02 (Ye (O_Reader_take.mono (by omega)) MTR.cl hr (pv 0)) (pv 1) (Zj _)) (Z6 Vf) Zh)),?_⟩
 refine Zdg ?_
 intro Ez Az1
 refine Zg rfl ⟨m,dx,Zg rfl ⟨hm,Zp (by decide +kernel),m,dx,t,i,c,d,rfl,⟨hm,ht,hi⟩,hi2,fun H' h' g=>Zg rfl ⟨rfl,Zg rfl (Z7 (by rw[e];simp) ?_)⟩⟩⟩
 exact q H' h' g
end
theorem Ju{k:Int}(h0:0<=k)(h9:k<=9):Zgn (Uc k)=some k.toNat/\(Uc k).length=1:=by
 rcases(show k=0∨k=1∨k=2∨k=3∨k=4∨k=5∨k=6∨k=7∨k=8∨k=9 by omega) with rfl | rfl | rfl | rfl | rfl | rfl | rfl | rfl | rfl | rfl <;> decide +kernel
theorem Zfu{st:Str}(h:st=stroked∨st=Zy):within "\\" st=true:=by
 rcases h with rfl | rfl <;> decide +kernel
theorem Zez{s:Str}(h:s.length=1):s≠"":=fun e=>by
 rw[e]at h
 cases h
section
variable{P:Program}{w:World}{K:W.Frag}{mg:Str->Option Value}{base:Heap}{f CR:Addr}{fd:FuncData}
inductive spSgnI(CR:Addr)(vs:List V)(H:Hp)(Q:VK):Prop
 |mk (m dx:Addr) (t s st:Str) (i:Nat) (c d:Int) (_:vs=[.ref m,.str st]) (_:Vl CR H m dx t i c d) (_:i+2<200000) (_:s.length=1) (_:st=stroked∨st=Zy) (_:AtT t i (sg s st)) (_:∀H',Vl CR H' m dx t (i+(sg s st).length) c d->Gro [m] H H'->Q (.str s) H')
def Z75(CR:Addr):Sp:=fun vs H Q _=>spSgnI CR vs H Q
abbrev Wm:Stmt:=Yx (U3 43) 14
theorem sc_Reader_sign:FnScope ["self","stroked","stroke","sign"] ["self","stroked"] (Zc Wm):=U5
theorem Zdy(MTR:TxtR K CR)(O_Reader_passes:OwnM P w K mg base 2 CR "passes" ["self","sign"] (Vq CR))(O_Reader_take:OwnM P w K mg base 2 CR "take" ["self"] (T1 CR))(F:Fun K "sign" "Reader.sign" Wm f fd):FnOk P w K mg base V1 3 f fd ["self","stroked"] (Z75 CR):=by
 refine F.ok sc_Reader_sign (fun vs H Q E h=>?_) (fun cdv A outer s H vs Q E hr h=>?_)
 ·obtain⟨m,dx,t,s,st,i,c,d,rfl,_⟩:=h
  rfl
 obtain⟨m,dx,t,s',st,i,c,d,rfl,hR,hi2,hs,hst,hA,q⟩:=h
 refine U4 ?_
 intro Xz
 refine⟨_,(Z3 (pS 2 sc_Reader_sign.nd (Yb (O_Reader_passes.mono (by omega)) MTR.cl hr (pv 0) (Z0 Z8 Z2)))
  (Z3 (pS 3 sc_Reader_sign.nd (Ye (O_Reader_take.mono (by omega)) MTR.cl hr (pv 0)))
  (Z3 (Zq (PW.pt (Vn (Zf Y1 (pv 3) Z8 (Zj _)) (Ww (Zf Z02 (Yo Jg (pv 3) (pv 1) (by with_unfolding_all rfl)) (pv 2) (Zj _))))) (Z6 Vf) Zh)
  (Z6 (Zd (pv 3)))))),?_⟩
 refine Z9r ?_
 intro Ez Az1 Az2 Az3 Az4
 have hne:¬decide (V.str s'=V.str "")=true:=fun y=>Zez hs (by have y':=of_decide_eq_true y;injection y')
 by_cases hw:within s' st=true
 ·have e:sg s' st = "\\" ++ s':=by unfold sg;rw[if_pos hw]
  rw[e]at hA q
  rw[Za,Z73,hs]at q
  have h1:=hA.sg Z73
  have h2:U8 t (i+1)=s':=hA.snd.sg1 hs
  refine Zg rfl ⟨m,dx,Zg rfl ⟨hR.1,Zp (by decide +kernel),m,dx,t,_,i,c,d,rfl,hR,by omega,fun _ H1 hR1 g1=>?_,fun z=>absurd h1 z⟩⟩
  refine Zg rfl ⟨m,dx,Zg rfl ⟨hR1.1,Zp (by decide +kernel),m,dx,t,_,c,d,rfl,hR1,by omega,fun H2 hR2 g2=>?_⟩⟩
  rw[h2]
  refine Zg rfl ⟨rfl,Zg rfl (Z7 hne ?_)⟩
  refine Zg rfl (Zg rfl ⟨_,_,rfl,rfl,Zg rfl ⟨rfl,Zg rfl (Z7 ?_ ?_)⟩⟩)
  ·show ¬(!decide (V.bl (within s' st)=V.bl true))=true
   rw[hw]
   decide
  ·exact Zg rfl (q H2 hR2 (g1.trans g2))
 ·have e:sg s' st=s':=by unfold sg;rw[if_neg hw]
  rw[e]at hA q
  rw[hs]at q
  have h1:=hA.sg1 hs
  have hf:within s' st=false:=Bool.eq_false_iff.mpr hw
  refine Zg rfl ⟨m,dx,Zg rfl ⟨hR.1,Zp (by decide +kernel),m,dx,t,_,i,c,d,rfl,hR,by omega,fun z=>absurd (h1.symm.trans z) (fun y=>hw (by rw[y];exact Zfu hst)),fun _=>?_⟩⟩
  refine Zg rfl ⟨m,dx,Zg rfl ⟨hR.1,Zp (by decide +kernel),m,dx,t,_,c,d,rfl,hR,by omega,fun H2 hR2 g2=>?_⟩⟩
  rw[h1]
  refine Zg rfl ⟨rfl,Zg rfl (Z7 hne ?_)⟩
  refine Zg rfl (Zg rfl ⟨_,_,rfl,rfl,Zg rfl ⟨rfl,Zg rfl (Z7 ?_ ?_)⟩⟩)
  ·show ¬(!decide (V.bl (within s' st)=V.bl false))=true
   rw[hf]
   decide
  ·exact Zg rfl (q H2 hR2 g2)
inductive spDigI(CR:Addr)(vs:List V)(H:Hp)(Q:VK):Prop
 |mk (m dx:Addr) (t:Str) (i:Nat) (k c d:Int) (_:vs=[.ref m]) (_:Vl CR H m dx t i c d) (_:i<200000) (_:0<=k) (_:k<=9) (_:U8 t i=Uc k) (_:∀H',Vl CR H' m dx t (i+1) c d->Gro [m] H H'->Q (.int k) H')
def Z4z(CR:Addr):Sp:=fun vs H Q _=>spDigI CR vs H Q
abbrev W6:Stmt:=Yx (U3 43) 15
theorem sc_Reader_digit:FnScope ["self","sign"] ["self"] (Zc W6):=U5
theorem Ze2{t1:Tok}(T:Blt mg)(Z9h:mg "DIGITS" = some (.str digS t1))(MTR:TxtR K CR)(O_Reader_take:OwnM P w K mg base 2 CR "take" ["self"] (T1 CR))(F:Fun K "digit" "Reader.digit" W6 f fd):FnOk P w K mg base V1 3 f fd ["self"] (Z4z CR):=by
 refine F.ok sc_Reader_digit (fun vs H Q E h=>?_) (fun cdv A outer s H vs Q E hr h=>?_)
 ·obtain⟨m,dx,t,i,k,c,d,rfl,_⟩:=h
  rfl
 obtain⟨m,dx,t,i,k,c,d,rfl,hR,hi2,h0,h9,hs,q⟩:=h
 refine U4 ?_
 intro Xz
 refine⟨_,(Z3 (pS 1 sc_Reader_digit.nd (Ye (O_Reader_take.mono (by omega)) MTR.cl hr (pv 0)))
  (Z3 (Zq (PW.pt (Vn (Zf Y1 (pv 1) Z8 (Zj _)) (Ww (Zf Z2f (pv 1) (Y5 (v:=.str _) rfl Z9h ⟨_,rfl⟩) (by with_unfolding_all rfl))))) (Z6 Vf) Zh)
  (Z6 (Zd (Zw Z2m rfl T.b_int PyProof.Rows.Boot.«int» (Z0 (pv 1) Z2)))))),?_⟩
 refine Z15 ?_
 intro Ez Az1 Az2 Az3
 obtain⟨hd,hl⟩:=Ju h0 h9
 obtain⟨hi,_,_⟩:=Zbk hd
 have hdi:=Zee hl
 rw[hd]at hdi
 have hne:¬decide (V.str (Uc k)=V.str "")=true:=fun y=>Zez hl (by have y':=of_decide_eq_true y;injection y')
 refine Zg rfl ⟨m,dx,Zg rfl ⟨hR.1,Zp (by decide +kernel),m,dx,t,i,c,d,rfl,hR,hi2,fun H1 hR1 g1=>?_⟩⟩
 rw[hs]
 refine Zg rfl ⟨rfl,Zg rfl (Z7 hne ?_)⟩
 refine Zg rfl ⟨_,_,rfl,rfl,Zg rfl (Z7 (by rw[hdi];simp) ?_)⟩
 refine Zg rfl ⟨Uc k,_,rfl,hi,by omega,?_⟩
 rw[Int.toNat_of_nonneg h0]
 exact q H1 hR1 g1
inductive spRunI(CR:Addr)(vs:List V)(H:Hp)(Q:VK):Prop
 |mk (m dx:Addr) (t:Str) (r:Str×Str) (i:Nat) (c d:Int) (_:vs=[.ref m]) (_:Vl CR H m dx t i c d) (_:i+10<200000) (_:r.1.length=1) (_:r.2.length=1) (_:AtT t i (Xf r)) (_:r.1=r.2->U8 t (i+(Xf r).length)≠"-")
  (_:∀(a:Addr) (H':Hp),H' a=some (.tup [.str r.1,.str r.2])->Vl CR H' m dx t (i+(Xf r).length) c d->Gro [m] H H'->Q (.ref a) H')
def Zab(CR:Addr):Sp:=fun vs H Q _=>spRunI CR vs H Q
abbrev V5:Stmt:=Yx (U3 43) 13
theorem sc_Reader_run:FnScope ["self","low","high"] ["self"] (Zc V5):=U5
theorem Zdz{t2:Tok}(Yc:mg "STROKED_IN_RUNS" = some (.str Zy t2))(MTR:TxtR K CR)(O_Reader_passes:OwnM P w K mg base 2 CR "passes" ["self","sign"] (Vq CR))(O_Reader_sign:OwnM P w K mg base 3 CR "sign" ["self","stroked"] (Z75 CR))(F:Fun K "run" "Reader.run" V5 f fd):FnOk P w K mg base V1 4 f fd ["self"] (Zab CR):=by
 refine F.ok sc_Reader_run (fun vs H Q E h=>?_) (fun cdv A outer s H vs Q E hr h=>?_)
 ·obtain⟨m,dx,t,r,i,c,d,rfl,_⟩:=h
  rfl
 obtain⟨m,dx,t,⟨lo,hi⟩,i,c,d,rfl,hR,hi2,h1,h2,hA,hne,q⟩:=h
 refine U4 ?_
 intro Xz
 refine⟨_,(Z3 (pS 1 sc_Reader_run.nd (Yb (O_Reader_sign.mono (by omega)) MTR.cl hr (pv 0) (Z0 (Y5 (v:=.str _) rfl Yc ⟨_,rfl⟩) Z2)))
  (Z3 (pS 2 sc_Reader_run.nd (W0 (Yu (Yb (O_Reader_passes.mono (by omega)) MTR.cl hr (pv 0) (Z0 Z8 Z2))) (Yb (O_Reader_sign.mono (by omega)) MTR.cl hr (pv 0) (Z0 (Y5 (v:=.str _) rfl Yc ⟨_,rfl⟩) Z2)) (pv 1)))
  (Z6 (Zd (Zr (Z0 (pv 1) (Z0 (pv 2) Z2))))))),?_⟩
 refine Z3a ?_
 intro Ez Az1 Az2
 have sl1:(sg lo Zy).length<=2:=Ue h1
 have sl2:(sg hi Zy).length<=2:=Ue h2
 have fin:∀(H1:Hp) (j:Nat),j=i+(Xf (lo,hi)).length->Vl CR H1 m dx t j c d->Gro [m] H H1->∀a:Addr,H1 a=none->Q (.ref a) (Y2 H1 a (.tup [.str lo,.str hi])):=fun H1 j hj hR1 g1 a ha=>by
  have g2:=Gro.new (S:=[]) ha (.tup [.str lo,.str hi])
  subst hj
  exact q a _ Z1 ⟨g2.keep _ _ hR1.1 (by simp),hR1.2⟩ (g1.trans (Gro.new ha _))
 by_cases e:lo=hi
 ·subst e
  have er:Xf (lo,lo)=sg lo Zy:=by unfold Xf;rw[if_pos (decide_eq_true rfl)]
  rw[er]at hA hne
  refine Zg rfl ⟨m,dx,Zg rfl ⟨hR.1,Zp (by decide +kernel),m,dx,t,lo,_,i,c,d,rfl,hR,by omega,h1,.inr rfl,hA,fun H1 hR1 g1=>?_⟩⟩
  refine Zg rfl ⟨m,dx,Zg rfl ⟨hR1.1,Zp (by decide +kernel),m,dx,t,_,_,c,d,rfl,hR1,by omega,fun z=>absurd z (hne rfl),fun _=>Zg rfl (Z7 (by decide) (Zg rfl ?_))⟩⟩
  exact Zg rfl (Zg rfl ⟨sz,fun a ha=>fin H1 _ (by rw[er]) hR1 g1 a ha⟩)
 ·have er:Xf (lo,hi)=(sg lo Zy++"-")++sg hi Zy:=by unfold Xf;rw[if_neg (fun y=>e (by have y':=of_decide_eq_true y;injection y'))]
  rw[er]at hA
  have hB:=hA.fst.snd
  have hC:=hA.snd
  rw[Za,Uy,← Nat.add_assoc]at hC
  refine Zg rfl ⟨m,dx,Zg rfl ⟨hR.1,Zp (by decide +kernel),m,dx,t,lo,_,i,c,d,rfl,hR,by omega,h1,.inr rfl,hA.fst.fst,fun H1 hR1 g1=>?_⟩⟩
  refine Zg rfl ⟨m,dx,Zg rfl ⟨hR1.1,Zp (by decide +kernel),m,dx,t,_,_,c,d,rfl,hR1,by omega,fun _ H2 hR2 g2=>Zg rfl (Zm rfl ?_),fun z=>absurd (hB.sg1 Uy) z⟩⟩
  refine Zg rfl ⟨m,dx,Zg rfl ⟨hR2.1,Zp (by decide +kernel),m,dx,t,hi,_,_,c,d,rfl,hR2,by omega,h2,.inr rfl,hC,fun H3 hR3 g3=>?_⟩⟩
  exact Zg rfl (Zg rfl ⟨sz,fun a ha=>fin H3 _ (by rw[er,Za,Za,Uy];omega) hR3 ((g1.trans g2).trans g3) a ha⟩)
end
theorem Ze4{k:Int}(h0:0<=k)(h9:k<=9):Z1u (.str (Uc k)) [.str "?",.str "!",.str "}"]=false:=by
 rcases(show k=0∨k=1∨k=2∨k=3∨k=4∨k=5∨k=6∨k=7∨k=8∨k=9 by omega) with rfl | rfl | rfl | rfl | rfl | rfl | rfl | rfl | rfl | rfl <;> decide +kernel
def Zcf(lo:Int)(hi:Option Int)(how:How):Str:=Uc lo++("," ++ (Zcg hi++(how.sign++"}")))
theorem Z8m(lo:Int)(hi:Option Int)(how:How):Vg lo hi how="{" ++ Zcf lo hi how:=by
 unfold Vg Zcf
 simp only[Zv]
theorem Ug(x:Str):("":Str)++x=x:=Z6s x
section
variable{P:Program}{w:World}{K:W.Frag}{mg:Str->Option Value}{base:Heap}{f CR:Addr}{fd:FuncData}
inductive spTurnI(CR:Addr)(vs:List V)(H:Hp)(Q:VK):Prop
 |mk (m dx:Addr) (t:Str) (lo:Int) (hi:Option Int) (how:How) (px:V) (i:Nat) (c d:Int) (_:vs=[.ref m,px]) (_:Vl CR H m dx t i c d) (_:i+10<200000) (_:0<=lo/\lo<=9) (_:∀h,hi=some h->0<=h/\h<=9) (_:AtT t i (Zcf lo hi how))
  (_:∀(a:Addr) (H':Hp),H' a=some (.tup [.str "times",.int lo,Z1c hi,.str how.text,px])->Vl CR H' m dx t (i+(Zcf lo hi how).length) c d->Gro [m] H H'->Q (.ref a) H')
def Z61(CR:Addr):Sp:=fun vs H Q _=>spTurnI CR vs H Q
abbrev W4:Stmt:=Yx (U3 43) 16
theorem sc_Reader_turns:FnScope ["self","part","low","high","how"] ["self","part"] (Zc W4):=U5
theorem Zb6(MTR:TxtR K CR)(O_Reader_seen:OwnM P w K mg base 1 CR "seen" ["self"] (Ti CR))(O_Reader_passes:OwnM P w K mg base 2 CR "passes" ["self","sign"] (Vq CR))(O_Reader_need:OwnM P w K mg base 3 CR "need" ["self","sign"] (Jr CR))(O_Reader_digit:OwnM P w K mg base 3 CR "digit" ["self"] (Z4z CR))
  (F:Fun K "turns" "Reader.turns" W4 f fd):FnOk P w K mg base V1 4 f fd ["self","part"] (Z61 CR):=by
 refine F.ok sc_Reader_turns (fun vs H Q E h=>?_) (fun cdv A outer s H vs Q E hr h=>?_)
 ·obtain⟨m,dx,t,lo,hi,how,px,i,c,d,rfl,_⟩:=h
  rfl
 obtain⟨m,dx,t,lo,hi,how,px,i,c,d,rfl,hR,hi2,hlo,hhi,hA,q⟩:=h
 refine U4 ?_
 intro Xz
 refine⟨_,(Z3 (pS 2 sc_Reader_turns.nd (Ye (O_Reader_digit.mono (by omega)) MTR.cl hr (pv 0)))
  (Z3 (X8 (Yb (O_Reader_need.mono (by omega)) MTR.cl hr (pv 0) (Z0 Z8 Z2)))
  (Z3 (pS 3 sc_Reader_turns.nd (W0 (Zf U1 (Ye (O_Reader_seen.mono (by omega)) MTR.cl hr (pv 0)) (Zr (Z0 Z8 (Z0 Z8 (Z0 Z8 Z2)))) (by with_unfolding_all rfl)) Z17 (Ye (O_Reader_digit.mono (by omega)) MTR.cl hr (pv 0))))
  (Z3 (pS 4 sc_Reader_turns.nd Z8)
  (Z3 (Zq (Yu (Yb (O_Reader_passes.mono (by omega)) MTR.cl hr (pv 0) (Z0 Z8 Z2))) (Z6 (pS 4 sc_Reader_turns.nd Z8)) (Z6 (Zq (Yu (Yb (O_Reader_passes.mono (by omega)) MTR.cl hr (pv 0) (Z0 Z8 Z2))) (Z6 (pS 4 sc_Reader_turns.nd Z8)) Zh)))
  (Z3 (X8 (Yb (O_Reader_need.mono (by omega)) MTR.cl hr (pv 0) (Z0 Z8 Z2)))
  (Z6 (Zd (Zr (Z0 Z8 (Z0 (pv 2) (Z0 (pv 3) (Z0 (pv 4) (Z0 (pv 1) Z2)))))))))))))),?_⟩
 refine Zd9 ?_
 intro Ez Az1 Az2 Az3 Az4 Az5 Az6 Az7 Az8 Az9
 have ln:=(Ju hlo.1 hlo.2).2
 have h1:=hA.sg ln
 have hB:=hA.snd
 rw[ln]at hB
 have h2:U8 t (i+1)=",":=hB.sg Wa
 have hC:=hB.snd
 rw[Wa]at hC
 have fin:∀(H3:Hp) (j:Nat) (hv:V),hv=Z1c hi->j+how.sign.length+1=i+(Zcf lo hi how).length->j<=i+3->AtT t j (how.sign++"}")->Vl CR H3 m dx t j c d->Gro [m] H H3->Az7 Ez [some (.ref m),some px,some (.int lo),some hv,none] H3:=by
  intro H3 j hv ehv hj hji hD hR3 g3
  subst ehv
  have ends:∀(H4:Hp) (hw:Str),hw=how.text->∀j':Nat,j'=j+how.sign.length->Vl CR H4 m dx t j' c d->Gro [m] H H4->Az5 Ez [some (.ref m),some px,some (.int lo),some (Z1c hi),some (.str hw)] H4:=by
   intro H4 hw ehw j' ej hR4 g4
   subst ehw ej
   have hsl:=Z0a how
   refine Zg rfl ⟨m,dx,Zg rfl ⟨hR4.1,Zp (by decide +kernel),m,dx,t,_,_,c,d,rfl,hR4,by omega,hD.snd.sg1 Z5u,fun H5 hR5 g5=>?_⟩⟩
   refine Zg rfl (Zg rfl (Zg rfl (Zg rfl ⟨sz,fun a ha=>?_⟩)))
   have g6:=Gro.new (S:=[]) ha (.tup [.str "times",.int lo,Z1c hi,.str how.text,px])
   rw[hj]at hR5
   exact q a _ Z1 ⟨g6.keep _ _ hR5.1 (by simp),hR5.2⟩ ((g4.trans g5).trans (Gro.new ha _))
  have qne:("!":Str)≠"?":=by decide +kernel
  have rne:("}":Str)≠"?":=by decide +kernel
  have rne2:("}":Str)≠"!":=by decide +kernel
  cases how with
  |much =>
   have hs:U8 t j="}":=AtT.sg1 (by rw[← Ug "}"];exact hD) Z5u
   refine Zg rfl ⟨m,dx,Zg rfl ⟨hR3.1,Zp (by decide +kernel),m,dx,t,_,_,c,d,rfl,hR3,by omega,fun z=>absurd (hs.symm.trans z) rne,fun _=>Zg rfl (Z7 (by decide) ?_)⟩⟩
   refine Zg rfl ⟨m,dx,Zg rfl ⟨hR3.1,Zp (by decide +kernel),m,dx,t,_,_,c,d,rfl,hR3,by omega,fun z=>absurd (hs.symm.trans z) rne2,fun _=>Zg rfl (Z7 (by decide) ?_)⟩⟩
   exact ends H3 _ rfl j rfl hR3 g3
  |little =>
   have hs:U8 t j="?":=hD.sg Zhr
   refine Zg rfl ⟨m,dx,Zg rfl ⟨hR3.1,Zp (by decide +kernel),m,dx,t,_,_,c,d,rfl,hR3,by omega,fun _ H4 hR4 g4=>Zg rfl (Zm rfl ?_),fun z=>absurd hs z⟩⟩
   exact ends H4 _ rfl (j+1) rfl hR4 (g3.trans g4)
  |keep =>
   have hs:U8 t j="!":=hD.sg Zhq
   refine Zg rfl ⟨m,dx,Zg rfl ⟨hR3.1,Zp (by decide +kernel),m,dx,t,_,_,c,d,rfl,hR3,by omega,fun z=>absurd (hs.symm.trans z) qne,fun _=>Zg rfl (Z7 (by decide) ?_)⟩⟩
   refine Zg rfl ⟨m,dx,Zg rfl ⟨hR3.1,Zp (by decide +kernel),m,dx,t,_,_,c,d,rfl,hR3,by omega,fun _ H4 hR4 g4=>Zg rfl (Zm rfl ?_),fun z=>absurd hs z⟩⟩
   exact ends H4 _ rfl (j+1) rfl hR4 (g3.trans g4)
 refine Zg rfl ⟨m,dx,Zg rfl ⟨hR.1,Zp (by decide +kernel),m,dx,t,i,lo,c,d,rfl,hR,by omega,hlo.1,hlo.2,h1,fun H1 hR1 g1=>?_⟩⟩
 refine Zg rfl ⟨m,dx,Zg rfl ⟨hR1.1,Zp (by decide +kernel),m,dx,t,_,_,c,d,rfl,hR1,by omega,h2,fun H2 hR2 g2=>?_⟩⟩
 refine Zg rfl ⟨m,dx,Zg rfl ⟨hR2.1,Zp (by decide +kernel),m,dx,t,_,c,d,rfl,hR2,⟨sz,fun o ho=>⟨o,_,rfl,.inr (SqT.of Z1),rfl,rfl,Zg rfl ?_⟩⟩⟩⟩
 have gN:=Gro.new (S:=[]) ho (.tup [.str "?",.str "!",.str "}"])
 have hR3:Vl CR (Y2 H2 o (.tup [.str "?",.str "!",.str "}"])) m dx t (i+1+1) c d:=⟨gN.keep _ _ hR2.1 (by simp),hR2.2⟩
 have g3:Gro [m] H (Y2 H2 o (.tup [.str "?",.str "!",.str "}"])):=(g1.trans g2).trans (Gro.new ho _)
 generalize Y2 H2 o (.tup [.str "?",.str "!",.str "}"])=H3 at *
 have lt:(Zcf lo hi how).length=1+(1+((Zcg hi).length+(how.sign.length+1))):=by
  unfold Zcf
  rw[Za,Za,Za,Za,ln,Wa,Z5u]
 cases hi with
 |none =>
  have hD:AtT t (i+1+1) (how.sign++"}"):=by rw[← Ug (how.sign++"}")];exact hC
  have hin:Z1u (.str (U8 t (i+1+1))) [.str "?",.str "!",.str "}"]=true:=by
   cases how with
   |much=>rw[AtT.sg1 (by rw[← Ug "}"];exact hD) Z5u];decide +kernel
   |little=>rw[hD.sg Zhr];decide +kernel
   |keep=>rw[hD.sg Zhq];decide +kernel
  refine Zm hin ?_
  exact fin H3 (i+1+1) .non rfl (by rw[lt];show _=i+(1+(1+(0+_)));omega) (by omega) hD hR3 g3
 |some h =>
  have hh:=hhi h rfl
  have lh:=(Ju hh.1 hh.2).2
  have hs:U8 t (i+1+1)=Uc h:=hC.sg lh
  have hE:=hC.snd
  rw[show(Zcg (some h)).length=1 from lh]at hE
  refine Z7 (by rw[hs,Ze4 hh.1 hh.2];decide) ?_
  refine Zg rfl ⟨m,dx,Zg rfl ⟨hR3.1,Zp (by decide +kernel),m,dx,t,_,h,c,d,rfl,hR3,by omega,hh.1,hh.2,hs,fun H4 hR4 g4=>?_⟩⟩
  exact fin H4 (i+1+1+1) (.int h) rfl (by rw[lt,show(Zcg (some h)).length=1 from lh];omega) (by omega) hE hR4 (g3.trans g4)
end
theorem Ji(x:Str):∀(n:Nat) (xs:List Str),xs.length=n->Txt.join "" (x::xs)=x++Txt.join "" xs
 |0,[],_=>(J6 x).symm
 |n+1,xs,hn=>by
  rcases xs.eq_nil_or_concat with h | ⟨ys,y,h⟩
  ·rw[h]at hn
   cases hn
  ·rw[List.concat_eq_append]at h
   subst h
   have hl:ys.length=n:=by rw[List.length_append]at hn;simpa using hn
   rw[← List.cons_append,Z24,Z24,Ji x n ys hl,Zv]
def jn(rs:List (Str×Str)):Str:=Txt.join "" (rs.map Xf)
theorem Z35(r:Str×Str)(rs:List (Str×Str)):jn (r::rs)=Xf r++jn rs:=Ji _ _ _ rfl
theorem Zcc{t s st z:Str}{j:Nat}(h:AtT t j (sg s st++z))(hs:s.length=1):U8 t j=if within s st=true then("\\":Str) else s:=by
 unfold sg at h
 by_cases hw:within s st=true
 ·rw[if_pos hw]at h ⊢
  rw[Zv]at h
  exact h.sg Z73
 ·rw[if_neg hw]at h ⊢
  exact h.sg hs
theorem Z1i{t s st z x:Str}{j:Nat}(h:AtT t j (sg s st++z))(hs:s.length=1)(hx:within x st=true)(hb:x ≠ "\\"):U8 t j≠x:=by
 rw[Zcc h hs]
 by_cases hw:within s st=true
 ·rw[if_pos hw]
  exact fun e=>hb e.symm
 ·rw[if_neg hw]
  exact fun e=>hw (by rw[e];exact hx)
theorem Zct(r:Str×Str):∃z,Xf r=sg r.1 Zy++z:=by
 unfold Xf
 split
 ·exact⟨"",(J6 _).symm⟩
 ·exact⟨"-" ++ sg r.2 Zy,by rw[Zv]⟩
theorem Z9y{t z x:Str}{r:Str×Str}{j:Nat}(h:AtT t j (Xf r++z))(hs:r.1.length=1)(hx:within x Zy=true)(hb:x ≠ "\\"):U8 t j≠x:=by
 obtain⟨y,e⟩:=Zct r
 rw[e,Zv]at h
 exact Z1i h hs hx hb
theorem Zcd{t x:Str}{j:Nat}:∀ {rs:List (Str×Str)},AtT t j (jn rs++"]")->(∀r∈rs,r.1.length=1)->within x Zy=true->x≠"\\" → x ≠ "]"->U8 t j≠x
 | [],h,_,_,_,hn=>by
  have h':AtT t j "]":=by rw[← Ug "]"];exact h
  rw[h'.sg1 Z1d]
  exact fun e=>hn e.symm
 |r::rs,h,hs,hx,hb,_=>by
  rw[Z35,Zv]at h
  exact Z9y h (hs r (by simp)) hx hb
section
variable{P:Program}{w:World}{K:W.Frag}{mg:Str->Option Value}{base:Heap}{f CR:Addr}{fd:FuncData}
def Z5v:Bool->Str
 |true=>"^"
 |false=>""
def Z53:Bool->Str
 |true=>"out"
 |false=>"in"
inductive spListI(CR:Addr)(vs:List V)(H:Hp)(Q:VK):Prop
 |mk (m dx:Addr) (t:Str) (o:Bool) (rs:List (Str×Str)) (i:Nat) (c d:Int) (_:vs=[.ref m]) (_:Vl CR H m dx t i c d) (_:i<100000) (_:rs.length<=20) (_:∀r∈rs,r.1.length=1/\r.2.length=1) (_:AtT t i (Z5v o++(jn rs++"]")))
  (_:∀(a rt:Addr) (H':Hp),H' a=some (.tup [.str (Z53 o),.ref rt])->RunsAt H' rt rs->Vl CR H' m dx t (i+(Z5v o++(jn rs++"]")).length) c d->Gro [m] H H'->Q (.ref a) H')
def Z64(CR:Addr):Sp:=fun vs H Q _=>spListI CR vs H Q
abbrev Xy:Stmt:=Yx (U3 43) 12
theorem sc_Reader_listed:FnScope ["self","kind","runs"] ["self"] (Zc Xy):=U5
theorem Zbc(T:Blt mg)(MTR:TxtR K CR)(O_Reader_passes:OwnM P w K mg base 2 CR "passes" ["self","sign"] (Vq CR))(O_Reader_run:OwnM P w K mg base 4 CR "run" ["self"] (Zab CR))(F:Fun K "listed" "Reader.listed" Xy f fd):FnOk P w K mg base V1 5 f fd ["self"] (Z64 CR):=by
 refine F.ok sc_Reader_listed (fun vs H Q E h=>?_) (fun cdv A outer s H vs Q E hr h=>?_)
 ·obtain⟨m,dx,t,o,rs,i,c,d,rfl,_⟩:=h
  rfl
 obtain⟨m,dx,t,o,rs,i,c,d,rfl,hR,hi2,hrl,hrs,hA,q⟩:=h
 refine U4 ?_
 intro Xz
 refine⟨_,(Z3 (pS 1 sc_Reader_listed.nd (W0 (Yu (Yb (O_Reader_passes.mono (by omega)) MTR.cl hr (pv 0) (Z0 Z8 Z2))) Z8 Z8))
  (Z3 (pS 2 sc_Reader_listed.nd (Yl Z2))
  (Z3 (Z0x PassesOwn.never (Js (Yu (Yb (O_Reader_passes.mono (by omega)) MTR.cl hr (pv 0) (Z0 Z8 Z2)))) (Z6 (X8 (V2 PySem.F.plainAttrs_list PySem.F.slot_list_append PySem.F.type_list_append Xb (pv 2) (Z0 (Ye (O_Reader_run.mono (by omega)) MTR.cl hr (pv 0)) Z2)))))
  (Z6 (Zd (Zr (Z0 (pv 1) (Z0 (Zw Y3 rfl T.b_tuple PyProof.Rows.Boot.«tuple» (Z0 (pv 2) Z2)) Z2)))))))),?_⟩
 refine Zd5 ?_
 intro Ez Az1 Az2 Az3 Az4
 have b1:within "^" Zy=true/\within "-" Zy=true/\within "]" Zy=true:=by decide +kernel
 have b2:("^":Str)≠"\\" ∧ ("-" : Str) ≠ "\\" ∧ ("]" : Str) ≠ "\\" ∧ ("^" : Str) ≠ "]" ∧ ("-" : Str) ≠ "]":=by decide +kernel
 have le1:=hA.le (by rw[Za,Za,Z1d];omega)
 have htl:=hR.2.1
 have rest:∀(H1:Hp) (i1:Nat),i1=i+(Z5v o).length->AtT t i1 (jn rs++"]")->Vl CR H1 m dx t i1 c d->Gro [m] H H1->Az4 Ez [some (.ref m),some (.str (Z53 o)),none] H1:=by
  intro H1 i1 hi1 hB hR1 g1
  refine⟨sz,fun l hl=>?_⟩
  have gl:=Gro.new (S:=[]) hl (.lst [])
  have hl2:(Y2 H1 l (.lst [])) l=some (.lst []):=Z1
  have hR2:Vl CR (Y2 H1 l (.lst [])) m dx t i1 c d:=⟨gl.keep _ _ hR1.1 (by simp),hR1.2⟩
  have ml:m≠l:=Z9 hR1.1 hl
  generalize Y2 H1 l (.lst [])=H2 at *
  refine⟨fun μ σ H'=>∃(ds es:List (Str×Str)) (us:List V) (j:Nat),σ=[some (.ref m),some (.str (Z53 o)),some (.ref l)]/\rs=ds++es/\μ=es.length/\H' l=some (.lst us)/\Paired (RunP H') us ds/\AtT t j (jn es++"]")/\j+(jn es++"]").length=i1+(jn rs++"]").length/\Vl CR H' m dx t j c d/\Gro [m,l] H2 H',
   ⟨rs.length,[],rs,[],i1,rfl,rfl,rfl,hl2,.nil,hB,rfl,hR2,Gro.refl⟩,?_⟩
  rintro μ σ H3 ⟨ds,es,us,j,rfl,hde,rfl,hl3,hu,hj,hjl,hR3,g3⟩
  have jle:=hj.le (by rw[Za,Z1d];omega)
  have hul:=Paired.length hu
  have hdl:ds.length<=20:=by have:=congrArg List.length hde;rw[List.length_append]at this;omega
  cases es with
  |nil =>
   have h':AtT t j "]":=by rw[← Ug "]"];exact hj
   refine Zg rfl ⟨m,dx,Zg rfl ⟨hR3.1,Zp (by decide +kernel),m,dx,t,_,j,c,d,rfl,hR3,by omega,fun _ H4 hR4 g4=>Zg rfl ?_,fun z=>absurd (h'.sg1 Z1d) z⟩⟩
   refine Z7 (by decide) ?_
   have hl4:=g4.keep _ _ hl3 (by simpa using Ne.symm ml)
   refine Zg rfl (Zg rfl ⟨l,us,rfl,.inl ⟨SqL.of hl4,fun rt hrt=>⟨sz,fun a ha=>?_⟩⟩⟩)
   have k1:=Gro.new (S:=[]) hrt (.tup us)
   have k2:=Gro.new (S:=[]) ha (.tup [.str (Z53 o),.ref rt])
   rw[List.append_nil]at hde
   subst hde
   have e1:j+1=i+(Z5v o++(jn rs++"]")).length:=by
    rw[Za,← Nat.add_assoc,← hi1,← hjl]
    show j+1=j+(("":Str)++"]").length
    rw[Ug,Z1d]
   rw[e1]at hR4
   refine q a rt _ Z1 ⟨us,k2.tups _ _ Z1,Y4 k2.tups (Y4 k1.tups (Y4 g4.tups hu)),hrl⟩ ⟨k2.keep _ _ (k1.keep _ _ hR4.1 (by simp)) (by simp),hR4.2⟩ ?_
   refine⟨fun b u h hb=>k2.keep b u (k1.keep b u (g4.keep b u (g3.keep b u (gl.keep b u (g1.keep b u h hb) (by simp)) ?_) hb) (by simp)) (by simp),fun b xs h=>k2.tups _ _ (k1.tups _ _ (g4.tups _ _ (g3.tups _ _ (gl.tups _ _ (g1.tups _ _ h)))))⟩
   have:b≠l:=Z9 (g1.keep b u h hb) hl
   simp only[List.mem_singleton]at hb
   simp[hb,this]
  |cons r es =>
   have hj':AtT t j (Xf r++(jn es++"]")):=by rw[Z35,Zv]at hj;exact hj
   have hrr:=hrs r (by rw[hde];simp)
   have hse:∀x∈es,x.1.length=1:=fun x hx=>(hrs x (by rw[hde];simp[hx])).1
   refine Zg rfl ⟨m,dx,Zg rfl ⟨hR3.1,Zp (by decide +kernel),m,dx,t,_,j,c,d,rfl,hR3,by omega,fun z=>absurd z (Z9y hj' hrr.1 b1.2.2 b2.2.2.1),fun _=>Zg rfl ?_⟩⟩
   refine Zm (by decide) ?_
   refine⟨fun σ' H'=>∃(us':List V),σ'=[some (.ref m),some (.str (Z53 o)),some (.ref l)]/\H' l=some (.lst us')/\Paired (RunP H') us' (ds++[r])/\Vl CR H' m dx t (j+(Xf r).length) c d/\Gro [m,l] H2 H',?_,?_⟩
   ·rintro σ' H' ⟨us',rfl,h1,h2,h3,h4⟩
    refine⟨es.length,by simp,ds++[r],es,us',_,rfl,by rw[hde];simp,rfl,h1,h2,hj'.snd,?_,h3,h4⟩
    rw[← hjl,Z35,Za,Za,Za]
    omega
   refine Zg rfl ⟨.inl ⟨rfl,_,SqL.of hl3⟩,Zg rfl ⟨m,dx,Zg rfl ⟨hR3.1,Zp (by decide +kernel),m,dx,t,r,j,c,d,rfl,hR3,by omega,hrr.1,hrr.2,hj'.fst,fun _=>Zcd hj'.snd hse b1.2.1 b2.2.1 b2.2.2.2.2,fun a H4 ha hR4 g4=>?_⟩⟩⟩
   have hl4:=g4.keep _ _ hl3 (by simpa using Ne.symm ml)
   refine⟨l,us,_,rfl,rfl,hl4,Nat.lt_of_lt_of_le (by omega) (Jb (Nat.le_refl 1000)),?_⟩
   have g5:Gro [m,l] H4 _:=Gro.set (by simp) hl4 (.lst (us++[.ref a]))
   refine⟨us++[.ref a],rfl,Z1,?_,⟨?_,hR4.2⟩,(g3.trans (g4.mono (by simp))).trans g5⟩
   ·exact Paired.snoc1 (Y4 g5.tups (Y4 g4.tups hu)) ⟨hrr.1,hrr.2,a,rfl,g5.tups _ _ ha⟩
   ·rw[Zl ml]
    exact hR4.1
 cases o with
 |true =>
  refine Zg rfl ⟨m,dx,Zg rfl ⟨hR.1,Zp (by decide +kernel),m,dx,t,_,i,c,d,rfl,hR,by omega,fun _ H1 hR1 g1=>Zg rfl (Zm rfl ?_),fun z=>absurd (hA.sg Z2p) z⟩⟩
  exact rest H1 (i+1) rfl hA.snd hR1 g1
 |false =>
  have hB:AtT t i (jn rs++"]"):=by rw[← Ug (jn rs++"]")];exact hA
  refine Zg rfl ⟨m,dx,Zg rfl ⟨hR.1,Zp (by decide +kernel),m,dx,t,_,i,c,d,rfl,hR,by omega,fun z=>absurd z (Zcd hB (fun x hx=>(hrs x hx).1) b1.1 b2.1 b2.2.2.2.1),fun _=>Zg rfl (Z7 (by decide) ?_)⟩⟩
  exact rest H i rfl hB hR Gro.refl
end
inductive CnL(R:Int->Pat->Int->Prop):Int->List Pat->Int->Prop
 |nil {c:Int}:CnL R c [] c
 |cons {c e c':Int} {k:Pat} {ks:List Pat}:R c k e->CnL R e ks c'->CnL R c (k::ks) c'
def Cn:Nat->Int->Pat->Int->Prop
 |0,_,_,_=>False
 |n+1,c,.node h ks,c'=>match h with
  |.sign s=>ks=[]/\s.length=1/\c'=c
  |.any=>ks=[]/\c'=c
  |.beg=>ks=[]/\c'=c
  |.fin=>ks=[]/\c'=c
  |.inn rs=>ks=[]/\rs.length<=20/\(∀r∈rs,r.1.length=1/\r.2.length=1)/\c'=c
  |.out rs=>ks=[]/\rs.length<=20/\(∀r∈rs,r.1.length=1/\r.2.length=1)/\c'=c
  |.row=>ks.length≠1/\ks.length<=10/\(∀k∈ks,k.word≠"row")/\CnL (Cn n) c ks c'
  |.alt=>2<=ks.length/\ks.length<=10/\(∀k∈ks,k.word≠"or")/\CnL (Cn n) c ks c'
  |.times lo hi _=>∃k,ks=[k]/\(0<=lo/\lo<=9)/\(∀x,hi=some x->0<=x/\x<=9)/\Cn n c k c'
  |.grp j=>∃k,ks=[k]/\j=c+1/\0<=c/\c+1<=9/\Cn n (c+1) k c'
  |.again j=>ks=[]/\0<=j/\j<=9/\c'=c
  |.hav j=>∃y z e,ks=[y,z]/\0<=j/\j<=9/\Cn n c y e/\Cn n e z c'
  |.look _=>∃k,ks=[k]/\Cn n c k c'
def Z55(x:Str):Prop:=x="" ∨ x=")" ∨ x="~" ∨ x=">"
theorem Cn.pos{n:Nat}{c c':Int}{p:Pat}(h:Cn n c p c'):1<=n:=by
 cases n with
 |zero=>exact h.elim
 |succ n=>omega
section
variable{P:Program}{w:World}{K:W.Frag}{mg:Str->Option Value}{base:Heap}{f CR:Addr}{fd:FuncData}
inductive spBrI(CR:Addr)(n:Nat)(vs:List V)(H:Hp)(Q:VK):Prop
 |mk (e:Nat) (_:e<=n) (m dx:Addr) (t:Str) (p:Pat) (i:Nat) (c c' d:Int) (_:vs=[.ref m]) (_:Vl CR H m dx t i c d) (_:i<=t.length) (_:AtT t i p.txt) (_:Cn e c p c') (_:Z55 (U8 t (i+p.txt.length))) (_:0<=d/\d+e<=8) (_:∀(v:V) (H':Hp),PatAt H' e v p->Vl CR H' m dx t (i+p.txt.length) c' d->Gro [m] H H'->Q v H')
def Zc2(CR:Addr)(n:Nat):Sp:=fun vs H Q _=>spBrI CR n vs H Q
inductive spWiI(CR:Addr)(n:Nat)(vs:List V)(H:Hp)(Q:VK):Prop
 |mk (e:Nat) (_:e<=n) (m dx:Addr) (t x:Str) (p:Pat) (i:Nat) (c c' d:Int) (_:vs=[.ref m,.str x]) (_:Vl CR H m dx t i c d) (_:x.length=1) (_:Z55 x) (_:AtT t i (p.txt++x)) (_:Cn e c p c') (_:0<=d/\d+1+e<=8) (_:∀(v:V) (H':Hp),PatAt H' e v p->Vl CR H' m dx t (i+p.txt.length+1) c' d->Gro [m] H H'->Q v H')
def Zc0(CR:Addr)(n:Nat):Sp:=fun vs H Q _=>spWiI CR n vs H Q
abbrev Xv:Stmt:=Yx (U3 43) 9
theorem sc_Reader_within:FnScope ["self","close","pattern"] ["self","close"] (Zc Xv):=U5
theorem Zfk{n L:Nat}{t8:Tok}(hL:3<=L)(Uo:mg "MOST_DEEP" = some (.int 8 t8))(MTR:TxtR K CR)(O_Reader_branches:OwnM P w K mg base L CR "branches" ["self"] (Zc2 CR n))(O_Reader_need:OwnM P w K mg base 3 CR "need" ["self","sign"] (Jr CR))(F:Fun K "within" "Reader.within" Xv f fd):FnOk P w K mg base V1 (L+1) f fd ["self","close"] (Zc0 CR n):=by
 refine F.ok sc_Reader_within (fun vs H Q E h=>?_) (fun cdv A outer s H vs Q E hr h=>?_)
 ·obtain⟨e,he,m,dx,t,x,p,i,c,c',d,rfl,_⟩:=h
  rfl
 obtain⟨e,he,m,dx,t,x,p,i,c,c',d,rfl,hR,hx,hst,hA,hC,hd,q⟩:=h
 refine U4 ?_
 intro Xz
 refine⟨_,(Z3 (U0 (pv 0) Z5 Z3i)
  (Z3 (Zq (Zf Tg (Z18 (pv 0) rfl) (Y5 (v:=.int _) rfl Uo ⟨_,rfl⟩) (Zj _)) (Z6 Vf) Zh)
  (Z3 (pS 2 sc_Reader_within.nd (Ye (O_Reader_branches.mono (by omega)) MTR.cl hr (pv 0)))
  (Z3 (X8 (Yb (O_Reader_need.mono (by omega)) MTR.cl hr (pv 0) (Z0 (pv 1) Z2)))
  (Z3 (U0 (pv 0) Z5 Zeb)
  (Z6 (Zd (pv 2)))))))),?_⟩
 refine Zdk ?_
 intro Ez Az1 Az2 Az3 Az4 Az5 Az6
 have hn:=hC.pos
 have le:=hA.le (by rw[Za];omega)
 rw[Za,hx]at le
 refine Zg rfl ⟨m,CR,dx,_,_,rfl,hR.1,MTR.cl,MTR.a4,Jf,Ud rfl rfl ⟨dx,_,hR.1,by show 4<1000;decide,?_⟩⟩
 rw[Z1y]
 have g1:Gro [m] H (Y2 H m (.ins CR dx (Z2a t i c (d+1)))):=Gro.objR hR.1
 have hR1:Vl CR (Y2 H m (.ins CR dx (Z2a t i c (d+1)))) m dx t i c (d+1):=⟨Z1,hR.2⟩
 generalize Y2 H m (.ins CR dx (Z2a t i c (d+1)))=H1 at *
 refine Zg rfl ⟨m,CR,dx,_,_,rfl,hR1.1,MTR.cl,MTR.a4,Jf,Ud rfl rfl (Zg rfl (Z7 (by intro y;have y':(8:Int)<d+1:=of_decide_eq_true y;omega) ?_))⟩
 refine Zg rfl ⟨m,dx,Zg rfl ⟨hR1.1,Zp (by decide +kernel),e,he,m,dx,t,p,i,c,c',d+1,rfl,hR1,by omega,hA.fst,hC,by rw[hA.snd.sg1 hx];exact hst,by omega,fun v H2 hP hR2 g2=>?_⟩⟩
 refine Zg rfl ⟨m,dx,Zg rfl ⟨hR2.1,Zp (by decide +kernel),Zg rfl ⟨m,dx,t,x,_,c',d+1,rfl,hR2,by have:=hR.2.1;omega,hA.snd.sg1 hx,fun H3 hR3 g3=>?_⟩⟩⟩
 refine Zg rfl ⟨m,CR,dx,_,_,rfl,hR3.1,MTR.cl,MTR.a4,Jf,Ud rfl rfl ⟨dx,_,hR3.1,by show 4<1000;decide,?_⟩⟩
 rw[Z1y,show d+1-1=d by omega]
 have g4:Gro [m] H3 (Y2 H3 m (.ins CR dx (Z2a t (i+p.txt.length+1:Nat) c' d))):=Gro.objR hR3.1
 exact Zg rfl (q v _ ((hP.mono g3.tups).mono g4.tups) ⟨Z1,hR3.2⟩ (((g1.trans g2).trans g3).trans g4))
inductive spGrI(CR:Addr)(n:Nat)(vs:List V)(H:Hp)(Q:VK):Prop
 |mk (e:Nat) (_:e<=n) (m dx:Addr) (t:Str) (p:Pat) (i:Nat) (c c' d:Int) (_:vs=[.ref m]) (_:Vl CR H m dx t i c d) (_:AtT t i (p.txt++")")) (_:Cn e (c+1) p c') (_:0<=d/\d+1+e<=8) (_:∀(a:Addr) (v:V) (H':Hp),H' a=some (.tup [.str "group",.int (c+1),v])->PatAt H' e v p->Vl CR H' m dx t (i+p.txt.length+1) c' d->Gro [m] H H'->Q (.ref a) H')
def Zew(CR:Addr)(n:Nat):Sp:=fun vs H Q _=>spGrI CR n vs H Q
abbrev W5:Stmt:=Yx (U3 43) 10
theorem sc_Reader_group:FnScope ["self","number"] ["self"] (Zc W5):=U5
theorem Zfq{n L:Nat}(MTR:TxtR K CR)(O_Reader_within:OwnM P w K mg base L CR "within" ["self","close"] (Zc0 CR n))(F:Fun K "group" "Reader.group" W5 f fd):FnOk P w K mg base V1 (L+1) f fd ["self"] (Zew CR n):=by
 refine F.ok sc_Reader_group (fun vs H Q E h=>?_) (fun cdv A outer s H vs Q E hr h=>?_)
 ·obtain⟨e,he,m,dx,t,p,i,c,c',d,rfl,_⟩:=h
  rfl
 obtain⟨e,he,m,dx,t,p,i,c,c',d,rfl,hR,hA,hC,hd,q⟩:=h
 refine U4 ?_
 intro Xz
 refine⟨_,(Z3 (U0 (pv 0) Z5 Z3i)
  (Z3 (pS 1 sc_Reader_group.nd (Z18 (pv 0) rfl))
  (Z6 (Zd (Zr (Z0 Z8 (Z0 (pv 1) (Z0 (Yb (O_Reader_within.mono (by omega)) MTR.cl hr (pv 0) (Z0 Z8 Z2)) Z2)))))))),?_⟩
 refine Z3a ?_
 intro Ez Az1 Az2
 refine Zg rfl ⟨m,CR,dx,_,_,rfl,hR.1,MTR.cl,MTR.a3,Z1z,Ud rfl rfl ⟨dx,_,hR.1,by show 4<1000;decide,?_⟩⟩
 rw[Z7j]
 have g1:Gro [m] H (Y2 H m (.ins CR dx (Z2a t i (c+1) d))):=Gro.objR hR.1
 have hR1:Vl CR (Y2 H m (.ins CR dx (Z2a t i (c+1) d))) m dx t i (c+1) d:=⟨Z1,hR.2⟩
 generalize Y2 H m (.ins CR dx (Z2a t i (c+1) d))=H1 at *
 refine Zg rfl ⟨m,CR,dx,_,_,rfl,hR1.1,MTR.cl,MTR.a3,Z1z,?_⟩
 refine Zg rfl (Zg rfl ⟨m,dx,Zg rfl ⟨hR1.1,Zp (by decide +kernel),e,he,m,dx,t,_,p,i,c+1,c',d,rfl,hR1,Zai,.inr (.inl rfl),hA,hC,hd,fun v H2 hP hR2 g2=>⟨sz,fun a ha=>?_⟩⟩⟩)
 have g3:=Gro.new (S:=[]) ha (.tup [.str "group",.int (c+1),v])
 exact q a v _ Z1 (hP.mono g3.tups) ⟨g3.keep _ _ hR2.1 (by simp),hR2.2⟩ ((g1.trans g2).trans (Gro.new ha _))
end
def Lk.ix:Lk->Nat
 |.once=>0 | .ahead=>1 | .notahead=>2 | .behind=>3 | .notbehind=>4
theorem Lk.ix_lt(l:Lk):l.ix<5:=by cases l <;> decide
theorem Za1{j:Nat}{x:V}(h:(bracketsT.map fun p=>kV p.1)[j]? = some x):∃l:Lk,x=.str l.text/\l.ix=j/\X4 bracketsT (.inr l.text)=some (.str l.sign):=by
 have hj:j<5:=(List.getElem?_eq_some_iff.mp h).1
 rcases(show j=0∨j=1∨j=2∨j=3∨j=4 by omega) with rfl | rfl | rfl | rfl | rfl
 ·exact⟨.once,(Option.some.inj h).symm,rfl,by decide +kernel⟩
 ·exact⟨.ahead,(Option.some.inj h).symm,rfl,by decide +kernel⟩
 ·exact⟨.notahead,(Option.some.inj h).symm,rfl,by decide +kernel⟩
 ·exact⟨.behind,(Option.some.inj h).symm,rfl,by decide +kernel⟩
 ·exact⟨.notbehind,(Option.some.inj h).symm,rfl,by decide +kernel⟩
theorem Zft:∀ {l l':Lk},l.ix≠l'.ix->l.sign≠l'.sign:=by
 intro l l' h
 cases l <;> cases l' <;> first | exact absurd rfl h | decide +kernel
theorem Z98(l:Lk):l.sign≠":":=by cases l <;> decide +kernel
theorem Z9x{k:Int}(h0:0<=k)(h9:k<=9)(l:Lk):Uc k≠l.sign/\Uc k≠":":=by
 rcases(show k=0∨k=1∨k=2∨k=3∨k=4∨k=5∨k=6∨k=7∨k=8∨k=9 by omega) with rfl | rfl | rfl | rfl | rfl | rfl | rfl | rfl | rfl | rfl <;> cases l <;> decide +kernel
theorem Z52:(":":Str).length=1:=by decide +kernel
section
variable{P:Program}{w:World}{K:W.Frag}{mg:Str->Option Value}{base:Heap}{f CR:Addr}{fd:FuncData}
inductive spBkI(CR:Addr)(n:Nat)(vs:List V)(H:Hp)(Q:VK):Prop
 |wrap (ee:Nat) (_:ee<=n) (m dx:Addr) (t:Str) (p:Pat) (i:Nat) (c c' d:Int) (_:vs=[.ref m]) (_:Vl CR H m dx t i c d) (_:AtT t i (":" ++ (p.txt++">"))) (_:Cn ee c p c') (_:0<=d/\d+1+ee<=8) (_:∀(v:V) (H':Hp),PatAt H' ee v p->Vl CR H' m dx t (i+1+p.txt.length+1) c' d->Gro [m] H H'->Q v H')
 |look (ee:Nat) (_:ee<=n) (m dx:Addr) (t:Str) (l:Lk) (p:Pat) (i:Nat) (c c' d:Int) (_:vs=[.ref m]) (_:Vl CR H m dx t i c d) (_:AtT t i (l.sign++(p.txt++">"))) (_:Cn ee c p c') (_:0<=d/\d+1+ee<=8) (_:∀(a:Addr) (v:V) (H':Hp),H' a=some (.tup [.str l.text,v])->PatAt H' ee v p->Vl CR H' m dx t (i+1+p.txt.length+1) c' d->Gro [m] H H'->Q (.ref a) H')
 |hav (ee:Nat) (_:ee<=n) (m dx:Addr) (t:Str) (k:Int) (y z:Pat) (i:Nat) (c e c' d:Int) (_:vs=[.ref m]) (_:Vl CR H m dx t i c d) (_:0<=k) (_:k<=9) (_:AtT t i (Uc k++(y.txt++("~" ++ (z.txt++">"))))) (_:Cn ee c y e) (_:Cn ee e z c') (_:0<=d/\d+1+ee<=8)
   (_:∀(a:Addr) (v u:V) (H':Hp),H' a=some (.tup [.str "have",.int k,v,u])->PatAt H' ee v y->PatAt H' ee u z->Vl CR H' m dx t (i+1+y.txt.length+1+z.txt.length+1) c' d->Gro [m] H H'->Q (.ref a) H')
def Zex(CR:Addr)(n:Nat):Sp:=fun vs H Q _=>spBkI CR n vs H Q
abbrev Xl:Stmt:=Yx (U3 43) 11
theorem sc_Reader_bracket:FnScope ["self","kind","number","yes"] ["self"] (Zc Xl):=U5
theorem Zfs{n L:Nat}{bk:Addr}(hL:3<=L)(W2:mg "BRACKETS" = some (.ref bk))(hBK:DcK K w bk bracketsT)(MTR:TxtR K CR)(O_Reader_passes:OwnM P w K mg base 2 CR "passes" ["self","sign"] (Vq CR))(O_Reader_digit:OwnM P w K mg base 3 CR "digit" ["self"] (Z4z CR))(O_Reader_within:OwnM P w K mg base L CR "within" ["self","close"] (Zc0 CR n))
  (F:Fun K "bracket" "Reader.bracket" Xl f fd):FnOk P w K mg base V1 (L+1) f fd ["self"] (Zex CR n):=by
 refine F.ok sc_Reader_bracket (fun vs H Q E h=>?_) (fun cdv A outer s H vs Q E hr h=>?_)
 ·rcases h with⟨ee,hee,m,dx,t,p,i,c,c',d,rfl,_⟩ | ⟨ee,hee,m,dx,t,l,p,i,c,c',d,rfl,_⟩ | ⟨ee,hee,m,dx,t,k,y,z,i,c,e,c',d,rfl,_⟩ <;> rfl
 refine U4 ?_
 intro Xz
 refine⟨_,(Z3 (Zq (Yu (Yb (O_Reader_passes.mono (by omega)) MTR.cl hr (pv 0) (Z0 Z8 Z2))) (Z6 (Zd (Yb (O_Reader_within.mono (by omega)) MTR.cl hr (pv 0) (Z0 Z8 Z2)))) Zh)
  (Z3 (V7 PassesOwn.never rfl (Z6p (Y5 (v:=.ref _) rfl W2 rfl)) (pN 1 sc_Reader_bracket.nd) (Z6 (Zq (Yu (Yb (O_Reader_passes.mono (by omega)) MTR.cl hr (pv 0) (Z0 (T2 (Y5 (v:=.ref _) rfl W2 rfl) (pv 1) (fun _ _=>rfl)) Z2))) (Z6 (Zd (Zr (Z0 (pv 1) (Z0 (Yb (O_Reader_within.mono (by omega)) MTR.cl hr (pv 0) (Z0 Z8 Z2)) Z2))))) Zh)))
  (Z3 (pS 2 sc_Reader_bracket.nd (Ye (O_Reader_digit.mono (by omega)) MTR.cl hr (pv 0)))
  (Z3 (pS 3 sc_Reader_bracket.nd (Yb (O_Reader_within.mono (by omega)) MTR.cl hr (pv 0) (Z0 Z8 Z2)))
  (Z6 (Zd (Zr (Z0 Z8 (Z0 (pv 2) (Z0 (pv 3) (Z0 (Yb (O_Reader_within.mono (by omega)) MTR.cl hr (pv 0) (Z0 Z8 Z2)) Z2))))))))))),?_⟩
 refine Zcw ?_
 intro Ez Az1 Az2 Az3 Az4 Az5 Az6 Az7
 rcases h with⟨ee,hee,m,dx,t,p,i,c,c',d,rfl,hR,hA,hC,hd,q⟩ | ⟨ee,hee,m,dx,t,l,p,i,c,c',d,rfl,hR,hA,hC,hd,q⟩ | ⟨ee,hee,m,dx,t,k,y,z,i,c,e,c',d,rfl,hR,h0,h9,hA,hC1,hC2,hd,q⟩
 ·have le:=hA.le (by rw[Za,Z52];omega)
  rw[Za,Za,Z52,Ub]at le
  have ht:=hR.2.1
  have hB:=hA.snd
  rw[Z52]at hB
  refine Zg rfl ⟨m,dx,Zg rfl ⟨hR.1,Zp (by decide +kernel),m,dx,t,_,i,c,d,rfl,hR,by omega,fun _ H1 hR1 g1=>Zg rfl (Zm rfl ?_),fun z=>absurd (hA.sg Z52) z⟩⟩
  exact Zg rfl ⟨m,dx,Zg rfl ⟨hR1.1,Zp (by decide +kernel),ee,hee,m,dx,t,_,p,i+1,c,c',d,rfl,hR1,Ub,.inr (.inr (.inr rfl)),hB,hC,hd,fun v H2 hP hR2 g2=>q v H2 hP hR2 (g1.trans g2)⟩⟩
 ·have le:=hA.le (by rw[Za,Ux];omega)
  rw[Za,Za,Ux,Ub]at le
  have ht:=hR.2.1
  have hs:=hA.sg (Ux l)
  have hB:=hA.snd
  rw[Ux]at hB
  refine Zg rfl ⟨m,dx,Zg rfl ⟨hR.1,Zp (by decide +kernel),m,dx,t,_,i,c,d,rfl,hR,by omega,fun z=>absurd (hs.symm.trans z) (Z98 l),fun _=>Zg rfl (Z7 (by decide) ?_)⟩⟩
  refine⟨bk,bracketsT,rfl,hBK,?_⟩
  refine Ty (fun j σ H'=>(∃u:Option V,σ=[some (.ref m),u,none,none])/\H'=H/\j<=l.ix) ⟨⟨none,rfl⟩,rfl,Nat.zero_le _⟩ ?_ ?_
  ·rintro j x σ H' hx ⟨⟨u,rfl⟩,rfl,hj⟩
   obtain⟨l',rfl,hl',hv⟩:=Za1 hx
   by_cases e:l'=l
   ·subst e
    refine Zg rfl ⟨m,dx,Zg rfl ⟨hR.1,Zp (by decide +kernel),Zg rfl ⟨bk,bracketsT,.inr l'.text,.str l'.sign,rfl,hBK,rfl,hv,m,dx,t,_,i,c,d,rfl,hR,by omega,fun _ H1 hR1 g1=>Zg rfl (Zm rfl ?_),fun z=>absurd hs z⟩⟩⟩
    refine Zg rfl (Zg rfl ⟨m,dx,Zg rfl ⟨hR1.1,Zp (by decide +kernel),ee,hee,m,dx,t,_,p,i+1,c,c',d,rfl,hR1,Ub,.inr (.inr (.inr rfl)),hB,hC,hd,fun v H2 hP hR2 g2=>⟨sz,fun a ha=>?_⟩⟩⟩)
    have g3:=Gro.new (S:=[]) ha (.tup [.str l'.text,v])
    exact q a v _ Z1 (hP.mono g3.tups) ⟨g3.keep _ _ hR2.1 (by simp),hR2.2⟩ ((g1.trans g2).trans (Gro.new ha _))
   ·have hne:l.ix≠l'.ix:=fun z=>e (by cases l <;> cases l' <;> first | rfl | cases z)
    refine Zg rfl ⟨m,dx,Zg rfl ⟨hR.1,Zp (by decide +kernel),Zg rfl ⟨bk,bracketsT,.inr l'.text,.str l'.sign,rfl,hBK,rfl,hv,m,dx,t,_,i,c,d,rfl,hR,by omega,fun z=>absurd (hs.symm.trans z) (Zft hne),fun _=>Zg rfl (Z7 (by decide) ?_)⟩⟩⟩
    exact⟨⟨_,rfl⟩,rfl,by omega⟩
  ·rintro σ H' ⟨_,_,hj⟩
   have:=l.ix_lt
   have hj':5<=l.ix:=hj
   omega
 ·have ln:=(Ju h0 h9).2
  have le:=hA.le (by rw[Za,ln];omega)
  rw[Za,Za,Za,Za,ln,Uk,Ub]at le
  have ht:=hR.2.1
  have hs:=hA.sg ln
  have hB:=hA.snd
  rw[ln]at hB
  have hB1:AtT t (i+1) (y.txt++"~"):=by
   rw[← Zv]at hB
   exact hB.fst
  have hB2:AtT t (i+1+y.txt.length+1) (z.txt++">"):=by
   rw[← Zv]at hB
   have:=hB.snd
   rw[Za,Uk,← Nat.add_assoc]at this
   exact this
  refine Zg rfl ⟨m,dx,Zg rfl ⟨hR.1,Zp (by decide +kernel),m,dx,t,_,i,c,d,rfl,hR,by omega,fun z=>absurd (hs.symm.trans z) (Z9x h0 h9 .once).2,fun _=>Zg rfl (Z7 (by decide) ?_)⟩⟩
  refine⟨bk,bracketsT,rfl,hBK,?_⟩
  refine Ty (fun j σ H'=>(∃u:Option V,σ=[some (.ref m),u,none,none])/\H'=H) ⟨⟨none,rfl⟩,rfl⟩ ?_ ?_
  ·rintro j x σ H' hx ⟨⟨u,rfl⟩,rfl⟩
   obtain⟨l',rfl,hl',hv⟩:=Za1 hx
   refine Zg rfl ⟨m,dx,Zg rfl ⟨hR.1,Zp (by decide +kernel),Zg rfl ⟨bk,bracketsT,.inr l'.text,.str l'.sign,rfl,hBK,rfl,hv,m,dx,t,_,i,c,d,rfl,hR,by omega,fun z=>absurd (hs.symm.trans z) (Z9x h0 h9 l').1,fun _=>Zg rfl (Z7 (by decide) ?_)⟩⟩⟩
   exact⟨⟨_,rfl⟩,rfl⟩
  ·rintro σ H' ⟨⟨u,rfl⟩,rfl⟩
   refine Zg rfl ⟨m,dx,Zg rfl ⟨hR.1,Zp (by decide +kernel),m,dx,t,i,k,c,d,rfl,hR,by omega,h0,h9,hs,fun H1 hR1 g1=>?_⟩⟩
   refine Zg rfl ⟨m,dx,Zg rfl ⟨hR1.1,Zp (by decide +kernel),ee,hee,m,dx,t,_,y,i+1,c,e,d,rfl,hR1,Uk,.inr (.inr (.inl rfl)),hB1,hC1,hd,fun v H2 hP hR2 g2=>?_⟩⟩
   refine Zg rfl (Zg rfl (Zg rfl ⟨m,dx,Zg rfl ⟨hR2.1,Zp (by decide +kernel),ee,hee,m,dx,t,_,z,_,e,c',d,rfl,hR2,Ub,.inr (.inr (.inr rfl)),hB2,hC2,hd,fun u' H3 hP3 hR3 g3=>⟨sz,fun a ha=>?_⟩⟩⟩))
   have g4:=Gro.new (S:=[]) ha (.tup [.str "have",.int k,v,u'])
   exact q a v u' _ Z1 ((hP.mono g3.tups).mono g4.tups) (hP3.mono g4.tups) ⟨g4.keep _ _ hR3.1 (by simp),hR3.2⟩ (((g1.trans g2).trans g3).trans (Gro.new ha _))
end
theorem Za4{j:Nat}{x:V}(h:(bareT.map fun p=>kV p.1)[j]? = some x):∃k s:Str,x=.str k/\X4 bareT (.inr k)=some (.str s)/\((j=0/\k="any"/\s=".")∨(j=1/\k="begin"/\s="^")∨(j=2/\k="end"/\s="$")):=by
 have hj:j<3:=(List.getElem?_eq_some_iff.mp h).1
 rcases(show j=0∨j=1∨j=2 by omega) with rfl | rfl | rfl
 ·exact⟨"any",".",(Option.some.inj h).symm,by decide +kernel,.inl ⟨rfl,rfl,rfl⟩⟩
 ·exact⟨"begin","^",(Option.some.inj h).symm,by decide +kernel,.inr (.inl ⟨rfl,rfl,rfl⟩)⟩
 ·exact⟨"end","$",(Option.some.inj h).symm,by decide +kernel,.inr (.inr ⟨rfl,rfl,rfl⟩)⟩
section
variable{P:Program}{w:World}{K:W.Frag}{mg:Str->Option Value}{base:Heap}{f CR:Addr}{fd:FuncData}
inductive spSiI(CR:Addr)(n:Nat)(vs:List V)(H:Hp)(Q:VK):Prop
 |bare (ee:Nat) (_:ee<=n) (m dx:Addr) (t:Str) (q:Pat) (i:Nat) (c c' d:Int) (_:vs=[.ref m]) (_:Vl CR H m dx t i c d) (_:i<t.length) (_:AtT t i q.txt) (_:Cn (ee+1) c q c') (_:q.word≠"row"/\q.word≠"or"/\q.word≠"times") (_:0<=d/\d+1+ee<=8) (_:∀(v:V) (H':Hp),PatAt H' (ee+1) v q->Vl CR H' m dx t (i+q.txt.length) c' d->Gro [m] H H'->Q v H')
 |wrap (ee:Nat) (_:ee<=n) (m dx:Addr) (t:Str) (q:Pat) (i:Nat) (c c' d:Int) (_:vs=[.ref m]) (_:Vl CR H m dx t i c d) (_:AtT t i (("<:" ++ q.txt)++">")) (_:Cn ee c q c') (_:0<=d/\d+1+ee<=8) (_:∀(v:V) (H':Hp),PatAt H' ee v q->Vl CR H' m dx t (i+(("<:" ++ q.txt)++">").length) c' d->Gro [m] H H'->Q v H')
def Zeo(CR:Addr)(n:Nat):Sp:=fun vs H Q _=>spSiI CR n vs H Q
abbrev Xw:Stmt:=Yx (U3 43) 8
theorem sc_Reader_single:FnScope ["self","kind"] ["self"] (Zc Xw):=U5
theorem Zfl{n L:Nat}{ba:Addr}{t1:Tok}(hL:5<=L)(T0:mg "BARE" = some (.ref ba))(hBA:DcK K w ba bareT)(Vb:mg "STROKED" = some (.str stroked t1))(MTR:TxtR K CR)(O_Reader_passes:OwnM P w K mg base 2 CR "passes" ["self","sign"] (Vq CR))(O_Reader_digit:OwnM P w K mg base 3 CR "digit" ["self"] (Z4z CR))(O_Reader_sign:OwnM P w K mg base 3 CR "sign" ["self","stroked"] (Z75 CR))
  (O_Reader_listed:OwnM P w K mg base 5 CR "listed" ["self"] (Z64 CR)) (O_Reader_group:OwnM P w K mg base L CR "group" ["self"] (Zew CR n)) (O_Reader_bracket:OwnM P w K mg base L CR "bracket" ["self"] (Zex CR n))
  (F:Fun K "single" "Reader.single" Xw f fd):FnOk P w K mg base V1 (L+1) f fd ["self"] (Zeo CR n):=by
 refine F.ok sc_Reader_single (fun vs H Q E h=>?_) (fun cdv A outer s H vs Q E hr h=>?_)
 ·rcases h with⟨ee,hee,m,dx,t,p,i,c,c',d,rfl,_⟩ | ⟨ee,hee,m,dx,t,p,i,c,c',d,rfl,_⟩ <;> rfl
 refine U4 ?_
 intro Xz
 refine⟨_,(Z3 (Zq (Yu (Yb (O_Reader_passes.mono (by omega)) MTR.cl hr (pv 0) (Z0 Z8 Z2))) (Z6 (Zd (Ye (O_Reader_group.mono (by omega)) MTR.cl hr (pv 0)))) Zh)
  (Z3 (Zq (Yu (Yb (O_Reader_passes.mono (by omega)) MTR.cl hr (pv 0) (Z0 Z8 Z2))) (Z6 (Zd (Ye (O_Reader_bracket.mono (by omega)) MTR.cl hr (pv 0)))) Zh)
  (Z3 (Zq (Yu (Yb (O_Reader_passes.mono (by omega)) MTR.cl hr (pv 0) (Z0 Z8 Z2))) (Z6 (Zd (Ye (O_Reader_listed.mono (by omega)) MTR.cl hr (pv 0)))) Zh)
  (Z3 (Zq (Yu (Yb (O_Reader_passes.mono (by omega)) MTR.cl hr (pv 0) (Z0 Z8 Z2))) (Z6 (Zd (Zr (Z0 Z8 (Z0 (Ye (O_Reader_digit.mono (by omega)) MTR.cl hr (pv 0)) Z2))))) Zh)
  (Z3 (V7 PassesOwn.never rfl (Z6p (Y5 (v:=.ref _) rfl T0 rfl)) (pN 1 sc_Reader_single.nd) (Z6 (Zq (Yu (Yb (O_Reader_passes.mono (by omega)) MTR.cl hr (pv 0) (Z0 (T2 (Y5 (v:=.ref _) rfl T0 rfl) (pv 1) (fun _ _=>rfl)) Z2))) (Z6 (Zd (Zr (Z0 (pv 1) Z2)))) Zh)))
  (Z6 (Zd (Zr (Z0 Z8 (Z0 (Yb (O_Reader_sign.mono (by omega)) MTR.cl hr (pv 0) (Z0 (Y5 (v:=.str _) rfl Vb ⟨_,rfl⟩) Z2)) Z2)))))))))),?_⟩
 refine Zcz ?_
 intro Ez Az1 Az2 Az3 Az4 Az5 Az6 Az7 Az8 Az9 Az10 Az11
 rcases h with⟨ee,hee,m,dx,t,p,i,c,c',d,rfl,hR,hi,hA,hC,hw,hd,q⟩ | ⟨ee,hee,m,dx,t,p,i,c,c',d,rfl,hR,hA,hC,hd,q⟩
 case wrap =>
  have e0:("<:":Str)="<" ++ ":":=by decide +kernel
  have hA':AtT t i ("<" ++ (":" ++ (p.txt++">"))):=by rw[e0,Zv,Zv]at hA;exact hA
  have le:=hA'.le (by rw[Za,We];omega)
  rw[Za,Za,Za,We,Z52,Ub]at le
  have ht:=hR.2.1
  have hs:=hA'.sg We
  have hB:=hA'.snd
  rw[We]at hB
  have el:i+(("<:" ++ p.txt)++">").length=i+1+1+p.txt.length+1:=by rw[Za,Za,Z8e,Ub];omega
  rw[el]at q
  refine Zg rfl ⟨m,dx,Zg rfl ⟨hR.1,Zp (by decide +kernel),m,dx,t,_,i,c,d,rfl,hR,by omega,fun z=>absurd (hs.symm.trans z) (by decide +kernel),fun _=>Zg rfl (Z7 (by decide) ?_)⟩⟩
  refine Zg rfl ⟨m,dx,Zg rfl ⟨hR.1,Zp (by decide +kernel),m,dx,t,_,i,c,d,rfl,hR,by omega,fun _ H1 hR1 g1=>Zg rfl (Zm rfl ?_),fun z=>absurd hs z⟩⟩
  exact Zg rfl ⟨m,dx,Zg rfl ⟨hR1.1,Zp (by decide +kernel),.wrap ee hee m dx t p (i+1) c c' d rfl hR1 hB hC hd fun v H2 hP hR2 g2=>q v H2 hP hR2 (g1.trans g2)⟩⟩
 have ht:=hR.2.1
 obtain⟨h,ks⟩:=p
 rw[X0]at hA
 rw[X0]at q
 have no4:(U8 t i≠"("/\U8 t i≠"<"/\U8 t i≠"["/\U8 t i≠"&")->Az8 Ez [some (.ref m),none] H->Az11 Ez [some (.ref m),none] H:=fun z hz=>by
  refine Zg rfl ⟨m,dx,Zg rfl ⟨hR.1,Zp (by decide +kernel),m,dx,t,_,i,c,d,rfl,hR,by omega,fun y=>absurd y z.2.1,fun _=>Zg rfl (Z7 (by decide) ?_)⟩⟩
  refine Zg rfl ⟨m,dx,Zg rfl ⟨hR.1,Zp (by decide +kernel),m,dx,t,_,i,c,d,rfl,hR,by omega,fun y=>absurd y z.2.2.1,fun _=>Zg rfl (Z7 (by decide) ?_)⟩⟩
  refine Zg rfl ⟨m,dx,Zg rfl ⟨hR.1,Zp (by decide +kernel),m,dx,t,_,i,c,d,rfl,hR,by omega,fun y=>absurd y z.2.2.2,fun _=>Zg rfl (Z7 (by decide) ?_)⟩⟩
  exact hz
 have bare:∀(jx:Nat) (k0 s0:Str),((jx=0/\k0="any"/\s0=".")∨(jx=1/\k0="begin"/\s0="^")∨(jx=2/\k0="end"/\s0="$"))->U8 t i=s0->(∀(H':Hp) (a:Addr),H' a=some (.tup [.str k0])->Vl CR H' m dx t (i+1) c d->Gro [m] H H'->Q (.ref a) H')->Az8 Ez [some (.ref m),none] H:=by
  intro jx k0 s0 hj0 hs qq
  refine⟨ba,bareT,rfl,hBA,?_⟩
  refine Ty (fun j σ H'=>(∃u:Option V,σ=[some (.ref m),u])/\H'=H/\j<=jx) ⟨⟨none,rfl⟩,rfl,Nat.zero_le _⟩ ?_ ?_
  ·rintro j x σ H' hx ⟨⟨u,rfl⟩,rfl,hj⟩
   obtain⟨k,s2,rfl,hv,hcase⟩:=Za4 hx
   by_cases e:j=jx
   ·have e2:k=k0/\s2=s0:=by
     rcases hcase with⟨h1,rfl,rfl⟩ | ⟨h1,rfl,rfl⟩ | ⟨h1,rfl,rfl⟩ <;> rcases hj0 with⟨h2,rfl,rfl⟩ | ⟨h2,rfl,rfl⟩ | ⟨h2,rfl,rfl⟩ <;> first | exact⟨rfl,rfl⟩ | omega
    obtain⟨rfl,rfl⟩:=e2
    refine Zg rfl ⟨m,dx,Zg rfl ⟨hR.1,Zp (by decide +kernel),Zg rfl ⟨ba,bareT,.inr k,.str s2,rfl,hBA,rfl,hv,m,dx,t,_,i,c,d,rfl,hR,by omega,fun _ H1 hR1 g1=>Zg rfl (Zm rfl ?_),fun y=>absurd hs y⟩⟩⟩
    refine Zg rfl ⟨sz,fun a ha=>?_⟩
    have g2:=Gro.new (S:=[]) ha (.tup [.str k])
    exact qq _ a Z1 ⟨g2.keep _ _ hR1.1 (by simp),hR1.2⟩ (g1.trans (Gro.new ha _))
   ·have hne:s0≠s2:=by
     rcases hcase with⟨h1,rfl,rfl⟩ | ⟨h1,rfl,rfl⟩ | ⟨h1,rfl,rfl⟩ <;> rcases hj0 with⟨h2,rfl,rfl⟩ | ⟨h2,rfl,rfl⟩ | ⟨h2,rfl,rfl⟩ <;> first | omega | decide +kernel
    refine Zg rfl ⟨m,dx,Zg rfl ⟨hR.1,Zp (by decide +kernel),Zg rfl ⟨ba,bareT,.inr k,.str s2,rfl,hBA,rfl,hv,m,dx,t,_,i,c,d,rfl,hR,by omega,fun y=>absurd (hs.symm.trans y) hne,fun _=>Zg rfl (Z7 (by decide) ?_)⟩⟩⟩
    exact⟨⟨_,rfl⟩,rfl,by omega⟩
  ·rintro σ H' ⟨_,_,hj⟩
   have hj':3<=jx:=hj
   omega
 cases h with
 |sign s1 =>
  obtain⟨rfl,hs1,rfl⟩:=hC
  have hA1:AtT t i (sg s1 stroked):=hA
  have hA':AtT t i (sg s1 stroked++""):=by rw[J6];exact hA1
  have ne:∀x,within x stroked=true->x ≠ "\\"->U8 t i≠x:=fun x h1 h2=>Z1i hA' hs1 h1 h2
  refine Zg rfl ⟨m,dx,Zg rfl ⟨hR.1,Zp (by decide +kernel),m,dx,t,_,i,c',d,rfl,hR,by omega,fun y=>absurd y (ne "(" (by decide +kernel) (by decide +kernel)),fun _=>Zg rfl (Z7 (by decide) ?_)⟩⟩
  refine no4 ⟨ne "(" (by decide +kernel) (by decide +kernel),ne "<" (by decide +kernel) (by decide +kernel),ne "[" (by decide +kernel) (by decide +kernel),ne "&" (by decide +kernel) (by decide +kernel)⟩ ?_
  refine⟨ba,bareT,rfl,hBA,?_⟩
  refine Ty (fun j σ H'=>(∃u:Option V,σ=[some (.ref m),u])/\H'=H) ⟨⟨none,rfl⟩,rfl⟩ ?_ ?_
  ·rintro j x σ H' hx ⟨⟨u,rfl⟩,rfl⟩
   obtain⟨k,s2,rfl,hv,hcase⟩:=Za4 hx
   have hne:U8 t i≠s2:=by rcases hcase with⟨_,_,rfl⟩ | ⟨_,_,rfl⟩ | ⟨_,_,rfl⟩ <;> exact ne _ (by decide +kernel) (by decide +kernel)
   refine Zg rfl ⟨m,dx,Zg rfl ⟨hR.1,Zp (by decide +kernel),Zg rfl ⟨ba,bareT,.inr k,.str s2,rfl,hBA,rfl,hv,m,dx,t,_,i,c',d,rfl,hR,by omega,fun y=>absurd y hne,fun _=>Zg rfl (Z7 (by decide) ?_)⟩⟩⟩
   exact⟨⟨_,rfl⟩,rfl⟩
  ·rintro σ H' ⟨⟨u,rfl⟩,rfl⟩
   refine Zg rfl ⟨m,dx,Zg rfl ⟨hR.1,Zp (by decide +kernel),m,dx,t,s1,_,i,c',d,rfl,hR,by omega,hs1,.inl rfl,hA1,fun H1 hR1 g1=>⟨sz,fun a ha=>?_⟩⟩⟩
   have g2:=Gro.new (S:=[]) ha (.tup [.str "sign",.str s1])
   exact q _ _ ⟨a,[],rfl,⟨rfl,hs1,Z1⟩,.nil⟩ ⟨g2.keep _ _ hR1.1 (by simp),hR1.2⟩ (g1.trans (Gro.new ha _))
 |any =>
  obtain⟨rfl,rfl⟩:=hC
  have hs:U8 t i=".":=AtT.sg1 hA Z79
  refine Zg rfl ⟨m,dx,Zg rfl ⟨hR.1,Zp (by decide +kernel),m,dx,t,_,i,c',d,rfl,hR,by omega,fun y=>absurd y (by rw[hs];decide +kernel),fun _=>Zg rfl (Z7 (by decide) ?_)⟩⟩
  exact no4 (by rw[hs];decide +kernel) (bare 0 _ _ (.inl ⟨rfl,rfl,rfl⟩) hs fun H' a ha hR' g=>q _ _ ⟨a,[],rfl,⟨rfl,ha⟩,.nil⟩ hR' g)
 |beg =>
  obtain⟨rfl,rfl⟩:=hC
  have hs:U8 t i="^":=AtT.sg1 hA Z2p
  refine Zg rfl ⟨m,dx,Zg rfl ⟨hR.1,Zp (by decide +kernel),m,dx,t,_,i,c',d,rfl,hR,by omega,fun y=>absurd y (by rw[hs];decide +kernel),fun _=>Zg rfl (Z7 (by decide) ?_)⟩⟩
  exact no4 (by rw[hs];decide +kernel) (bare 1 _ _ (.inr (.inl ⟨rfl,rfl,rfl⟩)) hs fun H' a ha hR' g=>q _ _ ⟨a,[],rfl,⟨rfl,ha⟩,.nil⟩ hR' g)
 |fin =>
  obtain⟨rfl,rfl⟩:=hC
  have hs:U8 t i="$":=AtT.sg1 hA Z7a
  refine Zg rfl ⟨m,dx,Zg rfl ⟨hR.1,Zp (by decide +kernel),m,dx,t,_,i,c',d,rfl,hR,by omega,fun y=>absurd y (by rw[hs];decide +kernel),fun _=>Zg rfl (Z7 (by decide) ?_)⟩⟩
  exact no4 (by rw[hs];decide +kernel) (bare 2 _ _ (.inr (.inr ⟨rfl,rfl,rfl⟩)) hs fun H' a ha hR' g=>q _ _ ⟨a,[],rfl,⟨rfl,ha⟩,.nil⟩ hR' g)
 |inn rs =>
  obtain⟨rfl,h20,hrs,rfl⟩:=hC
  have hA':AtT t i ("[" ++ (Z5v false++(jn rs++"]"))):=by
   show AtT t i ("[" ++ (("":Str)++(jn rs++"]")))
   rw[Ug,← Zv]
   exact hA
  have le:=hA'.le (by rw[Za,Jv];omega)
  rw[Za,Za,Za,Jv,Z1d]at le
  have hs:=hA'.sg Jv
  have hB:=hA'.snd
  rw[Jv]at hB
  refine Zg rfl ⟨m,dx,Zg rfl ⟨hR.1,Zp (by decide +kernel),m,dx,t,_,i,c',d,rfl,hR,by omega,fun y=>absurd (hs.symm.trans y) (by decide +kernel),fun _=>Zg rfl (Z7 (by decide) ?_)⟩⟩
  refine Zg rfl ⟨m,dx,Zg rfl ⟨hR.1,Zp (by decide +kernel),m,dx,t,_,i,c',d,rfl,hR,by omega,fun y=>absurd (hs.symm.trans y) (by decide +kernel),fun _=>Zg rfl (Z7 (by decide) ?_)⟩⟩
  refine Zg rfl ⟨m,dx,Zg rfl ⟨hR.1,Zp (by decide +kernel),m,dx,t,_,i,c',d,rfl,hR,by omega,fun _ H1 hR1 g1=>Zg rfl (Zm rfl ?_),fun y=>absurd hs y⟩⟩
  refine Zg rfl ⟨m,dx,Zg rfl ⟨hR1.1,Zp (by decide +kernel),m,dx,t,false,rs,i+1,c',d,rfl,hR1,by omega,h20,hrs,hB,fun a rt H2 ha hrt hR2 g2=>?_⟩⟩
  refine q _ _ ⟨a,[],rfl,⟨rfl,rt,ha,hrt⟩,.nil⟩ ?_ (g1.trans g2)
  have el:i+1+(Z5v false++(jn rs++"]")).length=i+(Hd.txt (.inn rs) (([]:List Pat).map Pat.wt)).length:=by
   show i+1+(("":Str)++(jn rs++"]")).length=i+(("[" ++ jn rs)++"]").length
   rw[Ug,Za,Za,Za,Jv]
   omega
  rw[← el]
  exact hR2
 |out rs =>
  obtain⟨rfl,h20,hrs,rfl⟩:=hC
  have e0:("[^":Str)="[" ++ "^":=by decide +kernel
  have hA1:AtT t i (("[^" ++ jn rs)++"]"):=hA
  have hA':AtT t i ("[" ++ (Z5v true++(jn rs++"]"))):=by
   show AtT t i ("[" ++ ("^" ++ (jn rs++"]")))
   rw[e0,Zv,Zv]at hA1
   exact hA1
  have le:=hA'.le (by rw[Za,Jv];omega)
  rw[Za,Za,Za,Jv,Z1d]at le
  have hs:=hA'.sg Jv
  have hB:=hA'.snd
  rw[Jv]at hB
  refine Zg rfl ⟨m,dx,Zg rfl ⟨hR.1,Zp (by decide +kernel),m,dx,t,_,i,c',d,rfl,hR,by omega,fun y=>absurd (hs.symm.trans y) (by decide +kernel),fun _=>Zg rfl (Z7 (by decide) ?_)⟩⟩
  refine Zg rfl ⟨m,dx,Zg rfl ⟨hR.1,Zp (by decide +kernel),m,dx,t,_,i,c',d,rfl,hR,by omega,fun y=>absurd (hs.symm.trans y) (by decide +kernel),fun _=>Zg rfl (Z7 (by decide) ?_)⟩⟩
  refine Zg rfl ⟨m,dx,Zg rfl ⟨hR.1,Zp (by decide +kernel),m,dx,t,_,i,c',d,rfl,hR,by omega,fun _ H1 hR1 g1=>Zg rfl (Zm rfl ?_),fun y=>absurd hs y⟩⟩
  refine Zg rfl ⟨m,dx,Zg rfl ⟨hR1.1,Zp (by decide +kernel),m,dx,t,true,rs,i+1,c',d,rfl,hR1,by omega,h20,hrs,hB,fun a rt H2 ha hrt hR2 g2=>?_⟩⟩
  refine q _ _ ⟨a,[],rfl,⟨rfl,rt,ha,hrt⟩,.nil⟩ ?_ (g1.trans g2)
  have el:i+1+(Z5v true++(jn rs++"]")).length=i+(Hd.txt (.out rs) (([]:List Pat).map Pat.wt)).length:=by
   show i+1+("^" ++ (jn rs++"]")).length=i+(("[^" ++ jn rs)++"]").length
   rw[Za,Za,Za,Za,Z2p,Z78]
   omega
  rw[← el]
  exact hR2
 |row=>exact absurd rfl hw.1
 |alt=>exact absurd rfl hw.2.1
 |times lo hi how=>exact absurd rfl hw.2.2
 |grp j =>
  obtain⟨k,rfl,rfl,hc0,hc9,hC'⟩:=hC
  have hA1:AtT t i (("(" ++ k.txt)++")"):=hA
  have hA':AtT t i ("(" ++ (k.txt++")")):=by rw[Zv]at hA1;exact hA1
  have hs:=hA'.sg Z4v
  have hB:=hA'.snd
  rw[Z4v]at hB
  refine Zg rfl ⟨m,dx,Zg rfl ⟨hR.1,Zp (by decide +kernel),m,dx,t,_,i,c,d,rfl,hR,by omega,fun _ H1 hR1 g1=>Zg rfl (Zm rfl ?_),fun y=>absurd hs y⟩⟩
  refine Zg rfl ⟨m,dx,Zg rfl ⟨hR1.1,Zp (by decide +kernel),ee,hee,m,dx,t,k,i+1,c,c',d,rfl,hR1,hB,hC',hd,fun a v H2 ha hP hR2 g2=>?_⟩⟩
  refine q _ _ ⟨a,[v],rfl,⟨⟨by omega,by omega⟩,v,rfl,ha⟩,.cons hP .nil⟩ ?_ (g1.trans g2)
  have el:i+1+k.txt.length+1=i+(Hd.txt (.grp (c+1)) ([k].map Pat.wt)).length:=by
   show i+1+k.txt.length+1=i+(("(" ++ k.txt)++")").length
   rw[Za,Za,Z4v,Zai]
   omega
  rw[← el]
  exact hR2
 |again j =>
  obtain⟨rfl,h0,h9,rfl⟩:=hC
  have hA1:AtT t i ("&" ++ Uc j):=hA
  have ln:=(Ju h0 h9).2
  have hs:=hA1.sg Z1g
  have hB:=hA1.snd
  rw[Z1g]at hB
  refine Zg rfl ⟨m,dx,Zg rfl ⟨hR.1,Zp (by decide +kernel),m,dx,t,_,i,c',d,rfl,hR,by omega,fun y=>absurd (hs.symm.trans y) (by decide +kernel),fun _=>Zg rfl (Z7 (by decide) ?_)⟩⟩
  refine Zg rfl ⟨m,dx,Zg rfl ⟨hR.1,Zp (by decide +kernel),m,dx,t,_,i,c',d,rfl,hR,by omega,fun y=>absurd (hs.symm.trans y) (by decide +kernel),fun _=>Zg rfl (Z7 (by decide) ?_)⟩⟩
  refine Zg rfl ⟨m,dx,Zg rfl ⟨hR.1,Zp (by decide +kernel),m,dx,t,_,i,c',d,rfl,hR,by omega,fun y=>absurd (hs.symm.trans y) (by decide +kernel),fun _=>Zg rfl (Z7 (by decide) ?_)⟩⟩
  refine Zg rfl ⟨m,dx,Zg rfl ⟨hR.1,Zp (by decide +kernel),m,dx,t,_,i,c',d,rfl,hR,by omega,fun _ H1 hR1 g1=>Zg rfl (Zm rfl ?_),fun y=>absurd hs y⟩⟩
  refine Zg rfl ⟨m,dx,Zg rfl ⟨hR1.1,Zp (by decide +kernel),m,dx,t,i+1,j,c',d,rfl,hR1,by omega,h0,h9,hB.sg1 ln,fun H2 hR2 g2=>⟨sz,fun a ha=>?_⟩⟩⟩
  have g3:=Gro.new (S:=[]) ha (.tup [.str "again",.int j])
  refine q _ _ ⟨a,[],rfl,⟨⟨by omega,by omega⟩,rfl,Z1⟩,.nil⟩ ?_ ((g1.trans g2).trans (Gro.new ha _))
  have el:i+1+1=i+(Hd.txt (.again j) (([]:List Pat).map Pat.wt)).length:=by
   show i+1+1=i+("&" ++ Uc j).length
   rw[Za,Z1g,ln]
  rw[← el]
  exact⟨g3.keep _ _ hR2.1 (by simp),hR2.2⟩
 |hav j =>
  obtain⟨y,z,e,rfl,h0,h9,hC1,hC2⟩:=hC
  have hA1:AtT t i ((((("<" ++ Uc j)++y.txt)++"~")++z.txt)++">"):=hA
  have ln:=(Ju h0 h9).2
  have hA':AtT t i ("<" ++ (Uc j++(y.txt++("~" ++ (z.txt++">"))))):=by simp only[Zv]at hA1;exact hA1
  have hs:=hA'.sg We
  have hB:=hA'.snd
  rw[We]at hB
  refine Zg rfl ⟨m,dx,Zg rfl ⟨hR.1,Zp (by decide +kernel),m,dx,t,_,i,c,d,rfl,hR,by omega,fun y=>absurd (hs.symm.trans y) (by decide +kernel),fun _=>Zg rfl (Z7 (by decide) ?_)⟩⟩
  refine Zg rfl ⟨m,dx,Zg rfl ⟨hR.1,Zp (by decide +kernel),m,dx,t,_,i,c,d,rfl,hR,by omega,fun _ H1 hR1 g1=>Zg rfl (Zm rfl ?_),fun y=>absurd hs y⟩⟩
  refine Zg rfl ⟨m,dx,Zg rfl ⟨hR1.1,Zp (by decide +kernel),.hav ee hee m dx t j y z (i+1) c e c' d rfl hR1 h0 h9 hB hC1 hC2 hd fun a v u H2 ha hP1 hP2 hR2 g2=>?_⟩⟩
  refine q _ _ ⟨a,[v,u],rfl,⟨⟨by omega,by omega⟩,v,u,rfl,ha⟩,.cons hP1 (.cons hP2 .nil)⟩ ?_ (g1.trans g2)
  have el:i+1+1+y.txt.length+1+z.txt.length+1=i+(Hd.txt (.hav j) ([y,z].map Pat.wt)).length:=by
   show _=i+((((("<" ++ Uc j)++y.txt)++"~")++z.txt)++">").length
   rw[Za,Za,Za,Za,Za,We,ln,Uk,Ub]
   omega
  rw[← el]
  exact hR2
 |look l =>
  obtain⟨k,rfl,hC'⟩:=hC
  have hA1:AtT t i ((("<" ++ l.sign)++k.txt)++">"):=hA
  have hA':AtT t i ("<" ++ (l.sign++(k.txt++">"))):=by simp only[Zv]at hA1;exact hA1
  have hs:=hA'.sg We
  have hB:=hA'.snd
  rw[We]at hB
  refine Zg rfl ⟨m,dx,Zg rfl ⟨hR.1,Zp (by decide +kernel),m,dx,t,_,i,c,d,rfl,hR,by omega,fun y=>absurd (hs.symm.trans y) (by decide +kernel),fun _=>Zg rfl (Z7 (by decide) ?_)⟩⟩
  refine Zg rfl ⟨m,dx,Zg rfl ⟨hR.1,Zp (by decide +kernel),m,dx,t,_,i,c,d,rfl,hR,by omega,fun _ H1 hR1 g1=>Zg rfl (Zm rfl ?_),fun y=>absurd hs y⟩⟩
  refine Zg rfl ⟨m,dx,Zg rfl ⟨hR1.1,Zp (by decide +kernel),.look ee hee m dx t l k (i+1) c c' d rfl hR1 hB hC' hd fun a v H2 ha hP hR2 g2=>?_⟩⟩
  refine q _ _ ⟨a,[v],rfl,⟨v,rfl,ha⟩,.cons hP .nil⟩ ?_ (g1.trans g2)
  have el:i+1+1+k.txt.length+1=i+(Hd.txt (.look l) ([k].map Pat.wt)).length:=by
   show _=i+((("<" ++ l.sign)++k.txt)++">").length
   rw[Za,Za,Za,We,Ux,Ub]
   omega
  rw[← el]
  exact hR2
end
theorem Ta{h:Hd}(z:h.word="times"):∃lo hi how,h=.times lo hi how:=by
 cases h with
 |times lo hi how=>exact⟨lo,hi,how,rfl⟩
 |sign _=>exact absurd (show("sign":Str)="times" from z) (by decide +kernel)
 |any=>exact absurd (show("any":Str)="times" from z) (by decide +kernel)
 |inn _=>exact absurd (show("in":Str)="times" from z) (by decide +kernel)
 |out _=>exact absurd (show("out":Str)="times" from z) (by decide +kernel)
 |beg=>exact absurd (show("begin":Str)="times" from z) (by decide +kernel)
 |fin=>exact absurd (show("end":Str)="times" from z) (by decide +kernel)
 |row=>exact absurd (show("row":Str)="times" from z) (by decide +kernel)
 |alt=>exact absurd (show("or":Str)="times" from z) (by decide +kernel)
 |grp _=>exact absurd (show("group":Str)="times" from z) (by decide +kernel)
 |again _=>exact absurd (show("again":Str)="times" from z) (by decide +kernel)
 |hav _=>exact absurd (show("have":Str)="times" from z) (by decide +kernel)
 |look l =>
  cases l with
  |once=>exact absurd (show("once":Str)="times" from z) (by decide +kernel)
  |ahead=>exact absurd (show("ahead":Str)="times" from z) (by decide +kernel)
  |notahead=>exact absurd (show("notahead":Str)="times" from z) (by decide +kernel)
  |behind=>exact absurd (show("behind":Str)="times" from z) (by decide +kernel)
  |notbehind=>exact absurd (show("notbehind":Str)="times" from z) (by decide +kernel)
theorem Z5w{q:Pat}{ws:List V}(h:Z1u (.str q.word) ws=true):Z0k ws q.wt=("<:" ++ q.txt)++">":=if_pos h
theorem Za6{q:Pat}{ws:List V}(h:¬Z1u (.str q.word) ws=true):Z0k ws q.wt=q.txt:=if_neg h
section
variable{P:Program}{w:World}{K:W.Frag}{mg:Str->Option Value}{base:Heap}{f CR:Addr}{fd:FuncData}
inductive spPtI(CR:Addr)(n:Nat)(vs:List V)(H:Hp)(Q:VK):Prop
 |bare (ee:Nat) (_:ee<=n) (m dx:Addr) (t:Str) (q:Pat) (i:Nat) (c c' d:Int) (_:vs=[.ref m]) (_:Vl CR H m dx t i c d) (_:i<t.length) (_:AtT t i q.txt) (_:U8 t (i+q.txt.length)≠"{") (_:Cn (ee+1) c q c') (_:q.word≠"row"/\q.word≠"or") (_:0<=d/\d+1+ee<=8) (_:∀(v:V) (H':Hp),PatAt H' (ee+1) v q->Vl CR H' m dx t (i+q.txt.length) c' d->Gro [m] H H'->Q v H')
 |wrap (ee:Nat) (_:ee<=n) (m dx:Addr) (t:Str) (q:Pat) (i:Nat) (c c' d:Int) (_:vs=[.ref m]) (_:Vl CR H m dx t i c d) (_:AtT t i (("<:" ++ q.txt)++">")) (_:U8 t (i+(("<:" ++ q.txt)++">").length)≠"{") (_:Cn ee c q c') (_:0<=d/\d+1+ee<=8) (_:∀(v:V) (H':Hp),PatAt H' ee v q->Vl CR H' m dx t (i+(("<:" ++ q.txt)++">").length) c' d->Gro [m] H H'->Q v H')
def Zer(CR:Addr)(n:Nat):Sp:=fun vs H Q _=>spPtI CR n vs H Q
abbrev Wo:Stmt:=Yx (U3 43) 7
theorem sc_Reader_part:FnScope ["self","part"] ["self"] (Zc Wo):=U5
theorem Zfn{n L:Nat}(hL:4<=L)(MTR:TxtR K CR)(O_Reader_passes:OwnM P w K mg base 2 CR "passes" ["self","sign"] (Vq CR))(O_Reader_turns:OwnM P w K mg base 4 CR "turns" ["self","part"] (Z61 CR))(O_Reader_single:OwnM P w K mg base L CR "single" ["self"] (Zeo CR n))
  (F:Fun K "part" "Reader.part" Wo f fd):FnOk P w K mg base V1 (L+1) f fd ["self"] (Zer CR n):=by
 refine F.ok sc_Reader_part (fun vs H Q E h=>?_) (fun cdv A outer s H vs Q E hr h=>?_)
 ·rcases h with⟨ee,hee,m,dx,t,p,i,c,c',d,rfl,_⟩ | ⟨ee,hee,m,dx,t,p,i,c,c',d,rfl,_⟩ <;> rfl
 refine U4 ?_
 intro Xz
 refine⟨_,(Z3 (pS 1 sc_Reader_part.nd (Ye (O_Reader_single.mono (by omega)) MTR.cl hr (pv 0)))
  (Z6 (Zd (W0 (Yu (Yb (O_Reader_passes.mono (by omega)) MTR.cl hr (pv 0) (Z0 Z8 Z2))) (Yb (O_Reader_turns.mono (by omega)) MTR.cl hr (pv 0) (Z0 (pv 1) Z2)) (pv 1))))),?_⟩
 refine Z3b ?_
 intro Ez Az1
 rcases h with⟨ee,hee,m,dx,t,p,i,c,c',d,rfl,hR,hit,hA,hnx,hC,hw,hd,q⟩ | ⟨ee,hee,m,dx,t,p,i,c,c',d,rfl,hR,hA,hnx,hC,hd,q⟩
 case wrap =>
  have le:=hA.le (by rw[Za,Ub];omega)
  have ht:=hR.2.1
  refine Zg rfl ⟨m,dx,Zg rfl ⟨hR.1,Zp (by decide +kernel),.wrap ee hee m dx t p i c c' d rfl hR hA hC hd fun v H1 hP hR1 g1=>?_⟩⟩
  refine Zg rfl ⟨m,dx,Zg rfl ⟨hR1.1,Zp (by decide +kernel),m,dx,t,_,_,c',d,rfl,hR1,by omega,fun z=>absurd z hnx,fun _=>Zg rfl (Z7 (by decide) ?_)⟩⟩
  exact Zg rfl (q v H1 hP hR1 g1)
 have ht:=hR.2.1
 by_cases htm:p.word="times"
 ·obtain⟨h,ks⟩:=p
  obtain⟨lo,hi,how,rfl⟩:=Ta htm
  obtain⟨k,rfl,hlo,hhi,hC'⟩:=hC
  have e0:(Pat.node (.times lo hi how) [k]).txt=Z0k Y7 k.wt++("{" ++ Zcf lo hi how):=by
   rw[X0,← Z8m]
   rfl
  rw[e0]at hA q
  have hB:=hA.snd
  have le:=hB.le (by rw[Za,To];omega)
  rw[Za,To]at le
  have h2:U8 t (i+(Z0k Y7 k.wt).length)="{":=hB.sg To
  have hT:=hB.snd
  rw[To]at hT
  have rest:∀(v:V) (H1:Hp),PatAt H1 ee v k->Vl CR H1 m dx t (i+(Z0k Y7 k.wt).length) c' d->Gro [m] H H1->Az1 Ez [some (.ref m),some v] H1:=by
   intro v H1 hP hR1 g1
   refine Zg rfl ⟨m,dx,Zg rfl ⟨hR1.1,Zp (by decide +kernel),m,dx,t,_,_,c',d,rfl,hR1,by omega,fun _ H2 hR2 g2=>Zg rfl (Zm rfl ?_),fun z=>absurd h2 z⟩⟩
   refine Zg rfl ⟨m,dx,Zg rfl ⟨hR2.1,Zp (by decide +kernel),Zg rfl ⟨m,dx,t,lo,hi,how,v,_,c',d,rfl,hR2,by omega,hlo,hhi,hT,fun a H3 ha hR3 g3=>?_⟩⟩⟩
   refine q _ _ ⟨a,[v],rfl,⟨⟨hlo.1,by omega,fun x hx=>by have:=hhi x hx;omega⟩,v,rfl,ha⟩,.cons ((hP.mono g2.tups).mono g3.tups) .nil⟩ ?_ ((g1.trans g2).trans g3)
   rw[Za,Za,To]
   rw[show i+((Z0k Y7 k.wt).length+(1+(Zcf lo hi how).length))=i+(Z0k Y7 k.wt).length+1+(Zcf lo hi how).length by omega]
   exact hR3
  by_cases hin:Z1u (.str k.word) Y7=true
  ·rw[Z5w hin]at hA rest
   exact Zg rfl ⟨m,dx,Zg rfl ⟨hR.1,Zp (by decide +kernel),.wrap ee hee m dx t k i c c' d rfl hR hA.fst hC' hd fun v H1 hP hR1 g1=>rest v H1 hP hR1 g1⟩⟩
  ·rw[Za6 hin]at hA rest
   have hpos:=hC'.pos
   obtain⟨e',rfl⟩:∃e',ee=e'+1:=⟨ee-1,by omega⟩
   have hkw:k.word≠"row"/\k.word≠"or"/\k.word≠"times":=⟨fun z=>hin (by rw[z];decide +kernel),fun z=>hin (by rw[z];decide +kernel),fun z=>hin (by rw[z];decide +kernel)⟩
   exact Zg rfl ⟨m,dx,Zg rfl ⟨hR.1,Zp (by decide +kernel),.bare e' (by omega) m dx t k i c c' d rfl hR hit hA.fst hC' hkw (by omega) fun v H1 hP hR1 g1=>rest v H1 hP hR1 g1⟩⟩
 ·have tle:i+p.txt.length<=100000:=by
   by_cases z:p.txt.length=0
   ·omega
   ·have:=hA.le (by omega)
    omega
  refine Zg rfl ⟨m,dx,Zg rfl ⟨hR.1,Zp (by decide +kernel),.bare ee hee m dx t p i c c' d rfl hR hit hA hC ⟨hw.1,hw.2,htm⟩ hd fun v H1 hP hR1 g1=>?_⟩⟩
  refine Zg rfl ⟨m,dx,Zg rfl ⟨hR1.1,Zp (by decide +kernel),m,dx,t,_,_,c',d,rfl,hR1,by omega,fun z=>absurd z hnx,fun _=>Zg rfl (Z7 (by decide) ?_)⟩⟩
  exact Zg rfl (q v H1 hP hR1 g1)
end
structure Beg(x:Str):Prop where
 e:x≠""
 b:x≠"|"
 p:x≠")"
 w:x≠"~"
 g:x≠">"
 c:x≠"{"
theorem Zbq:Beg ".":=⟨by decide +kernel,by decide +kernel,by decide +kernel,by decide +kernel,by decide +kernel,by decide +kernel⟩
theorem Zbp:Beg "^":=⟨by decide +kernel,by decide +kernel,by decide +kernel,by decide +kernel,by decide +kernel,by decide +kernel⟩
theorem Zbr:Beg "$":=⟨by decide +kernel,by decide +kernel,by decide +kernel,by decide +kernel,by decide +kernel,by decide +kernel⟩
theorem Za3:Beg "[":=⟨by decide +kernel,by decide +kernel,by decide +kernel,by decide +kernel,by decide +kernel,by decide +kernel⟩
theorem Zei:Beg "(":=⟨by decide +kernel,by decide +kernel,by decide +kernel,by decide +kernel,by decide +kernel,by decide +kernel⟩
theorem Zbs:Beg "&":=⟨by decide +kernel,by decide +kernel,by decide +kernel,by decide +kernel,by decide +kernel,by decide +kernel⟩
theorem Z6j:Beg "<":=⟨by decide +kernel,by decide +kernel,by decide +kernel,by decide +kernel,by decide +kernel,by decide +kernel⟩
theorem Zeh{t s z:Str}{j:Nat}(h:AtT t j (sg s stroked++z))(hs:s.length=1):Beg (U8 t j):=by
 refine⟨?_,Z1i h hs (by decide +kernel) (by decide +kernel),Z1i h hs (by decide +kernel) (by decide +kernel),Z1i h hs (by decide +kernel) (by decide +kernel),Z1i h hs (by decide +kernel) (by decide +kernel),Z1i h hs (by decide +kernel) (by decide +kernel)⟩
 rw[Zcc h hs]
 split
 ·decide +kernel
 ·exact Zez hs
theorem Tk{t x y z:Str}{i:Nat}(h:AtT t i ((x++y)++z))(hx:x.length=1)(b:Beg x):Beg (U8 t i)/\0<(x++y).length:=by
 rw[Zv]at h
 rw[h.sg hx]
 exact⟨b,by rw[Za,hx];omega⟩
theorem Z4u{n:Nat}{c c':Int}{p:Pat}{t z:Str}{i:Nat}(hC:Cn (n+1) c p c')(hw:p.word≠"row"/\p.word≠"or"/\p.word≠"times")(h:AtT t i (p.txt++z)):Beg (U8 t i)/\0<p.txt.length:=by
 obtain⟨hd,ks⟩:=p
 rw[X0]at h ⊢
 cases hd with
 |sign s =>
  obtain⟨rfl,hs,_⟩:=hC
  refine⟨Zeh h hs,?_⟩
  show 0<(sg s stroked).length
  unfold sg
  split
  ·rw[Za,Z73];omega
  ·omega
 |any=>exact⟨by rw[AtT.sg (x:=".") h Z79];exact Zbq,by show 0<(".": Str).length;rw[Z79];omega⟩
 |beg=>exact⟨by rw[AtT.sg (x:="^") h Z2p];exact Zbp,by show 0<("^": Str).length;rw[Z2p];omega⟩
 |fin=>exact⟨by rw[AtT.sg (x:="$") h Z7a];exact Zbr,by show 0<("$": Str).length;rw[Z7a];omega⟩
 |inn rs =>
  have e:Hd.txt (.inn rs) (ks.map Pat.wt)="[" ++ (Txt.join "" (rs.map Xf)++"]"):=Zv _ _ _
  rw[e]at h ⊢
  exact Tk h Jv Za3
 |out rs =>
  have e:Hd.txt (.out rs) (ks.map Pat.wt)="[" ++ ("^" ++ (Txt.join "" (rs.map Xf)++"]")):=by
   show("[^" ++ Txt.join "" (rs.map Xf))++"]" = _
   rw[show("[^":Str)="[" ++ "^" by decide +kernel,Zv,Zv]
  rw[e]at h ⊢
  exact Tk h Jv Za3
 |row=>exact absurd rfl hw.1
 |alt=>exact absurd rfl hw.2.1
 |times lo hi how=>exact absurd rfl hw.2.2
 |grp j =>
  have e:Hd.txt (.grp j) (ks.map Pat.wt)="(" ++ ((q0 (ks.map Pat.wt)).2++")"):=Zv _ _ _
  rw[e]at h ⊢
  exact Tk h Z4v Zei
 |again j=>exact Tk (x:="&") (y:=Uc j) h Z1g Zbs
 |hav j =>
  have e:Hd.txt (.hav j) (ks.map Pat.wt)="<" ++ (Uc j++((q0 (ks.map Pat.wt)).2++("~" ++ ((q0 (ks.map Pat.wt).tail).2++">")))):=by
   show(((("<" ++ Uc j)++(q0 (ks.map Pat.wt)).2)++"~")++(q0 (ks.map Pat.wt).tail).2)++">" = _
   simp only[Zv]
  rw[e]at h ⊢
  exact Tk h We Z6j
 |look l =>
  have e:Hd.txt (.look l) (ks.map Pat.wt)="<" ++ (l.sign++((q0 (ks.map Pat.wt)).2++">")):=by
   show(("<" ++ l.sign)++(q0 (ks.map Pat.wt)).2)++">" = _
   simp only[Zv]
  rw[e]at h ⊢
  exact Tk h We Z6j
theorem Z4t{q z t:Str}{i:Nat}(h:AtT t i ((("<:" ++ q)++">")++z)):Beg (U8 t i)/\0<(("<:" ++ q)++">").length:=by
 have e:("<:" ++ q)++">" = "<" ++ (":" ++ (q++">")):=by rw[show("<:":Str)="<" ++ ":" by decide +kernel,Zv,Zv]
 rw[e]at h ⊢
 exact Tk h We Z6j
theorem Z9i{n:Nat}{c c':Int}{p:Pat}{t z:Str}{i:Nat}(hC:Cn (n+1) c p c')(hw:p.word≠"row"/\p.word≠"or")(h:AtT t i (p.txt++z)):Beg (U8 t i)/\0<p.txt.length:=by
 by_cases htm:p.word="times"
 ·obtain⟨hd,ks⟩:=p
  obtain⟨lo,hi,how,rfl⟩:=Ta htm
  obtain⟨k,rfl,_,_,hC'⟩:=hC
  have e:(Pat.node (.times lo hi how) [k]).txt=Z0k Y7 k.wt++Vg lo hi how:=by rw[X0];rfl
  rw[e]at h ⊢
  rw[Zv]at h
  rw[Za]
  by_cases hin:Z1u (.str k.word) Y7=true
  ·rw[Z5w hin]at h ⊢
   have:=Z4t h
   exact⟨this.1,by omega⟩
  ·rw[Za6 hin]at h ⊢
   have hpos:=hC'.pos
   obtain⟨e',rfl⟩:∃e',n=e'+1:=⟨n-1,by omega⟩
   have:=Z4u hC' ⟨fun z=>hin (by rw[z];decide +kernel),fun z=>hin (by rw[z];decide +kernel),fun z=>hin (by rw[z];decide +kernel)⟩ h
   exact⟨this.1,by omega⟩
 ·exact Z4u hC ⟨hw.1,hw.2,htm⟩ h
abbrev Th:List V:=[.str "",.str "|",.str ")",.str "~",.str ">"]
def Z7d(x:Str):Prop:=Z55 x∨x="|"
theorem Zap{x:Str}(h:Z7d x):Z1u (.str x) Th=true:=by
 rcases h with(rfl | rfl | rfl | rfl) | rfl <;> decide +kernel
theorem Zcq{x:Str}(h:Z7d x):x≠"{":=by
 rcases h with(rfl | rfl | rfl | rfl) | rfl <;> decide +kernel
theorem Zej{x:Str}(h:Beg x):Z1u (.str x) Th=false:=by
 unfold Z1u
 simp only[List.any_cons,List.any_nil,Bool.or_false,Bool.or_eq_false_iff]
 have e:∀y:Str,x≠y->Zem (.str y) (.str x)=false:=fun y hy=>by
  show(y==x)=false
  exact beq_eq_false_iff_ne.mpr fun z=>hy z.symm
 exact⟨e _ h.e,e _ h.b,e _ h.p,e _ h.w,e _ h.g⟩
def Zek(fx:Pat->Str)(ks:List Pat):Str:=Txt.join "" (ks.map fx)
theorem Tx(fx:Pat->Str)(k:Pat)(ks:List Pat):Zek fx (k::ks)=fx k++Zek fx ks:=Ji _ _ _ rfl
def Z86(k:Pat):Str:=Z0k Ym k.wt
theorem Z66{k:Pat}(h:k.word="or"):Z86 k=("<:" ++ k.txt)++">":=Z5w (by rw[h];decide +kernel)
theorem Z3d{k:Pat}(h:k.word≠"or"):Z86 k=k.txt:=Za6 fun z=>h (by
 unfold Z1u at z
 simp only[List.any_cons,List.any_nil,Bool.or_false]at z
 have z':(("or":Str)==k.word)=true:=z
 exact(beq_iff_eq.mp z').symm)
theorem Za2{dd:Nat}{c c':Int}{k:Pat}{t z:Str}{i:Nat}(hC:Cn dd c k c')(hw:k.word≠"row")(h:AtT t i (Z86 k++z)):Beg (U8 t i)/\0<(Z86 k).length:=by
 by_cases e:k.word="or"
 ·rw[Z66 e]at h ⊢
  exact Z4t h
 ·rw[Z3d e]at h ⊢
  obtain⟨d',rfl⟩:∃d',dd=d'+1:=⟨dd-1,by have:=hC.pos;omega⟩
  exact Z9i hC ⟨hw,e⟩ h
theorem Zch:∀w:Wd,w.text="row"->w=.row:=by intro w z;cases w <;> first | rfl | exact absurd z (by decide +kernel)
theorem Zfc:∀w:Wd,w.text="or"->w=.alt:=by intro w z;cases w <;> first | rfl | exact absurd z (by decide +kernel)
theorem Z43{h:Hd}(z:h.word="row"):h=.row:=by
 rw[h.word_wd]at z
 have:=Zch _ z
 cases h with
 |row=>rfl
 |look l=>cases l <;> cases this
 |_=>cases this
theorem Z6k{h:Hd}(z:h.word="or"):h=.alt:=by
 rw[h.word_wd]at z
 have:=Zfc _ z
 cases h with
 |alt=>rfl
 |look l=>cases l <;> cases this
 |_=>cases this
section
variable{P:Program}{w:World}{K:W.Frag}{mg:Str->Option Value}{base:Heap}{f CR:Addr}{fd:FuncData}
inductive spLnI(CR:Addr)(n:Nat)(vs:List V)(H:Hp)(Q:VK):Prop
 |mk (ee:Nat) (_:ee<=n) (m dx:Addr) (t:Str) (p:Pat) (i:Nat) (c c' d:Int) (_:vs=[.ref m]) (_:Vl CR H m dx t i c d) (_:i<=t.length) (_:AtT t i p.txt) (_:Cn (ee+1) c p c') (_:p.word≠"or") (_:Z7d (U8 t (i+p.txt.length))) (_:0<=d/\d+1+ee<=8) (_:∀(v:V) (H':Hp),PatAt H' (ee+1) v p->Vl CR H' m dx t (i+p.txt.length) c' d->Gro [m] H H'->Q v H')
def Zc1(CR:Addr)(n:Nat):Sp:=fun vs H Q _=>spLnI CR n vs H Q
abbrev Wq:Stmt:=Yx (U3 43) 6
theorem sc_Reader_line:FnScope ["self","parts"] ["self"] (Zc Wq):=U5
theorem Zfo{n L:Nat}{st:Addr}(hL:1<=L)(T:Blt mg)(Zbn:mg "STOPS" = some (.ref st))(hST:∀H,SqT K H st Th)(MTR:TxtR K CR)(O_Reader_seen:OwnM P w K mg base 1 CR "seen" ["self"] (Ti CR))(O_Reader_part:OwnM P w K mg base L CR "part" ["self"] (Zer CR n))
  (F:Fun K "line" "Reader.line" Wq f fd):FnOk P w K mg base V1 (L+1) f fd ["self"] (Zc1 CR n):=by
 refine F.ok sc_Reader_line (fun vs H Q E h=>?_) (fun cdv A outer s H vs Q E hr h=>?_)
 ·obtain⟨ee,hee,m,dx,t,p,i,c,c',d,rfl,_⟩:=h
  rfl
 obtain⟨ee,hee,m,dx,t,p,i,c,c',d,rfl,hR,hi,hA,hC,hw,hst,hd,q⟩:=h
 refine U4 ?_
 intro Xz
 refine⟨_,(Z3 (pS 1 sc_Reader_line.nd (Yl Z2))
  (Z3 (Z0x PassesOwn.never (Zf Z2g (Ye (O_Reader_seen.mono (by omega)) MTR.cl hr (pv 0)) (Y5 (v:=.ref _) rfl Zbn rfl) (by with_unfolding_all rfl)) (Z6 (X8 (V2 PySem.F.plainAttrs_list PySem.F.slot_list_append PySem.F.type_list_append Xb (pv 1) (Z0 (Ye (O_Reader_part.mono (by omega)) MTR.cl hr (pv 0)) Z2)))))
  (Z6 (Zd (W0 (Zf Y1 (Zx Yi rfl T.b_len PyProof.Rows.Boot.«len» (Z0 (pv 1) Z2)) Z5 (Zj _)) (Zo Y0 (pv 1) Z5 (fun _ _=>rfl)) (Zr (Z0 Z8 (Z0 (Zw Y3 rfl T.b_tuple PyProof.Rows.Boot.«tuple» (Z0 (pv 1) Z2)) Z2)))))))),?_⟩
 refine Z9s ?_
 intro Ez Az1 Az2 Az3
 have run:∀(ps:List Pat) (dd:Nat),(∀k∈ps,k.word≠"row"/\(k.word="or"->dd<=n/\d+1+dd<=8))->dd<=n+1->d+dd<=8->ps.length<=10->CnL (Cn dd) c ps c'->p.txt=Zek Z86 ps ->
   (∀(us:List V) (H':Hp) (l:Addr),H' l=some (.lst us)->Paired (PatAt H' dd) us ps->Vl CR H' m dx t (i+p.txt.length) c' d->(∀H'',Gro [] H' H''->Gro [m] H H'')->Az2 Ez [some (.ref m),some (.ref l)] H')->Zb (Z1t (Z8c V0) (Wg 1)) Az3 Ez (L2.start [Str.ofString "self",Str.ofString "parts"] [V.ref m]) H:=by
  intro ps dd hps hdn hd8 hpl hCn etx fin
  have ht:=hR.2.1
  refine⟨sz,fun l hl=>?_⟩
  have gl:=Gro.new (S:=[]) hl (.lst [])
  have hl2:(Y2 H l (.lst [])) l=some (.lst []):=Z1
  have hR2:Vl CR (Y2 H l (.lst [])) m dx t i c d:=⟨gl.keep _ _ hR.1 (by simp),hR.2⟩
  have ml:m≠l:=Z9 hR.1 hl
  generalize Y2 H l (.lst [])=H2 at *
  rw[etx]at hA hst fin
  refine⟨fun μ σ H'=>∃(ds es:List Pat) (us:List V) (j:Nat) (cc:Int),σ=[some (.ref m),some (.ref l)]/\ps=ds++es/\μ=es.length/\H' l=some (.lst us)/\Paired (PatAt H' dd) us ds/\AtT t j (Zek Z86 es)/\j+(Zek Z86 es).length=i+(Zek Z86 ps).length/\CnL (Cn dd) cc es c'/\Vl CR H' m dx t j cc d/\Gro [m,l] H2 H',
   ⟨ps.length,[],ps,[],i,c,rfl,rfl,rfl,hl2,.nil,hA,rfl,hCn,hR2,Gro.refl⟩,?_⟩
  rintro μ σ H3 ⟨ds,es,us,j,cc,rfl,hde,rfl,hl3,hu,hj,hjl,hcn,hR3,g3⟩
  have hul:=Paired.length hu
  have hdl:ds.length<=10:=by have:=congrArg List.length hde;rw[List.length_append]at this;omega
  cases hcn with
  |nil =>
   have e0:Zek Z86 []="":=rfl
   rw[e0,Zak]at hjl
   rw[← hjl]at hst fin
   refine Zg rfl ⟨m,dx,Zg rfl ⟨hR3.1,Zp (by decide +kernel),m,dx,t,j,_,d,rfl,hR3,?_⟩⟩
   refine⟨st,Th,rfl,.inr (hST _),rfl,rfl,_,rfl,Z7 (by have:=Zap hst;rw[Nat.add_zero]at this;simp[this]) ?_⟩
   rw[List.append_nil]at hde
   subst hde
   refine fin us H3 l hl3 hu hR3 fun H4 g4=>?_
   refine⟨fun b u h hb=>g4.keep b u (g3.keep b u (gl.keep b u h (by simp)) ?_) (by simp),fun b xs h=>g4.tups _ _ (g3.tups _ _ (gl.tups _ _ h))⟩
   have:b≠l:=Z9 h hl
   simp only[List.mem_singleton]at hb
   simp[hb,this]
  | @cons _ e1 _ k es hk hcn =>
   have hj':AtT t j (Z86 k++Zek Z86 es):=by rw[Tx]at hj;exact hj
   have hkw:=hps k (by rw[hde];simp)
   obtain⟨hbeg,hpos⟩:=Za2 hk hkw.1 hj'
   have hnx:U8 t (j+(Z86 k).length)≠"{":=by
    cases hcn with
    |nil =>
     have e0:Zek Z86 []="":=rfl
     rw[Tx,e0,Za,Zak,Nat.add_zero]at hjl
     rw[hjl]
     exact Zcq hst
    | @cons _ e2 _ k2 es2 hk2 hcn2 =>
     have h2:=hj'.snd
     rw[Tx]at h2
     exact(Za2 hk2 (hps k2 (by rw[hde];simp)).1 h2).1.c
   have jle:=hj'.fst.le hpos
   refine Zg rfl ⟨m,dx,Zg rfl ⟨hR3.1,Zp (by decide +kernel),m,dx,t,j,_,d,rfl,hR3,?_⟩⟩
   refine⟨st,Th,rfl,.inr (hST _),rfl,rfl,_,rfl,Zm (by simp[Zej hbeg]) ?_⟩
   refine⟨fun σ' H'=>∃(us':List V),σ'=[some (.ref m),some (.ref l)]/\H' l=some (.lst us')/\Paired (PatAt H' dd) us' (ds++[k])/\Vl CR H' m dx t (j+(Z86 k).length) e1 d/\Gro [m,l] H2 H',?_,?_⟩
   ·rintro σ' H' ⟨us',rfl,h1,h2,h3,h4⟩
    refine⟨es.length,by simp,ds++[k],es,us',_,e1,rfl,by rw[hde];simp,rfl,h1,h2,hj'.snd,?_,hcn,h3,h4⟩
    rw[← hjl,Tx,Za]
    omega
   have put:∀(v:V) (H4:Hp),PatAt H4 dd v k->Vl CR H4 m dx t (j+(Z86 k).length) e1 d->Gro [m] H3 H4->∃(us':List V),[some (V.ref m),some (V.ref l)]=[some (V.ref m),some (V.ref l)]/\(Y2 H4 l (.lst (us++[v]))) l=some (.lst us')/\Paired (PatAt (Y2 H4 l (.lst (us++[v]))) dd) us' (ds++[k])/\Vl CR (Y2 H4 l (.lst (us++[v]))) m dx t (j+(Z86 k).length) e1 d/\Gro [m,l] H2 (Y2 H4 l (.lst (us++[v]))):=by
    intro v H4 hP hR4 g4
    have hl4:=g4.keep _ _ hl3 (by simpa using Ne.symm ml)
    have g5:Gro [m,l] H4 _:=Gro.set (by simp) hl4 (.lst (us++[v]))
    refine⟨us++[v],rfl,Z1,?_,⟨?_,hR4.2⟩,(g3.trans (g4.mono (by simp))).trans g5⟩
    ·exact Paired.snoc1 (Paired.mapP hu fun _ _ z=>(z.mono g4.tups).mono g5.tups) (hP.mono g5.tups)
    ·rw[Zl ml]
     exact hR4.1
   by_cases ho:k.word="or"
   ·have h8:=hkw.2 ho
    rw[Z66 ho]at hj' hnx
    refine Zg rfl ⟨.inl ⟨rfl,_,SqL.of hl3⟩,Zg rfl ⟨m,dx,Zg rfl ⟨hR3.1,Zp (by decide +kernel),.wrap dd h8.1 m dx t k j _ e1 d rfl hR3 hj'.fst hnx hk ⟨hd.1,h8.2⟩ fun v H4 hP hR4 g4=>?_⟩⟩⟩
    exact⟨l,us,v,rfl,rfl,g4.keep _ _ hl3 (by simpa using Ne.symm ml),Nat.lt_of_lt_of_le (by omega) (Jb (Nat.le_refl 1000)),put v H4 hP (by rw[Z66 ho];exact hR4) g4⟩
   ·rw[Z3d ho]at hj' hnx jle hpos
    obtain⟨d',rfl⟩:∃d',dd=d'+1:=⟨dd-1,by have:=hk.pos;omega⟩
    refine Zg rfl ⟨.inl ⟨rfl,_,SqL.of hl3⟩,Zg rfl ⟨m,dx,Zg rfl ⟨hR3.1,Zp (by decide +kernel),.bare d' (by omega) m dx t k j _ e1 d rfl hR3 (by omega) hj'.fst hnx hk ⟨hkw.1,ho⟩ (by omega) fun v H4 hP hR4 g4=>?_⟩⟩⟩
    exact⟨l,us,v,rfl,rfl,g4.keep _ _ hl3 (by simpa using Ne.symm ml),Nat.lt_of_lt_of_le (by omega) (Jb (Nat.le_refl 1000)),put v H4 hP (by rw[Z3d ho];exact hR4) g4⟩
 by_cases hrow:p.word="row"
 ·obtain⟨h,ks⟩:=p
  have eh:h=.row:=Z43 hrow
  subst eh
  obtain⟨h1,h2,h3,h4⟩:=hC
  refine run ks ee (fun k hk=>⟨h3 k hk,fun _=>⟨hee,hd.2⟩⟩) (by omega) (by omega) h2 h4 ?_ ?_
  ·rw[X0]
   show Txt.join "" ((ks.map Pat.wt).map (Z0k Ym))=Txt.join "" (ks.map Z86)
   rw[List.map_map]
   rfl
  ·intro us H1 l hl hu hR1 g1
   have hul:=Paired.length hu
   refine Zg rfl ⟨l,us,rfl,.inl (SqL.of hl),rfl,Zg rfl (Z7 (by intro z;have z':(V.int (us.length:Int))=V.int 1:=of_decide_eq_true z;injection z' with z'';omega) ?_)⟩
   refine Zg rfl ⟨l,us,rfl,.inl ⟨SqL.of hl,fun rt hrt=>⟨sz,fun a ha=>?_⟩⟩⟩
   have k1:=Gro.new (S:=[]) hrt (.tup us)
   have k2:=Gro.new (S:=[]) ha (.tup [.str "row",.ref rt])
   refine q _ _ ⟨a,us,rfl,⟨by omega,rt,Z1,k2.tups _ _ Z1⟩,Paired.mapP hu fun _ _ z=>(z.mono k1.tups).mono k2.tups⟩ ⟨k2.keep _ _ (k1.keep _ _ hR1.1 (by simp)) (by simp),hR1.2⟩ (g1 _ (k1.trans k2))
 ·refine run [p] (ee+1) (fun k hk=>?_) (by omega) (by omega) (by simp) (.cons hC .nil) ?_ ?_
  ·rw[List.mem_singleton]at hk
   subst hk
   exact⟨hrow,fun z=>absurd z hw⟩
  ·show _=Txt.join "" [Z86 p]
   rw[Z3d hw]
   rfl
  ·intro us H1 l hl hu hR1 g1
   cases hu with
   |cons hP hu =>
    cases hu
    refine Zg rfl ⟨l,_,rfl,.inl (SqL.of hl),rfl,Zg rfl (Zm rfl ?_)⟩
    exact Z9k hl rfl (q _ _ hP hR1 (g1 _ Gro.refl))
end
def Z88:List Pat->Str
 | []=>""
 |k::ks=>"|" ++ (k.txt++Z88 ks)
theorem Z4l:∀(ks:List Pat) (acc:Array Nat),(⟨(ks.map Pat.txt).foldl (fun a p=>a++("|":Str).cps++p.cps) acc⟩:Str)=(⟨acc⟩:Str)++Z88 ks
 | [],acc=>(J6 _).symm
 |k::ks,acc=>by
  rw[List.map_cons,List.foldl_cons,Z4l ks]
  show((⟨acc⟩++"|")++k.txt:Str)++Z88 ks=⟨acc⟩++("|" ++ (k.txt++Z88 ks))
  rw[Zv,Zv]
theorem Zbv(k:Pat)(ks:List Pat):(Pat.node .alt (k::ks)).txt=k.txt++Z88 ks:=by
 rw[X0]
 show Txt.join "|" (((k::ks).map Pat.wt).map (·.2))=_
 rw[List.map_map]
 show(⟨(ks.map Pat.txt).foldl (fun a p=>a++("|":Str).cps++p.cps) k.txt.cps⟩:Str)=_
 rw[Z4l]
theorem Z0u{t:Str}{j:Nat}{ks:List Pat}(h:AtT t j (Z88 ks))(hs:Z55 (U8 t (j+(Z88 ks).length))):Z7d (U8 t j)/\(ks=[]->U8 t j≠"|")/\(ks≠[]->U8 t j="|"):=by
 cases ks with
 |nil =>
  have e:(Z88 []).length=0:=Zak
  rw[e,Nat.add_zero]at hs
  refine⟨.inl hs,fun _=>?_,fun z=>absurd rfl z⟩
  rcases hs with z | z | z | z <;> rw[z] <;> decide +kernel
 |cons k ks =>
  have z:U8 t j="|":=AtT.sg (x:="|") h Z04
  exact⟨.inr z,fun y=>absurd y (by simp),fun _=>z⟩
section
variable{P:Program}{w:World}{K:W.Frag}{mg:Str->Option Value}{base:Heap}{f CR:Addr}{fd:FuncData}
abbrev Xc:Stmt:=Yx (U3 43) 5
theorem sc_Reader_branches:FnScope ["self","found"] ["self"] (Zc Xc):=U5
theorem Zfr{n L:Nat}(hL:2<=L)(T:Blt mg)(MTR:TxtR K CR)(O_Reader_passes:OwnM P w K mg base 2 CR "passes" ["self","sign"] (Vq CR))(O_Reader_line:OwnM P w K mg base L CR "line" ["self"] (Zc1 CR n))
  (F:Fun K "branches" "Reader.branches" Xc f fd):FnOk P w K mg base V1 (L+1) f fd ["self"] (Zc2 CR (n+1)):=by
 refine F.ok sc_Reader_branches (fun vs H Q E h=>?_) (fun cdv A outer s H vs Q E hr h=>?_)
 ·obtain⟨ee,hee,m,dx,t,p,i,c,c',d,rfl,_⟩:=h
  rfl
 obtain⟨e,he,m,dx,t,p,i,c,c',d,rfl,hR,hi,hA,hC,hst,hd,q⟩:=h
 refine U4 ?_
 intro Xz
 refine⟨_,(Z3 (pS 1 sc_Reader_branches.nd (Yl (Z0 (Ye (O_Reader_line.mono (by omega)) MTR.cl hr (pv 0)) Z2)))
  (Z3 (Z0x PassesOwn.never (Yu (Yb (O_Reader_passes.mono (by omega)) MTR.cl hr (pv 0) (Z0 Z8 Z2))) (Z6 (X8 (V2 PySem.F.plainAttrs_list PySem.F.slot_list_append PySem.F.type_list_append Xb (pv 1) (Z0 (Ye (O_Reader_line.mono (by omega)) MTR.cl hr (pv 0)) Z2)))))
  (Z6 (Zd (W0 (Zf Y1 (Zx Yi rfl T.b_len PyProof.Rows.Boot.«len» (Z0 (pv 1) Z2)) Z5 (Zj _)) (Zo Y0 (pv 1) Z5 (fun _ _=>rfl)) (Zr (Z0 Z8 (Z0 (Zw Y3 rfl T.b_tuple PyProof.Rows.Boot.«tuple» (Z0 (pv 1) Z2)) Z2)))))))),?_⟩
 refine Z9s ?_
 intro Ez Az1 Az2 Az3
 have ht:=hR.2.1
 have run:∀(k0:Pat) (es0:List Pat) (dd:Nat),(∀k∈k0::es0,k.word≠"or")->dd<=n+1->d+dd<=8->(k0::es0).length<=10->CnL (Cn dd) c (k0::es0) c'->p.txt=k0.txt++Z88 es0 ->
   (∀(us:List V) (H':Hp) (l:Addr),H' l=some (.lst us)->Paired (PatAt H' dd) us (k0::es0)->Vl CR H' m dx t (i+p.txt.length) c' d->(∀H'',Gro [] H' H''->Gro [m] H H'')->Az2 Ez [some (.ref m),some (.ref l)] H')->Zb (Z1t (Z8c (Yf (Z4y CR (Str.ofString "line") (Zc1 CR n) [] E0 (Yz 0) V0) V0)) (Wg 1)) Az3 Ez (L2.start [Str.ofString "self",Str.ofString "found"] [V.ref m]) H:=by
  intro k0 es0 dd hps hdn hd8 hpl hCn etx fin
  rw[etx]at hA hst fin
  rw[Za,← Nat.add_assoc]at hst fin
  cases hCn with
  | @cons _ e0 _ _ _ hk0 hcn0 =>
   obtain⟨ee,rfl⟩:∃d',dd=d'+1:=⟨dd-1,by have:=hk0.pos;omega⟩
   have st0:=Z0u hA.snd hst
   refine Zg rfl ⟨m,dx,Zg rfl ⟨hR.1,Zp (by decide +kernel),ee,by omega,m,dx,t,k0,i,c,e0,d,rfl,hR,hi,hA.fst,hk0,hps k0 (by simp),st0.1,⟨hd.1,by omega⟩,fun v0 H1 hP0 hR1 g1=>?_⟩⟩
   refine⟨sz,fun l hl=>?_⟩
   have gl:=Gro.new (S:=[]) hl (.lst [v0])
   have hl2:(Y2 H1 l (.lst [v0])) l=some (.lst [v0]):=Z1
   have hR2:Vl CR (Y2 H1 l (.lst [v0])) m dx t (i+k0.txt.length) e0 d:=⟨gl.keep _ _ hR1.1 (by simp),hR1.2⟩
   have hP2:=hP0.mono gl.tups
   have ml:m≠l:=Z9 hR1.1 hl
   generalize Y2 H1 l (.lst [v0])=H2 at *
   refine⟨fun μ σ H'=>∃(ds es:List Pat) (us:List V) (j:Nat) (cc:Int),σ=[some (.ref m),some (.ref l)]/\k0::es0=ds++es/\μ=es.length/\H' l=some (.lst us)/\Paired (PatAt H' (ee+1)) us ds/\AtT t j (Z88 es)/\j+(Z88 es).length=i+k0.txt.length+(Z88 es0).length/\CnL (Cn (ee+1)) cc es c'/\Vl CR H' m dx t j cc d/\j<=100000/\Gro [m,l] H2 H',
    ⟨es0.length,[k0],es0,[v0],_,e0,rfl,rfl,rfl,hl2,.cons hP2 .nil,hA.snd,rfl,hcn0,hR2,?_,Gro.refl⟩,?_⟩
   ·by_cases z:k0.txt.length=0
    ·omega
    ·have:=hA.fst.le (by omega)
     omega
   rintro μ σ H3 ⟨ds,es,us,j,cc,rfl,hde,rfl,hl3,hu,hj,hjl,hcn,hR3,hj1,g3⟩
   have hul:=Paired.length hu
   have hdl:ds.length<=10:=by have:=congrArg List.length hde;rw[List.length_append]at this;omega
   have stj:=Z0u hj (by rw[hjl];exact hst)
   cases hcn with
   |nil =>
    have e0:(Z88 []).length=0:=Zak
    rw[e0,Nat.add_zero]at hjl
    rw[← hjl]at fin
    refine Zg rfl ⟨m,dx,Zg rfl ⟨hR3.1,Zp (by decide +kernel),m,dx,t,_,j,_,d,rfl,hR3,by omega,fun z=>absurd z (stj.2.1 rfl),fun _=>Zg rfl (Z7 (by decide) ?_)⟩⟩
    rw[List.append_nil]at hde
    rw[hde]at fin
    refine fin us H3 l hl3 hu hR3 fun H4 g4=>?_
    refine⟨fun b u h hb=>g4.keep b u (g3.keep b u (gl.keep b u (g1.keep b u h hb) (by simp)) ?_) (by simp),fun b xs h=>g4.tups _ _ (g3.tups _ _ (gl.tups _ _ (g1.tups _ _ h)))⟩
    have:b≠l:=Z9 (g1.keep b u h hb) hl
    simp only[List.mem_singleton]at hb
    simp[hb,this]
   | @cons _ e1 _ k es hk hcn =>
    have hj':AtT t j ("|" ++ (k.txt++Z88 es)):=hj
    have hj2:=hj'.snd
    rw[Z04]at hj2
    have jle:=hj'.fst.le (by rw[Z04];omega)
    rw[Z04]at jle
    have hjl2:j+1+k.txt.length+(Z88 es).length=i+k0.txt.length+(Z88 es0).length:=by
     rw[← hjl]
     show _=j+(("|":Str)++(k.txt++Z88 es)).length
     rw[Za,Za,Z04]
     omega
    have st2:=Z0u hj2.snd (by rw[hjl2];exact hst)
    refine Zg rfl ⟨m,dx,Zg rfl ⟨hR3.1,Zp (by decide +kernel),m,dx,t,_,j,_,d,rfl,hR3,by omega,fun _ H4 hR4 g4=>Zg rfl (Zm rfl ?_),fun z=>absurd (stj.2.2 (by simp)) z⟩⟩
    refine⟨fun σ' H'=>∃(us':List V),σ'=[some (.ref m),some (.ref l)]/\H' l=some (.lst us')/\Paired (PatAt H' (ee+1)) us' (ds++[k])/\Vl CR H' m dx t (j+1+k.txt.length) e1 d/\Gro [m,l] H2 H',?_,?_⟩
    ·rintro σ' H' ⟨us',rfl,h1,h2,h3,h4⟩
     refine⟨es.length,by simp,ds++[k],es,us',_,e1,rfl,by rw[hde];simp,rfl,h1,h2,hj2.snd,hjl2,hcn,h3,?_,h4⟩
     by_cases z:k.txt.length=0
     ·omega
     ·have:=hj2.fst.le (by omega)
      omega
    have hl4:=g4.keep _ _ hl3 (by simpa using Ne.symm ml)
    refine Zg rfl ⟨.inl ⟨rfl,_,SqL.of hl4⟩,Zg rfl ⟨m,dx,Zg rfl ⟨hR4.1,Zp (by decide +kernel),ee,by omega,m,dx,t,k,j+1,_,e1,d,rfl,hR4,by omega,hj2.fst,hk,hps k (by rw[hde];simp),st2.1,⟨hd.1,by omega⟩,fun v H5 hP hR5 g5=>?_⟩⟩⟩
    have hl5:=g5.keep _ _ hl4 (by simpa using Ne.symm ml)
    refine⟨l,us,v,rfl,rfl,hl5,Nat.lt_of_lt_of_le (by omega) (Jb (Nat.le_refl 1000)),?_⟩
    have g6:Gro [m,l] H5 _:=Gro.set (by simp) hl5 (.lst (us++[v]))
    refine⟨us++[v],rfl,Z1,?_,⟨?_,hR5.2⟩,((g3.trans (g4.mono (by simp))).trans (g5.mono (by simp))).trans g6⟩
    ·exact Paired.snoc1 (Paired.mapP hu fun _ _ z=>((z.mono g4.tups).mono g5.tups).mono g6.tups) (hP.mono g6.tups)
    ·rw[Zl ml]
     exact hR5.1
 obtain⟨e,rfl⟩:∃e',e=e'+1:=⟨e-1,by have:=hC.pos;omega⟩
 by_cases hor:p.word="or"
 ·obtain⟨h,ks⟩:=p
  have eh:h=.alt:=Z6k hor
  subst eh
  obtain⟨h1,h2,h3,h4⟩:=hC
  cases ks with
  |nil=>exact absurd h1 (by simp)
  |cons k0 es0 =>
   refine run k0 es0 e h3 (by omega) (by omega) h2 h4 (Zbv _ _) ?_
   intro us H1 l hl hu hR1 g1
   have hul:=Paired.length hu
   refine Zg rfl ⟨l,us,rfl,.inl (SqL.of hl),rfl,Zg rfl (Z7 (by intro z;have z':(V.int (us.length:Int))=V.int 1:=of_decide_eq_true z;injection z' with z'';omega) ?_)⟩
   refine Zg rfl ⟨l,us,rfl,.inl ⟨SqL.of hl,fun rt hrt=>⟨sz,fun a ha=>?_⟩⟩⟩
   have k1:=Gro.new (S:=[]) hrt (.tup us)
   have k2:=Gro.new (S:=[]) ha (.tup [.str "or",.ref rt])
   refine q _ _ ⟨a,us,rfl,⟨by omega,by omega,rt,Z1,k2.tups _ _ Z1⟩,Paired.mapP hu fun _ _ z=>(z.mono k1.tups).mono k2.tups⟩ ⟨k2.keep _ _ (k1.keep _ _ hR1.1 (by simp)) (by simp),hR1.2⟩ (g1 _ (k1.trans k2))
 ·refine run p [] (e+1) (fun k hk=>?_) (by omega) (by omega) (by simp) (.cons hC .nil) (J6 _).symm ?_
  ·rw[List.mem_singleton]at hk
   subst hk
   exact hor
  ·intro us H1 l hl hu hR1 g1
   cases hu with
   |cons hP hu =>
    cases hu
    refine Zg rfl ⟨l,_,rfl,.inl (SqL.of hl),rfl,Zg rfl (Zm rfl ?_)⟩
    exact Z9k hl rfl (q _ _ hP hR1 (g1 _ Gro.refl))
end
def Z74(c:Nat):Prop:=32<=c/\c<=126/\c≠37
def SgOk(s:Str):Prop:=∃c:Nat,s=⟨#[c]⟩/\Z74 c
theorem SgOk.len{s:Str}(h:SgOk s):s.length=1:=by
 obtain⟨c,rfl,_⟩:=h
 rfl
def Jx(r:Str×Str):Prop:=SgOk r.1/\SgOk r.2/\(!decide (r.2.cps.toList<r.1.cps.toList))=true
def Kp(G:Int):Nat->Int->Pat->Int->Prop
 |0,_,_,_=>False
 |n+1,c,.node h ks,c'=>match h with
  |.sign s=>ks=[]/\SgOk s/\c'=c
  |.any=>ks=[]/\c'=c
  |.beg=>ks=[]/\c'=c
  |.fin=>ks=[]/\c'=c
  |.inn rs=>ks=[]/\(1<=rs.length/\rs.length<=8)/\(∀r∈rs,Jx r)/\c'=c
  |.out rs=>ks=[]/\(1<=rs.length/\rs.length<=8)/\(∀r∈rs,Jx r)/\c'=c
  |.row=>ks.length≠1/\ks.length<=8/\(∀k∈ks,k.word≠"row")/\CnL (Kp G n) c ks c'
  |.alt=>2<=ks.length/\ks.length<=8/\(∀k∈ks,k.word≠"or")/\CnL (Kp G n) c ks c'
  |.times lo hi _=>∃k,ks=[k]/\(0<=lo/\lo<=9)/\(∀x,hi=some x->1<=x/\lo<=x/\x<=9)/\Kp G n c k c'
  |.grp j=>∃k,ks=[k]/\j=c+1/\0<=c/\c+1<=9/\Kp G n (c+1) k c'
  |.again j=>ks=[]/\1<=j/\j<=G/\c'=c
  |.hav j=>∃y z e,ks=[y,z]/\1<=j/\j<=G/\Kp G n c y e/\Kp G n e z c'
  |.look _=>∃k,ks=[k]/\Kp G n c k c'
theorem CnL.imp{R R':Int->Pat->Int->Prop}(h:∀c k e,R c k e->R' c k e):∀ {c:Int} {ks:List Pat} {c':Int},CnL R c ks c'->CnL R' c ks c'
 |_,_,_,.nil=>.nil
 |_,_,_,.cons a b=>.cons (h _ _ _ a) (b.imp h)
theorem CnL.mem{R:Int->Pat->Int->Prop}:∀ {c:Int} {ks:List Pat} {c':Int},CnL R c ks c'->∀k∈ks,∃e e',R e k e'
 |_,_,_,.nil,k,hk=>by simp at hk
 |_,_,_,.cons a b,k,hk=>by
  rcases List.mem_cons.mp hk with rfl | hk
  ·exact⟨_,_,a⟩
  ·exact b.mem k hk
theorem CnL.groups{R:Int->Pat->Int->Prop}(h:∀c k e,R c k e->e=c+k.groups):∀ {c:Int} {ks:List Pat} {c':Int},CnL R c ks c'->c'=c+Y6 ks
 |_,_,_,.nil=>by simp[Y6]
 |_,_,_,.cons a b=>by
  have h1:=h _ _ _ a
  have h2:=b.groups h
  rw[Y6]
  omega
theorem CnL.snoc{R:Int->Pat->Int->Prop}{k:Pat}:∀ {c:Int} {ks:List Pat} {e c':Int},CnL R c ks e->R e k c'->CnL R c (ks++[k]) c'
 |_,_,_,_,.nil,h=>.cons h .nil
 |_,_,_,_,.cons a b,h=>.cons a (b.snoc h)
theorem Kp.cn{G:Int}(hG:G<=9):∀ {n:Nat} {c c':Int} {p:Pat},Kp G n c p c'->Cn n c p c'
 |0,_,_,_,h=>h.elim
 |n+1,c,c',.node hd ks,h=>by
  have ih:∀c k e,Kp G n c k e->Cn n c k e:=fun _ _ _=>Kp.cn hG
  cases hd with
  |sign s=>exact⟨h.1,h.2.1.len,h.2.2⟩
  |any=>exact h
  |beg=>exact h
  |fin=>exact h
  |inn rs=>exact⟨h.1,by have:=h.2.1;omega,fun r hr=>⟨(h.2.2.1 r hr).1.len,(h.2.2.1 r hr).2.1.len⟩,h.2.2.2⟩
  |out rs=>exact⟨h.1,by have:=h.2.1;omega,fun r hr=>⟨(h.2.2.1 r hr).1.len,(h.2.2.1 r hr).2.1.len⟩,h.2.2.2⟩
  |row=>exact⟨h.1,by have:=h.2.1;omega,h.2.2.1,h.2.2.2.imp ih⟩
  |alt=>exact⟨h.1,by have:=h.2.1;omega,h.2.2.1,h.2.2.2.imp ih⟩
  |times lo hi how =>
   obtain⟨k,e,h1,h2,h3⟩:=h
   exact⟨k,e,h1,fun x hx=>by have:=h2 x hx;omega,ih _ _ _ h3⟩
  |grp j =>
   obtain⟨k,e,h1,h2,h3,h4⟩:=h
   exact⟨k,e,h1,h2,h3,ih _ _ _ h4⟩
  |again j=>exact⟨h.1,by have:=h.2.1;omega,by have:=h.2.2.1;omega,h.2.2.2⟩
  |hav j =>
   obtain⟨y,z,e,e0,h1,h2,h3,h4⟩:=h
   exact⟨y,z,e,e0,by omega,by omega,ih _ _ _ h3,ih _ _ _ h4⟩
  |look l =>
   obtain⟨k,e,h1⟩:=h
   exact⟨k,e,ih _ _ _ h1⟩
theorem Kp.groups{G:Int}:∀ {n:Nat} {c c':Int} {p:Pat},Kp G n c p c'->c'=c+p.groups
 |0,_,_,_,h=>h.elim
 |n+1,c,c',.node hd ks,h=>by
  have ih:∀c k e,Kp G n c k e->e=c+k.groups:=fun _ _ _=>Kp.groups
  rw[Jp]
  cases hd with
  |sign s=>rw[h.1,h.2.2];simp[Hd.own,Y6]
  |any=>rw[h.1,h.2];simp[Hd.own,Y6]
  |beg=>rw[h.1,h.2];simp[Hd.own,Y6]
  |fin=>rw[h.1,h.2];simp[Hd.own,Y6]
  |inn rs=>rw[h.1,h.2.2.2];simp[Hd.own,Y6]
  |out rs=>rw[h.1,h.2.2.2];simp[Hd.own,Y6]
  |row=>have:=h.2.2.2.groups ih;show c'=c+(0+Y6 ks);omega
  |alt=>have:=h.2.2.2.groups ih;show c'=c+(0+Y6 ks);omega
  |times lo hi how =>
   obtain⟨k,e,h1,h2,h3⟩:=h
   have:=ih _ _ _ h3
   rw[e]
   show c'=c+(0+Y6 [k])
   simp only[Y6]
   omega
  |grp j =>
   obtain⟨k,e,h1,h2,h3,h4⟩:=h
   have:=ih _ _ _ h4
   rw[e]
   show c'=c+(1+Y6 [k])
   simp only[Y6]
   omega
  |again j=>rw[h.1,h.2.2.2];simp[Hd.own,Y6]
  |hav j =>
   obtain⟨y,z,e,e0,h1,h2,h3,h4⟩:=h
   have:=ih _ _ _ h3
   have:=ih _ _ _ h4
   rw[e0]
   show c'=c+(0+Y6 [y,z])
   simp only[Y6]
   omega
  |look l =>
   obtain⟨k,e,h1⟩:=h
   have:=ih _ _ _ h1
   rw[e]
   show c'=c+(0+Y6 [k])
   simp only[Y6]
   omega
def AllSg(x:Str):Prop:=∀c∈cs x,Z74 c
theorem AllSg.app{x y:Str}(h:AllSg x)(h':AllSg y):AllSg (x++y):=fun c hc=>by
 rw[Z6i]at hc
 rcases List.mem_append.mp hc with z | z
 ·exact h c z
 ·exact h' c z
instance (c:Nat):Decidable (Z74 c):=inferInstanceAs (Decidable (_/\_/\_))
instance (x:Str):Decidable (AllSg x):=inferInstanceAs (Decidable (∀c∈cs x,Z74 c))
theorem SgOk.all{s:Str}(h:SgOk s):AllSg s:=by
 obtain⟨c,rfl,h⟩:=h
 intro x hx
 have:x=c:=by simpa[cs] using hx
 rw[this]
 exact h
theorem Z3k{s st:Str}(h:SgOk s):AllSg (sg s st):=by
 unfold sg
 split
 ·exact AllSg.app (by decide +kernel) h.all
 ·exact h.all
theorem Z6z{r:Str×Str}(h:Jx r):AllSg (Xf r):=by
 unfold Xf
 split
 ·exact Z3k h.1
 ·exact((Z3k h.1).app (by decide +kernel)).app (Z3k h.2.1)
theorem J0{sep:Str}(hs:AllSg sep):∀ {xs:List Str},(∀x∈xs,AllSg x)->AllSg (Txt.join sep xs):=by
 have fold:∀(xs:List Str) (acc:Array Nat),AllSg ⟨acc⟩->(∀x∈xs,AllSg x)->AllSg ⟨xs.foldl (fun a p=>a++sep.cps++p.cps) acc⟩:=by
  intro xs
  induction xs with
  |nil=>exact fun _ h _=>h
  |cons x xs ih =>
   intro acc h hx
   rw[List.foldl_cons]
   exact ih _ (AllSg.app (x:=⟨acc++sep.cps⟩) (AllSg.app (x:=⟨acc⟩) h hs) (hx x (by simp))) fun y hy=>hx y (by simp[hy])
 intro xs hx
 cases xs with
 |nil=>intro c hc;cases hc
 |cons x xs=>exact fold xs x.cps (hx x (by simp)) fun y hy=>hx y (by simp[hy])
theorem Z0c{k:Int}(h0:0<=k)(h9:k<=9):AllSg (Uc k):=by
 rcases(show k=0∨k=1∨k=2∨k=3∨k=4∨k=5∨k=6∨k=7∨k=8∨k=9 by omega) with rfl | rfl | rfl | rfl | rfl | rfl | rfl | rfl | rfl | rfl <;> decide +kernel
theorem Za5{ws:List V}{k:Pat}(h:AllSg k.txt):AllSg (Z0k ws k.wt):=by
 unfold Z0k
 split
 ·exact(AllSg.app (by decide +kernel) h).app (by decide +kernel)
 ·exact h
theorem Kp.sgs{G:Int}(hG:G<=9):∀ {n:Nat} {c c':Int} {p:Pat},Kp G n c p c'->AllSg p.txt
 |0,_,_,_,h=>h.elim
 |n+1,c,c',.node hd ks,h=>by
  have ih:∀c k e,Kp G n c k e->AllSg k.txt:=fun _ _ _=>Kp.sgs hG
  rw[X0]
  cases hd with
  |sign s=>exact Z3k h.2.1
  |any=>show AllSg ".";decide +kernel
  |beg=>show AllSg "^";decide +kernel
  |fin=>show AllSg "$";decide +kernel
  |inn rs=>exact(AllSg.app (by decide +kernel) (J0 (by decide +kernel) fun x hx=>by
    obtain⟨r,hr,rfl⟩:=List.mem_map.mp hx
    exact Z6z (h.2.2.1 r hr))).app (by decide +kernel)
  |out rs=>exact(AllSg.app (by decide +kernel) (J0 (by decide +kernel) fun x hx=>by
    obtain⟨r,hr,rfl⟩:=List.mem_map.mp hx
    exact Z6z (h.2.2.1 r hr))).app (by decide +kernel)
  |row =>
   refine J0 (by decide +kernel) fun x hx=>?_
   rw[List.map_map]at hx
   obtain⟨k,hk,rfl⟩:=List.mem_map.mp hx
   obtain⟨e,e',hr⟩:=h.2.2.2.mem k hk
   exact Za5 (ih _ _ _ hr)
  |alt =>
   refine J0 (by decide +kernel) fun x hx=>?_
   rw[List.map_map]at hx
   obtain⟨k,hk,rfl⟩:=List.mem_map.mp hx
   obtain⟨e,e',hr⟩:=h.2.2.2.mem k hk
   exact ih _ _ _ hr
  |times lo hi how =>
   obtain⟨k,e,h1,h2,h3⟩:=h
   subst e
   refine AllSg.app (Za5 (k:=k) (ih _ _ _ h3)) ?_
   unfold Vg
   refine AllSg.app (AllSg.app (AllSg.app (AllSg.app (AllSg.app (by decide +kernel) (Z0c h1.1 h1.2)) (by decide +kernel)) ?_) ?_) (by decide +kernel)
   ·cases hi with
    |none=>show AllSg "";decide +kernel
    |some x=>have:=h2 x rfl;exact Z0c (by omega) (by omega)
   ·cases how <;> decide +kernel
  |grp j =>
   obtain⟨k,e,h1,h2,h3,h4⟩:=h
   subst e
   exact(AllSg.app (by decide +kernel) (ih _ _ _ h4)).app (by decide +kernel)
  |again j=>exact AllSg.app (by decide +kernel) (Z0c (by have:=h.2.1;omega) (by have:=h.2.2.1;omega))
  |hav j =>
   obtain⟨y,z,e,e0,h1,h2,h3,h4⟩:=h
   subst e0
   exact((((AllSg.app (by decide +kernel) (Z0c (by omega) (by omega))).app (ih _ _ _ h3)).app (by decide +kernel)).app (ih _ _ _ h4)).app (by decide +kernel)
  |look l =>
   obtain⟨k,e,h1⟩:=h
   subst e
   exact((AllSg.app (by decide +kernel) (by cases l <;> decide +kernel)).app (ih _ _ _ h1)).app (by decide +kernel)
section
variable{P:Program}{w:World}{K:W.Frag}{mg:Str->Option Value}{base:Heap}{f:Addr}{fd:FuncData}
def Zge(n:Nat):Sp:=fun vs H Q _=>∃(v:V) (p:Pat),vs=[v]/\PatAt H n v p/\∀H',Gro [] H H'->Q (.int p.size) H'
abbrev Xu:Stmt:=U3 12
theorem Z0d:FnScope ["pattern"] ["pattern"] (Zc Xu):=U5
theorem Z0h{n:Nat}(T:Blt mg)(O_parts_of:Own P w K mg base 1 "parts_of" ["pattern"] Va)(O_patterns_in:Own P w K mg base (2+n) "patterns_in" ["pattern"] (Zge n))(F:Fun K "patterns_in" "patterns_in" Xu f fd) :
  FnOk P w K mg base V1 (2+n+1) f fd ["pattern"] (Zge (n+1)):=by
 refine F.ok Z0d (fun vs H Q E h=>?_) (fun cdv A outer s H vs Q E hr h=>?_)
 ·obtain⟨v,p,rfl,_⟩:=h
  rfl
 obtain⟨v,⟨h,ks⟩,rfl,hp,q⟩:=h
 refine U4 ?_
 intro Xz
 refine⟨_,(Z6 (Zd (Zs Xs Z5 (Zx (Z4p rfl) rfl T.b_sum PyProof.Rows.Boot.«sum» (Z0 (Xa rfl (show CScope _ ["pattern"] (Zc Xu) _ from⟨rfl,by decide +kernel,rfl,by decide +kernel,by decide +kernel,by decide +kernel,by decide +kernel⟩) (Vh (Zi (O_parts_of.mono (by omega)) hr rfl (Z0 (pv 0) Z2))) (fun _ _ _ _=>X7) (fun _ _ _ _=>(Zi (O_patterns_in.mono (by omega)) hr rfl (Z0 (pv 0) Z2)))) Z2))))),?_⟩
 refine Zg rfl ⟨n,v,h,ks,rfl,hp,fun r kv H2 hr hlen hk g1=>⟨r,rfl,⟨kv,SqT.of hr⟩,?_⟩⟩
 have hkl:=Paired.length hk
 refine Uh (xs:=kv) (fun i ys H'=>∃ns:List Int,ys=ns.map V.int/\ns.length=i/\ns.sum=Y8 (ks.take i)/\Gro [] H2 H') ⟨[],rfl,rfl,by simp[Y8],Gro.refl⟩ (Zz (by omega)) (fun i ys H' ⟨ns,e1,e2,_⟩=>by rw[e1,List.length_map,e2];exact Nat.le_refl _) (fun i ys H' ⟨_,_,_,_,g⟩=>SqT.of (g.tups _ _ hr)) ?_ ?_
 ·rintro i ys H3 x hx ⟨ns,rfl,e2,e3,g3⟩
  obtain⟨p,hpi,hpx⟩:=Yh hk hx
  refine⟨_,rfl,x,p,rfl,hpx.mono g3.tups,fun H4 g4=>⟨ns++[(p.size:Int)],by simp,by simp[e2],?_,g3.trans g4⟩⟩
  rw[Wi hpi,X3,List.sum_append,e3]
  simp[Y8]
 ·rintro ys H3 ⟨ns,rfl,e2,e3,g3⟩ l hl
  refine⟨l,ns,rfl,SqL.of Z1,_,_,rfl,rfl,?_⟩
  rw[hkl,List.take_length]at e3
  have:=q _ ((g1.trans g3).tup (o:=.lst (ns.map V.int)) hl)
  rw[Zu]at this
  show Q (V.int (1+ns.sum)) _
  rw[e3]
  have e:((1+Y8 ks:Nat):Int)=1+(Y8 ks:Int):=by omega
  rw[← e]
  exact this
def Zag(n:Nat):Sp:=fun vs H Q _=>∃(v:V) (p:Pat),vs=[v]/\PatAt H n v p/\∀(x:Int) H',1<=x->x<=n->Gro [] H H'->Q (.int x) H'
abbrev J2:Stmt:=U3 13
theorem Z8o:FnScope ["pattern"] ["pattern"] (Zc J2):=U5
theorem Z92{n:Nat}(T:Blt mg)(O_parts_of:Own P w K mg base 1 "parts_of" ["pattern"] Va)(O_depth:Own P w K mg base (2+n) "depth" ["pattern"] (Zag n))(F:Fun K "depth" "depth" J2 f fd) :
  FnOk P w K mg base V1 (2+n+1) f fd ["pattern"] (Zag (n+1)):=by
 refine F.ok Z8o (fun vs H Q E h=>?_) (fun cdv A outer s H vs Q E hr h=>?_)
 ·obtain⟨v,p,rfl,_⟩:=h
  rfl
 obtain⟨v,⟨h,ks⟩,rfl,hp,q⟩:=h
 refine U4 ?_
 intro Xz
 refine⟨_,(Z6 (Zd (Zs Xs Z5 (Zb1 rfl rfl T.b_max (Z0 (Xa rfl (show CScope _ ["pattern"] (Zc J2) _ from⟨rfl,by decide +kernel,rfl,by decide +kernel,by decide +kernel,by decide +kernel,by decide +kernel⟩) (Vh (Zi (O_parts_of.mono (by omega)) hr rfl (Z0 (pv 0) Z2))) (fun _ _ _ _=>X7) (fun _ _ _ _=>(Zi (O_depth.mono (by omega)) hr rfl (Z0 (pv 0) Z2)))) Z2) (Zaw Z5 Zdo))))),?_⟩
 refine Zg rfl ⟨n,v,h,ks,rfl,hp,fun r kv H2 hr hlen hk g1=>⟨r,rfl,⟨kv,SqT.of hr⟩,?_⟩⟩
 have hkl:=Paired.length hk
 refine Uh (xs:=kv) (fun i ys H'=>∃ns:List Int,ys=ns.map V.int/\ns.length=i/\(∀x∈ns,1<=x/\x<=n)/\Gro [] H2 H') ⟨[],rfl,rfl,by simp,Gro.refl⟩ (Zz (by omega)) (fun i ys H' ⟨ns,e1,e2,_⟩=>by rw[e1,List.length_map,e2];exact Nat.le_refl _) (fun i ys H' ⟨_,_,_,_,g⟩=>SqT.of (g.tups _ _ hr)) ?_ ?_
 ·rintro i ys H3 x hx ⟨ns,rfl,e2,e3,g3⟩
  obtain⟨p,hpi,hpx⟩:=Yh hk hx
  refine⟨_,rfl,x,p,rfl,hpx.mono g3.tups,fun y H4 h1 h2 g4=>⟨ns++[y],by simp,by simp[e2],?_,g3.trans g4⟩⟩
  intro z hz
  rcases List.mem_append.mp hz with z' | z'
  ·exact e3 z z'
  ·rw[List.mem_singleton.mp z']
   exact⟨h1,h2⟩
 ·rintro ys H3 ⟨ns,rfl,e2,e3,g3⟩ l hl
  have hm:0<=Zgb ns/\Zgb ns<=n:=by
   unfold Zgb
   rw[List.getD_eq_getElem?_getD]
   generalize argBest _ _=j
   cases hj:ns[j]? with
   |none=>exact⟨Int.le_refl _,by show(0:Int)<=n;omega⟩
   |some x =>
    have:=e3 x (List.mem_of_getElem? hj)
    show 0<=x/\x<=n
    omega
  refine⟨l,ns,.int 0,rfl,rfl,SqL.of Z1,?_⟩
  have g4:=(g1.trans g3).tup (o:=.lst (ns.map V.int)) hl
  by_cases e:ns=[]
  ·rw[if_pos e]
   exact⟨1,0,rfl,rfl,q _ _ (by omega) (by omega) g4⟩
  ·rw[if_neg e]
   exact⟨1,Zgb ns,rfl,rfl,q _ _ (by omega) (by omega) g4⟩
inductive spRkI(vs:List V)(H:Hp)(Q:VK):Prop
 |mk (r:Addr) (rs:List (Str×Str)) (_:vs=[.ref r]) (_:RunsAt H r rs) (_:1<=rs.length/\rs.length<=8) (_:∀x∈rs,Jx x) (_:∀H',Gro [] H H'->Q (.bl true) H')
def Zeq:Sp:=fun vs H Q _=>spRkI vs H Q
abbrev Ws:Stmt:=U3 16
theorem Z2d:FnScope ["runs"] ["runs"] (Zc Ws):=U5
theorem Z2i{t8:Tok}(T:Blt mg)(Z3z:mg "MOST_RUNS" = some (.int 8 t8))(F:Fun K "runs_keep" "runs_keep" Ws f fd):FnOk P w K mg base V1 1 f fd ["runs"] Zeq:=by
 refine F.ok Z2d (fun vs H Q E h=>?_) (fun cdv A outer s H vs Q E hr h=>?_)
 ·obtain⟨r,rs,rfl,_⟩:=h
  rfl
 obtain⟨r,rs,rfl,hR,hl,hk,q⟩:=h
 refine U4 ?_
 intro Xz
 refine⟨_,(Z3 (Zq (PW.pt (Vn (Zf Z03 (Zx Yi rfl T.b_len PyProof.Rows.Boot.«len» (Z0 (pv 0) Z2)) Z5 (Zj _)) (Ww (Zf Tg (Zx Yi rfl T.b_len PyProof.Rows.Boot.«len» (Z0 (pv 0) Z2)) (Y5 (v:=.int _) rfl Z3z ⟨_,rfl⟩) (Zj _))))) (Z6 (Zd Vt)) Zh)
  (Z6 (Zd (Zx (Z10 rfl) rfl T.b_all PyProof.Rows.Boot.«all» (Z0 (Z20 rfl (show CScopeN ["low","high"] ["runs"] (Zc Ws) _ from⟨rfl,by decide +kernel,by decide +kernel,by decide +kernel,by decide +kernel,by decide +kernel,by decide +kernel⟩) (Vh (pv 0)) (fun _ _ _ _=>X7) (fun _ _ _ _=>(Yo Z7o (pv 0) (pv 1) (Zj _)))) Z2))))),?_⟩
 refine Z39 ?_
 intro Ez Az1 Az2
 obtain⟨us,hv,hp,hz⟩:=hR
 have hul:=Paired.length hp
 refine Zg rfl ⟨r,us,rfl,.inr (SqT.of hv),Ud rfl rfl (Zg rfl (Z7 (by intro z;have z':(us.length:Int)<1:=of_decide_eq_true z;omega) ?_))⟩
 refine Zg rfl ⟨r,us,rfl,.inr (SqT.of hv),Ud rfl rfl (Zg rfl (Z7 (by intro z;have z':(8:Int)<us.length:=of_decide_eq_true z;omega) ?_))⟩
 refine Zg rfl ⟨r,rfl,⟨us,SqT.of hv⟩,?_⟩
 refine Z6t (xs:=us) (fun i ys H'=>∃bs:List Bool,ys=bs.map V.bl/\bs.length=i/\bs.all id=true/\H'=H) ⟨[],rfl,rfl,rfl,rfl⟩ (Zz (by omega)) (fun i ys H' ⟨ns,e1,e2,_⟩=>by rw[e1,List.length_map,e2];exact Nat.le_refl _) (fun i ys H' ⟨_,_,_,_,e⟩=>by rw[e];exact SqT.of hv) ?_ ?_
 ·rintro i ys H' x hx ⟨bs,rfl,e2,e3,rfl⟩ τ hτ
  obtain⟨p,hpi,h1,h2,a,rfl,ha⟩:=Yh hp hx
  match τ,hτ with
  | [t1,t2],_ =>
   refine⟨a,_,rfl,SqT.of ha,rfl,_,_,rfl,_,_,rfl,rfl,⟨[some (.str p.1),some (.str p.2)],rfl,rfl⟩,?_⟩
   refine Zg rfl (Zg rfl ⟨_,_,rfl,rfl,bs++[true],?_,by simp[e2],by rw[List.all_append,e3];rfl,rfl⟩)
   have:=(hk p (List.mem_of_getElem? hpi)).2.2
   rw[List.map_append]
   show _++[V.bl (!decide (p.2.cps.toList<p.1.cps.toList))]=_
   rw[this]
   rfl
 ·rintro ys H' ⟨bs,rfl,e2,e3,rfl⟩ l hl
  refine⟨l,bs,rfl,SqL.of Z1,?_⟩
  rw[e3]
  exact q _ (Gro.new hl _)
inductive spPkI(K:W.Frag)(vs:List V)(H:Hp)(Q:VK):Prop
 |mk (r:Addr) (us:List V) (_:vs=[.ref r]) (_:H r=some (.tup us)) (_:2<=us.length/\us.length<=8) (_:Q (.bl true) H)
def Zes(K:W.Frag):Sp:=fun vs H Q _=>spPkI K vs H Q
abbrev V4:Stmt:=U3 17
theorem Z1m:FnScope ["parts"] ["parts"] (Zc V4):=U5
theorem Z1p{t8:Tok}(T:Blt mg)(Z2n:mg "MOST_PARTS" = some (.int 8 t8))(F:Fun K "parts_keep" "parts_keep" V4 f fd):FnOk P w K mg base V1 1 f fd ["parts"] (Zes K):=by
 refine F.ok Z1m (fun vs H Q E h=>?_) (fun cdv A outer s H vs Q E hr h=>?_)
 ·obtain⟨r,us,rfl,_⟩:=h
  rfl
 obtain⟨r,us,rfl,hv,hl,q⟩:=h
 refine U4 ?_
 intro Xz
 refine⟨_,(Z6 (Zd (Vr (Yo Jc Z5 (Zx Yi rfl T.b_len PyProof.Rows.Boot.«len» (Z0 (pv 0) Z2)) (Zj _)) (Uw (Yo Jc (Zx Yi rfl T.b_len PyProof.Rows.Boot.«len» (Z0 (pv 0) Z2)) (Y5 (v:=.int _) rfl Z2n ⟨_,rfl⟩) (Zj _)))))),?_⟩
 refine Zg rfl ⟨r,us,rfl,.inr (SqT.of hv),Ud rfl rfl (Zg rfl (Zm (decide_eq_true (by show(2:Int)<=us.length;omega)) ?_))⟩
 refine Zg rfl ⟨r,us,rfl,.inr (SqT.of hv),Ud rfl rfl ?_⟩
 show Q (V.bl (decide ((us.length:Int)<=8))) H
 rw[show decide ((us.length:Int)<=8)=true from decide_eq_true (by omega)]
 exact q
inductive spTkpI(vs:List V)(H:Hp)(Q:VK):Prop
 |mk (lo:Int) (hi:Option Int) (_:vs=[.int lo,Z1c hi]) (_:0<=lo/\lo<=9) (_:∀x,hi=some x->1<=x/\lo<=x/\x<=9) (_:Q (.bl true) H)
def Zaa:Sp:=fun vs H Q _=>spTkpI vs H Q
abbrev V3:Stmt:=U3 18
theorem Z1l:FnScope ["low","high"] ["low","high"] (Zc V3):=U5
theorem Z1o{t9:Tok}(Tn:mg "MOST_TURNS" = some (.int 9 t9))(F:Fun K "turns_keep" "turns_keep" V3 f fd):FnOk P w K mg base V1 1 f fd ["low","high"] Zaa:=by
 refine F.ok Z1l (fun vs H Q E h=>?_) (fun cdv A outer s H vs Q E hr h=>?_)
 ·obtain⟨lo,hi,rfl,_⟩:=h
  rfl
 obtain⟨lo,hi,rfl,hl,hh,q⟩:=h
 refine U4 ?_
 intro Xz
 refine⟨_,(Z3 (Zq (PW.pt (Vn (Zf Z03 (pv 0) Z5 (Zj _)) (Ww (Zf Tg (pv 0) (Y5 (v:=.int _) rfl Tn ⟨_,rfl⟩) (Zj _))))) (Z6 (Zd Vt)) Zh)
  (Z3 (Zq (Z16 (Z3f (pv 1))) (Z6 (Zd Vt)) Zh)
  (Z6 (Zd (Vr (Yo Jc Z5 (pv 1) (Zj _)) (Vr (Yo Jc (pv 0) (pv 1) (Zj _)) (Uw (Yo Jc (pv 1) (Y5 (v:=.int _) rfl Tn ⟨_,rfl⟩) (Zj _))))))))),?_⟩
 refine Zdl ?_
 intro Ez Az1 Az2 Az3 Az4
 refine Zg rfl (Ud rfl rfl (Zg rfl (Z7 (by intro z;have z':lo<0:=of_decide_eq_true z;omega) ?_)))
 refine Zg rfl (Ud rfl rfl (Zg rfl (Z7 (by intro z;have z':(9:Int)<lo:=of_decide_eq_true z;omega) ?_)))
 cases hi with
 |none=>exact Zg rfl (Zg rfl (Zm rfl q))
 |some x =>
  have hx:=hh x rfl
  refine Zg rfl (Zg rfl (Z7 (show ¬decide (V.int x=V.non)=true by intro z;cases of_decide_eq_true z) ?_))
  refine Zg rfl (Ud rfl rfl (Zg rfl (Zm (decide_eq_true (by omega)) ?_)))
  refine Zg rfl (Zg rfl (Ud rfl rfl (Zg rfl (Zm (decide_eq_true (by omega)) ?_))))
  refine Zg rfl (Ud rfl rfl ?_)
  show Q (V.bl (decide (x<=9))) H
  rw[show decide (x<=9)=true from decide_eq_true (by omega)]
  exact q
end
theorem Zcj:∀w:Wd,w.text="in"->w=.inn:=by intro w z;cases w <;> first | rfl | exact absurd z (by decide +kernel)
theorem Z8h{h:Hd}(z:decide (V.str h.word=V.str "in")=true):∃x,h=.inn x:=by
 have z1:h.word="in":=by have:=of_decide_eq_true z;injection this
 rw[h.word_wd]at z1
 have:=Zcj _ z1
 cases h with
 |inn x=>exact⟨x,rfl⟩
 |look l=>cases l <;> cases this
 |_=>cases this
theorem Zci:∀w:Wd,w.text="out"->w=.out:=by intro w z;cases w <;> first | rfl | exact absurd z (by decide +kernel)
theorem Z8g{h:Hd}(z:decide (V.str h.word=V.str "out")=true):∃x,h=.out x:=by
 have z1:h.word="out":=by have:=of_decide_eq_true z;injection this
 rw[h.word_wd]at z1
 have:=Zci _ z1
 cases h with
 |out x=>exact⟨x,rfl⟩
 |look l=>cases l <;> cases this
 |_=>cases this
theorem Z8j:∀w:Wd,w.text="again"->w=.again:=by intro w z;cases w <;> first | rfl | exact absurd z (by decide +kernel)
theorem Z56{h:Hd}(z:decide (V.str h.word=V.str "again")=true):∃x,h=.again x:=by
 have z1:h.word="again":=by have:=of_decide_eq_true z;injection this
 rw[h.word_wd]at z1
 have:=Z8j _ z1
 cases h with
 |again x=>exact⟨x,rfl⟩
 |look l=>cases l <;> cases this
 |_=>cases this
theorem Zck:∀w:Wd,w.text="have"->w=.hav:=by intro w z;cases w <;> first | rfl | exact absurd z (by decide +kernel)
theorem Z8i{h:Hd}(z:decide (V.str h.word=V.str "have")=true):∃x,h=.hav x:=by
 have z1:h.word="have":=by have:=of_decide_eq_true z;injection this
 rw[h.word_wd]at z1
 have:=Zck _ z1
 cases h with
 |hav x=>exact⟨x,rfl⟩
 |look l=>cases l <;> cases this
 |_=>cases this
theorem Zhk{h:Hd}{x:Str}(z:decide (V.str h.word=V.str x)=true):h.word=x:=by have:=of_decide_eq_true z;injection this
theorem Kp.kids{G:Int}{n:Nat}{c c':Int}{h:Hd}{ks:List Pat}(hK:Kp G (n+1) c (.node h ks) c'):∀k∈ks,∃e e',Kp G n e k e':=by
 intro k hk
 cases h with
 |sign _=>rw[hK.1]at hk;simp at hk
 |any=>rw[hK.1]at hk;simp at hk
 |beg=>rw[hK.1]at hk;simp at hk
 |fin=>rw[hK.1]at hk;simp at hk
 |inn _=>rw[hK.1]at hk;simp at hk
 |out _=>rw[hK.1]at hk;simp at hk
 |again _=>rw[hK.1]at hk;simp at hk
 |row=>exact hK.2.2.2.mem k hk
 |alt=>exact hK.2.2.2.mem k hk
 |times _ _ _ =>
  obtain⟨k',e,_,_,h⟩:=hK
  rw[e,List.mem_singleton]at hk
  rw[hk]
  exact⟨_,_,h⟩
 |grp _ =>
  obtain⟨k',e,_,_,_,h⟩:=hK
  rw[e,List.mem_singleton]at hk
  rw[hk]
  exact⟨_,_,h⟩
 |look _ =>
  obtain⟨k',e,h⟩:=hK
  rw[e,List.mem_singleton]at hk
  rw[hk]
  exact⟨_,_,h⟩
 |hav _ =>
  obtain⟨y,z,e',e,_,_,h1,h2⟩:=hK
  rw[e]at hk
  rcases List.mem_cons.mp hk with rfl | hk
  ·exact⟨_,_,h1⟩
  ·rw[List.mem_singleton]at hk
   rw[hk]
   exact⟨_,_,h2⟩
section
variable{P:Program}{w:World}{K:W.Frag}{mg:Str->Option Value}{base:Heap}{f:Addr}{fd:FuncData}{CR:Addr}
inductive spKsI(n:Nat)(vs:List V)(H:Hp)(Q:VK):Prop
 |mk (v:V) (p:Pat) (G c c':Int) (_:vs=[v,.int G]) (_:PatAt H n v p) (_:Kp G n c p c') (_:∀H',Gro [] H H'->Q (.bl true) H')
def Z70(n:Nat):Sp:=fun vs H Q _=>spKsI n vs H Q
abbrev Z07:Stmt:=U3 15
theorem sc_keeps:FnScope ["pattern","groups","kind"] ["pattern","groups"] (Zc Z07):=U5
theorem Z8z{n:Nat}(T:Blt mg)(O_runs_keep:Own P w K mg base 1 "runs_keep" ["runs"] Zeq)(O_parts_keep:Own P w K mg base 1 "parts_keep" ["parts"] (Zes K))(O_turns_keep:Own P w K mg base 1 "turns_keep" ["low","high"] Zaa)(F:Fun K "keeps" "keeps" Z07 f fd) :
  FnOk P w K mg base V1 2 f fd ["pattern","groups"] (Z70 (n+1)):=by
 refine F.ok sc_keeps (fun vs H Q E h=>?_) (fun cdv A outer s H vs Q E hr h=>?_)
 ·obtain⟨v,p,G,c,c',rfl,_⟩:=h
  rfl
 obtain⟨v,⟨h,ks⟩,G,c,c',rfl,hp,hK,q⟩:=h
 refine U4 ?_
 intro Xz
 refine⟨_,(Z3 (pS 2 sc_keeps.nd (Zo Zt (pv 0) Z5 (fun _ _=>rfl)))
  (Z3 (Zq (PW.pt (Vn (Zf Y1 (pv 2) Z8 (Zj _)) (Ww (Zf Y1 (pv 2) Z8 (Zj _))))) (Z6 (Zd (Zi (O_runs_keep.mono (by omega)) hr rfl (Z0 (Zo Zt (pv 0) Z5 (fun _ _=>rfl)) Z2)))) Zh)
  (Z3 (Zq (Zf Y1 (pv 2) Z8 (Zj _)) (Z6 (Zd (Zfj (Yo Y1 (Zx Yi rfl T.b_len PyProof.Rows.Boot.«len» (Z0 (Zo Zt (pv 0) Z5 (fun _ _=>rfl)) Z2)) Z5 (Zj _)) (Uw (Zi (O_parts_keep.mono (by omega)) hr rfl (Z0 (Zo Zt (pv 0) Z5 (fun _ _=>rfl)) Z2)))))) Zh)
  (Z3 (Zq (Zf Y1 (pv 2) Z8 (Zj _)) (Z6 (Zd (Zi (O_parts_keep.mono (by omega)) hr rfl (Z0 (Zo Zt (pv 0) Z5 (fun _ _=>rfl)) Z2)))) Zh)
  (Z3 (Zq (Zf Y1 (pv 2) Z8 (Zj _)) (Z6 (Zd (Zi (O_turns_keep.mono (by omega)) hr rfl (Z0 (Zo Zt (pv 0) Z5 (fun _ _=>rfl)) (Z0 (Zo Zt (pv 0) Z5 (fun _ _=>rfl)) Z2))))) Zh)
  (Z3 (Zq (PW.pt (Vn (Zf Y1 (pv 2) Z8 (Zj _)) (Ww (Zf Y1 (pv 2) Z8 (Zj _))))) (Z6 (Zd (Vr (Yo Jc Z5 (Zo Zt (pv 0) Z5 (fun _ _=>rfl)) (Zj _)) (Uw (Yo Jc (Zo Zt (pv 0) Z5 (fun _ _=>rfl)) (pv 1) (Zj _)))))) Zh)
  (Z6 (Zd Vt)))))))),?_⟩
 refine Zd0 ?_
 intro Ez Az1 Az2 Az3 Az4 Az5 Az6 Az7 Az8 Az9 Az10 Az11
 obtain⟨a,kv,rfl,lay,hk⟩:=id hp
 obtain⟨r0,ea⟩:=lay.head
 have hkl:=Paired.length hk
 refine Zc6 ea Z11 ?_
 have le1:∀(i:Int),1<=i->i<=G->(Lay H a h kv->∃r1,H a=some (.tup r1)/\Z89 r1 1=some (.int i))->Az5 { nx:=Az6 Ez,rt:=Ez.rt } [some (.ref a),some (.int G),some (.str h.word)] H:=by
  intro i h1 h2 hx
  obtain⟨r1,e1,e2⟩:=hx lay
  refine Zc6 e1 e2 (Ud rfl rfl (Zg rfl (Zm (decide_eq_true h1) ?_)))
  refine Zc6 e1 e2 (Zg rfl (Ud rfl rfl ?_))
  show Q (V.bl (decide (i<=G))) H
  rw[decide_eq_true h2]
  exact q H Gro.refl
 refine Zg rfl ⟨rfl,Zg rfl (X5 (fun z=>?_) (fun z1=>Zg rfl ⟨rfl,Zg rfl (X5 (fun z=>?_) (fun z2=>?_))⟩))⟩
 ·obtain⟨rs,rfl⟩:=Z8h z
  obtain⟨_,r,e,hr⟩:=lay
  exact Jw (Zc6 e rfl ⟨r,rs,rfl,hr,hK.2.1,hK.2.2.1,q⟩)
 ·obtain⟨rs,rfl⟩:=Z8g z
  obtain⟨_,r,e,hr⟩:=lay
  exact Zc6 e rfl ⟨r,rs,rfl,hr,hK.2.1,hK.2.2.1,q⟩
 refine Zg rfl ⟨rfl,Zg rfl (X5 (fun z=>?_) (fun z3=>?_))⟩
 ·have:=Z43 (Zhk z)
  subst this
  obtain⟨hl,r,e,er⟩:=lay
  refine Zc6 e rfl ⟨r,kv,rfl,.inr (SqT.of er),rfl,Zg rfl (X5 (fun _=>q H Gro.refl) (fun z=>?_))⟩
  have h0:¬(kv.length:Int)=0:=fun y=>z (decide_eq_true (by rw[y]))
  exact Zc6 e rfl ⟨r,kv,rfl,er,by have:=hK.1;have:=hK.2.1;omega,q H Gro.refl⟩
 refine Zg rfl ⟨rfl,Zg rfl (X5 (fun z=>?_) (fun z4=>?_))⟩
 ·have:=Z6k (Zhk z)
  subst this
  obtain⟨_,hl,r,e,er⟩:=lay
  exact Zc6 e rfl ⟨r,kv,rfl,er,by have:=hK.1;have:=hK.2.1;omega,q H Gro.refl⟩
 refine Zg rfl ⟨rfl,Zg rfl (X5 (fun z=>?_) (fun z5=>?_))⟩
 ·obtain⟨lo,hi,how,rfl⟩:=Ta (Zhk z)
  obtain⟨k,_,h1,h2,_⟩:=hK
  obtain⟨_,k',_,e⟩:=lay
  exact Zc6 e rfl (Zc6 e rfl ⟨lo,hi,rfl,h1,h2,q H Gro.refl⟩)
 refine Zg rfl ⟨rfl,Zg rfl (X5 (fun z=>?_) (fun z6=>Zg rfl ⟨rfl,Zg rfl (X5 (fun z=>?_) (fun z7=>?_))⟩))⟩
 ·obtain⟨i,rfl⟩:=Z56 z
  exact Jw (le1 i hK.2.1 hK.2.2.1 fun l=>⟨_,l.2.2,rfl⟩)
 ·obtain⟨i,rfl⟩:=Z8i z
  obtain⟨y,z,e,_,h1,h2,_⟩:=hK
  exact le1 i h1 h2 fun⟨_,y,z,_,e⟩=>⟨_,e,rfl⟩
 exact q H Gro.refl
abbrev Ve:Stmt:=U3 14
theorem Z3n:FnScope ["pattern","groups"] ["pattern","groups"] (Zc Ve):=U5
theorem Z3r{n:Nat}(T:Blt mg)(O_parts_of:Own P w K mg base 1 "parts_of" ["pattern"] Va)(O_keeps:Own P w K mg base 2 "keeps" ["pattern","groups"] (Z70 (n+1)))(O_all_keep:Own P w K mg base (2+n) "all_keep" ["pattern","groups"] (Z70 n))(F:Fun K "all_keep" "all_keep" Ve f fd) :
  FnOk P w K mg base V1 (2+n+1) f fd ["pattern","groups"] (Z70 (n+1)):=by
 refine F.ok Z3n (fun vs H Q E h=>?_) (fun cdv A outer s H vs Q E hr h=>?_)
 ·obtain⟨v,p,G,c,c',rfl,_⟩:=h
  rfl
 obtain⟨v,⟨h,ks⟩,G,c,c',rfl,hp,hK,q⟩:=h
 refine U4 ?_
 intro Xz
 refine⟨_,(Z3 (Zq (Js (Yu (Zi (O_keeps.mono (by omega)) hr rfl (Z0 (pv 0) (Z0 (pv 1) Z2))))) (Z6 (Zd Vt)) Zh)
  (Z6 (Zd (Zx (Z10 rfl) rfl T.b_all PyProof.Rows.Boot.«all» (Z0 (Xa rfl (show CScope _ ["pattern","groups"] (Zc Ve) _ from⟨rfl,by decide +kernel,rfl,by decide +kernel,by decide +kernel,by decide +kernel,by decide +kernel⟩) (Vh (Zi (O_parts_of.mono (by omega)) hr rfl (Z0 (pv 0) Z2))) (fun _ _ _ _=>X7) (fun _ _ _ _=>(Zi (O_all_keep.mono (by omega)) hr rfl (Z0 (pv 0) (Z0 (pv 2) Z2))))) Z2))))),?_⟩
 refine Z39 ?_
 intro Ez Az1 Az2
 refine Zg rfl (Zg rfl ⟨v,_,G,c,c',rfl,hp,hK,fun H1 g1=>Zg rfl (Z7 (by decide) ?_)⟩)
 refine Zg rfl ⟨n,v,h,ks,rfl,hp.mono g1.tups,fun r kv H2 hr hlen hk g2=>⟨r,rfl,⟨kv,SqT.of hr⟩,?_⟩⟩
 have hkl:=Paired.length hk
 refine Uh (xs:=kv) (fun i ys H'=>∃bs:List Bool,ys=bs.map V.bl/\bs.length=i/\bs.all id=true/\Gro [] H2 H') ⟨[],rfl,rfl,rfl,Gro.refl⟩ (Zz (by omega)) (fun i ys H' ⟨ns,e1,e2,_⟩=>by rw[e1,List.length_map,e2];exact Nat.le_refl _) (fun i ys H' ⟨_,_,_,_,g⟩=>SqT.of (g.tups _ _ hr)) ?_ ?_
 ·rintro i ys H3 x hx ⟨bs,rfl,e2,e3,g3⟩
  obtain⟨p,hpi,hpx⟩:=Yh hk hx
  obtain⟨e,e',hkp⟩:=hK.kids p (List.mem_of_getElem? hpi)
  refine Zg rfl (Zg rfl ⟨x,p,G,e,e',rfl,hpx.mono g3.tups,hkp,fun H4 g4=>⟨bs++[true],by simp,by simp[e2],by rw[List.all_append,e3];rfl,g3.trans g4⟩⟩)
 ·rintro ys H3 ⟨bs,rfl,e2,e3,g3⟩ l hl
  refine⟨l,bs,rfl,SqL.of Z1,?_⟩
  rw[e3]
  exact q _ (((g1.trans g2).trans g3).tup (o:=.lst (bs.map V.bl)) hl)
inductive spKbI(vs:List V)(H:Hp)(Q:VK):Prop
 |mk (v:V) (p:Pat) (G:Int) (_:vs=[v]) (_:PatAt H 8 v p) (_:Kp G 8 0 p G) (_:G<=9) (_:p.size<=60) (_:∀H',Gro [] H H'->Q (.bl true) H')
def Zet:Sp:=fun vs H Q _=>spKbI vs H Q
abbrev W3:Stmt:=U3 11
theorem sc_keeps_bounds:FnScope ["pattern","groups"] ["pattern"] (Zc W3):=U5
theorem Zfp{t1 t2 t3:Tok}(Z1r:mg "MOST_GROUPS" = some (.int 9 t1))(Z01:mg "MOST_PATTERNS" = some (.int 60 t2))(Uo:mg "MOST_DEEP" = some (.int 8 t3))(O_groups_in:Own P w K mg base 10 "groups_in" ["pattern"] (Zgf 8))(O_patterns_in:Own P w K mg base 10 "patterns_in" ["pattern"] (Zge 8))
  (O_depth:Own P w K mg base 10 "depth" ["pattern"] (Zag 8)) (O_all_keep:Own P w K mg base 10 "all_keep" ["pattern","groups"] (Z70 8)) (F:Fun K "keeps_bounds" "keeps_bounds" W3 f fd):FnOk P w K mg base V1 11 f fd ["pattern"] Zet:=by
 refine F.ok sc_keeps_bounds (fun vs H Q E h=>?_) (fun cdv A outer s H vs Q E hr h=>?_)
 ·obtain⟨v,p,G,rfl,_⟩:=h
  rfl
 obtain⟨v,p,G,rfl,hp,hK,hG,hz,q⟩:=h
 refine U4 ?_
 intro Xz
 refine⟨_,(Z3 (pS 1 sc_keeps_bounds.nd (Zi (O_groups_in.mono (by omega)) hr rfl (Z0 (pv 0) Z2)))
  (Z3 (Zq (PW.pt (Vn (Zf Tg (pv 1) (Y5 (v:=.int _) rfl Z1r ⟨_,rfl⟩) (Zj _)) (Vn (Zf Tg (Zi (O_patterns_in.mono (by omega)) hr rfl (Z0 (pv 0) Z2)) (Y5 (v:=.int _) rfl Z01 ⟨_,rfl⟩) (Zj _)) (Ww (Zf Tg (Zi (O_depth.mono (by omega)) hr rfl (Z0 (pv 0) Z2)) (Y5 (v:=.int _) rfl Uo ⟨_,rfl⟩) (Zj _)))))) (Z6 (Zd Vt)) Zh)
  (Z6 (Zd (Zi (O_all_keep.mono (by omega)) hr rfl (Z0 (pv 0) (Z0 (pv 1) Z2))))))),?_⟩
 refine Z15 ?_
 intro Ez Az1 Az2 Az3
 have eg:p.groups=G:=by have:=hK.groups;omega
 refine Zg rfl ⟨v,p,rfl,hp,fun H1 g1=>?_⟩
 rw[eg]
 refine Zg rfl (Ud rfl rfl (Zg rfl (Z7 (by intro z;have z':(9:Int)<G:=of_decide_eq_true z;omega) ?_)))
 have hp1:=hp.mono g1.tups
 refine Zg rfl ⟨v,p,rfl,hp1,fun H2 g2=>Ud rfl rfl (Zg rfl (Z7 (by intro z;have z':(60:Int)<p.size:=of_decide_eq_true z;omega) ?_))⟩
 have hp2:=hp1.mono g2.tups
 refine Zg rfl ⟨v,p,rfl,hp2,fun x H3 h1 h2 g3=>Ud rfl rfl (Zg rfl (Z7 (by intro z;have z':(8:Int)<x:=of_decide_eq_true z;omega) ?_))⟩
 have hp3:=hp2.mono g3.tups
 exact Zg rfl (Zg rfl ⟨v,p,G,0,G,rfl,hp3,hK,fun H4 g4=>q H4 (((g1.trans g2).trans g3).trans g4)⟩)
def Z5s:Sp:=fun vs H Q _=>∃(s st:Str),vs=[.str s,.str st]/\s.length=1/\Q (.str (sg s st)) H
def Zac:Sp:=fun vs H Q _=>∃(r:Str×Str),vs=[.str r.1,.str r.2]/\r.1.length=1/\r.2.length=1/\Q (.str (Xf r)) H
def Z48:Sp:=fun vs H Q _=>∃(lo:Int) (hi:Option Int) (how:How),vs=[.int lo,Z1c hi,.str how.text]/\(0<=lo/\lo<=20/\∀h,hi=some h->0<=h/\h<=20)/\Q (.str (Vg lo hi how)) H
def Tf(n:Nat):Sp:=fun vs H Q _=>∃(v:V) (p:Pat),vs=[v]/\PatAt H n v p/\p.size<=20000/\∀H',Gro [] H H'->Q (.str p.txt) H'
def Z8d(K:W.Frag)(n:Nat):Sp:=fun vs H Q _=>∃(v:V) (p:Pat) (t:Addr) (ws:List V),vs=[v,.ref t]/\PatAt H n v p/\p.size<=20000/\(∀H',Gro [] H H'->SqT K H' t ws)/\ws.all Jd=true/\∀H',Gro [] H H'->Q (.str (Z0k ws p.wt)) H'
abbrev Wr:Stmt:=U3 37
theorem Z2c:FnScope ["sign","stroked"] ["sign","stroked"] (Zc Wr):=U5
theorem Z2h(F:Fun K "sign_text" "sign_text" Wr f fd):FnOk P w K mg base V1 1 f fd ["sign","stroked"] Z5s:=by
 refine F.ok Z2c (fun vs H Q E h=>?_) (fun cdv A outer s H vs Q E hr h=>?_)
 ·obtain⟨s,st,rfl,_⟩:=h
  rfl
 obtain⟨x,st,rfl,h1,q⟩:=h
 refine U4 ?_
 intro Xz
 refine⟨_,(Z6 (Zd (W0 (Zf Jg (pv 0) (pv 1) (by with_unfolding_all rfl)) (Zs Zk Z8 (pv 0)) (pv 0)))),?_⟩
 refine⟨_,rfl,_,rfl,_,_,rfl,rfl,_,rfl,?_⟩
 show if within x st=true then _ else _
 unfold sg at q
 refine X5 (fun z=>?_) (fun z=>?_)
 ·rw[if_pos z]at q
  exact⟨_,rfl,_,_,rfl,rfl,Yv (by rw[Z73];omega),q⟩
 ·rw[if_neg z]at q
  exact⟨_,rfl,q⟩
abbrev Vc:Stmt:=U3 38
theorem sc_run_text:FnScope ["low","high","first"] ["low","high"] (Zc Vc):=U5
theorem Z3o{ts:Tok}(Yc:mg "STROKED_IN_RUNS" = some (.str Zy ts))(O_sign_text:Own P w K mg base 1 "sign_text" ["sign","stroked"] Z5s)(F:Fun K "run_text" "run_text" Vc f fd):FnOk P w K mg base V1 2 f fd ["low","high"] Zac:=by
 refine F.ok sc_run_text (fun vs H Q E h=>?_) (fun cdv A outer s H vs Q E hr h=>?_)
 ·obtain⟨r,rfl,_⟩:=h
  rfl
 obtain⟨⟨x,y⟩,rfl,h1,h2,q⟩:=h
 refine U4 ?_
 intro Xz
 refine⟨_,(Z3 (pS 2 sc_run_text.nd (Zi (O_sign_text.mono (by omega)) hr rfl (Z0 (pv 0) (Z0 (Y5 (v:=.str _) rfl Yc ⟨_,rfl⟩) Z2))))
  (Z3 (Zq (Zf Y1 (pv 0) (pv 1) (Zj _)) (Z6 (Zd (pv 2))) Zh)
  (Z6 (Zd (Zs Zk (Zs Zk (pv 2) Z8) (Zi (O_sign_text.mono (by omega)) hr rfl (Z0 (pv 1) (Z0 (Y5 (v:=.str _) rfl Yc ⟨_,rfl⟩) Z2)))))))),?_⟩
 refine Z15 ?_
 intro Ez Az1 Az2 Az3
 have a:(sg x Zy).length<=2:=Ue h1
 have b:(sg y Zy).length<=2:=Ue h2
 refine⟨_,rfl,x,Zy,rfl,h1,?_⟩
 unfold Xf at q
 refine⟨_,rfl,_,rfl,rfl,_,rfl,X5 (fun z=>?_) (fun z=>?_)⟩
 ·rw[if_pos z]at q
  exact⟨_,rfl,q⟩
 ·rw[if_neg z]at q
  exact⟨_,rfl,_,_,rfl,rfl,Yv (by rw[Uy];omega),_,rfl,y,Zy,rfl,h2,_,_,rfl,rfl,Yv (by rw[Za,Uy];omega),q⟩
abbrev W7:Stmt:=U3 40
theorem Z1k:FnScope ["low","high","how"] ["low","high","how"] (Zc W7):=U5
theorem Z1n{hw:Addr}(T:Blt mg)(Z3j:mg "HOWS" = some (.ref hw))(hHW:DcK K w hw Z2r)(F:Fun K "turns_text" "turns_text" W7 f fd):FnOk P w K mg base V1 1 f fd ["low","high","how"] Z48:=by
 refine F.ok Z1k (fun vs H Q E h=>?_) (fun cdv A outer s H vs Q E hr h=>?_)
 ·obtain⟨lo,hi,how,rfl,_⟩:=h
  rfl
 obtain⟨lo,hi,how,rfl,⟨h0,h1,hh⟩,q⟩:=h
 refine U4 ?_
 intro Xz
 refine⟨_,(Z6 (Zd (Zs Zk (Zs Zk (Zs Zk (Zs Zk (Zs Zk Z8 (Zw Yq rfl T.b_str PyProof.Rows.Boot.«str» (Z0 (pv 0) Z2))) Z8) (W0 (Z16 (Z3f (pv 1))) Z8 (Zw Yq rfl T.b_str PyProof.Rows.Boot.«str» (Z0 (pv 1) Z2)))) (T2 (Y5 (v:=.ref _) rfl Z3j rfl) (pv 2) (fun _ _=>rfl))) Z8))),?_⟩
 have a:=Wx h0 h1
 have b:=Z6e hh
 have c:=Z0a how
 refine⟨_,rfl,lo,rfl,lg h0 h1,_,_,rfl,rfl,Yv (by show _+(Uc lo).length<=_;rw[To];omega),_,_,rfl,rfl,Yv (by show("{" ++ Uc lo:Str).length+_<=_;rw[Za,To,Wa];omega),?_⟩
 have fin:∀x:Str,x=Zcg hi->(Te (fun x y H Q=>∃i j,x=.str i/\y=.str j/\i.length+j.length<=sizeLine/\Q (.str (i++j)) H) (Te (fun x y H Q=>∃i j,x=.str i/\y=.str j/\i.length+j.length<=sizeLine/\Q (.str (i++j)) H) (tC (.str (("{" ++ Uc lo:Str)++"," ++ x))) (Zc8 K w (tC (.ref hw)) (Yz 2))) (tC (.str "}"))) [some (.int lo),some (Z1c hi),some (.str how.text)] H Q:=by
  rintro x rfl
  refine⟨_,rfl,hw,Z2r,Sum.inr how.text,_,rfl,hHW,rfl,Zbi how,_,_,rfl,rfl,Yv (by rw[Za,Za,Za,To,Wa];omega),_,_,rfl,rfl,Yv (by rw[Za,Za,Za,Za,To,Wa,Z5u];omega),q⟩
 cases hi with
 |none =>
  refine⟨_,rfl,_,rfl,Zm (by show decide (V.non=V.non)=true;simp) ?_⟩
  exact⟨_,_,rfl,rfl,Yv (by show(("{" ++ Uc lo:Str)++",").length+("":Str).length<=_;rw[Za,Za,To,Wa,Zak];omega),fin "" rfl⟩
 |some x =>
  refine⟨_,rfl,_,rfl,Z7 (by show ¬decide (V.int x=V.non)=true;simp) ?_⟩
  have b':(Uc x).length<=2:=b
  exact⟨_,rfl,x,rfl,lg (hh x rfl).1 (hh x rfl).2,_,_,rfl,rfl,Yv (by show(("{" ++ Uc lo:Str)++",").length+(Uc x).length<=_;rw[Za,Za,To,Wa];omega),fin (Uc x) rfl⟩
abbrev Xh:Stmt:=U3 39
theorem sc_wrapped_text:FnScope ["part","kinds","text"] ["part","kinds"] (Zc Xh):=U5
theorem Jy{n k:Nat}(O_pattern_text:Own P w K mg base (2+k) "pattern_text" ["pattern"] (Tf n))(F:Fun K "wrapped_text" "wrapped_text" Xh f fd):FnOk P w K mg base V1 (2+k+1) f fd ["part","kinds"] (Z8d K n):=by
 refine F.ok sc_wrapped_text (fun vs H Q E h=>?_) (fun cdv A outer s H vs Q E hr h=>?_)
 ·obtain⟨v,p,t,ws,rfl,_⟩:=h
  rfl
 obtain⟨v,p,t,ws,rfl,hp,hz,hw,hf,q⟩:=h
 refine U4 ?_
 intro Xz
 refine⟨_,(Z3 (pS 2 sc_wrapped_text.nd (Zi (O_pattern_text.mono (by omega)) hr rfl (Z0 (pv 0) Z2)))
  (Z6 (Zd (W0 (Zf U1 (Zo Zt (pv 0) Z5 (fun _ _=>rfl)) (pv 1) (by with_unfolding_all rfl)) (Zs Zk (Zs Zk Z8 (pv 2)) Z8) (pv 2))))),?_⟩
 refine Z3b ?_
 intro Ez Az1
 have hs:=hp.short
 unfold Xe at hs
 refine⟨_,rfl,v,p,rfl,hp,hz,fun H1 g1=>?_⟩
 have hp1:=hp.mono g1.tups
 have e:∃(a:Addr) (r:List V),v=.ref a/\H1 a=some (.tup (.str p.word::r)):=by
  cases n with
  |zero=>exact hp.elim
  |succ d =>
   obtain⟨h,ks⟩:=p
   obtain⟨a,kv,e,l,_⟩:=hp1
   obtain⟨r,q⟩:=l.head
   exact⟨a,r,e,q⟩
 obtain⟨a,r,rfl,ea⟩:=e
 have q':=q H1 g1
 unfold Z0k at q'
 refine⟨_,rfl,a,_,_,_,rfl,rfl,SqT.of ea,Z11,_,rfl,t,ws,rfl,.inr (hw H1 g1),rfl,hf,_,rfl,?_⟩
 show if Z1u (.str p.word) ws=true then _ else _
 refine X5 (fun z=>?_) (fun z=>?_)
 ·rw[if_pos (show Z1u (.str p.wt.1) ws=true from z)]at q'
  exact⟨_,rfl,_,_,rfl,rfl,Yv (by rw[Z8e];omega),_,_,rfl,rfl,Yv (by rw[Za,Z8e,Ub];omega),q'⟩
 ·rw[if_neg (show ¬Z1u (.str p.wt.1) ws=true from z)]at q'
  exact⟨_,rfl,q'⟩
inductive spIsI(vs:List V)(H:Hp)(Q:VK):Prop
 |mk (c:Nat) (_:vs=[.str ⟨#[c]⟩]) (_:Z74 c) (_:Q (.bl true) H)
def Zeu:Sp:=fun vs H Q _=>spIsI vs H Q
abbrev Uu:Stmt:=U3 42
theorem sc_is_sign:FnScope ["sign","number"] ["sign"] (Zc Uu):=U5
theorem Z5f{t1 t2 t3:Tok}(T:Blt mg)(Zbo:mg "BLANK" = some (.int 32 t1))(Z40:mg "LAST_SIGN" = some (.int 126 t2))(Z84:mg "PERCENT" = some (.int 37 t3))(F:Fun K "is_sign" "is_sign" Uu f fd):FnOk P w K mg base V1 1 f fd ["sign"] Zeu:=by
 refine F.ok sc_is_sign (fun vs H Q E h=>?_) (fun cdv A outer s H vs Q E hr h=>?_)
 ·obtain⟨c,rfl,_⟩:=h
  rfl
 obtain⟨c,rfl,hc,q⟩:=h
 obtain⟨h1,h2,h3⟩:=hc
 refine U4 ?_
 intro Xz
 refine⟨_,(Z3 (pS 1 sc_is_sign.nd (Zx Ur rfl T.b_ord PyProof.Rows.Boot.«ord» (Z0 (pv 0) Z2)))
  (Z6 (Zd (Vr (Yo Jc (Y5 (v:=.int _) rfl Zbo ⟨_,rfl⟩) (pv 1) (Zj _)) (Vr (Yo Jc (pv 1) (Y5 (v:=.int _) rfl Z40 ⟨_,rfl⟩) (Zj _)) (Uw (Yo Z02 (pv 1) (Y5 (v:=.int _) rfl Z84 ⟨_,rfl⟩) (Zj _)))))))),?_⟩
 refine Z3b ?_
 intro Ez Az1
 refine Zg rfl ⟨_,rfl,rfl,?_⟩
 refine Zg rfl (Ud rfl rfl (Zg rfl (Zm (decide_eq_true (by show(32:Int)<=(c:Nat);omega)) ?_)))
 refine Zg rfl (Ud rfl rfl (Zg rfl (Zm (decide_eq_true (by show((c:Nat):Int)<=126;omega)) ?_)))
 refine Zg rfl ⟨rfl,?_⟩
 show Q (V.bl (!decide (V.int (c:Nat)=V.int 37))) H
 rw[decide_eq_false (fun z=>by injection z with z';omega)]
 exact q
inductive spRInI(CR:Addr)(vs:List V)(H:Hp)(Q:VK):Prop
 |mk (m dx:Addr) (t:Str) (_:vs=[.ref m,.str t]) (_:H m=some (.ins CR dx [])) (_:∀H',H' m=some (.ins CR dx (Z2a t 0 0 0))->Gro [m] H H'->Q .non H')
def Zad(CR:Addr):Sp:=fun vs H Q _=>spRInI CR vs H Q
abbrev Xd:Stmt:=Yx (U3 43) 0
theorem T9:FnScope ["self","text"] ["self","text"] (Zc Xd):=U5
theorem Ze0(MTR:TxtR K CR)(F:Fun K "__init__" "Reader.__init__" Xd f fd):FnOk P w K mg base V1 1 f fd ["self","text"] (Zad CR):=by
 refine F.ok T9 (fun vs H Q E h=>?_) (fun cdv A outer s H vs Q E hr h=>?_)
 ·obtain⟨m,dx,t,rfl,_⟩:=h
  rfl
 obtain⟨m,dx,t,rfl,h0,q⟩:=h
 refine U4 ?_
 intro Xz
 refine⟨_,(Z3 (Z3e (pv 0) (pv 1) rfl)
  (Z3 (Z3e (pv 0) Z5 rfl)
  (Z3 (Z3e (pv 0) Z5 rfl)
  (Z6 (Z3e (pv 0) Z5 rfl))))),?_⟩
 refine Zd8 ?_
 intro Ez Az1 Az2 Az3
 refine Zg rfl (Zg rfl ⟨m,CR,dx,_,rfl,h0,MTR.cl,MTR.a1,by show 0<1000;decide,?_⟩)
 refine Zg rfl ⟨m,CR,dx,_,rfl,Z1,MTR.cl,MTR.a2,by show 1<1000;decide,?_⟩
 refine Zg rfl ⟨m,CR,dx,_,rfl,Z1,MTR.cl,MTR.a3,by show 2<1000;decide,?_⟩
 refine Zg rfl ⟨m,CR,dx,_,rfl,Z1,MTR.cl,MTR.a4,by show 3<1000;decide,?_⟩
 rw[U9,U9,U9]
 exact q _ (by rw[Z1];rfl) (Gro.ins (by simp) h0 _)
inductive spRpI(vs:List V)(H:Hp)(Q:VK):Prop
 |mk (p:Pat) (G:Int) (_:vs=[.str p.txt]) (_:Kp G 8 0 p G) (_:G<=9) (_:p.size<=60) (_:p.txt.length<=100000) (_:∀(v:V) (H':Hp),PatAt H' 8 v p->Gro [] H H'->Q v H')
def Zep:Sp:=fun vs H Q _=>spRpI vs H Q
abbrev Xi:Stmt:=U3 41
theorem sc_read_pattern:FnScope ["text","reader","pattern"] ["text"] (Zc Xi):=U5
theorem Zfm(T:Blt mg)(MTR:TxtR K CR)(O_is_sign:Own P w K mg base 1 "is_sign" ["sign"] Zeu)(O_Reader:OwnC P w K mg base 1 CR "Reader" ["self","text"] (Zad CR))(O_Reader_branches:OwnM P w K mg base 60 CR "branches" ["self"] (Zc2 CR 8))(O_Reader_need:OwnM P w K mg base 3 CR "need" ["self","sign"] (Jr CR))
  (O_keeps_bounds:Own P w K mg base 11 "keeps_bounds" ["pattern"] Zet) (O_pattern_text:Own P w K mg base 18 "pattern_text" ["pattern"] (Tf 8)) (F:Fun K "read_pattern" "read_pattern" Xi f fd):FnOk P w K mg base V1 61 f fd ["text"] Zep:=by
 refine F.ok sc_read_pattern (fun vs H Q E h=>?_) (fun cdv A outer s H vs Q E hr h=>?_)
 ·obtain⟨p,G,rfl,_⟩:=h
  rfl
 obtain⟨p,G,rfl,hK,hG,hz,hl,q⟩:=h
 refine U4 ?_
 intro Xz
 refine⟨_,(Z3 (Zq (Js (Yu (Zx (Z10 rfl) rfl T.b_all PyProof.Rows.Boot.«all» (Z0 (Xa rfl (show CScope _ ["text","reader","pattern"] (Zc Xi) _ from⟨rfl,by decide +kernel,rfl,by decide +kernel,by decide +kernel,by decide +kernel,by decide +kernel⟩) (Zdp (pv 0)) (fun _ _ _ _=>X7) (fun _ _ _ _=>(Zi (O_is_sign.mono (by omega)) hr rfl (Z0 (pv 0) Z2)))) Z2)))) (Z6 Vf) Zh)
  (Z3 (pS 1 sc_read_pattern.nd (Zaz (O_Reader.mono (by omega)) hr rfl (Z0 (pv 0) Z2)))
  (Z3 (pS 2 sc_read_pattern.nd (Ye (O_Reader_branches.mono (by omega)) MTR.cl hr (pv 1)))
  (Z3 (X8 (Yb (O_Reader_need.mono (by omega)) MTR.cl hr (pv 1) (Z0 Z8 Z2)))
  (Z3 (Zq (Js (Yu (Zi (O_keeps_bounds.mono (by omega)) hr rfl (Z0 (pv 2) Z2)))) (Z6 Vf) Zh)
  (Z3 (Zq (Zf Z02 (Zi (O_pattern_text.mono (by omega)) hr rfl (Z0 (pv 2) Z2)) (pv 0) (Zj _)) (Z6 Vf) Zh)
  (Z6 (Zd (pv 2))))))))),?_⟩
 refine Zde ?_
 intro Ez Az1 Az2 Az3 Az4 Az5 Az6 Az7 Az8 Az9
 have hs:=hK.sgs hG
 have hsz:p.txt.cps.size=p.txt.length:=rfl
 refine Zg rfl ⟨p.txt,rfl,?_⟩
 refine Ze5 (fun i ys H'=>∃bs:List Bool,ys=bs.map V.bl/\bs.length=i/\bs.all id=true/\H'=H) ⟨[],rfl,rfl,rfl,rfl⟩ (by rw[hsz];exact big (by omega)) (fun i ys H' ⟨ns,e1,e2,_⟩=>by rw[e1,List.length_map,e2];exact Nat.le_refl _) ?_ ?_
 ·rintro i ys H' c hc ⟨bs,rfl,e2,e3,rfl⟩
  refine Zg rfl ⟨c,rfl,hs c ?_,bs++[true],by simp,by simp[e2],by rw[List.all_append,e3];rfl,rfl⟩
  have:=Array.mem_of_getElem? hc
  simpa[cs] using this
 rintro ys H' ⟨bs,rfl,e2,e3,rfl⟩ l hl'
 refine⟨l,bs,rfl,SqL.of Z1,Zg rfl (Z7 (by rw[e3];decide) ?_)⟩
 have gl:=Gro.new (S:=[]) hl' (.lst (bs.map V.bl))
 generalize Y2 H' l (.lst (bs.map V.bl))=H1 at *
 refine Zg rfl fun m dx hm hdx hne=>?_
 refine⟨m,dx,p.txt,rfl,Z1,fun H2 hm2 g2=>⟨rfl,?_⟩⟩
 have gA:∀b o,H' b=some o->b≠m/\H2 b=some o:=fun b o h=>by
  have h1:=gl.keep b o h (by simp)
  have bm:=Z9 h1 hm
  have bd:=Z9 h1 hdx
  exact⟨bm,g2.keep b o (by rw[Zl bm,Zl bd];exact h1) (by simpa using bm)⟩
 have hR:Vl CR H2 m dx p.txt (0:Nat) 0 0:=⟨hm2,hl,by omega⟩
 have hst:Z55 (U8 p.txt (0+p.txt.length)):=by
  rw[Nat.zero_add,Z6n (Nat.le_refl _)]
  exact .inl rfl
 refine Zg rfl ⟨m,dx,Zg rfl ⟨hR.1,Zp (by decide +kernel),8,Nat.le_refl _,m,dx,p.txt,p,0,0,G,0,rfl,hR,Nat.zero_le _,AtT.all _,hK.cn hG,hst,by omega,fun v H3 hP hR3 g3=>?_⟩⟩
 rw[Nat.zero_add]at hR3
 refine Zg rfl ⟨m,dx,Zg rfl ⟨hR3.1,Zp (by decide +kernel),m,dx,p.txt,_,_,G,0,rfl,hR3,by omega,Z6n (Nat.le_refl _),fun H4 hR4 g4=>?_⟩⟩
 have hP4:=hP.mono g4.tups
 refine Zg rfl ⟨v,p,G,rfl,hP4,hK,hG,hz,fun H5 g5=>Zg rfl (Z7 (by decide) ?_)⟩
 have hP5:=hP4.mono g5.tups
 refine Zg rfl ⟨v,p,rfl,hP5,by omega,fun H6 g6=>Zg rfl ⟨rfl,Zg rfl (Z7 (by simp) ?_)⟩⟩
 refine Zg rfl (q v H6 (hP5.mono g6.tups) ?_)
 have gB:∀b o,H' b=some o->H6 b=some o:=fun b o h=>by
  obtain⟨bm,h2⟩:=gA b o h
  exact g6.keep b o (g5.keep b o (g4.keep b o (g3.keep b o h2 (by simpa using bm)) (by simpa using bm)) (by simp)) (by simp)
 exact⟨fun b o h _=>gB b o h,fun b xs h=>gB b _ h⟩
end
theorem Zcl(h:Hd):(X4 bareT (Sum.inr h.word)).isSome=(match h.wd with | .any=>true | .beg=>true | .fin=>true | _=>false):=by rw[h.word_wd];cases h.wd <;> decide +kernel
theorem Zan(h:Hd):(X4 Yn (Sum.inr h.word)).isSome=(match h.wd with | .inn=>true | .out=>true | _=>false):=by rw[h.word_wd];cases h.wd <;> decide +kernel
theorem Z06{ks:List Pat}{i:Nat}{p:Pat}(h:ks[i]? = some p):p.size<=Y8 ks:=by
 induction ks generalizing i with
 |nil=>simp at h
 |cons k ks ih =>
  rw[Y8]
  cases i with
  |zero=>simp at h;subst h;omega
  |succ i=>have:=ih (i:=i) (by simpa using h);omega
section
variable{P:Program}{w:World}{K:W.Frag}{mg:Str->Option Value}{base:Heap}{f:Addr}{fd:FuncData}
theorem Z6o{H:Hp}{r:Addr}{rs:List (Str×Str)}{σ:L2.St}{Fin:List V->Hp->Prop}(hr:RunsAt H r rs)(q:Fin ((rs.map Xf).map V.str) H) :
  Zc5 2 (Zc3 K 2 (Z1h (Wg 0) (Z1h (Wg 1) Zc4))) (Zgh K r) σ Z5r (T5 Zac [] E0 (Yf (Yz 0) (Yf (Yz 1) V0))) Fin H:=by
 obtain⟨vs,hv,hp,hz⟩:=hr
 have hl:=Paired.length hp
 refine Z6t (xs:=vs) (fun i ys H'=>ys=((rs.take i).map Xf).map V.str/\H'=H) ⟨rfl,rfl⟩ (Zz (by omega)) (fun i ys H' ⟨e,_⟩=>by rw[e];simp;omega) (fun i ys H' ⟨_,e⟩=>by rw[e];exact SqT.of hv) ?_ ?_
 ·rintro i ys H' x hx ⟨rfl,rfl⟩ τ hτ
  obtain⟨p,hpi,h1,h2,a,rfl,ha⟩:=Yh hp hx
  match τ,hτ with
  | [t1,t2],_ =>
   refine⟨a,_,rfl,SqT.of ha,rfl,_,_,rfl,_,_,rfl,rfl,⟨[some (.str p.1),some (.str p.2)],rfl,rfl⟩,?_⟩
   refine⟨_,rfl,_,rfl,p,rfl,h1,h2,?_,rfl⟩
   rw[Z4k hpi,List.map_append]
   rfl
 ·rintro ys H' ⟨rfl,rfl⟩
  rw[hl,List.take_length]
  exact q
abbrev Yj:Stmt:=U3 36
theorem sc_pattern_text:FnScope ["pattern","kind"] ["pattern"] (Zc Yj):=U5
theorem Jz{n k:Nat}{bt lt bk wr wt:Addr}{ts:Tok}(T:Blt mg)(Vb:mg "STROKED" = some (.str stroked ts))(T0:mg "BARE" = some (.ref bt))(hBT:DcK K w bt bareT)(J5:mg "LISTS" = some (.ref lt))(hLT:DcK K w lt Yn)(W2:mg "BRACKETS" = some (.ref bk))(hBK:DcK K w bk bracketsT)
  (Xm:mg "WRAPPED_IN_ROW" = some (.ref wr)) (hWR:∀H,SqT K H wr Ym) (X1:mg "WRAPPED_IN_TIMES" = some (.ref wt)) (hWT:∀H,SqT K H wt Y7)
  (O_sign_text:Own P w K mg base 1 "sign_text" ["sign","stroked"] Z5s) (O_run_text:Own P w K mg base 2 "run_text" ["low","high"] Zac) (O_turns_text:Own P w K mg base 1 "turns_text" ["low","high","how"] Z48) (O_wrapped_text:Own P w K mg base (2+k+1) "wrapped_text" ["part","kinds"] (Z8d K n))
  (O_pattern_text:Own P w K mg base (2+k) "pattern_text" ["pattern"] (Tf n)) (F:Fun K "pattern_text" "pattern_text" Yj f fd):FnOk P w K mg base V1 (2+k+2) f fd ["pattern"] (Tf (n+1)):=by
 refine F.ok sc_pattern_text (fun vs H Q E h=>?_) (fun cdv A outer s H vs Q E hr h=>?_)
 ·obtain⟨v,p,rfl,_⟩:=h
  rfl
 obtain⟨v,⟨h,ks⟩,rfl,hp,hz,q⟩:=h
 refine U4 ?_
 intro Xz
 refine⟨_,(Z3 (pS 1 sc_pattern_text.nd (Zo Zt (pv 0) Z5 (fun _ _=>rfl)))
  (Z3 (Zq (Zf Y1 (pv 1) Z8 (Zj _)) (Z6 (Zd (Zi (O_sign_text.mono (by omega)) hr rfl (Z0 (Zo Zt (pv 0) Z5 (fun _ _=>rfl)) (Z0 (Y5 (v:=.str _) rfl Vb ⟨_,rfl⟩) Z2))))) Zh)
  (Z3 (Zq (Zf Z9w (pv 1) (Y5 (v:=.ref _) rfl T0 rfl) (by with_unfolding_all rfl)) (Z6 (Zd (T2 (Y5 (v:=.ref _) rfl T0 rfl) (pv 1) (fun _ _=>rfl)))) Zh)
  (Z3 (Zq (Zf Z9w (pv 1) (Y5 (v:=.ref _) rfl J5 rfl) (by with_unfolding_all rfl)) (Z6 (Zd (Zs Zk (Zs Zk (T2 (Y5 (v:=.ref _) rfl J5 rfl) (pv 1) (fun _ _=>rfl)) (V2 PySem.F.plainAttrs_str PySem.F.slot_str_join PySem.F.type_str_join T4 Z8 (Z0 (Z20 rfl (show CScopeN ["low","high"] ["pattern","kind"] (Zc Yj) _ from⟨rfl,by decide +kernel,by decide +kernel,by decide +kernel,by decide +kernel,by decide +kernel,by decide +kernel⟩) (Vh (Zo Zt (pv 0) Z5 (fun _ _=>rfl))) (fun _ _ _ _=>X7) (fun _ _ _ _=>(Zi (O_run_text.mono (by omega)) hr rfl (Z0 (pv 0) (Z0 (pv 1) Z2))))) Z2))) Z8))) Zh)
  (Z3 (Zq (Zf Y1 (pv 1) Z8 (Zj _)) (Z6 (Zd (V2 PySem.F.plainAttrs_str PySem.F.slot_str_join PySem.F.type_str_join T4 Z8 (Z0 (Xa rfl (show CScope _ ["pattern","kind"] (Zc Yj) _ from⟨rfl,by decide +kernel,rfl,by decide +kernel,by decide +kernel,by decide +kernel,by decide +kernel⟩) (Vh (Zo Zt (pv 0) Z5 (fun _ _=>rfl))) (fun _ _ _ _=>X7) (fun _ _ _ _=>(Zi (O_wrapped_text.mono (by omega)) hr rfl (Z0 (pv 0) (Z0 (Y5 (v:=.ref _) rfl Xm rfl) Z2))))) Z2)))) Zh)
  (Z3 (Zq (Zf Y1 (pv 1) Z8 (Zj _)) (Z6 (Zd (V2 PySem.F.plainAttrs_str PySem.F.slot_str_join PySem.F.type_str_join T4 Z8 (Z0 (Xa rfl (show CScope _ ["pattern","kind"] (Zc Yj) _ from⟨rfl,by decide +kernel,rfl,by decide +kernel,by decide +kernel,by decide +kernel,by decide +kernel⟩) (Vh (Zo Zt (pv 0) Z5 (fun _ _=>rfl))) (fun _ _ _ _=>X7) (fun _ _ _ _=>(Zi (O_pattern_text.mono (by omega)) hr rfl (Z0 (pv 0) Z2)))) Z2)))) Zh)
  (Z3 (Zq (Zf Y1 (pv 1) Z8 (Zj _)) (Z6 (Zd (Zs Zk (Zi (O_wrapped_text.mono (by omega)) hr rfl (Z0 (Zo Zt (pv 0) Z5 (fun _ _=>rfl)) (Z0 (Y5 (v:=.ref _) rfl X1 rfl) Z2))) (Zi (O_turns_text.mono (by omega)) hr rfl (Z0 (Zo Zt (pv 0) Z5 (fun _ _=>rfl)) (Z0 (Zo Zt (pv 0) Z5 (fun _ _=>rfl)) (Z0 (Zo Zt (pv 0) Z5 (fun _ _=>rfl)) Z2))))))) Zh)
  (Z3 (Zq (Zf Y1 (pv 1) Z8 (Zj _)) (Z6 (Zd (Zs Zk (Zs Zk Z8 (Zi (O_pattern_text.mono (by omega)) hr rfl (Z0 (Zo Zt (pv 0) Z5 (fun _ _=>rfl)) Z2))) Z8))) Zh)
  (Z3 (Zq (Zf Y1 (pv 1) Z8 (Zj _)) (Z6 (Zd (Zs Zk Z8 (Zw Yq rfl T.b_str PyProof.Rows.Boot.«str» (Z0 (Zo Zt (pv 0) Z5 (fun _ _=>rfl)) Z2))))) Zh)
  (Z3 (Zq (Zf Y1 (pv 1) Z8 (Zj _)) (Z6 (Zd (Zs Zk (Zs Zk (Zs Zk (Zs Zk (Zs Zk Z8 (Zw Yq rfl T.b_str PyProof.Rows.Boot.«str» (Z0 (Zo Zt (pv 0) Z5 (fun _ _=>rfl)) Z2))) (Zi (O_pattern_text.mono (by omega)) hr rfl (Z0 (Zo Zt (pv 0) Z5 (fun _ _=>rfl)) Z2))) Z8) (Zi (O_pattern_text.mono (by omega)) hr rfl (Z0 (Zo Zt (pv 0) Z5 (fun _ _=>rfl)) Z2))) Z8))) Zh)
  (Z6 (Zd (Zs Zk (Zs Zk (Zs Zk Z8 (T2 (Y5 (v:=.ref _) rfl W2 rfl) (pv 1) (fun _ _=>rfl))) (Zi (O_pattern_text.mono (by omega)) hr rfl (Z0 (Zo Zt (pv 0) Z5 (fun _ _=>rfl)) Z2))) Z8))))))))))))),?_⟩
 refine Zd4 ?_
 intro Ez Az1 Az2 Az3 Az4 Az5 Az6 Az7 Az8 Az9 Az10 Az11 Az12 Az13 Az14 Az15 Az16 Az17 Az18 Az19
 rw[X0]at q
 have hsh:=hp.short
 unfold Xe at hsh
 rw[X0]at hsh
 rw[Zu]at hz hsh
 obtain⟨a,kv,rfl,lay,hk⟩:=id hp
 obtain⟨r0,ea⟩:=lay.head
 have hkl:=Paired.length hk
 have few:=lay.few
 refine⟨_,rfl,a,_,_,_,rfl,rfl,SqT.of ea,Z11,?_⟩
 have bare:=Zcl h
 have lists:=Zan h
 cases h with
 |sign x =>
  refine⟨_,rfl,rfl,_,rfl,Zm (show X2 "sign" "sign" = true by decide +kernel) ?_⟩
  exact⟨_,rfl,a,_,_,_,rfl,rfl,SqT.of lay.2.2,rfl,x,stroked,rfl,lay.2.1,q H Gro.refl⟩
 |any =>
  refine⟨_,rfl,rfl,_,rfl,Z7 (show ¬X2 "any" "sign" = true by decide +kernel) ?_⟩
  refine⟨_,rfl,bt,bareT,Sum.inr "any",rfl,hBT,rfl,_,rfl,Zm bare ?_⟩
  exact⟨_,rfl,bt,bareT,Sum.inr "any",_,rfl,hBT,rfl,(by decide +kernel:X4 bareT (Sum.inr "any")=some (.str ".")),q H Gro.refl⟩
 |beg =>
  refine⟨_,rfl,rfl,_,rfl,Z7 (show ¬X2 "begin" "sign" = true by decide +kernel) ?_⟩
  refine⟨_,rfl,bt,bareT,Sum.inr "begin",rfl,hBT,rfl,_,rfl,Zm bare ?_⟩
  exact⟨_,rfl,bt,bareT,Sum.inr "begin",_,rfl,hBT,rfl,(by decide +kernel:X4 bareT (Sum.inr "begin")=some (.str "^")),q H Gro.refl⟩
 |fin =>
  refine⟨_,rfl,rfl,_,rfl,Z7 (show ¬X2 "end" "sign" = true by decide +kernel) ?_⟩
  refine⟨_,rfl,bt,bareT,Sum.inr "end",rfl,hBT,rfl,_,rfl,Zm bare ?_⟩
  exact⟨_,rfl,bt,bareT,Sum.inr "end",_,rfl,hBT,rfl,(by decide +kernel:X4 bareT (Sum.inr "end")=some (.str "$")),q H Gro.refl⟩
 |inn rs =>
  obtain⟨_,r,e,hr'⟩:=lay
  have hrt:=hr'.tame
  have h1:=Tv hrt
  have h2:=Vz hrt
  refine⟨_,rfl,rfl,_,rfl,Z7 (show ¬X2 "in" "sign" = true by decide +kernel) ?_⟩
  refine⟨_,rfl,bt,bareT,Sum.inr "in",rfl,hBT,rfl,_,rfl,Z7 (by rw[show(X4 bareT (Sum.inr "in")).isSome=false from bare];decide) ?_⟩
  refine⟨_,rfl,lt,Yn,Sum.inr "in",rfl,hLT,rfl,_,rfl,Zm lists ?_⟩
  refine⟨_,rfl,lt,Yn,Sum.inr "in",_,rfl,hLT,rfl,(by decide +kernel:X4 Yn (Sum.inr "in")=some (.str "[")),rfl,?_⟩
  obtain⟨vs,hv,hpv,hvz⟩:=id hr'
  refine⟨_,rfl,a,_,_,_,rfl,rfl,SqT.of e,rfl,r,rfl,⟨vs,SqT.of hv⟩,Z6o (K:=K) hr' fun l hl=>?_⟩
  refine⟨"",l,rs.map Xf,rfl,rfl,SqL.of Z1,by rw[Zak];omega,_,_,rfl,rfl,Yv (by rw[Jv];omega),_,_,rfl,rfl,Yv (by rw[Za,Jv,Z1d];omega),q _ (Gro.new hl _)⟩
 |out rs =>
  obtain⟨_,r,e,hr'⟩:=lay
  have hrt:=hr'.tame
  have h1:=Tv hrt
  have h2:=Vz hrt
  refine⟨_,rfl,rfl,_,rfl,Z7 (show ¬X2 "out" "sign" = true by decide +kernel) ?_⟩
  refine⟨_,rfl,bt,bareT,Sum.inr "out",rfl,hBT,rfl,_,rfl,Z7 (by rw[show(X4 bareT (Sum.inr "out")).isSome=false from bare];decide) ?_⟩
  refine⟨_,rfl,lt,Yn,Sum.inr "out",rfl,hLT,rfl,_,rfl,Zm lists ?_⟩
  refine⟨_,rfl,lt,Yn,Sum.inr "out",_,rfl,hLT,rfl,(by decide +kernel:X4 Yn (Sum.inr "out")=some (.str "[^")),rfl,?_⟩
  obtain⟨vs,hv,hpv,hvz⟩:=id hr'
  refine⟨_,rfl,a,_,_,_,rfl,rfl,SqT.of e,rfl,r,rfl,⟨vs,SqT.of hv⟩,Z6o (K:=K) hr' fun l hl=>?_⟩
  refine⟨"",l,rs.map Xf,rfl,rfl,SqL.of Z1,by rw[Zak];omega,_,_,rfl,rfl,Yv (by rw[Z78];omega),_,_,rfl,rfl,Yv (by rw[Za,Z78,Z1d];omega),q _ (Gro.new hl _)⟩
 |row =>
  obtain⟨_,r,e,er⟩:=lay
  have ih:∀k∈ks,Xe k:=fun k hk'=>by
   obtain⟨x,_,z⟩:=Xk hk k hk'
   exact z.short
  have hsum:=Z37 Ym ih
  refine⟨_,rfl,rfl,_,rfl,Z7 (by decide +kernel) ?_⟩
  refine⟨_,rfl,bt,bareT,Sum.inr "row",rfl,hBT,rfl,_,rfl,Z7 (by rw[show(X4 bareT (Sum.inr "row")).isSome=false from bare];decide) ?_⟩
  refine⟨_,rfl,lt,Yn,Sum.inr "row",rfl,hLT,rfl,_,rfl,Z7 (by rw[show(X4 Yn (Sum.inr "row")).isSome=false from lists];decide) ?_⟩
  refine⟨_,rfl,rfl,_,rfl,Zm (by decide +kernel) ?_⟩
  refine⟨rfl,_,rfl,a,_,_,_,rfl,rfl,SqT.of e,rfl,r,rfl,⟨_,SqT.of er⟩,?_⟩
  refine Uh (xs:=kv) (fun i ys H'=>ys=(((ks.take i).map Pat.wt).map (Z0k Ym)).map V.str/\Gro [] H H') ⟨rfl,Gro.refl⟩ (Zz (by omega)) (fun i ys H' ⟨e,_⟩=>by rw[e];simp;omega) (fun i ys H' ⟨_,g⟩=>SqT.of (g.tups _ _ er)) ?_ ?_
  ·rintro i ys H1 x hx ⟨rfl,g1⟩
   obtain⟨p,hpi,hpx⟩:=Yh hk hx
   have hsp:=Z06 hpi
   refine⟨_,rfl,x,p,wr,Ym,rfl,hpx.mono g1.tups,by omega,fun H' _=>hWR H',rfl,fun H2 g2=>⟨?_,g1.trans g2⟩⟩
   rw[Wi hpi]
   simp
  ·rintro ys H1 ⟨rfl,g1⟩ l hl
   rw[hkl,List.take_length]
   refine⟨"",l,(ks.map Pat.wt).map (Z0k Ym),rfl,rfl,SqL.of Z1,by rw[Zak];omega,q _ (g1.trans (Gro.new hl _))⟩
 |alt =>
  obtain⟨_,_,r,e,er⟩:=lay
  have ih:∀k∈ks,Xe k:=fun k hk'=>by
   obtain⟨x,_,z⟩:=Xk hk k hk'
   exact z.short
  have hsum:=Z38 ih
  refine⟨_,rfl,rfl,_,rfl,Z7 (by decide +kernel) ?_⟩
  refine⟨_,rfl,bt,bareT,Sum.inr "or",rfl,hBT,rfl,_,rfl,Z7 (by rw[show(X4 bareT (Sum.inr "or")).isSome=false from bare];decide) ?_⟩
  refine⟨_,rfl,lt,Yn,Sum.inr "or",rfl,hLT,rfl,_,rfl,Z7 (by rw[show(X4 Yn (Sum.inr "or")).isSome=false from lists];decide) ?_⟩
  refine⟨_,rfl,rfl,_,rfl,Z7 (by decide +kernel) ?_⟩
  refine⟨_,rfl,rfl,_,rfl,Zm (by decide +kernel) ?_⟩
  refine⟨rfl,_,rfl,a,_,_,_,rfl,rfl,SqT.of e,rfl,r,rfl,⟨_,SqT.of er⟩,?_⟩
  refine Uh (xs:=kv) (fun i ys H'=>ys=(((ks.take i).map Pat.wt).map (·.2)).map V.str/\Gro [] H H') ⟨rfl,Gro.refl⟩ (Zz (by omega)) (fun i ys H' ⟨e,_⟩=>by rw[e];simp;omega) (fun i ys H' ⟨_,g⟩=>SqT.of (g.tups _ _ er)) ?_ ?_
  ·rintro i ys H1 x hx ⟨rfl,g1⟩
   obtain⟨p,hpi,hpx⟩:=Yh hk hx
   have hsp:=Z06 hpi
   refine⟨_,rfl,x,p,rfl,hpx.mono g1.tups,by omega,fun H2 g2=>⟨?_,g1.trans g2⟩⟩
   rw[Wi hpi]
   simp[Pat.wt]
  ·rintro ys H1 ⟨rfl,g1⟩ l hl
   rw[hkl,List.take_length]
   refine⟨"|",l,(ks.map Pat.wt).map (·.2),rfl,rfl,SqL.of Z1,by rw[Z04];simp only[List.length_map,Nat.mul_one];omega,?_⟩
   exact q _ (g1.trans (Gro.new hl (.lst (((ks.map Pat.wt).map (·.2)).map V.str))))
 |times lo hi how =>
  obtain⟨hb,k,e0,e⟩:=lay
  subst e0
  refine⟨_,rfl,rfl,_,rfl,Z7 (show ¬X2 "times" "sign" = true by decide +kernel) ?_⟩
  refine⟨_,rfl,bt,bareT,Sum.inr "times",rfl,hBT,rfl,_,rfl,Z7 (by rw[show(X4 bareT (Sum.inr "times")).isSome=false from bare];decide) ?_⟩
  refine⟨_,rfl,lt,Yn,Sum.inr "times",rfl,hLT,rfl,_,rfl,Z7 (by rw[show(X4 Yn (Sum.inr "times")).isSome=false from lists];decide) ?_⟩
  refine⟨_,rfl,rfl,_,rfl,Z7 (show ¬X2 "times" "row" = true by decide +kernel) ?_⟩
  refine⟨_,rfl,rfl,_,rfl,Z7 (show ¬X2 "times" "or" = true by decide +kernel) ?_⟩
  refine⟨_,rfl,rfl,_,rfl,Zm (show X2 "times" "times" = true by decide +kernel) ?_⟩
  match ks,hk with
  | [p],.cons hpk .nil =>
   rw[Y9]at hz hsh
   have hsh':(Z0k Y7 p.wt++Vg lo hi how:Str).length+10<=150*(1+p.size):=hsh
   rw[Za]at hsh'
   refine⟨_,rfl,a,_,_,_,rfl,rfl,SqT.of e,rfl,k,p,wt,Y7,rfl,hpk,by omega,fun H' _=>hWT H',rfl,fun H1 g1=>?_⟩
   have e1:=g1.tups _ _ e
   exact⟨_,rfl,a,_,_,_,rfl,rfl,SqT.of e1,rfl,_,rfl,a,_,_,_,rfl,rfl,SqT.of e1,rfl,_,rfl,a,_,_,_,rfl,rfl,SqT.of e1,rfl,lo,hi,how,rfl,hb,_,_,rfl,rfl,Yv (by omega),q H1 g1⟩
 |grp j =>
  obtain⟨_,k,e0,e⟩:=lay
  subst e0
  refine⟨_,rfl,rfl,_,rfl,Z7 (show ¬X2 "group" "sign" = true by decide +kernel) ?_⟩
  refine⟨_,rfl,bt,bareT,Sum.inr "group",rfl,hBT,rfl,_,rfl,Z7 (by rw[show(X4 bareT (Sum.inr "group")).isSome=false from bare];decide) ?_⟩
  refine⟨_,rfl,lt,Yn,Sum.inr "group",rfl,hLT,rfl,_,rfl,Z7 (by rw[show(X4 Yn (Sum.inr "group")).isSome=false from lists];decide) ?_⟩
  refine⟨_,rfl,rfl,_,rfl,Z7 (show ¬X2 "group" "row" = true by decide +kernel) ?_⟩
  refine⟨_,rfl,rfl,_,rfl,Z7 (show ¬X2 "group" "or" = true by decide +kernel) ?_⟩
  refine⟨_,rfl,rfl,_,rfl,Z7 (show ¬X2 "group" "times" = true by decide +kernel) ?_⟩
  refine⟨_,rfl,rfl,_,rfl,Zm (show X2 "group" "group" = true by decide +kernel) ?_⟩
  match ks,hk with
  | [p],.cons hpk .nil =>
   rw[Y9]at hz hsh
   have hs1:=hpk.short
   unfold Xe at hs1
   refine⟨_,rfl,a,_,_,_,rfl,rfl,SqT.of e,rfl,k,p,rfl,hpk,by omega,fun H1 g1=>?_⟩
   exact⟨_,_,rfl,rfl,Yv (by rw[Z4v];omega),_,_,rfl,rfl,Yv (by rw[Za,Z4v,Zai];omega),q H1 g1⟩
 |again j =>
  obtain⟨hb,_,e⟩:=lay
  have hn:=Wx hb.1 hb.2
  refine⟨_,rfl,rfl,_,rfl,Z7 (show ¬X2 "again" "sign" = true by decide +kernel) ?_⟩
  refine⟨_,rfl,bt,bareT,Sum.inr "again",rfl,hBT,rfl,_,rfl,Z7 (by rw[show(X4 bareT (Sum.inr "again")).isSome=false from bare];decide) ?_⟩
  refine⟨_,rfl,lt,Yn,Sum.inr "again",rfl,hLT,rfl,_,rfl,Z7 (by rw[show(X4 Yn (Sum.inr "again")).isSome=false from lists];decide) ?_⟩
  refine⟨_,rfl,rfl,_,rfl,Z7 (show ¬X2 "again" "row" = true by decide +kernel) ?_⟩
  refine⟨_,rfl,rfl,_,rfl,Z7 (show ¬X2 "again" "or" = true by decide +kernel) ?_⟩
  refine⟨_,rfl,rfl,_,rfl,Z7 (show ¬X2 "again" "times" = true by decide +kernel) ?_⟩
  refine⟨_,rfl,rfl,_,rfl,Z7 (show ¬X2 "again" "group" = true by decide +kernel) ?_⟩
  refine⟨_,rfl,rfl,_,rfl,Zm (show X2 "again" "again" = true by decide +kernel) ?_⟩
  exact⟨_,rfl,a,_,_,_,rfl,rfl,SqT.of e,rfl,j,rfl,lg hb.1 hb.2,_,_,rfl,rfl,Yv (by show _+(Uc j).length<=_;rw[Z1g];omega),q H Gro.refl⟩
 |hav j =>
  obtain⟨hb,y,z',e0,e⟩:=lay
  subst e0
  have hn:=Wx hb.1 hb.2
  refine⟨_,rfl,rfl,_,rfl,Z7 (show ¬X2 "have" "sign" = true by decide +kernel) ?_⟩
  refine⟨_,rfl,bt,bareT,Sum.inr "have",rfl,hBT,rfl,_,rfl,Z7 (by rw[show(X4 bareT (Sum.inr "have")).isSome=false from bare];decide) ?_⟩
  refine⟨_,rfl,lt,Yn,Sum.inr "have",rfl,hLT,rfl,_,rfl,Z7 (by rw[show(X4 Yn (Sum.inr "have")).isSome=false from lists];decide) ?_⟩
  refine⟨_,rfl,rfl,_,rfl,Z7 (show ¬X2 "have" "row" = true by decide +kernel) ?_⟩
  refine⟨_,rfl,rfl,_,rfl,Z7 (show ¬X2 "have" "or" = true by decide +kernel) ?_⟩
  refine⟨_,rfl,rfl,_,rfl,Z7 (show ¬X2 "have" "times" = true by decide +kernel) ?_⟩
  refine⟨_,rfl,rfl,_,rfl,Z7 (show ¬X2 "have" "group" = true by decide +kernel) ?_⟩
  refine⟨_,rfl,rfl,_,rfl,Z7 (show ¬X2 "have" "again" = true by decide +kernel) ?_⟩
  refine⟨_,rfl,rfl,_,rfl,Zm (show X2 "have" "have" = true by decide +kernel) ?_⟩
  match ks,hk with
  | [p,p'],.cons hpk (.cons hpk' .nil) =>
   rw[Y8,Y9]at hz hsh
   have hs1:=hpk.short
   have hs2:=hpk'.short
   unfold Xe at hs1 hs2
   refine⟨_,rfl,a,_,_,_,rfl,rfl,SqT.of e,rfl,j,rfl,lg hb.1 hb.2,_,_,rfl,rfl,Yv (by show _+(Uc j).length<=_;rw[We];omega),?_⟩
   refine⟨_,rfl,a,_,_,_,rfl,rfl,SqT.of e,rfl,y,p,rfl,hpk,by omega,fun H1 g1=>?_⟩
   have e1:=g1.tups _ _ e
   refine⟨_,_,rfl,rfl,Yv (by show("<" ++ Uc j:Str).length+_<=_;rw[Za,We];omega),_,_,rfl,rfl,Yv (by show(("<" ++ Uc j:Str)++p.txt).length+_<=_;rw[Za,Za,We,Uk];omega),?_⟩
   refine⟨_,rfl,a,_,_,_,rfl,rfl,SqT.of e1,rfl,z',p',rfl,hpk'.mono g1.tups,by omega,fun H2 g2=>?_⟩
   exact⟨_,_,rfl,rfl,Yv (by show((("<" ++ Uc j:Str)++p.txt)++"~").length+_<=_;rw[Za,Za,Za,We,Uk];omega),_,_,rfl,rfl,Yv (by show(((("<" ++ Uc j:Str)++p.txt)++"~")++p'.txt).length+_<=_;rw[Za,Za,Za,Za,We,Uk,Ub];omega),q H2 (g1.trans g2)⟩
 |look lk =>
  obtain⟨k,e0,e⟩:=lay
  subst e0
  have t:X2 lk.text "sign" = false/\X2 lk.text "row" = false/\X2 lk.text "or" = false/\X2 lk.text "times" = false/\X2 lk.text "group" = false/\X2 lk.text "again" = false/\X2 lk.text "have" = false/\(X4 bareT (Sum.inr lk.text)).isSome=false/\(X4 Yn (Sum.inr lk.text)).isSome=false:=by cases lk <;> decide +kernel
  obtain⟨t0,t1,t2,t3,t4,t5,t6,t7,t8⟩:=t
  refine⟨_,rfl,rfl,_,rfl,Z7 (show ¬X2 lk.text "sign" = true by rw[t0];decide) ?_⟩
  refine⟨_,rfl,bt,bareT,Sum.inr lk.text,rfl,hBT,rfl,_,rfl,Z7 (by rw[t7];decide) ?_⟩
  refine⟨_,rfl,lt,Yn,Sum.inr lk.text,rfl,hLT,rfl,_,rfl,Z7 (by rw[t8];decide) ?_⟩
  refine⟨_,rfl,rfl,_,rfl,Z7 (show ¬X2 lk.text "row" = true by rw[t1];decide) ?_⟩
  refine⟨_,rfl,rfl,_,rfl,Z7 (show ¬X2 lk.text "or" = true by rw[t2];decide) ?_⟩
  refine⟨_,rfl,rfl,_,rfl,Z7 (show ¬X2 lk.text "times" = true by rw[t3];decide) ?_⟩
  refine⟨_,rfl,rfl,_,rfl,Z7 (show ¬X2 lk.text "group" = true by rw[t4];decide) ?_⟩
  refine⟨_,rfl,rfl,_,rfl,Z7 (show ¬X2 lk.text "again" = true by rw[t5];decide) ?_⟩
  refine⟨_,rfl,rfl,_,rfl,Z7 (show ¬X2 lk.text "have" = true by rw[t6];decide) ?_⟩
  match ks,hk with
  | [p],.cons hpk .nil =>
   rw[Y9]at hz hsh
   have hs1:=hpk.short
   unfold Xe at hs1
   have hll:=Ux lk
   refine⟨_,rfl,bk,bracketsT,Sum.inr lk.text,_,rfl,hBK,rfl,Z41 lk,_,_,rfl,rfl,Yv (by rw[We];omega),?_⟩
   refine⟨_,rfl,a,_,_,_,rfl,rfl,SqT.of e,rfl,k,p,rfl,hpk,by omega,fun H1 g1=>?_⟩
   exact⟨_,_,rfl,rfl,Yv (by rw[Za,We];omega),_,_,rfl,rfl,Yv (by rw[Za,Za,We,Ub];omega),q H1 g1⟩
inductive spAlkI(n:Nat)(vs:List V)(H:Hp)(Q:VK):Prop
 |mk (x y:V) (_:vs=[x,y]) (_:SameAt H n x y) (_:Q (.bl true) H)
def Z50(n:Nat):Sp:=fun vs H Q _=>spAlkI n vs H Q
abbrev Ut:Stmt:=U3 48
theorem sc_l_alike:FnScope ["_law_found","_law_due","_law_k"] ["_law_found","_law_due"] (Zc Ut):=U5
theorem Ze3{n:Nat}(T:Blt mg)(O_l_alike:Own P w K mg base (2+n) "_law_alike" ["_law_found","_law_due"] (Z50 n))(F:Fun K "_law_alike" "_law_alike" Ut f fd):FnOk P w K mg base V1 (2+n+1) f fd ["_law_found","_law_due"] (Z50 (n+1)):=by
 refine F.ok sc_l_alike (fun vs H Q E h=>?_) (fun cdv A outer s H vs Q E hr h=>?_)
 ·obtain⟨x,y,rfl,_⟩:=h
  rfl
 obtain⟨x,y,rfl,hxy,q⟩:=h
 refine U4 ?_
 intro Xz
 refine⟨_,(Z3 (Zq (Z16 (Z3f (pv 1))) (Z6 (Zd (Zdt (Z3f (pv 0))))) Zh)
  (Z3 (Zq (Yu (Zx (Yk (T:="bool") (Vi (by simp))) rfl T.b_isinstance PyProof.Rows.Boot.«isinstance» (Z0 (pv 1) (Z0 (W9 (v:=.ty "bool") rfl T.b_bool PyProof.Rows.Boot.«bool» rfl) Z2)))) (Z6 (Zd (Vr (Zx (Yk (T:="bool") (Vi (by simp))) rfl T.b_isinstance PyProof.Rows.Boot.«isinstance» (Z0 (pv 0) (Z0 (W9 (v:=.ty "bool") rfl T.b_bool PyProof.Rows.Boot.«bool» rfl) Z2))) (Uw (Yo Y1 (pv 0) (pv 1) (Zj _)))))) Zh)
  (Z3 (Zq (Yu (Zx (Yk (T:="int") (Vi (by simp))) rfl T.b_isinstance PyProof.Rows.Boot.«isinstance» (Z0 (pv 1) (Z0 (W9 (v:=.ty "int") rfl T.b_int PyProof.Rows.Boot.«int» rfl) Z2)))) (Z6 (Zd (Vr (Zx (Yk (T:="int") (Vi (by simp))) rfl T.b_isinstance PyProof.Rows.Boot.«isinstance» (Z0 (pv 0) (Z0 (W9 (v:=.ty "int") rfl T.b_int PyProof.Rows.Boot.«int» rfl) Z2))) (Vr (Zds (Zx (Yk (T:="bool") (Vi (by simp))) rfl T.b_isinstance PyProof.Rows.Boot.«isinstance» (Z0 (pv 0) (Z0 (W9 (v:=.ty "bool") rfl T.b_bool PyProof.Rows.Boot.«bool» rfl) Z2)))) (Uw (Yo Y1 (pv 0) (pv 1) (Zj _))))))) Zh)
  (Z3 (Zq (Yu (Zx (Yk (T:="str") (Vi (by simp))) rfl T.b_isinstance PyProof.Rows.Boot.«isinstance» (Z0 (pv 1) (Z0 (W9 (v:=.ty "str") rfl T.b_str PyProof.Rows.Boot.«str» rfl) Z2)))) (Z6 (Zd (Vr (Zx (Yk (T:="str") (Vi (by simp))) rfl T.b_isinstance PyProof.Rows.Boot.«isinstance» (Z0 (pv 0) (Z0 (W9 (v:=.ty "str") rfl T.b_str PyProof.Rows.Boot.«str» rfl) Z2))) (Uw (Yo Y1 (pv 0) (pv 1) (Zj _)))))) Zh)
  (Z3 (Zq (PW.pt (Vn (Zf Z02 (Zx (Yk (T:="tuple") (Vi (by simp))) rfl T.b_isinstance PyProof.Rows.Boot.«isinstance» (Z0 (pv 1) (Z0 (W9 (v:=.ty "tuple") rfl T.b_tuple PyProof.Rows.Boot.«tuple» rfl) Z2))) (Zx (Yk (T:="tuple") (Vi (by simp))) rfl T.b_isinstance PyProof.Rows.Boot.«isinstance» (Z0 (pv 0) (Z0 (W9 (v:=.ty "tuple") rfl T.b_tuple PyProof.Rows.Boot.«tuple» rfl) Z2))) (Zj _)) (Ww (Zf Z02 (Zx (Yk (T:="list") (Vi (by simp))) rfl T.b_isinstance PyProof.Rows.Boot.«isinstance» (Z0 (pv 1) (Z0 (W9 (v:=.ty "list") rfl T.b_list PyProof.Rows.Boot.«list» rfl) Z2))) (Zx (Yk (T:="list") (Vi (by simp))) rfl T.b_isinstance PyProof.Rows.Boot.«isinstance» (Z0 (pv 0) (Z0 (W9 (v:=.ty "list") rfl T.b_list PyProof.Rows.Boot.«list» rfl) Z2))) (Zj _))))) (Z6 (Zd Vt)) Zh)
  (Z3 (Zq (Zf Z02 (Zx Yi rfl T.b_len PyProof.Rows.Boot.«len» (Z0 (pv 0) Z2)) (Zx Yi rfl T.b_len PyProof.Rows.Boot.«len» (Z0 (pv 1) Z2)) (Zj _)) (Z6 (Zd Vt)) Zh)
  (Z3 (V7 PassesOwn.never rfl (Yr rfl T.b_range (Z0 (Zx Yi rfl T.b_len PyProof.Rows.Boot.«len» (Z0 (pv 1) Z2)) Z2)) (pN 2 sc_l_alike.nd) (Z6 (Zq (Js (Yu (Zi (O_l_alike.mono (by omega)) hr rfl (Z0 (Zo Zt (pv 0) (pv 2) (fun _ _=>rfl)) (Z0 (Zo Zt (pv 1) (pv 2) (fun _ _=>rfl)) Z2))))) (Z6 (Zd Vt)) Zh)))
  (Z6 (Zd Vt))))))))),?_⟩
 refine Zcx ?_
 intro Ez Az1 Az2 Az3 Az4 Az5 Az6 Az7 Az8 Az9 Az10 Az11 Az12 Az13 Az14 Az15
 rcases hxy with⟨rfl,hx⟩ | ⟨a,b,xs,ys,rfl,rfl,ha,hb,hz,hp⟩
 ·cases x with
  |non=>exact(Zg rfl (Zg rfl (Zm (by decide) (Zg rfl q))))
  |bl i =>
   refine⟨_,rfl,_,rfl,Z7 (by simp) ?_⟩
   refine⟨_,rfl,_,_,rfl,rfl,_,rfl,Zm (by decide) ?_⟩
   refine⟨_,rfl,_,_,rfl,rfl,_,rfl,Zm (by decide) ?_⟩
   refine(Zg rfl (Zg rfl ⟨rfl,?_⟩))
   rw[decide_eq_true rfl]
   exact q
  |int i =>
   refine⟨_,rfl,_,rfl,Z7 (by simp) ?_⟩
   refine⟨_,rfl,_,_,rfl,rfl,_,rfl,Z7 (by decide) ?_⟩
   refine⟨_,rfl,_,_,rfl,rfl,_,rfl,Zm (by decide) ?_⟩
   refine⟨_,rfl,_,_,rfl,rfl,_,rfl,Zm (by decide) ?_⟩
   refine⟨_,rfl,_,_,rfl,rfl,_,rfl,_,rfl,Zm (by decide) ?_⟩
   refine(Zg rfl (Zg rfl ⟨rfl,?_⟩))
   rw[decide_eq_true rfl]
   exact q
  |str i =>
   refine⟨_,rfl,_,rfl,Z7 (by simp) ?_⟩
   refine⟨_,rfl,_,_,rfl,rfl,_,rfl,Z7 (by decide) ?_⟩
   refine⟨_,rfl,_,_,rfl,rfl,_,rfl,Z7 (by decide) ?_⟩
   refine⟨_,rfl,_,_,rfl,rfl,_,rfl,Zm (by decide) ?_⟩
   refine⟨_,rfl,_,_,rfl,rfl,_,rfl,Zm (by decide) ?_⟩
   refine(Zg rfl (Zg rfl ⟨rfl,?_⟩))
   rw[decide_eq_true rfl]
   exact q
  |_=>exact absurd (show false=true from hx) (by decide)
 ·have hl:=Paired.length hp
  refine(Zg rfl (Zg rfl (Z7 (by simp) ?_)))
  refine(Zg rfl ⟨_,_,rfl,.inl ⟨ys,hb,rfl⟩,Zg rfl (Z7 (by decide) ?_)⟩)
  refine(Zg rfl ⟨_,_,rfl,.inl ⟨ys,hb,rfl⟩,Zg rfl (Z7 (by decide) ?_)⟩)
  refine(Zg rfl ⟨_,_,rfl,.inl ⟨ys,hb,rfl⟩,Zg rfl (Z7 (by decide) ?_)⟩)
  refine(Zg rfl ⟨_,_,rfl,.inl ⟨ys,hb,rfl⟩,Zg rfl ⟨_,_,rfl,.inl ⟨xs,ha,rfl⟩,rfl,Zg rfl (Z7 (by decide) ?_)⟩⟩)
  refine(Zg rfl ⟨_,_,rfl,.inl ⟨ys,hb,rfl⟩,Zg rfl ⟨_,_,rfl,.inl ⟨xs,ha,rfl⟩,rfl,Zg rfl (Z7 (by decide) ?_)⟩⟩)
  refine(Zg rfl ⟨a,xs,rfl,.inr (SqT.of ha),Zg rfl ⟨b,ys,rfl,.inr (SqT.of hb),rfl,Zg rfl (Z7 (by rw[hl];simp) ?_)⟩⟩)
  refine(Zg rfl ⟨b,ys,rfl,.inr (SqT.of hb),Zg rfl ⟨by omega,by omega,?_⟩⟩)
  refine Xo (fun i σ H'=>∃k:Option V,σ=[some (.ref a),some (.ref b),k]/\H'=H) ⟨none,rfl,rfl⟩ ?_ ?_
  ·rintro i σ H' hi ⟨k,rfl,rfl⟩
   have hi2:i<ys.length:=by simpa using hi
   have hi1:i<xs.length:=by omega
   obtain⟨y',hy',hs⟩:=Yh hp (List.getElem?_eq_getElem hi1)
   have ez:(0:Int)+(i:Int)=((i:Nat):Int):=by omega
   refine⟨_,rfl,_,rfl,a,xs,_,_,rfl,rfl,SqT.of ha,by rw[ez];exact Z0b (List.getElem?_eq_getElem hi1),_,rfl,_,rfl,b,ys,_,_,rfl,rfl,SqT.of hb,by rw[ez];exact Z0b hy',_,_,rfl,hs,_,rfl,?_⟩
   exact Z7 (by decide) (Zg rfl rfl)
  ·rintro σ H' ⟨k,rfl,rfl⟩
   exact q
end
abbrev Tj:List (V6×V):=[(.inr "once",.str "<!"),(.inr "ahead",.str "<+"),(.inr "notahead",.str "<-"),(.inr "behind",.str "<*"),(.inr "notbehind",.str "</")]
abbrev Z2s:List (V6×V):=[(.inr "much",.str "}"),(.inr "little",.str "?}"),(.inr "keep",.str "!}")]
theorem Z97(l:Lk):X4 (Xg [] Tj) (Sum.inr l.text)=some (.str ("<" ++ l.sign)):=by cases l <;> decide +kernel
theorem Z9a(how:How):X4 (Xg [] Z2s) (Sum.inr how.text)=some (.str (how.sign++"}")):=by cases how <;> decide +kernel
theorem Z9j(h:Hd)(s:Str)(e:(h=.any/\s=".")∨(h=.beg/\s="^")∨(h=.fin/\s="$")):X4 (Xg [] bareT) (Sum.inr h.word)=some (.str s):=by
 rcases e with⟨rfl,rfl⟩ | ⟨rfl,rfl⟩ | ⟨rfl,rfl⟩ <;> decide +kernel
def Wd.lkT:Wd->Bool
 |.once=>true | .ahead=>true | .notahead=>true | .behind=>true | .notbehind=>true | _=>false
theorem Z8k(h:Hd):(X4 (Xg [] Tj) (Sum.inr h.word)).isSome=h.wd.lkT:=by rw[h.word_wd];cases h.wd <;> decide +kernel
section
variable{P:Program}{w:World}{K:W.Frag}{mg:Str->Option Value}{base:Heap}{f:Addr}{fd:FuncData}
abbrev Vd:Stmt:=U3 59
theorem Z3m:FnScope ["_law_sign_here","_law_special"] ["_law_sign_here","_law_special"] (Zc Vd):=U5
theorem Z3q(F:Fun K "_law_signed" "_law_signed" Vd f fd):FnOk P w K mg base V1 1 f fd ["_law_sign_here","_law_special"] Z5s:=by
 refine F.ok Z3m (fun vs H Q E h=>?_) (fun cdv A outer s H vs Q E hr h=>?_)
 ·obtain⟨s,st,rfl,_⟩:=h
  rfl
 obtain⟨x,st,rfl,h1,q⟩:=h
 refine U4 ?_
 intro Xz
 refine⟨_,(Z3 (Zq (Zf Jg (pv 0) (pv 1) (by with_unfolding_all rfl)) (Z6 (Zd (Zs Zk Z8 (pv 0)))) Zh)
  (Z6 (Zd (pv 0)))),?_⟩
 refine Z39 ?_
 intro Ez Az1 Az2
 refine⟨_,rfl,_,rfl,_,_,rfl,rfl,_,rfl,?_⟩
 show if within x st=true then _ else _
 unfold sg at q
 refine X5 (fun z=>?_) (fun z=>?_)
 ·rw[if_pos z]at q
  exact⟨_,rfl,_,_,rfl,rfl,Yv (by rw[Z73];omega),q⟩
 ·rw[if_neg z]at q
  exact⟨_,rfl,q⟩
def Z14:Sp:=fun vs H Q _=>∃(a:Addr) (r:Str×Str),vs=[.ref a]/\H a=some (.tup [.str r.1,.str r.2])/\r.1.length=1/\r.2.length=1/\Q (.str (Xf r)) H
abbrev W8:Stmt:=U3 60
theorem sc_l_run_text:FnScope ["_law_run","_law_low"] ["_law_run"] (Zc W8):=U5
theorem Z1q(O_l_signed:Own P w K mg base 1 "_law_signed" ["_law_sign_here","_law_special"] Z5s)(F:Fun K "_law_run_text" "_law_run_text" W8 f fd):FnOk P w K mg base V1 2 f fd ["_law_run"] Z14:=by
 refine F.ok sc_l_run_text (fun vs H Q E h=>?_) (fun cdv A outer s H vs Q E hr h=>?_)
 ·obtain⟨a,r,rfl,_⟩:=h
  rfl
 obtain⟨a,⟨x,y⟩,rfl,ha,h1,h2,q⟩:=h
 refine U4 ?_
 intro Xz
 refine⟨_,(Z3 (pS 1 sc_l_run_text.nd (Zi (O_l_signed.mono (by omega)) hr rfl (Z0 (Zo Zt (pv 0) Z5 (fun _ _=>rfl)) (Z0 Z8 Z2))))
  (Z3 (Zq (Zf Y1 (Zo Zt (pv 0) Z5 (fun _ _=>rfl)) (Zo Zt (pv 0) Z5 (fun _ _=>rfl)) (Zj _)) (Z6 (Zd (pv 1))) Zh)
  (Z6 (Zd (Zs Zk (Zs Zk (pv 1) Z8) (Zi (O_l_signed.mono (by omega)) hr rfl (Z0 (Zo Zt (pv 0) Z5 (fun _ _=>rfl)) (Z0 Z8 Z2)))))))),?_⟩
 refine Z15 ?_
 intro Ez Az1 Az2 Az3
 have ha':H a=some (.tup [.str x,.str y]):=ha
 have l1:(sg x Zy).length<=2:=Ue h1
 have l2:(sg y Zy).length<=2:=Ue h2
 refine⟨_,rfl,a,_,_,_,rfl,rfl,SqT.of ha',Z11,x,Zy,rfl,h1,?_⟩
 unfold Xf at q
 refine⟨_,rfl,a,_,_,_,rfl,rfl,SqT.of ha',Z11,_,rfl,a,_,_,_,rfl,rfl,SqT.of ha',rfl,rfl,_,rfl,X5 (fun z=>?_) (fun z=>?_)⟩
 ·rw[if_pos z]at q
  exact⟨_,rfl,q⟩
 ·rw[if_neg z]at q
  exact⟨_,rfl,_,_,rfl,rfl,Yv (by rw[Uy];omega),_,rfl,a,_,_,_,rfl,rfl,SqT.of ha',rfl,y,Zy,rfl,h2,_,_,rfl,rfl,Yv (by rw[Za,Uy];omega),q⟩
abbrev Vx:Stmt:=U3 61
theorem Z5a:FnScope ["_law_p","_law_words"] ["_law_p","_law_words"] (Zc Vx):=U5
theorem Z5e{n k:Nat}(O_l_written:Own P w K mg base (2+k) "_law_written" ["_law_p"] (Tf n))(F:Fun K "_law_inner" "_law_inner" Vx f fd):FnOk P w K mg base V1 (2+k+1) f fd ["_law_p","_law_words"] (Z8d K n):=by
 refine F.ok Z5a (fun vs H Q E h=>?_) (fun cdv A outer s H vs Q E hr h=>?_)
 ·obtain⟨v,p,t,ws,rfl,_⟩:=h
  rfl
 obtain⟨v,p,t,ws,rfl,hp,hz,hw,hf,q⟩:=h
 refine U4 ?_
 intro Xz
 refine⟨_,(Z3 (Zq (Zf U1 (Zo Zt (pv 0) Z5 (fun _ _=>rfl)) (pv 1) (by with_unfolding_all rfl)) (Z6 (Zd (Zs Zk (Zs Zk Z8 (Zi (O_l_written.mono (by omega)) hr rfl (Z0 (pv 0) Z2))) Z8))) Zh)
  (Z6 (Zd (Zi (O_l_written.mono (by omega)) hr rfl (Z0 (pv 0) Z2))))),?_⟩
 refine Z39 ?_
 intro Ez Az1 Az2
 have hs:=hp.short
 unfold Xe at hs
 have e:∃(a:Addr) (r:List V),v=.ref a/\H a=some (.tup (.str p.word::r)):=by
  cases n with
  |zero=>exact hp.elim
  |succ d =>
   obtain⟨h,ks⟩:=p
   obtain⟨a,kv,e,l,_⟩:=id hp
   obtain⟨r,q⟩:=l.head
   exact⟨a,r,e,q⟩
 obtain⟨a,r,rfl,ea⟩:=e
 unfold Z0k at q
 refine⟨_,rfl,a,_,_,_,rfl,rfl,SqT.of ea,Z11,_,rfl,t,ws,rfl,.inr (hw H Gro.refl),rfl,hf,_,rfl,?_⟩
 show if Z1u (.str p.word) ws=true then _ else _
 refine X5 (fun z=>?_) (fun z=>?_)
 ·refine⟨_,rfl,.ref a,p,rfl,hp,hz,fun H1 g1=>?_⟩
  have q':=q H1 g1
  rw[if_pos (show Z1u (.str p.wt.1) ws=true from z)]at q'
  exact⟨_,_,rfl,rfl,Yv (by rw[Z8e];omega),_,_,rfl,rfl,Yv (by rw[Za,Z8e,Ub];omega),q'⟩
 ·refine⟨_,rfl,.ref a,p,rfl,hp,hz,fun H1 g1=>?_⟩
  have q':=q H1 g1
  rw[if_neg (show ¬Z1u (.str p.wt.1) ws=true from z)]at q'
  exact q'
def Z2w:Sp:=fun vs H Q _=>∃(v:V) (h:Hd),vs=[v]/\PatAt H 1 v (.node h [])/\h.wd.lkT=false/\h.wd≠.row/\∀H',Gro [] H H'->Q (.str (h.txt [])) H'
abbrev X9:Stmt:=U3 62
theorem Z0e:FnScope ["_law_p"] ["_law_p"] (Zc X9):=U5
theorem Z0i(T:Blt mg)(O_l_signed:Own P w K mg base 1 "_law_signed" ["_law_sign_here","_law_special"] Z5s)(O_l_run_text:Own P w K mg base 2 "_law_run_text" ["_law_run"] Z14)(F:Fun K "_law_leaf_text" "_law_leaf_text" X9 f fd):FnOk P w K mg base V1 3 f fd ["_law_p"] Z2w:=by
 refine F.ok Z0e (fun vs H Q E h=>?_) (fun cdv A outer s H vs Q E hr h=>?_)
 ·obtain⟨v,h,rfl,_⟩:=h
  rfl
 obtain⟨v,h,rfl,hp,hlk,hrow,q⟩:=h
 refine U4 ?_
 intro Xz
 refine⟨_,(Z3 (Zq (Zf Y1 (Zo Zt (pv 0) Z5 (fun _ _=>rfl)) Z8 (Zj _)) (Z6 (Zd (Zi (O_l_signed.mono (by omega)) hr rfl (Z0 (Zo Zt (pv 0) Z5 (fun _ _=>rfl)) (Z0 Z8 Z2))))) Zh)
  (Z3 (Zq (Zf U1 (Zo Zt (pv 0) Z5 (fun _ _=>rfl)) (Zr (Z0 Z8 (Z0 Z8 Z2))) (by with_unfolding_all rfl)) (Z6 (Zd (Zs Zk (Zs Zk (Zo Y0 (Yl (Z0 Z8 (Z0 Z8 Z2))) (Zw Jk rfl T.b_int PyProof.Rows.Boot.«int» (Z0 (Yo Y1 (Zo Zt (pv 0) Z5 (fun _ _=>rfl)) Z8 (Zj _)) Z2)) (fun _ _=>rfl)) (V2 PySem.F.plainAttrs_str PySem.F.slot_str_join PySem.F.type_str_join T4 Z8 (Z0 (Xa rfl (show CScope _ ["_law_p"] (Zc X9) _ from⟨rfl,by decide +kernel,rfl,by decide +kernel,by decide +kernel,by decide +kernel,by decide +kernel⟩) (Vh (Zo Zt (pv 0) Z5 (fun _ _=>rfl))) (fun _ _ _ _=>X7) (fun _ _ _ _=>(Zi (O_l_run_text.mono (by omega)) hr rfl (Z0 (pv 0) Z2)))) Z2))) Z8))) Zh)
  (Z3 (Zq (Zf Y1 (Zo Zt (pv 0) Z5 (fun _ _=>rfl)) Z8 (Zj _)) (Z6 (Zd (Zs Zk Z8 (Zw Yq rfl T.b_str PyProof.Rows.Boot.«str» (Z0 (Zo Zt (pv 0) Z5 (fun _ _=>rfl)) Z2))))) Zh)
  (Z6 (Zd (Z32 (Z7b hr) (Z31 (Xn Z8 Z8 (Xn Z8 Z8 (Xn Z8 Z8 Z2z))) rfl rfl (by simp) (by decide)) (Zo Zt (pv 0) Z5 (fun _ _=>rfl)) (fun _ _=>rfl))))))),?_⟩
 refine Zdj ?_
 intro Ez Az1 Az2 Az3 Az4 Az5 Az6
 obtain⟨a,kv,rfl,lay,hk⟩:=id hp
 cases hk
 obtain⟨r0,ea⟩:=lay.head
 have runs:∀(word:Str) (rs:List (Str×Str)) (r t:Addr) (b:Bool),H a=some (.tup [.str word,.ref r])->RunsAt H r rs->H t=none->decide (V.str word=V.str "out")=b->(∀H',Gro [] H H'->Q (.str (((if b=true then "[^" else "[")++Txt.join "" (rs.map Xf))++"]")) H') ->
   (Te (fun x y H Q=>∃i j,x=.str i/\y=.str j/\i.length+j.length<=sizeLine/\Q (.str (i++j)) H) (Te (fun x y H Q=>∃i j,x=.str i/\y=.str j/\i.length+j.length<=sizeLine/\Q (.str (i++j)) H)
    (Te (Z71 K) (Z8c (Yf (tC (.str "[")) (Yf (tC (.str "[^")) V0))) (Zgl (fun xs H Q=>(∃i,xs=[.int i]/\Q (.int i) H)∨∃k,xs=[.bl k]/\Q (.int (if k=true then 1 else 0)) H) (Yf (Te Zf7 (Te (Z05 K) (Yz 0) (tC (.int 0))) (tC (.str "out"))) V0)))
    (Zhi K "str" (Zae K) (tC (.str "")) (Yf (Zga (Zf0 K (Te (Z05 K) (Yz 0) (tC (.int 1)))) Z5r (T5 Z14 [] E0 (Yf (Yz 0) V0))) V0))) (tC (.str "]"))) [some (.ref a)] (Y2 H t (.tup [.str "in",.str "out"])) Q:=by
  intro word rs r t b e hrs ht hb q
  have g0:Gro [] H (Y2 H t (.tup [.str "in",.str "out"])):=Gro.new ht _
  generalize Y2 H t (.tup [.str "in",.str "out"])=H0 at g0
  have e0:=g0.tups _ _ e
  have hrs0:=hrs.mono g0.tups
  refine⟨sz,fun l hl=>?_⟩
  have g1:Gro [] H0 (Y2 H0 l (.lst [.str "[",.str "[^"])):=Gro.new hl _
  have f1:(Y2 H0 l (.lst [.str "[",.str "[^"])) l=some (.lst [.str "[",.str "[^"]):=Z1
  generalize Y2 H0 l (.lst [.str "[",.str "[^"])=H1 at g1 f1
  have e1:=g1.tups _ _ e0
  have hrs1:=hrs0.mono g1.tups
  refine⟨_,rfl,a,_,_,_,rfl,rfl,SqT.of e1,Z11,rfl,.inr ⟨_,rfl,?_⟩⟩
  rw[hb]
  obtain⟨vs,hv,hpv,hvz⟩:=id hrs1
  have hvl:=Paired.length hpv
  have hrt:=hrs1.tame
  have h1:=Tv hrt
  have h2:=Vz hrt
  have fin:∀x:Str,x.length<=2->(∀H',Gro [] H1 H'->Q (.str ((x++Txt.join "" (rs.map Xf))++"]")) H') ->
    (Te (fun x y H Q=>∃i j,x=.str i/\y=.str j/\i.length+j.length<=sizeLine/\Q (.str (i++j)) H) (Te (fun x y H Q=>∃i j,x=.str i/\y=.str j/\i.length+j.length<=sizeLine/\Q (.str (i++j)) H) (tC (.str x))
    (Zhi K "str" (Zae K) (tC (.str "")) (Yf (Zga (Zf0 K (Te (Z05 K) (Yz 0) (tC (.int 1)))) Z5r (T5 Z14 [] E0 (Yf (Yz 0) V0))) V0))) (tC (.str "]"))) [some (.ref a)] H1 Q:=by
   intro x hx q
   refine⟨rfl,_,rfl,a,_,_,_,rfl,rfl,SqT.of e1,rfl,r,rfl,⟨vs,SqT.of hv⟩,?_⟩
   refine Uh (xs:=vs) (fun i ys H'=>ys=((rs.take i).map Xf).map V.str/\H'=H1) ⟨rfl,rfl⟩ (Zz (by omega)) (fun i ys H' ⟨e,_⟩=>by rw[e];simp;omega) (fun i ys H' ⟨_,e⟩=>by rw[e];exact SqT.of hv) ?_ ?_
   ·rintro i ys H' y hy ⟨rfl,rfl⟩
    obtain⟨p,hpi,p1,p2,c,rfl,hc⟩:=Yh hpv hy
    refine⟨_,rfl,c,p,rfl,hc,p1,p2,?_,rfl⟩
    rw[Z4k hpi,List.map_append]
    rfl
   ·rintro ys H' ⟨rfl,rfl⟩ l2 hl2
    rw[hvl,List.take_length]
    exact⟨"",l2,rs.map Xf,rfl,rfl,SqL.of Z1,by rw[Zak];omega,_,_,rfl,rfl,Yv (by omega),_,_,rfl,rfl,Yv (by rw[Za,Z1d];omega),q _ (Gro.new hl2 _)⟩
  have gg:=g0.trans g1
  cases b with
  |true=>exact⟨l,_,_,_,rfl,rfl,SqL.of f1,rfl,fin "[^" (by decide +kernel) fun H' g=>q H' (gg.trans g)⟩
  |false=>exact⟨l,_,_,_,rfl,rfl,SqL.of f1,rfl,fin "[" (by decide +kernel) fun H' g=>q H' (gg.trans g)⟩
 refine⟨_,rfl,a,_,_,_,rfl,rfl,SqT.of ea,Z11,rfl,_,rfl,?_⟩
 have tbl:∀(x:Str) (r1:List V),H a=some (.tup (.str h.word::r1))->(h=.any/\x=".")∨(h=.beg/\x="^")∨(h=.fin/\x="$")->h.txt []=x->∀H0,Gro [] H H0 ->
   (Za9 (Za8 [(tC (.str "any"),tC (.str ".")),(tC (.str "begin"),tC (.str "^")),(tC (.str "end"),tC (.str "$"))]) (Te (Z05 K) (Yz 0) (tC (.int 0)))) [some (.ref a)] H0 Q:=by
  intro x r1 e hx hx2 H0 g0 p hp0
  have g1:Gro [] H0 (Y2 (Y2 H0 p (.dK [])) p (.dK (Xg [] bareT))):=⟨fun c o q _=>by rw[U9,Zl (Z9 q hp0)];exact q,fun c zs q=>by rw[U9,Zl (Z9 q hp0)];exact q⟩
  refine⟨Z1,bareT,rfl,by decide,?_⟩
  refine⟨_,rfl,a,_,_,_,rfl,rfl,SqT.of (g1.tups _ _ (g0.tups _ _ e)),Z11,p,.str x,rfl,?_,by rw[← hx2];exact q _ (g0.trans g1)⟩
  rw[← Z9j h x hx]
  exact DGet.k (k:=Sum.inr h.word) Z1
 cases h with
 |sign x=>exact Zm (show X2 "sign" "sign" = true by decide +kernel) ⟨_,rfl,a,_,_,_,rfl,rfl,SqT.of lay.2.2,rfl,x,stroked,rfl,lay.2.1,q H Gro.refl⟩
 |inn rs =>
  obtain⟨_,r,e,hr'⟩:=lay
  refine Z7 (show ¬X2 "in" "sign" = true by decide +kernel) ?_
  refine⟨_,rfl,a,_,_,_,rfl,rfl,SqT.of e,Z11,sz,fun t ht=>⟨t,_,rfl,.inr (SqT.of Z1),rfl,rfl,_,rfl,Zm (show Z1u (.str "in") [.str "in",.str "out"]=true by decide +kernel) ?_⟩⟩
  exact runs "in" rs r t false e hr' ht (by decide +kernel) (fun H' g=>q H' g)
 |out rs =>
  obtain⟨_,r,e,hr'⟩:=lay
  refine Z7 (show ¬X2 "out" "sign" = true by decide +kernel) ?_
  refine⟨_,rfl,a,_,_,_,rfl,rfl,SqT.of e,Z11,sz,fun t ht=>⟨t,_,rfl,.inr (SqT.of Z1),rfl,rfl,_,rfl,Zm (show Z1u (.str "out") [.str "in",.str "out"]=true by decide +kernel) ?_⟩⟩
  exact runs "out" rs r t true e hr' ht (by decide +kernel) (fun H' g=>q H' g)
 |again j =>
  obtain⟨hb,_,e⟩:=lay
  have hn:=Wx hb.1 hb.2
  refine Z7 (show ¬X2 "again" "sign" = true by decide +kernel) ?_
  refine⟨_,rfl,a,_,_,_,rfl,rfl,SqT.of e,Z11,sz,fun t ht=>⟨t,_,rfl,.inr (SqT.of Z1),rfl,rfl,_,rfl,Z7 (show ¬Z1u (.str "again") [.str "in",.str "out"]=true by decide +kernel) ?_⟩⟩
  have e1:=(Gro.new (S:=[]) ht (.tup [.str "in",.str "out"])).tups _ _ e
  refine⟨_,rfl,a,_,_,_,rfl,rfl,SqT.of e1,Z11,rfl,_,rfl,Zm (show X2 "again" "again" = true by decide +kernel) ?_⟩
  exact⟨_,rfl,a,_,_,_,rfl,rfl,SqT.of e1,rfl,j,rfl,lg hb.1 hb.2,_,_,rfl,rfl,Yv (by show _+(Uc j).length<=_;rw[Z1g];omega),q _ (Gro.new ht _)⟩
 |any =>
  refine Z7 (show ¬X2 "any" "sign" = true by decide +kernel) ?_
  refine⟨_,rfl,a,_,_,_,rfl,rfl,SqT.of lay.2,Z11,sz,fun t ht=>⟨t,_,rfl,.inr (SqT.of Z1),rfl,rfl,_,rfl,Z7 (show ¬Z1u (.str "any") [.str "in",.str "out"]=true by decide +kernel) ?_⟩⟩
  refine⟨_,rfl,a,_,_,_,rfl,rfl,SqT.of ((Gro.new (S:=[]) ht (.tup [.str "in",.str "out"])).tups _ _ lay.2),Z11,rfl,_,rfl,Z7 (show ¬X2 "any" "again" = true by decide +kernel) ?_⟩
  exact tbl "." _ lay.2 (.inl ⟨rfl,rfl⟩) rfl _ (Gro.new ht _)
 |beg =>
  refine Z7 (show ¬X2 "begin" "sign" = true by decide +kernel) ?_
  refine⟨_,rfl,a,_,_,_,rfl,rfl,SqT.of lay.2,Z11,sz,fun t ht=>⟨t,_,rfl,.inr (SqT.of Z1),rfl,rfl,_,rfl,Z7 (show ¬Z1u (.str "begin") [.str "in",.str "out"]=true by decide +kernel) ?_⟩⟩
  refine⟨_,rfl,a,_,_,_,rfl,rfl,SqT.of ((Gro.new (S:=[]) ht (.tup [.str "in",.str "out"])).tups _ _ lay.2),Z11,rfl,_,rfl,Z7 (show ¬X2 "begin" "again" = true by decide +kernel) ?_⟩
  exact tbl "^" _ lay.2 (.inr (.inl ⟨rfl,rfl⟩)) rfl _ (Gro.new ht _)
 |fin =>
  refine Z7 (show ¬X2 "end" "sign" = true by decide +kernel) ?_
  refine⟨_,rfl,a,_,_,_,rfl,rfl,SqT.of lay.2,Z11,sz,fun t ht=>⟨t,_,rfl,.inr (SqT.of Z1),rfl,rfl,_,rfl,Z7 (show ¬Z1u (.str "end") [.str "in",.str "out"]=true by decide +kernel) ?_⟩⟩
  refine⟨_,rfl,a,_,_,_,rfl,rfl,SqT.of ((Gro.new (S:=[]) ht (.tup [.str "in",.str "out"])).tups _ _ lay.2),Z11,rfl,_,rfl,Z7 (show ¬X2 "end" "again" = true by decide +kernel) ?_⟩
  exact tbl "$" _ lay.2 (.inr (.inr ⟨rfl,rfl⟩)) rfl _ (Gro.new ht _)
 |row=>exact absurd rfl hrow
 |alt=>exact absurd lay.1 (by simp)
 |times _ _ _=>obtain⟨_,k,e,_⟩:=lay;cases e
 |grp _=>obtain⟨_,k,e,_⟩:=lay;cases e
 |hav _=>obtain⟨_,k,_,e,_⟩:=lay;cases e
 |look _=>obtain⟨k,e,_⟩:=lay;cases e
end
theorem Z8n(x:Str)(lo:Int)(hi:Option Int)(how:How):(((x++"{")++Uc lo)++",")++(Zcg hi++(how.sign++"}"))=x++Vg lo hi how:=by
 unfold Vg
 simp only[Zv]
section
variable{P:Program}{w:World}{K:W.Frag}{mg:Str->Option Value}{base:Heap}{f:Addr}{fd:FuncData}
theorem Gro.dict{H:Hp}{p:Addr}{o o':HO}(h:H p=none):Gro [] H (Y2 (Y2 H p o) p o'):=⟨fun c u q _=>by rw[U9,Zl (Z9 q h)];exact q,fun c zs q=>by rw[U9,Zl (Z9 q h)];exact q⟩
def Zg7(Q:VK)(H:Hp)(a:Addr)(h:Hd)(kv:List V):TS:=fun D σ H1=>σ=[some (.ref a),some (.str h.word),none,none]/\H1=H/\D.rt=Q/\((∃lk,h=.look lk)∨(kv=[]/\h.wd.lkT=false/\h.wd≠.row))
abbrev Xj:Stmt:=U3 63
theorem sc_l_written:FnScope ["_law_p","_law_word","_law_high","_law_looks"] ["_law_p"] (Zc Xj):=U5
theorem Z2j{n k:Nat}(T:Blt mg)(O_l_leaf_text:Own P w K mg base 3 "_law_leaf_text" ["_law_p"] Z2w)(O_l_inner:Own P w K mg base (2+k+2) "_law_inner" ["_law_p","_law_words"] (Z8d K n))(O_l_written:Own P w K mg base (2+k+1) "_law_written" ["_law_p"] (Tf n))
  (F:Fun K "_law_written" "_law_written" Xj f fd):FnOk P w K mg base V1 (2+k+3) f fd ["_law_p"] (Tf (n+1)):=by
 refine F.ok sc_l_written (fun vs H Q E h=>?_) (fun cdv A outer s H vs Q E hr h=>?_)
 ·obtain⟨v,p,rfl,_⟩:=h
  rfl
 obtain⟨v,⟨h,ks⟩,rfl,hp,hz,q⟩:=h
 rw[X0]at q
 have hsh:=hp.short
 unfold Xe at hsh
 rw[X0]at hsh
 rw[Zu]at hz hsh
 obtain⟨a,kv,rfl,lay,hk⟩:=id hp
 obtain⟨r0,ea⟩:=lay.head
 have hkl:=Paired.length hk
 have few:=lay.few
 have looks:=Z8k h
 refine U4 ?_
 intro Xz
 refine⟨_,(Z3 (pS 1 sc_l_written.nd (Zo Zt (pv 0) Z5 (fun _ _=>rfl)))
  (Z3 (Zq (Zf Y1 (pv 1) Z8 (Zj _)) (Z6 (Zd (V2 PySem.F.plainAttrs_str PySem.F.slot_str_join PySem.F.type_str_join T4 Z8 (Z0 (Xa rfl (show CScope _ ["_law_p","_law_word","_law_high","_law_looks"] (Zc Xj) _ from⟨rfl,by decide +kernel,rfl,by decide +kernel,by decide +kernel,by decide +kernel,by decide +kernel⟩) (Vh (Zo Zt (pv 0) Z5 (fun _ _=>rfl))) (fun _ _ _ _=>X7) (fun _ _ _ _=>(Zi (O_l_inner.mono (by omega)) hr rfl (Z0 (pv 0) (Z0 (Zr (Z0 Z8 Z2)) Z2))))) Z2)))) Zh)
  (Z3 (Zq (Zf Y1 (pv 1) Z8 (Zj _)) (Z6 (Zd (V2 PySem.F.plainAttrs_str PySem.F.slot_str_join PySem.F.type_str_join T4 Z8 (Z0 (Xa rfl (show CScope _ ["_law_p","_law_word","_law_high","_law_looks"] (Zc Xj) _ from⟨rfl,by decide +kernel,rfl,by decide +kernel,by decide +kernel,by decide +kernel,by decide +kernel⟩) (Vh (Zo Zt (pv 0) Z5 (fun _ _=>rfl))) (fun _ _ _ _=>X7) (fun _ _ _ _=>(Zi (O_l_written.mono (by omega)) hr rfl (Z0 (pv 0) Z2)))) Z2)))) Zh)
  (Z3 (Zq (Zf Y1 (pv 1) Z8 (Zj _)) (Z3 (pS 2 sc_l_written.nd Z8)
  (Z3 (Zq (Z16 (Zb4 (Zo Zt (pv 0) Z5 (fun _ _=>rfl)))) (Z6 (pS 2 sc_l_written.nd (Zw Yq rfl T.b_str PyProof.Rows.Boot.«str» (Z0 (Zo Zt (pv 0) Z5 (fun _ _=>rfl)) Z2)))) Zh)
  (Z3 (pS 2 sc_l_written.nd (Zs Zk (pv 2) (Z32 (Z7b hr) (Z31 (Xn Z8 Z8 (Xn Z8 Z8 (Xn Z8 Z8 Z2z))) rfl rfl (by simp) (by decide)) (Zo Zt (pv 0) Z5 (fun _ _=>rfl)) (fun _ _=>rfl))))
  (Z6 (Zd (Zs Zk (Zs Zk (Zs Zk (Zs Zk (Zi (O_l_inner.mono (by omega)) hr rfl (Z0 (Zo Zt (pv 0) Z5 (fun _ _=>rfl)) (Z0 (Zr (Z0 Z8 (Z0 Z8 (Z0 Z8 Z2)))) Z2))) Z8) (Zw Yq rfl T.b_str PyProof.Rows.Boot.«str» (Z0 (Zo Zt (pv 0) Z5 (fun _ _=>rfl)) Z2))) Z8) (pv 2))))))) Zh)
  (Z3 (Zq (Zf Y1 (pv 1) Z8 (Zj _)) (Z6 (Zd (Zs Zk (Zs Zk Z8 (Zi (O_l_written.mono (by omega)) hr rfl (Z0 (Zo Zt (pv 0) Z5 (fun _ _=>rfl)) Z2))) Z8))) Zh)
  (Z3 (Zq (Zf Y1 (pv 1) Z8 (Zj _)) (Z6 (Zd (Zs Zk (Zs Zk (Zs Zk (Zs Zk (Zs Zk Z8 (Zw Yq rfl T.b_str PyProof.Rows.Boot.«str» (Z0 (Zo Zt (pv 0) Z5 (fun _ _=>rfl)) Z2))) (Zi (O_l_written.mono (by omega)) hr rfl (Z0 (Zo Zt (pv 0) Z5 (fun _ _=>rfl)) Z2))) Z8) (Zi (O_l_written.mono (by omega)) hr rfl (Z0 (Zo Zt (pv 0) Z5 (fun _ _=>rfl)) Z2))) Z8))) Zh)
  (J3 (Zg7 Q H a h kv) (Z3 (pS 3 sc_l_written.nd (Z31 (Xn Z8 Z8 (Xn Z8 Z8 (Xn Z8 Z8 (Xn Z8 Z8 (Xn Z8 Z8 Z2z))))) rfl rfl (by simp) (by decide)))
  (Z3 (Zq (Z16 (Zdu (Z7b hr) (pv 1) (pv 3))) (Z6 (Zd (Zs Zk (Zs Zk (Z32 (Z7b hr) (pv 3) (pv 1) (fun _ _=>rfl)) (Zi (O_l_written.mono (by omega)) hr rfl (Z0 (Zo Zt (pv 0) Z5 (fun _ _=>rfl)) Z2))) Z8))) Zh)
  (Z6 (Zd (Zi (O_l_leaf_text.mono (by omega)) hr rfl (Z0 (pv 0) Z2)))))) (fun D1 σ1 H1 hcut=>?cut6)))))))),?_⟩
 case cut6 =>
  refine Z15 ?_
  intro Ez Az1 Az2 Az3
  obtain⟨rfl,rfl,hD,hcase⟩:=hcut
  intro d hd
  have g1:Gro [] H1 (Y2 (Y2 H1 d (.dK [])) d (.dK (Xg [] Tj))):=Gro.dict hd
  refine⟨Z1,Tj,rfl,by decide,?_⟩
  have hd1:(Y2 (Y2 H1 d (.dK [])) d (.dK (Xg [] Tj))) d=some (.dK (Xg [] Tj)):=Z1
  generalize Y2 (Y2 H1 d (.dK [])) d (.dK (Xg [] Tj))=H2 at g1 hd1
  refine⟨_,rfl,_,rfl,d,_,rfl,DGet.k (k:=Sum.inr h.word) hd1,_,rfl,?_⟩
  rw[looks]
  rcases hcase with⟨lk,rfl⟩ | ⟨hkv,hlk,hrow⟩
  ·refine Zm (by cases lk <;> rfl) ?_
   obtain⟨k,e0,e⟩:=lay
   subst e0
   match ks,hk with
   | [p],.cons hpk .nil =>
    rw[Y9]at hz hsh
    have hs1:=hpk.short
    unfold Xe at hs1
    have hll:=Ux lk
    have hdg:DGet H2 d (.str lk.text) (some (.str ("<" ++ lk.sign))):=by
     rw[← Z97 lk]
     exact DGet.k (k:=Sum.inr lk.text) hd1
    refine⟨_,rfl,_,rfl,d,_,rfl,hdg,?_⟩
    refine⟨_,rfl,a,_,_,_,rfl,rfl,SqT.of (g1.tups _ _ e),rfl,k,p,rfl,hpk.mono g1.tups,by omega,fun H3 g3=>?_⟩
    refine⟨_,_,rfl,rfl,Yv (by rw[Za,We];omega),_,_,rfl,rfl,Yv (by rw[Za,Za,We,Ub];omega),?_⟩
    rw[hD]
    exact q H3 (g1.trans g3)
  ·rw[hlk]
   refine Ui ?_
   have hks:ks=[]:=by
    rw[hkv]at hkl
    exact List.length_eq_zero_iff.mp hkl.symm
   subst hks
   refine⟨_,rfl,.ref a,h,rfl,?_,hlk,hrow,fun H3 g3=>?_⟩
   ·obtain⟨a',kv',e',l',k'⟩:=hp.mono g1.tups
    cases k'
    exact⟨a',[],e',l',.nil⟩
   ·show D1.rt _ _
    rw[hD]
    exact q H3 (g1.trans g3)
 refine Zcy ?_
 intro Ez Az1 Az2 Az3 Az4 Az5 Az6 Az7 Az8 Az9 Az10 Az11 Az12 Az13 Az14 Az15
 refine⟨_,rfl,a,_,_,_,rfl,rfl,SqT.of ea,Z11,?_⟩
 have leaf:kv=[]->h.wd.lkT=false->h.wd≠.row->Zg7 Q H a h kv { nx:=fun _ H'=>Q .non H',rt:=Q } [some (.ref a),some (.str h.word),none,none] H:=fun h1 h2 h3=>⟨rfl,rfl,rfl,.inr ⟨h1,h2,h3⟩⟩
 cases h with
 |row =>
  obtain⟨_,r,e,er⟩:=lay
  have ih:∀k∈ks,Xe k:=fun k hk'=>by
   obtain⟨x,_,z⟩:=Xk hk k hk'
   exact z.short
  have hsum:=Z37 Ym ih
  refine⟨_,rfl,rfl,_,rfl,Zm (by decide +kernel) ?_⟩
  refine⟨rfl,_,rfl,a,_,_,_,rfl,rfl,SqT.of e,rfl,r,rfl,⟨_,SqT.of er⟩,?_⟩
  refine Uh (xs:=kv) (fun i ys H'=>ys=(((ks.take i).map Pat.wt).map (Z0k Ym)).map V.str/\Gro [] H H') ⟨rfl,Gro.refl⟩ (Zz (by omega)) (fun i ys H' ⟨e,_⟩=>by rw[e];simp;omega) (fun i ys H' ⟨_,g⟩=>SqT.of (g.tups _ _ er)) ?_ ?_
  ·rintro i ys H1 x hx ⟨rfl,g1⟩
   obtain⟨p,hpi,hpx⟩:=Yh hk hx
   have hsp:=Z06 hpi
   refine⟨_,rfl,sz,fun t ht=>?_⟩
   have g0:Gro [] H1 (Y2 H1 t (.tup Ym)):=Gro.new ht _
   refine⟨x,p,t,Ym,rfl,hpx.mono (g1.trans g0).tups,by omega,fun H' g=>SqT.of (g.tups _ _ Z1),rfl,fun H2 g2=>⟨?_,(g1.trans g0).trans g2⟩⟩
   rw[Wi hpi]
   simp
  ·rintro ys H1 ⟨rfl,g1⟩ l hl
   rw[hkl,List.take_length]
   refine⟨"",l,(ks.map Pat.wt).map (Z0k Ym),rfl,rfl,SqL.of Z1,by rw[Zak];omega,?_⟩
   exact q _ (g1.trans (Gro.new hl (.lst (((ks.map Pat.wt).map (Z0k Ym)).map V.str))))
 |alt =>
  obtain⟨_,_,r,e,er⟩:=lay
  have ih:∀k∈ks,Xe k:=fun k hk'=>by
   obtain⟨x,_,z⟩:=Xk hk k hk'
   exact z.short
  have hsum:=Z38 ih
  refine⟨_,rfl,rfl,_,rfl,Z7 (by decide +kernel) ?_⟩
  refine⟨_,rfl,rfl,_,rfl,Zm (by decide +kernel) ?_⟩
  refine⟨rfl,_,rfl,a,_,_,_,rfl,rfl,SqT.of e,rfl,r,rfl,⟨_,SqT.of er⟩,?_⟩
  refine Uh (xs:=kv) (fun i ys H'=>ys=(((ks.take i).map Pat.wt).map (·.2)).map V.str/\Gro [] H H') ⟨rfl,Gro.refl⟩ (Zz (by omega)) (fun i ys H' ⟨e,_⟩=>by rw[e];simp;omega) (fun i ys H' ⟨_,g⟩=>SqT.of (g.tups _ _ er)) ?_ ?_
  ·rintro i ys H1 x hx ⟨rfl,g1⟩
   obtain⟨p,hpi,hpx⟩:=Yh hk hx
   have hsp:=Z06 hpi
   refine⟨_,rfl,x,p,rfl,hpx.mono g1.tups,by omega,fun H2 g2=>⟨?_,g1.trans g2⟩⟩
   rw[Wi hpi]
   simp[Pat.wt]
  ·rintro ys H1 ⟨rfl,g1⟩ l hl
   rw[hkl,List.take_length]
   refine⟨"|",l,(ks.map Pat.wt).map (·.2),rfl,rfl,SqL.of Z1,by rw[Z04];simp only[List.length_map,Nat.mul_one];omega,?_⟩
   exact q _ (g1.trans (Gro.new hl (.lst (((ks.map Pat.wt).map (·.2)).map V.str))))
 |times lo hi how =>
  obtain⟨hb,k,e0,e⟩:=lay
  subst e0
  refine⟨_,rfl,rfl,_,rfl,Z7 (show ¬X2 "times" "row" = true by decide +kernel) ?_⟩
  refine⟨_,rfl,rfl,_,rfl,Z7 (show ¬X2 "times" "or" = true by decide +kernel) ?_⟩
  refine⟨_,rfl,rfl,_,rfl,Zm (show X2 "times" "times" = true by decide +kernel) ?_⟩
  match ks,hk with
  | [p],.cons hpk .nil =>
   rw[Y9]at hz hsh
   have hsh':(Z0k Y7 p.wt++Vg lo hi how:Str).length+10<=150*(1+p.size):=hsh
   rw[Za]at hsh'
   have l1:=Wx hb.1 hb.2.1
   have l2:=Z6e hb.2.2
   have l3:=Z0a how
   have core:∀(D:Ends) (hT:Str),D.rt=Q->hT=Zcg hi ->
     (Zb (Z1t (Te (fun x y H Q=>∃i j,x=.str i/\y=.str j/\i.length+j.length<=sizeLine/\Q (.str (i++j)) H) (Yz 2) (Za9 (Za8 [(tC (.str "much"),tC (.str "}")),(tC (.str "little"),tC (.str "?}")),(tC (.str "keep"),tC (.str "!}"))]) (Te (Z05 K) (Yz 0) (tC (.int 3))))) (Wg 2))
      (Z1s (Te (fun x y H Q=>∃i j,x=.str i/\y=.str j/\i.length+j.length<=sizeLine/\Q (.str (i++j)) H) (Te (fun x y H Q=>∃i j,x=.str i/\y=.str j/\i.length+j.length<=sizeLine/\Q (.str (i++j)) H) (Te (fun x y H Q=>∃i j,x=.str i/\y=.str j/\i.length+j.length<=sizeLine/\Q (.str (i++j)) H)
       (Te (fun x y H Q=>∃i j,x=.str i/\y=.str j/\i.length+j.length<=sizeLine/\Q (.str (i++j)) H) (T5 (Z8d K n) [] E0 (Yf (Te (Z05 K) (Yz 0) (tC (.int 4))) (Yf (Z8b (Yf (tC (.str "row")) (Yf (tC (.str "or")) (Yf (tC (.str "times")) V0)))) V0))) (tC (.str "{")))
       (Zgl (fun xs H Q=>∃i,xs=[.int i]/\i.natAbs.log2<1920/\Q (.str (toString i)) H) (Yf (Te (Z05 K) (Yz 0) (tC (.int 1))) V0))) (tC (.str ","))) (Yz 2)))) D [some (.ref a),some (.str "times"),some (.str hT),none] H:=by
    rintro D hT hD rfl
    refine⟨_,rfl,fun d hd=>⟨Z1,Z2s,rfl,by decide,?_⟩⟩
    have g1:Gro [] H (Y2 (Y2 H d (.dK [])) d (.dK (Xg [] Z2s))):=Gro.dict hd
    have hd1:(Y2 (Y2 H d (.dK [])) d (.dK (Xg [] Z2s))) d=some (.dK (Xg [] Z2s)):=Z1
    generalize Y2 (Y2 H d (.dK [])) d (.dK (Xg [] Z2s))=H1 at g1 hd1
    have e1:=g1.tups _ _ e
    have hdg:DGet H1 d (.str how.text) (some (.str (how.sign++"}"))):=by
     rw[← Z9a how]
     exact DGet.k (k:=Sum.inr how.text) hd1
    refine⟨_,rfl,a,_,_,_,rfl,rfl,SqT.of e1,rfl,d,_,rfl,hdg,_,_,rfl,rfl,Yv (by rw[Za,Z5u];omega),?_⟩
    refine⟨_,rfl,a,_,_,_,rfl,rfl,SqT.of e1,rfl,sz,fun t ht=>?_⟩
    have g2:Gro [] H1 (Y2 H1 t (.tup Y7)):=Gro.new ht _
    refine⟨k,p,t,Y7,rfl,hpk.mono (g1.trans g2).tups,by omega,fun H' g=>SqT.of (g.tups _ _ Z1),rfl,fun H3 g3=>?_⟩
    have g13:=(g1.trans g2).trans g3
    refine⟨_,_,rfl,rfl,Yv (by rw[To];omega),?_⟩
    refine⟨_,rfl,a,_,_,_,rfl,rfl,SqT.of (g13.tups _ _ e),rfl,lo,rfl,lg hb.1 hb.2.1,_,_,rfl,rfl,Yv (by show _+(Uc lo).length<=_;rw[Za,To];omega),?_⟩
    refine⟨_,_,rfl,rfl,Yv (by show((Z0k Y7 p.wt++"{":Str)++Uc lo).length+_<=_;rw[Za,Za,To,Wa];omega),?_⟩
    refine⟨_,rfl,_,_,rfl,rfl,Yv (by show(((Z0k Y7 p.wt++"{":Str)++Uc lo)++",").length+_<=_;rw[Za,Za,Za,Za,Za,To,Wa,Z5u];omega),?_⟩
    show D.rt (.str ((((Z0k Y7 p.wt++"{":Str)++Uc lo)++",")++(Zcg hi++(how.sign++"}")))) H3
    rw[Z8n,hD]
    exact q H3 g13
   cases hi with
   |none =>
    refine⟨_,rfl,a,_,_,_,rfl,rfl,SqT.of e,rfl,_,rfl,Z7 (by show ¬(!decide (V.non=V.non))=true;simp) ?_⟩
    exact core _ "" rfl rfl
   |some x =>
    refine⟨_,rfl,a,_,_,_,rfl,rfl,SqT.of e,rfl,_,rfl,Zm (by show(!decide (V.int x=V.non))=true;simp) ?_⟩
    exact⟨_,rfl,a,_,_,_,rfl,rfl,SqT.of e,rfl,x,rfl,lg (hb.2.2 x rfl).1 (hb.2.2 x rfl).2,core _ (Uc x) rfl rfl⟩
 |grp j =>
  obtain⟨_,k,e0,e⟩:=lay
  subst e0
  refine⟨_,rfl,rfl,_,rfl,Z7 (show ¬X2 "group" "row" = true by decide +kernel) ?_⟩
  refine⟨_,rfl,rfl,_,rfl,Z7 (show ¬X2 "group" "or" = true by decide +kernel) ?_⟩
  refine⟨_,rfl,rfl,_,rfl,Z7 (show ¬X2 "group" "times" = true by decide +kernel) ?_⟩
  refine⟨_,rfl,rfl,_,rfl,Zm (show X2 "group" "group" = true by decide +kernel) ?_⟩
  match ks,hk with
  | [p],.cons hpk .nil =>
   rw[Y9]at hz hsh
   have hs1:=hpk.short
   unfold Xe at hs1
   refine⟨_,rfl,a,_,_,_,rfl,rfl,SqT.of e,rfl,k,p,rfl,hpk,by omega,fun H1 g1=>?_⟩
   exact⟨_,_,rfl,rfl,Yv (by rw[Z4v];omega),_,_,rfl,rfl,Yv (by rw[Za,Z4v,Zai];omega),q H1 g1⟩
 |hav j =>
  obtain⟨hb,y,z',e0,e⟩:=lay
  subst e0
  have hn:=Wx hb.1 hb.2
  refine⟨_,rfl,rfl,_,rfl,Z7 (show ¬X2 "have" "row" = true by decide +kernel) ?_⟩
  refine⟨_,rfl,rfl,_,rfl,Z7 (show ¬X2 "have" "or" = true by decide +kernel) ?_⟩
  refine⟨_,rfl,rfl,_,rfl,Z7 (show ¬X2 "have" "times" = true by decide +kernel) ?_⟩
  refine⟨_,rfl,rfl,_,rfl,Z7 (show ¬X2 "have" "group" = true by decide +kernel) ?_⟩
  refine⟨_,rfl,rfl,_,rfl,Zm (show X2 "have" "have" = true by decide +kernel) ?_⟩
  match ks,hk with
  | [p,p'],.cons hpk (.cons hpk' .nil) =>
   rw[Y8,Y9]at hz hsh
   have hs1:=hpk.short
   have hs2:=hpk'.short
   unfold Xe at hs1 hs2
   refine⟨_,rfl,a,_,_,_,rfl,rfl,SqT.of e,rfl,j,rfl,lg hb.1 hb.2,_,_,rfl,rfl,Yv (by show _+(Uc j).length<=_;rw[We];omega),?_⟩
   refine⟨_,rfl,a,_,_,_,rfl,rfl,SqT.of e,rfl,y,p,rfl,hpk,by omega,fun H1 g1=>?_⟩
   have e1:=g1.tups _ _ e
   refine⟨_,_,rfl,rfl,Yv (by show("<" ++ Uc j:Str).length+_<=_;rw[Za,We];omega),_,_,rfl,rfl,Yv (by show(("<" ++ Uc j:Str)++p.txt).length+_<=_;rw[Za,Za,We,Uk];omega),?_⟩
   refine⟨_,rfl,a,_,_,_,rfl,rfl,SqT.of e1,rfl,z',p',rfl,hpk'.mono g1.tups,by omega,fun H2 g2=>?_⟩
   exact⟨_,_,rfl,rfl,Yv (by show((("<" ++ Uc j:Str)++p.txt)++"~").length+_<=_;rw[Za,Za,Za,We,Uk];omega),_,_,rfl,rfl,Yv (by show(((("<" ++ Uc j:Str)++p.txt)++"~")++p'.txt).length+_<=_;rw[Za,Za,Za,Za,We,Uk,Ub];omega),q H2 (g1.trans g2)⟩
 |look lk =>
  have t:X2 lk.text "row" = false/\X2 lk.text "or" = false/\X2 lk.text "times" = false/\X2 lk.text "group" = false/\X2 lk.text "have" = false:=by cases lk <;> decide +kernel
  obtain⟨t1,t2,t3,t4,t6⟩:=t
  refine⟨_,rfl,rfl,_,rfl,Z7 (show ¬X2 lk.text "row" = true by rw[t1];decide) ?_⟩
  refine⟨_,rfl,rfl,_,rfl,Z7 (show ¬X2 lk.text "or" = true by rw[t2];decide) ?_⟩
  refine⟨_,rfl,rfl,_,rfl,Z7 (show ¬X2 lk.text "times" = true by rw[t3];decide) ?_⟩
  refine⟨_,rfl,rfl,_,rfl,Z7 (show ¬X2 lk.text "group" = true by rw[t4];decide) ?_⟩
  refine⟨_,rfl,rfl,_,rfl,Z7 (show ¬X2 lk.text "have" = true by rw[t6];decide) ?_⟩
  exact⟨rfl,rfl,rfl,.inl ⟨lk,rfl⟩⟩
 |sign x=>exact⟨_,rfl,rfl,_,rfl,Z7 (show ¬X2 "sign" "row" = true by decide +kernel) ⟨_,rfl,rfl,_,rfl,Z7 (show ¬X2 "sign" "or" = true by decide +kernel) ⟨_,rfl,rfl,_,rfl,Z7 (show ¬X2 "sign" "times" = true by decide +kernel) ⟨_,rfl,rfl,_,rfl,Z7 (show ¬X2 "sign" "group" = true by decide +kernel) ⟨_,rfl,rfl,_,rfl,Z7 (show ¬X2 "sign" "have" = true by decide +kernel) (leaf lay.1 rfl (by simp[Hd.wd]))⟩⟩⟩⟩⟩
 |any=>exact⟨_,rfl,rfl,_,rfl,Z7 (show ¬X2 "any" "row" = true by decide +kernel) ⟨_,rfl,rfl,_,rfl,Z7 (show ¬X2 "any" "or" = true by decide +kernel) ⟨_,rfl,rfl,_,rfl,Z7 (show ¬X2 "any" "times" = true by decide +kernel) ⟨_,rfl,rfl,_,rfl,Z7 (show ¬X2 "any" "group" = true by decide +kernel) ⟨_,rfl,rfl,_,rfl,Z7 (show ¬X2 "any" "have" = true by decide +kernel) (leaf lay.1 rfl (by simp[Hd.wd]))⟩⟩⟩⟩⟩
 |beg=>exact⟨_,rfl,rfl,_,rfl,Z7 (show ¬X2 "begin" "row" = true by decide +kernel) ⟨_,rfl,rfl,_,rfl,Z7 (show ¬X2 "begin" "or" = true by decide +kernel) ⟨_,rfl,rfl,_,rfl,Z7 (show ¬X2 "begin" "times" = true by decide +kernel) ⟨_,rfl,rfl,_,rfl,Z7 (show ¬X2 "begin" "group" = true by decide +kernel) ⟨_,rfl,rfl,_,rfl,Z7 (show ¬X2 "begin" "have" = true by decide +kernel) (leaf lay.1 rfl (by simp[Hd.wd]))⟩⟩⟩⟩⟩
 |fin=>exact⟨_,rfl,rfl,_,rfl,Z7 (show ¬X2 "end" "row" = true by decide +kernel) ⟨_,rfl,rfl,_,rfl,Z7 (show ¬X2 "end" "or" = true by decide +kernel) ⟨_,rfl,rfl,_,rfl,Z7 (show ¬X2 "end" "times" = true by decide +kernel) ⟨_,rfl,rfl,_,rfl,Z7 (show ¬X2 "end" "group" = true by decide +kernel) ⟨_,rfl,rfl,_,rfl,Z7 (show ¬X2 "end" "have" = true by decide +kernel) (leaf lay.1 rfl (by simp[Hd.wd]))⟩⟩⟩⟩⟩
 |inn rs=>exact⟨_,rfl,rfl,_,rfl,Z7 (show ¬X2 "in" "row" = true by decide +kernel) ⟨_,rfl,rfl,_,rfl,Z7 (show ¬X2 "in" "or" = true by decide +kernel) ⟨_,rfl,rfl,_,rfl,Z7 (show ¬X2 "in" "times" = true by decide +kernel) ⟨_,rfl,rfl,_,rfl,Z7 (show ¬X2 "in" "group" = true by decide +kernel) ⟨_,rfl,rfl,_,rfl,Z7 (show ¬X2 "in" "have" = true by decide +kernel) (leaf lay.1 rfl (by simp[Hd.wd]))⟩⟩⟩⟩⟩
 |out rs=>exact⟨_,rfl,rfl,_,rfl,Z7 (show ¬X2 "out" "row" = true by decide +kernel) ⟨_,rfl,rfl,_,rfl,Z7 (show ¬X2 "out" "or" = true by decide +kernel) ⟨_,rfl,rfl,_,rfl,Z7 (show ¬X2 "out" "times" = true by decide +kernel) ⟨_,rfl,rfl,_,rfl,Z7 (show ¬X2 "out" "group" = true by decide +kernel) ⟨_,rfl,rfl,_,rfl,Z7 (show ¬X2 "out" "have" = true by decide +kernel) (leaf lay.1 rfl (by simp[Hd.wd]))⟩⟩⟩⟩⟩
 |again j=>exact⟨_,rfl,rfl,_,rfl,Z7 (show ¬X2 "again" "row" = true by decide +kernel) ⟨_,rfl,rfl,_,rfl,Z7 (show ¬X2 "again" "or" = true by decide +kernel) ⟨_,rfl,rfl,_,rfl,Z7 (show ¬X2 "again" "times" = true by decide +kernel) ⟨_,rfl,rfl,_,rfl,Z7 (show ¬X2 "again" "group" = true by decide +kernel) ⟨_,rfl,rfl,_,rfl,Z7 (show ¬X2 "again" "have" = true by decide +kernel) (leaf lay.2.1 rfl (by simp[Hd.wd]))⟩⟩⟩⟩⟩
end
theorem Kp.deep{G:Int}:∀ {n m:Nat} {c c':Int} {p:Pat},Kp G n c p c'->n<=m->Kp G m c p c'
 |0,_,_,_,_,h,_=>h.elim
 |n+1,0,_,_,_,_,hm=>absurd hm (by omega)
 |n+1,m+1,c,c',.node hd ks,h,hm=>by
  have ih:∀c k e,Kp G n c k e->Kp G m c k e:=fun _ _ _ x=>Kp.deep x (by omega)
  cases hd with
  |sign s=>exact h
  |any=>exact h
  |beg=>exact h
  |fin=>exact h
  |inn rs=>exact h
  |out rs=>exact h
  |row=>exact⟨h.1,h.2.1,h.2.2.1,h.2.2.2.imp ih⟩
  |alt=>exact⟨h.1,h.2.1,h.2.2.1,h.2.2.2.imp ih⟩
  |times lo hi how =>
   obtain⟨k,e,h1,h2,h3⟩:=h
   exact⟨k,e,h1,h2,ih _ _ _ h3⟩
  |grp j =>
   obtain⟨k,e,h1,h2,h3,h4⟩:=h
   exact⟨k,e,h1,h2,h3,ih _ _ _ h4⟩
  |again j=>exact h
  |hav j =>
   obtain⟨y,z,e,e0,h1,h2,h3,h4⟩:=h
   exact⟨y,z,e,e0,h1,h2,ih _ _ _ h3,ih _ _ _ h4⟩
  |look l =>
   obtain⟨k,e,h1⟩:=h
   exact⟨k,e,ih _ _ _ h1⟩
def LetG(H:Hp)(l:Addr):Prop:=∃x y z:Str,H l=some (.lst [.str x,.str y,.str z])/\SgOk x/\SgOk y/\SgOk z
theorem LetG.at_{H:Hp}{l:Addr}(h:LetG H l):Z7e H l:=by
 obtain⟨x,y,z,e,h1,h2,h3⟩:=h
 exact⟨x,y,z,e,h1.len,h2.len,h3.len⟩
theorem LetG.gro{S:List Addr}{H H':Hp}{l:Addr}(h:LetG H l)(g:Gro S H H')(hl:l∉S):LetG H' l:=by
 obtain⟨x,y,z,e,r⟩:=h
 exact⟨x,y,z,g.keep _ _ e hl,r⟩
theorem LetG.new{H:Hp}{l p:Addr}{o:HO}(h:LetG H l)(hp:H p=none):LetG (Y2 H p o) l:=h.gro (S:=[]) (Gro.new hp o) (by simp)
theorem Z72{K:W.Frag}{H:Hp}{l:Addr}{r:Int}{Q:V->Hp->Prop}(h:LetG H l)(h0:0<=r)(h1:r<3)(q:∀s:Str,SgOk s->Q (.str s) H):Z71 K (.ref l) (.int r) H Q:=by
 obtain⟨x,y,z,hl,hx,hy,hz⟩:=h
 have:r=0∨r=1∨r=2:=by omega
 rcases this with rfl | rfl | rfl
 ·exact⟨l,_,_,_,rfl,rfl,SqL.of hl,rfl,q x hx⟩
 ·exact⟨l,_,_,_,rfl,rfl,SqL.of hl,rfl,q y hy⟩
 ·exact⟨l,_,_,_,rfl,rfl,SqL.of hl,rfl,q z hz⟩
theorem Z51{x y:Str}(hx:SgOk x)(hy:SgOk y)(h:¬((y.cps.getD 0 0:Nat):Int)<(x.cps.getD 0 0:Nat)):Jx (x,y):=by
 refine⟨hx,hy,?_⟩
 obtain⟨a,rfl,_⟩:=hx
 obtain⟨b,rfl,_⟩:=hy
 have h':¬b<a:=fun z=>h (by show((b:Nat):Int)<(a:Nat);omega)
 show(!decide ([b]<[a]))=true
 rw[decide_eq_false (fun z=>h' (by cases z with | rel h=>exact h | cons h=>cases h))]
 rfl
def CntN(H:Hp)(c:Addr)(n:Int):Prop:=∃p:Int,H c=some (.lst [.int n,.int p])/\0<=n/\n<=9
theorem CntN.at_{H:Hp}{c:Addr}{n:Int}(h:CntN H c n):CntAt H c:=by
 obtain⟨p,e,r⟩:=h
 exact⟨n,p,e,r⟩
theorem CntN.ne_let{H:Hp}{b l:Addr}{n:Int}(h:CntN H b n)(h':Z7e H l):b≠l:=h.at_.ne_let h'
theorem CntN.gro{S:List Addr}{H H':Hp}{l:Addr}{n:Int}(h:CntN H l n)(g:Gro S H H')(hl:l∉S):CntN H' l n:=by
 obtain⟨y,e,r⟩:=h
 exact⟨y,g.keep _ _ e hl,r⟩
theorem CntN.new{H:Hp}{l p:Addr}{o:HO}{n:Int}(h:CntN H l n)(hp:H p=none):CntN (Y2 H p o) l n:=h.gro (S:=[]) (Gro.new hp o) (by simp)
section
variable{P:Program}{w:World}{K:W.Frag}{mg:Str->Option Value}{base:Heap}{f:Addr}{fd:FuncData}
inductive spSignGI(vs:List V)(H:Hp)(Q:VK):Prop
 |mk (c:Int) (_:vs=[.int c]) (_:∀s:Str,SgOk s->Q (.str s) H)
def Z2u:Sp:=fun vs H Q _=>spSignGI vs H Q
theorem Z8x(F:Fun K "_law_sign" "_law_sign" Ts f fd):FnOk P w K mg base V1 1 f fd ["_law_cell"] Z2u:=by
 refine F.ok sc_l_sign (fun vs H Q E h=>?_) (fun cdv A outer s H vs Q E hr h=>?_)
 ·obtain⟨c,rfl,_⟩:=h
  rfl
 obtain⟨c,rfl,q⟩:=h
 refine U4 ?_
 intro Xz
 refine⟨_,(Z3 (pS 1 sc_l_sign.nd Z8)
  (Z3 (pS 1 sc_l_sign.nd (Zs Zk (pv 1) Z8))
  (Z6 (Zd (Zo Z6d (pv 1) (Zs Z6a (pv 0) Z5) (fun _ _=>rfl)))))),?_⟩
 refine Z3a ?_
 intro Ez Az1 Az2
 refine(Zg rfl (Ud rfl rfl ⟨sz,?_⟩))
 refine(Zg rfl (Zg rfl (Ud rfl rfl ⟨(by decide:(0:Int)<94),?_⟩)))
 generalize hz:(Str.ofString _++Str.ofString _:Str)=z
 have hlen:z.cps.toList.length=94:=by rw[← hz];decide +kernel
 have hall:∀c∈z.cps.toList,Z74 c:=by rw[← hz];decide +kernel
 have h0:0<=c % 94:=Int.emod_nonneg _ (by omega)
 have h1:c % 94<94:=Int.emod_lt_of_pos _ (by omega)
 have hlt:(c % 94).toNat<z.cps.toList.length:=by omega
 have e:Z89 z.cps.toList (c % 94)=some (z.cps.toList[(c % 94).toNat]):=by
  have:=Z0b (xs:=z.cps.toList) (j:=(c % 94).toNat) (List.getElem?_eq_getElem hlt)
  rw[Int.toNat_of_nonneg h0]at this
  exact this
 refine⟨z,_,_,rfl,rfl,?_,e,q _ ⟨_,rfl,hall _ (List.getElem_mem hlt)⟩⟩
 have:z.length=94:=by rw[← hlen];simp[Str.length]
 rw[this];exact sz
inductive spLettersI(vs:List V)(H:Hp)(Q:VK):Prop
 |mk (b:Addr) (_:vs=[.ref b]) (_:BoxAt H b) (_:∀(l:Addr) (H':Hp),BoxAt H' b->LetG H' l->Gro [b] H H'->Q (.ref l) H')
def Je:Sp:=fun vs H Q _=>spLettersI vs H Q
abbrev Wu:Stmt:=U3 47
theorem Z2e:FnScope ["_law_box"] ["_law_box"] (Zc Wu):=U5
theorem Z5d(T:Blt mg)(O_l_take:Own P w K mg base 1 "_law_take" ["_law_box","_law_many"] Xq)(O_l_sign:Own P w K mg base 1 "_law_sign" ["_law_cell"] Z2u)(F:Fun K "_law_letters" "_law_letters" Wu f fd) :
  FnOk P w K mg base V1 2 f fd ["_law_box"] Je:=by
 refine F.ok Z2e (fun vs H Q E h=>?_) (fun cdv A outer s H vs Q E hr h=>?_)
 ·obtain⟨b,rfl,_⟩:=h
  rfl
 obtain⟨b,rfl,hb,q⟩:=h
 refine U4 ?_
 intro Xz
 refine⟨_,(Z6 (Zd (Xa rfl (show CScope _ ["_law_box"] (Zc Wu) _ from⟨rfl,by decide +kernel,rfl,by decide +kernel,by decide +kernel,by decide +kernel,by decide +kernel⟩) (Yr rfl T.b_range (Z0 Z5 Z2)) (fun _ _ _ _=>X7) (fun _ _ _ _=>(Zi (O_l_sign.mono (by omega)) hr rfl (Z0 (Zi (O_l_take.mono (by omega)) hr rfl (Z0 (pv 1) (Z0 Z5 Z2))) Z2)))))),?_⟩
 refine⟨3,rfl,by decide,by decide,?_⟩
 refine Z0z (n:=3) (fun i ys H'=>(∃xs:List Str,ys=xs.map V.str/\xs.length=i/\∀x∈xs,SgOk x)/\BoxAt H' b/\Gro [b] H H') ⟨⟨[],rfl,rfl,by simp⟩,hb,Gro.refl⟩ (Zz (by decide)) (fun i ys H' ⟨⟨xs,e1,e2,_⟩,_⟩=>by rw[e1,List.length_map,e2];exact Nat.le_refl _) ?_ ?_
 ·rintro i ys H1 hi ⟨⟨xs,rfl,e2,e3⟩,hb1,g1⟩
  refine(Zg rfl ⟨b,94,rfl,hb1,by decide,by decide,fun r H2 h0 h1 hb2 g2=>?_⟩)
  refine⟨r,rfl,fun s hs=>⟨⟨xs++[s],by simp,by simp[e2],fun x hx=>?_⟩,hb2,g1.trans g2⟩⟩
  rcases List.mem_append.mp hx with z | z
  ·exact e3 x z
  ·rw[List.mem_singleton.mp z];exact hs
 ·rintro ys H1 ⟨⟨xs,rfl,e2,e3⟩,hb1,g1⟩ l hl
  match xs,e2,e3 with
  | [x,y,z],_,e3 =>
   exact q l _ (hb1.new hl) ⟨x,y,z,Z1,e3 x (by simp),e3 y (by simp),e3 z (by simp)⟩ (g1.trans (Gro.new hl _))
inductive spRunsI(vs:List V)(H:Hp)(Q:VK):Prop
 |mk (b l:Addr) (_:vs=[.ref b,.ref l]) (_:BoxAt H b) (_:LetG H l) (_:∀(r:Addr) (rs:List (Str×Str)) (H':Hp),BoxAt H' b->RunsAt H' r rs->1<=rs.length->rs.length<=2->(∀x∈rs,Jx x)->Gro [b] H H'->Q (.ref r) H')
def Jq:Sp:=fun vs H Q _=>spRunsI vs H Q
abbrev Tt:Stmt:=U3 49
theorem sc_l_runs:FnScope ["_law_box","_law_letters_here","_law_runs_here","_law_k","_law_one","_law_two"] ["_law_box","_law_letters_here"] (Zc Tt):=U5
theorem Zb9(T:Blt mg)(O_l_take:Own P w K mg base 1 "_law_take" ["_law_box","_law_many"] Xq)(F:Fun K "_law_runs" "_law_runs" Tt f fd) :
  FnOk P w K mg base V1 2 f fd ["_law_box","_law_letters_here"] Jq:=by
 refine F.ok sc_l_runs (fun vs H Q E h=>?_) (fun cdv A outer s H vs Q E hr h=>?_)
 ·obtain⟨b,l,rfl,_⟩:=h
  rfl
 obtain⟨b,l,rfl,hb,hl,q⟩:=h
 refine U4 ?_
 intro Xz
 refine⟨_,(Z3 (pS 2 sc_l_runs.nd (Yl Z2))
  (Z3 (V7 PassesOwn.never rfl (Yr rfl T.b_range (Z0 (Zs Xs Z5 (Zi (O_l_take.mono (by omega)) hr rfl (Z0 (pv 0) (Z0 Z5 Z2)))) Z2)) (pN 3 sc_l_runs.nd) (Z3 (pS 4 sc_l_runs.nd (Zo Y0 (pv 1) (Zi (O_l_take.mono (by omega)) hr rfl (Z0 (pv 0) (Z0 Z5 Z2))) (fun _ _=>rfl)))
  (Z3 (pS 5 sc_l_runs.nd (Zo Y0 (pv 1) (Zi (O_l_take.mono (by omega)) hr rfl (Z0 (pv 0) (Z0 Z5 Z2))) (fun _ _=>rfl)))
  (Z6 (Zq (Zf Tg (Zx Ur rfl T.b_ord PyProof.Rows.Boot.«ord» (Z0 (pv 4) Z2)) (Zx Ur rfl T.b_ord PyProof.Rows.Boot.«ord» (Z0 (pv 5) Z2)) (Zj _)) (Z6 (X8 (V2 PySem.F.plainAttrs_list PySem.F.slot_list_append PySem.F.type_list_append Xb (pv 2) (Z0 (Zr (Z0 (pv 5) (Z0 (pv 4) Z2))) Z2)))) (Z6 (X8 (V2 PySem.F.plainAttrs_list PySem.F.slot_list_append PySem.F.type_list_append Xb (pv 2) (Z0 (Zr (Z0 (pv 4) (Z0 (pv 5) Z2))) Z2)))))))))
  (Z6 (Zd (Zw Y3 rfl T.b_tuple PyProof.Rows.Boot.«tuple» (Z0 (pv 2) Z2)))))),?_⟩
 refine Zdb ?_
 intro Ez Az1 Az2 Az3 Az4 Az5 Az6 Az7
 have bl:b≠l:=hb.ne_let hl.at_
 refine⟨sz,fun a ha=>?_⟩
 refine(Zg rfl ⟨b,2,rfl,hb.new ha,by decide,by decide,fun r H1 h0 h1 hb1 g1=>?_⟩)
 refine(Ud rfl rfl (Zg rfl ⟨by omega,by omega,?_⟩))
 have g1':Gro [b] H H1:=(Gro.new ha _).trans g1
 have ha1:H1 a=some (.lst []):=g1.keep a _ Z1 (by rw[List.mem_singleton];exact Ne.symm (Z9 hb.choose_spec.1 ha))
 refine Xo (fun i σ H'=>∃(vs:List V) (rs:List (Str×Str)) (k o t:Option V),σ=[some (.ref b),some (.ref l),some (.ref a),k,o,t]/\H' a=some (.lst vs)/\Paired (RunP H') vs rs/\(∀x∈rs,Jx x)/\rs.length=i/\BoxAt H' b/\Gro [b] H H')
  ⟨[],[],none,none,none,rfl,ha1,.nil,(fun x hx=>by simp at hx),rfl,hb1,g1'⟩ ?_ ?_
 ·rintro i σ H2 hi ⟨vs,rs,k,o,t,rfl,ha2,hp2,hro,hl2,hb2,g2⟩
  have ba:b≠a:=Z9 hb.choose_spec.1 ha
  have l2:LetG H2 l:=hl.gro g2 (by simpa using Ne.symm bl)
  refine(Zg rfl (Zg rfl ⟨b,3,rfl,hb2,by decide,by decide,fun r3 H3 h30 h31 hb3 g3=>?_⟩))
  have l3:LetG H3 l:=l2.gro g3 (by simpa using Ne.symm bl)
  refine Z72 l3 h30 h31 fun s1 hs1=>?_
  refine(Zg rfl (Zg rfl ⟨b,3,rfl,hb3,by decide,by decide,fun r4 H4 h40 h41 hb4 g4=>?_⟩))
  have l4:LetG H4 l:=l3.gro g4 (by simpa using Ne.symm bl)
  refine Z72 l4 h40 h41 fun s2 hs2=>?_
  have g24:=g3.trans g4
  have ha4:H4 a=some (.lst vs):=g24.keep a _ ha2 (by simpa using Ne.symm ba)
  have hp4:Paired (RunP H4) vs rs:=Y4 g24.tups hp2
  have hvl:vs.length<=2:=by have:=Paired.length hp2;omega
  refine(Zg rfl ⟨s1,rfl,hs1.len,Zg rfl ⟨s2,rfl,hs2.len,Ud rfl rfl (Zg rfl (?_))⟩⟩)
  have fin:∀(x y:Str),Jx (x,y)->∀p,H4 p=none->∃(vs':List V) (rs':List (Str×Str)) (k o t:Option V),
    [some (V.ref b),some (.ref l),some (.ref a),some (.int (0+(i:Int))),some (.str s1),some (.str s2)]=[some (.ref b),some (.ref l),some (.ref a),k,o,t]/\(Y2 (Y2 H4 p (.tup [.str x,.str y])) a (.lst (vs++[.ref p]))) a=some (.lst vs') /\
    Paired (RunP (Y2 (Y2 H4 p (.tup [.str x,.str y])) a (.lst (vs++[.ref p])))) vs' rs'/\(∀x∈rs',Jx x)/\rs'.length=i+1/\BoxAt (Y2 (Y2 H4 p (.tup [.str x,.str y])) a (.lst (vs++[.ref p]))) b/\Gro [b] H (Y2 (Y2 H4 p (.tup [.str x,.str y])) a (.lst (vs++[.ref p]))):=by
   intro x y hxy p hp
   have hpa:p≠a:=Ne.symm (Z9 ha4 hp)
   have ha5:(Y2 H4 p (.tup [.str x,.str y])) a=some (.lst vs):=by rw[Zl (Ne.symm hpa)];exact ha4
   have t5:Gro [a] H4 (Y2 (Y2 H4 p (.tup [.str x,.str y])) a (.lst (vs++[.ref p]))):=(Gro.new hp _).trans (Gro.set (by simp) ha5 _)
   refine⟨vs++[.ref p],rs++[(x,y)],_,_,_,rfl,Z1,?_,?_,by simp[hl2],?_,?_⟩
   ·exact(Y4 t5.tups hp4).snoc ⟨hxy.1.len,hxy.2.1.len,p,rfl,by rw[Zl hpa];exact Z1⟩
   ·intro z hz
    rcases List.mem_append.mp hz with hz | hz
    ·exact hro z hz
    ·rw[List.mem_singleton.mp hz];exact hxy
   ·exact(hb4.new hp).gro (S:=[a]) (Gro.set (by simp) ha5 _) (by simpa using ba)
   ·exact((g2.trans g24).tup hp).fresh ha _
  refine X5 (fun c=>?_) (fun c=>?_)
  ·refine(Zg rfl ⟨.inl ⟨rfl,_,SqL.of ha4⟩,Zg rfl (Zg rfl ⟨sz,fun p hp=>?_⟩)⟩)
   refine⟨a,vs,Zg rfl ⟨rfl,by rw[Zl (Z9 ha4 hp)];exact ha4,Zz (by omega),?_⟩⟩
   exact fin s2 s1 (Z51 hs2 hs1 (fun z=>by have z2:((s2.cps.getD 0 0:Nat):Int)<(s1.cps.getD 0 0:Nat):=of_decide_eq_true c;omega)) p hp
  ·refine(Zg rfl ⟨.inl ⟨rfl,_,SqL.of ha4⟩,Zg rfl (Zg rfl ⟨sz,fun p hp=>?_⟩)⟩)
   refine⟨a,vs,Zg rfl ⟨rfl,by rw[Zl (Z9 ha4 hp)];exact ha4,Zz (by omega),?_⟩⟩
   exact fin s1 s2 (Z51 hs1 hs2 (fun z=>c (decide_eq_true z))) p hp
 ·rintro σ H2 ⟨vs,rs,k,o,t,rfl,ha2,hp2,hro,hl2,hb2,g2⟩
  refine(Zg rfl ⟨a,Zg rfl (.inl ⟨SqL.of ha2,fun r hr=>?_⟩)⟩)
  exact q r rs _ (hb2.new hr) ⟨vs,Z1,Y4 (Gro.new (S:=[]) hr _).tups hp2,by omega⟩ (by omega) (by omega) hro (g2.tup hr)
inductive spLeafI(vs:List V)(H:Hp)(Q:VK):Prop
 |mk (b l c:Addr) (cn:Int) (_:vs=[.ref b,.ref l,.ref c]) (_:BoxAt H b) (_:LetG H l) (_:CntN H c cn) (_:b≠c) (_:∀(v:V) (p:Pat) (H':Hp),BoxAt H' b->PatAt H' 1 v p->(∀G,cn<=G->Kp G 1 cn p cn)->Gro [b] H H'->Q v H')
def Z13:Sp:=fun vs H Q _=>spLeafI vs H Q
abbrev Tu:Stmt:=U3 50
theorem sc_l_leaf:FnScope ["_law_box","_law_letters_here","_law_count","_law_kind"] ["_law_box","_law_letters_here","_law_count"] (Zc Tu):=U5
theorem Zbd(T:Blt mg)(O_l_take:Own P w K mg base 1 "_law_take" ["_law_box","_law_many"] Xq)(O_l_runs:Own P w K mg base 2 "_law_runs" ["_law_box","_law_letters_here"] Jq)(F:Fun K "_law_leaf" "_law_leaf" Tu f fd) :
  FnOk P w K mg base V1 3 f fd ["_law_box","_law_letters_here","_law_count"] Z13:=by
 refine F.ok sc_l_leaf (fun vs H Q E h=>?_) (fun cdv A outer s H vs Q E hr h=>?_)
 ·obtain⟨b,l,c,cn,rfl,_⟩:=h
  rfl
 obtain⟨b,l,c,cn,rfl,hb,hl,hc,bc,q⟩:=h
 refine U4 ?_
 intro Xz
 refine⟨_,(Z3 (pS 3 sc_l_leaf.nd (Zi (O_l_take.mono (by omega)) hr rfl (Z0 (pv 0) (Z0 Z5 Z2))))
  (Z3 (Zq (Zf Z03 (pv 3) Z5 (Zj _)) (Z6 (Zd (Zr (Z0 Z8 (Z0 (Zo Y0 (pv 1) (Zi (O_l_take.mono (by omega)) hr rfl (Z0 (pv 0) (Z0 Z5 Z2))) (fun _ _=>rfl)) Z2))))) Zh)
  (Z3 (Zq (Zf Y1 (pv 3) Z5 (Zj _)) (Z6 (Zd (Zr (Z0 Z8 Z2)))) Zh)
  (Z3 (Zq (Zf Z03 (pv 3) Z5 (Zj _)) (Z6 (Zd (Zr (Z0 (Zo Y0 (Yl (Z0 Z8 (Z0 Z8 Z2))) (Zs Uf (pv 3) Z5) (fun _ _=>rfl)) (Z0 (Zi (O_l_runs.mono (by omega)) hr rfl (Z0 (pv 0) (Z0 (pv 1) Z2))) Z2))))) Zh)
  (Z3 (Zq (PW.pt (Vn (Zf Y1 (pv 3) Z5 (Zj _)) (Vn (Zf Y1 (Zo Y0 (pv 2) Z5 (fun _ _=>rfl)) Z5 (Zj _)) (Ww (Zf Y1 (Zo Y0 (pv 2) Z5 (fun _ _=>rfl)) Z5 (Zj _)))))) (Z6 (Zd (Zr (Z0 (Zo Y0 (Yl (Z0 Z8 (Z0 Z8 Z2))) (Zi (O_l_take.mono (by omega)) hr rfl (Z0 (pv 0) (Z0 Z5 Z2))) (fun _ _=>rfl)) Z2)))) Zh)
  (Z6 (Zd (Zr (Z0 Z8 (Z0 (Zs Xs Z5 (Zi (O_l_take.mono (by omega)) hr rfl (Z0 (pv 0) (Z0 (Zo Y0 (pv 2) Z5 (fun _ _=>rfl)) Z2)))) Z2)))))))))),?_⟩
 refine Zd3 ?_
 intro Ez Az1 Az2 Az3 Az4 Az5 Az6 Az7 Az8 Az9
 have bl:b≠l:=hb.ne_let hl.at_
 have lS:l∉[b]:=by simpa using Ne.symm bl
 have cS:c∉[b]:=by simpa using Ne.symm bc
 refine(Zg rfl ⟨b,8,rfl,hb,by decide,by decide,fun k H1 h0 h1 hb1 g1=>?_⟩)
 have l1:=hl.gro g1 lS
 have c1:=hc.gro g1 cS
 refine(Zg rfl (Ud rfl rfl (Zg rfl (X5 (fun _=>?_) (fun k3=>?_)))))
 ·refine(Zg rfl (Zg rfl ⟨b,3,rfl,hb1,by decide,by decide,fun r H2 h20 h21 hb2 g2=>?_⟩))
  refine Z72 (l1.gro g2 lS) h20 h21 fun s hs=>⟨sz,fun p hp=>?_⟩
  exact q _ (.node (.sign s) []) _ (hb2.new hp) ⟨p,[],rfl,⟨rfl,hs.len,Z1⟩,.nil⟩ (fun G _=>⟨rfl,hs,rfl⟩) ((g1.trans g2).tup hp)
 refine(Zg rfl ⟨rfl,Zg rfl (X5 (fun _=>?_) (fun k4=>?_))⟩)
 ·exact⟨sz,fun p hp=>q _ (.node .any []) _ (hb1.new hp) ⟨p,[],rfl,⟨rfl,Z1⟩,.nil⟩ (fun G _=>⟨rfl,rfl⟩) (g1.tup hp)⟩
 refine(Zg rfl (Ud rfl rfl (Zg rfl (X5 (fun k6=>?_) (fun k6=>?_)))))
 ·refine⟨sz,fun a ha=>(Zg rfl (Ud rfl rfl (?_)))⟩
  have hk3:¬k<3:=fun z=>k3 (decide_eq_true z)
  have hk4:¬k=3:=fun z=>k4 (decide_eq_true (by rw[z]))
  have hk6:k<6:=of_decide_eq_true k6
  have e45:k=4∨k=5:=by omega
  have run:∀(word:Str) (hd:List (Str×Str)->Hd),(∀rs:List (Str×Str),(1<=rs.length/\rs.length<=8)->(∀x∈rs,Jx x)->∀G,Kp G 1 cn (.node (hd rs) []) cn)->(∀H' p r rs,H' p=some (.tup [.str word,.ref r])->RunsAt H' r rs->Lay H' p (hd rs) [])->∀H2:Hp,H2=Y2 H1 a (.lst [.str "in",.str "out"]) ->
    (T5 Jq [] E0 (Yf (Yz 0) (Yf (Yz 1) V0))) [some (.ref b),some (.ref l),some (.ref c),some (.int k)] H2 (fun x H3=>(V0) [some (.ref b),some (.ref l),some (.ref c),some (.int k)] H3 fun xs H4=>(V.str word::x::xs).length<=sizeLine/\∀p,H4 p=none->Q (.ref p) (Y2 H4 p (.tup (V.str word::x::xs)))):=by
   rintro word hd hnm lay H2 rfl
   refine(Zg rfl (Zg rfl ⟨b,l,rfl,hb1.new ha,l1.new ha,fun r rs H3 hb3 hr3 hr1 hr2 hro g3=>⟨sz,fun p hp=>?_⟩⟩))
   exact q _ (.node (hd rs) []) _ (hb3.new hp) ⟨p,[],rfl,lay _ _ _ _ Z1 (hr3.mono (Gro.new (S:=[]) hp _).tups),.nil⟩ (fun G _=>hnm rs ⟨hr1,by omega⟩ hro G) (((g1.tup ha).trans g3).tup hp)
  rcases e45 with rfl | rfl
  ·exact⟨a,_,_,_,rfl,rfl,SqL.of Z1,rfl,run "in" .inn (fun rs h1 h2 G=>⟨rfl,h1,h2,rfl⟩) (fun H' p r rs e h=>⟨rfl,r,e,h⟩) _ rfl⟩
  ·exact⟨a,_,_,_,rfl,rfl,SqL.of Z1,rfl,run "out" .out (fun rs h1 h2 G=>⟨rfl,h1,h2,rfl⟩) (fun H' p r rs e h=>⟨rfl,r,e,h⟩) _ rfl⟩
 obtain⟨cp,hcl,hcn⟩:=c1
 have bare:(Z8b (Yf (Te (Z71 K) (Z8c (Yf (tC (.str "begin")) (Yf (tC (.str "end")) V0))) (T5 Xq [] E0 (Yf (Yz 0) (Yf (tC (.int 2)) V0)))) V0)) [some (.ref b),some (.ref l),some (.ref c),some (.int k)] H1 Q:=by
  refine⟨sz,fun a ha=>(Zg rfl ⟨b,2,rfl,hb1.new ha,by decide,by decide,fun r H2 h20 h21 hb2 g2=>?_⟩)⟩
  have ha2:H2 a=some (.lst [.str "begin",.str "end"]):=g2.keep a _ Z1 (by simpa using Ne.symm (Z9 hb1.choose_spec.1 ha))
  have e01:r=0∨r=1:=by omega
  rcases e01 with rfl | rfl
  ·exact⟨a,_,_,_,rfl,rfl,SqL.of ha2,rfl,sz,fun p hp=>q _ (.node .beg []) _ (hb2.new hp) ⟨p,[],rfl,⟨rfl,Z1⟩,.nil⟩ (fun G _=>⟨rfl,rfl⟩) (((g1.tup ha).trans g2).tup hp)⟩
  ·exact⟨a,_,_,_,rfl,rfl,SqL.of ha2,rfl,sz,fun p hp=>q _ (.node .fin []) _ (hb2.new hp) ⟨p,[],rfl,⟨rfl,Z1⟩,.nil⟩ (fun G _=>⟨rfl,rfl⟩) (((g1.tup ha).trans g2).tup hp)⟩
 refine(Zg rfl ⟨rfl,Zg rfl (X5 (fun _=>Jw bare) (fun _=>?_))⟩)
 refine(Z9k hcl rfl ⟨rfl,_,rfl,X5 (fun _=>Jw bare) (fun c0=>?_)⟩)
 refine(Z9k hcl rfl ⟨rfl,_,rfl,X5 (fun _=>bare) (fun _=>?_)⟩)
 have cn0:¬cn=0:=fun z=>c0 (decide_eq_true (by rw[z]))
 refine(Zg rfl (Z9k hcl rfl ⟨b,cn,rfl,hb1,by omega,by omega,fun r H2 h20 h21 hb2 g2=>?_⟩))
 refine(Ud rfl rfl ⟨sz,fun p hp=>?_⟩)
 exact q _ (.node (.again (1+r)) []) _ (hb2.new hp) ⟨p,[],rfl,⟨⟨by omega,by omega⟩,rfl,Z1⟩,.nil⟩ (fun G hG=>⟨rfl,by omega,by omega,rfl⟩) ((g1.trans g2).tup hp)
end
def zd:Nat->Nat
 |0=>1
 |d+1=>1+(if 2<=d then 3 else 2)*(zd d+1)
theorem Z5y:∀d,1<=zd d
 |0=>Nat.le_refl _
 |d+1=>by rw[zd];omega
theorem Z5z(d:Nat):1+zd d<=zd (d+1):=by
 rw[zd]
 split <;> omega
theorem Zcp(d:Nat):1+zd d+zd d<=zd (d+1):=by
 rw[zd]
 split <;> omega
section
variable{P:Program}{w:World}{K:W.Frag}{mg:Str->Option Value}{base:Heap}{f:Addr}{fd:FuncData}
inductive spPatI(n:Nat)(vs:List V)(H:Hp)(Q:VK):Prop
 |mk (b l c:Addr) (cn:Int) (d:Nat) (_:d<n) (_:vs=[.ref b,.ref l,.ref c,.int d]) (_:BoxAt H b) (_:LetG H l) (_:CntN H c cn) (_:b≠c) (_:∀(v:V) (p:Pat) (H':Hp) (cm:Int),BoxAt H' b->CntN H' c cm->cn<=cm->(∀G,cm<=G->Kp G (2*d+1) cn p cm)->p.size<=zd d->PatAt H' (2*d+1) v p->Gro [b,c] H H'->Q v H')
def Z1f(n:Nat):Sp:=fun vs H Q _=>spPatI n vs H Q
inductive spPartsI(n:Nat)(vs:List V)(H:Hp)(Q:VK):Prop
 |mk (b l c:Addr) (cn:Int) (d:Nat) (wd:Str) (_:d<n) (_:vs=[.ref b,.ref l,.ref c,.int ((d:Int)+1),.str wd]) (_:(wd="row" ∨ wd="or")) (_:BoxAt H b) (_:LetG H l) (_:CntN H c cn) (_:b≠c) (_:∀(v:V) (p:Pat) (H':Hp) (cm:Int),BoxAt H' b->CntN H' c cm->cn<=cm->(∀G,cm<=G->Kp G (2*d+3) cn p cm)->p.size<=zd (d+1)->PatAt H' (2*d+3) v p->Gro [b,c] H H'->Q v H')
def Z2v(n:Nat):Sp:=fun vs H Q _=>spPartsI n vs H Q
inductive spTimesI(n:Nat)(vs:List V)(H:Hp)(Q:VK):Prop
 |mk (b l c:Addr) (cn:Int) (d:Nat) (_:d<n) (_:vs=[.ref b,.ref l,.ref c,.int ((d:Int)+1)]) (_:BoxAt H b) (_:LetG H l) (_:CntN H c cn) (_:b≠c) (_:∀(v:V) (p:Pat) (H':Hp) (cm:Int),BoxAt H' b->CntN H' c cm->cn<=cm->(∀G,cm<=G->Kp G (2*d+3) cn p cm)->p.size<=zd (d+1)->PatAt H' (2*d+3) v p->Gro [b,c] H H'->Q v H')
def Z6m(n:Nat):Sp:=fun vs H Q _=>spTimesI n vs H Q
abbrev Vw:Stmt:=U3 51
theorem sc_l_parts:FnScope ["_law_box","_law_letters_here","_law_count","_law_deep","_law_word","_law_parts_here","_law_k","_law_part"] ["_law_box","_law_letters_here","_law_count","_law_deep","_law_word"] (Zc Vw):=U5
theorem Z8y{n:Nat}(T:Blt mg)(O_l_take:Own P w K mg base 1 "_law_take" ["_law_box","_law_many"] Xq)(O_l_pattern:Own P w K mg base (4+2*n) "_law_pattern" ["_law_box","_law_letters_here","_law_count","_law_deep"] (Z1f n))(F:Fun K "_law_parts" "_law_parts" Vw f fd) :
  FnOk P w K mg base V1 (4+2*n+1) f fd ["_law_box","_law_letters_here","_law_count","_law_deep","_law_word"] (Z2v n):=by
 refine F.ok sc_l_parts (fun vs H Q E h=>?_) (fun cdv A outer s H vs Q E hr h=>?_)
 ·obtain⟨b,l,c,cn,d,wd,_,rfl,_⟩:=h
  rfl
 obtain⟨b,l,c,cn,d,wd,hd,rfl,hwd,hb,hl,hc,bc,q⟩:=h
 refine U4 ?_
 intro Xz
 refine⟨_,(Z3 (pS 5 sc_l_parts.nd (Yl Z2))
  (Z3 (V7 PassesOwn.never rfl (Yr rfl T.b_range (Z0 (Zs Xs Z5 (Zs Zdw (Zw Jk rfl T.b_int PyProof.Rows.Boot.«int» (Z0 (Yo Tg (pv 3) Z5 (Zj _)) Z2)) (Zi (O_l_take.mono (by omega)) hr rfl (Z0 (pv 0) (Z0 Z5 Z2))))) Z2)) (pN 6 sc_l_parts.nd) (Z3 (pS 7 sc_l_parts.nd (Zi (O_l_pattern.mono (by omega)) hr rfl (Z0 (pv 0) (Z0 (pv 1) (Z0 (pv 2) (Z0 (Zs Uf (pv 3) Z5) Z2))))))
  (Z3 (Zq (Zf Y1 (Zo Zt (pv 7) Z5 (fun _ _=>rfl)) (pv 4) (Zj _)) (Z6 (pS 7 sc_l_parts.nd (Zr (Z0 Z8 (Z0 Z5 (Z0 Z5 (Z0 Z8 (Z0 (pv 7) Z2)))))))) Zh)
  (Z6 (X8 (V2 PySem.F.plainAttrs_list PySem.F.slot_list_append PySem.F.type_list_append Xb (pv 5) (Z0 (pv 7) Z2)))))))
  (Z6 (Zd (Zr (Z0 (pv 4) (Z0 (Zw Y3 rfl T.b_tuple PyProof.Rows.Boot.«tuple» (Z0 (pv 5) Z2)) Z2))))))),?_⟩
 refine Zdf ?_
 intro Ez Az1 Az2 Az3 Az4 Az5 Az6
 have bl:b≠l:=hb.ne_let hl.at_
 have cl:c≠l:=hc.ne_let hl.at_
 have lS:l∉[b,c]:=by simp only[List.mem_cons,List.not_mem_nil,or_false,not_or];exact⟨Ne.symm bl,Ne.symm cl⟩
 have hd1:(d:Int)+1-1=d:=by omega
 refine⟨sz,fun a ha=>?_⟩
 have ba:b≠a:=Z9 hb.choose_spec.1 ha
 have ca:c≠a:=by obtain⟨_,e,_⟩:=hc;exact Z9 e ha
 have aS:a∉[b,c]:=by simp only[List.mem_cons,List.not_mem_nil,or_false,not_or];exact⟨Ne.symm ba,Ne.symm ca⟩
 refine(Zg rfl (Ud rfl rfl (.inr (Zg rfl (Zg rfl ⟨b,2,rfl,hb.new ha,by decide,by decide,fun r H1 h0 h1 hb1 g1=>?_⟩)))))
 have g1':Gro [b,c] H H1:=(Gro.new ha _).trans (g1.mono (by simp))
 have ha1:H1 a=some (.lst []):=g1.keep a _ Z1 (by simpa using Ne.symm ba)
 have hc1:CntN H1 c cn:=(hc.new ha).gro g1 (by simpa using Ne.symm bc)
 generalize hj:(if decide ((2:Int)<(d:Int)+1)=true then(1:Int) else 0)=jj
 have hjj:jj=0∨jj=1:=by rw[← hj];split <;> simp
 refine(Ud rfl rfl ⟨.inl (by rcases hjj with z | z <;> rw[z] <;> constructor <;> decide),Ud rfl rfl (?_)⟩)
 have hm:0<=jj*r/\jj*r<=1:=by rcases hjj with z | z <;> rw[z] <;> omega
 generalize hmm:jj*r=mm at hm
 refine(Zg rfl ⟨by omega,by omega,?_⟩)
 refine Xo (fun i σ H'=>∃(vs:List V) (ps:List Pat) (cx:Int) (k pt:Option V),σ=[some (.ref b),some (.ref l),some (.ref c),some (.int ((d:Int)+1)),some (.str wd),some (.ref a),k,pt]/\H' a=some (.lst vs) /\
   Paired (PatAt H' (2*d+2)) vs ps/\Y8 ps<=i*(zd d+1)/\vs.length=i/\BoxAt H' b/\CntN H' c cx/\cn<=cx/\(∀z∈ps,z.word≠wd)/\(∀G,cx<=G->CnL (Kp G (2*d+2)) cn ps cx)/\Gro [b,c] H H')
  ⟨[],[],cn,none,none,rfl,ha1,.nil,by simp[Y8],rfl,hb1,hc1,Int.le_refl _,(fun z hz=>by simp at hz),(fun G _=>.nil),g1'⟩ ?_ ?_
 ·rintro i σ H2 hi ⟨vs,ps,cx,k,pt,rfl,ha2,hp2,hsz,hl2,hb2,hc2,hcx,hnw,hkx,g2⟩
  have l2:LetG H2 l:=hl.gro g2 lS
  refine(Zg rfl (Zg rfl (Zg rfl (Zg rfl (Ud rfl rfl ⟨b,l,c,_,d,hd,congrArg (fun z=>[V.ref b,V.ref l,V.ref c,V.int z]) hd1,hb2,l2,hc2,bc,fun v p H3 cm hb3 hc3 hcm hkm hs3 hp3 g3=>?_⟩)))))
  have g23:=g2.trans g3
  have ha3:H3 a=some (.lst vs):=g3.keep a _ ha2 aS
  have hps3:=Yg g3.tups hp2
  obtain⟨hh,kks⟩:=p
  obtain⟨av,kkv,rfl,lay3,_⟩:=id hp3
  obtain⟨r',hv⟩:=lay3.head
  have fin:∀(v':V) (p':Pat) (H4:Hp),p'.word≠wd->(∀G,cm<=G->Kp G (2*d+2) cx p' cm)->H4 a=some (.lst vs)->Gro [b,c] H H4->BoxAt H4 b->CntN H4 c cm->(∀b xs,H3 b=some (.tup xs)->H4 b=some (.tup xs))->PatAt H4 (2*d+2) v' p'->p'.size<=zd d+1 ->
    ∃(vs':List V) (ps':List Pat) (cx':Int) (k' pt':Option V),[some (V.ref b),some (.ref l),some (.ref c),some (.int ((d:Int)+1)),some (.str wd),some (.ref a),some (.int (0+(i:Int))),some v']=[some (V.ref b),some (.ref l),some (.ref c),some (.int ((d:Int)+1)),some (.str wd),some (.ref a),k',pt'] /\
     (Y2 H4 a (.lst (vs++[v']))) a=some (.lst vs')/\Paired (PatAt (Y2 H4 a (.lst (vs++[v']))) (2*d+2)) vs' ps'/\Y8 ps'<=(i+1)*(zd d+1)/\vs'.length=i+1/\BoxAt (Y2 H4 a (.lst (vs++[v']))) b/\CntN (Y2 H4 a (.lst (vs++[v']))) c cx'/\cn<=cx'/\(∀z∈ps',z.word≠wd)/\(∀G,cx'<=G->CnL (Kp G (2*d+2)) cn ps' cx')/\Gro [b,c] H (Y2 H4 a (.lst (vs++[v']))):=by
   intro v' p' H4 hn4 hk4 ha4 g4 hb4 hc4 t4 hp4 hs4
   have t5:Gro [a] H4 (Y2 H4 a (.lst (vs++[v']))):=Gro.set (by simp) ha4 _
   refine⟨vs++[v'],ps++[p'],cm,_,_,rfl,Z1,(Yg t5.tups (Yg t4 hps3)).snoc (hp4.mono t5.tups),by rw[X3,Y9,Nat.add_mul];omega,by simp[hl2],hb4.gro t5 (by simpa using ba),hc4.gro t5 (by simpa using ca),by omega,?_,fun G hG=>(hkx G (by omega)).snoc (hk4 G hG),g4.fresh ha _⟩
   ·intro z hz
    rcases List.mem_append.mp hz with hz | hz
    ·exact hnw z hz
    ·rw[List.mem_singleton.mp hz];exact hn4
  refine(Zc6 hv Z11 ⟨_,rfl,rfl,_,rfl,X5 (fun _=>?_) (fun hnw3=>?_)⟩)
  ·refine(Zg rfl ⟨sz,fun p1 hp1=>?_⟩)
   have ha4:(Y2 H3 p1 (.tup [.str "times",.int 1,.int 1,.str "much",.ref av])) a=some (.lst vs):=by rw[Zl (Z9 ha3 hp1)];exact ha3
   refine(Zg rfl ⟨.inl ⟨rfl,_,SqL.of ha4⟩,Zg rfl ⟨a,vs,Zg rfl ⟨rfl,ha4,Zz (by omega),?_⟩⟩⟩)
   refine fin _ (.node (.times 1 (some 1) .much) [.node hh kks]) _ (by show("times":Str)≠wd;rcases hwd with rfl | rfl <;> decide +kernel) (fun G hG=>⟨_,rfl,by decide,(fun x hx=>by cases hx;decide),hkm G hG⟩) ha4 (g23.tup hp1) (hb3.new hp1) (hc3.new hp1) (Gro.new (S:=[]) hp1 _).tups ⟨p1,[.ref av],rfl,⟨⟨by decide,by decide,fun h e=>by cases e;decide⟩,Zg rfl Z1⟩,.cons (hp3.mono (Gro.new (S:=[]) hp1 _).tups) .nil⟩ (by rw[Zu,Y9];omega)
  ·refine(Zg rfl ⟨.inl ⟨rfl,_,SqL.of ha3⟩,Zg rfl ⟨a,vs,Zg rfl ⟨rfl,ha3,Zz (by omega),?_⟩⟩⟩)
   exact fin _ (.node hh kks) _ (fun z=>hnw3 (decide_eq_true (by rw[show hh.word=wd from z]))) (fun G hG=>(hkm G hG).deep (by omega)) ha3 g23 hb3 hc3 (fun _ _ e=>e) (hp3.deep (by omega)) (by omega)
 ·rintro σ H2 ⟨vs,ps,cx,k,pt,rfl,ha2,hp2,hsz,hl2,hb2,hc2,hcx,hnw,hkx,g2⟩
  refine(Zg rfl (Zg rfl ⟨a,Zg rfl (.inl ⟨SqL.of ha2,fun r2 hr2=>⟨sz,fun p1 hp1=>?_⟩⟩)⟩))
  have g3:Gro [] H2 (Y2 (Y2 H2 r2 (.tup vs)) p1 (.tup [.str wd,.ref r2])):=(Gro.new hr2 _).tup hp1
  have e1:(Y2 (Y2 H2 r2 (.tup vs)) p1 (.tup [.str wd,.ref r2])) r2=some (.tup vs):=by rw[Zl (Z9 Z1 hp1)];exact Z1
  have hps:1+Y8 ps<=zd (d+1):=by
   rw[zd]
   have hmj:vs.length<=if 2<=d then 3 else 2:=by
    split
    ·omega
    ·have:jj=0:=by rw[← hj,if_neg (fun z=>by have z':(2:Int)<(d:Int)+1:=of_decide_eq_true z;omega)]
     rw[this]at hmm
     omega
   have h3:Y8 ps<=(if 2<=d then 3 else 2)*(zd d+1):=Nat.le_trans hsz (Nat.mul_le_mul_right _ (by omega))
   omega
  have hvl:=Paired.length hp2
  rcases hwd with rfl | rfl
  ·exact q _ (.node .row ps) _ cx (hb2.gro g3 (by simp)) (hc2.gro g3 (by simp)) hcx (fun G hG=>⟨by omega,by omega,hnw,hkx G hG⟩) (by rw[Zu];exact hps) ⟨p1,vs,rfl,⟨by omega,r2,Z1,e1⟩,Yg g3.tups hp2⟩ ((g2.tup hr2).tup hp1)
  ·exact q _ (.node .alt ps) _ cx (hb2.gro g3 (by simp)) (hc2.gro g3 (by simp)) hcx (fun G hG=>⟨by omega,by omega,hnw,hkx G hG⟩) (by rw[Zu];exact hps) ⟨p1,vs,rfl,⟨by omega,by omega,r2,Z1,e1⟩,Yg g3.tups hp2⟩ ((g2.tup hr2).tup hp1)
def Z9g(b l c:Addr)(cn:Int)(d:Nat)(H:Hp):TS:=fun D σ H1=>∃(lo:Int) (hi:Option Int) (how:How),σ=[some (.ref b),some (.ref l),some (.ref c),some (.int ((d:Int)+1)),some (.int lo),some (Z1c hi),some (.str how.text)] /\
 0<=lo/\lo<=2/\(∀h,hi=some h->1<=h/\lo<=h/\h<=4)/\BoxAt H1 b/\LetG H1 l/\CntN H1 c cn/\Gro [b] H H1/\∀(v:V) (p:Pat) (H':Hp) (cm:Int),BoxAt H' b->CntN H' c cm->cn<=cm->(∀G,cm<=G->Kp G (2*d+3) cn p cm)->p.size<=zd (d+1)->PatAt H' (2*d+3) v p->Gro [b,c] H H'->D.rt v H'
abbrev Vv:Stmt:=U3 52
theorem sc_l_times:FnScope ["_law_box","_law_letters_here","_law_count","_law_deep","_law_low","_law_high","_law_how"] ["_law_box","_law_letters_here","_law_count","_law_deep"] (Zc Vv):=U5
theorem Z8w{n:Nat}(T:Blt mg)(O_l_take:Own P w K mg base 1 "_law_take" ["_law_box","_law_many"] Xq)(O_l_pattern:Own P w K mg base (4+2*n) "_law_pattern" ["_law_box","_law_letters_here","_law_count","_law_deep"] (Z1f n))(F:Fun K "_law_times" "_law_times" Vv f fd) :
  FnOk P w K mg base V1 (4+2*n+1) f fd ["_law_box","_law_letters_here","_law_count","_law_deep"] (Z6m n):=by
 refine F.ok sc_l_times (fun vs H Q E h=>?_) (fun cdv A outer s H vs Q E hr h=>?_)
 ·obtain⟨b,l,c,cn,d,_,rfl,_⟩:=h
  rfl
 obtain⟨b,l,c,cn,d,hd,rfl,hb,hl,hc,bc,q⟩:=h
 have bl:b≠l:=hb.ne_let hl.at_
 have lS:l∉[b]:=by simpa using Ne.symm bl
 have cS:c∉[b]:=by simpa using Ne.symm bc
 have hd1:(d:Int)+1-1=d:=by omega
 refine U4 ?_
 intro Xz
 refine⟨_,(Z3 (pS 4 sc_l_times.nd (Zi (O_l_take.mono (by omega)) hr rfl (Z0 (pv 0) (Z0 Z5 Z2))))
  (Z3 (pS 5 sc_l_times.nd (Zo Y0 (Yl (Z0 Z17 (Z0 (Zs Xs (pv 4) Z5) (Z0 (Zs Xs (pv 4) Z5) (Z0 (Zx (Z83 rfl) rfl T.b_max PyProof.Rows.Boot.«max» (Z0 (pv 4) (Z0 Z5 Z2))) Z2))))) (Zi (O_l_take.mono (by omega)) hr rfl (Z0 (pv 0) (Z0 Z5 Z2))) (fun _ _=>rfl)))
  (Z3 (pS 6 sc_l_times.nd (Zo Y0 (Yl (Z0 Z8 (Z0 Z8 (Z0 Z8 Z2)))) (Zi (O_l_take.mono (by omega)) hr rfl (Z0 (pv 0) (Z0 Z5 Z2))) (fun _ _=>rfl)))
  (Z3 (Zq (PW.pt (Z3c (Zf Y1 (pv 6) Z8 (Zj _)) (Z08 (Zf Y1 (Zo Y0 (pv 2) Z5 (fun _ _=>rfl)) Z5 (Zj _))))) (Z6 (pS 6 sc_l_times.nd Z8)) Zh)
  (J3 (Z9g b l c cn d H) (Z6 (Zd (Zr (Z0 Z8 (Z0 (pv 4) (Z0 (pv 5) (Z0 (pv 6) (Z0 (Zi (O_l_pattern.mono (by omega)) hr rfl (Z0 (pv 0) (Z0 (pv 1) (Z0 (pv 2) (Z0 (Zs Uf (pv 3) Z5) Z2))))) Z2)))))))) (fun D1 σ1 H1 hcut=>?cut4)))))),?_⟩
 case cut4 =>
  obtain⟨lo,hi,how,rfl,h0,h1,hh,hb1,hl1,hc1,g1,q⟩:=hcut
  refine(Zg rfl (Zg rfl (Zg rfl (Zg rfl (Zg rfl (Zg rfl (Zg rfl (Ud rfl rfl ⟨b,l,c,_,d,hd,congrArg (fun z=>[V.ref b,V.ref l,V.ref c,V.int z]) hd1,hb1,hl1,hc1,bc,fun v p H3 cm hb3 hc3 hcm hkm hs3 hp3 g3=>⟨sz,fun p1 hp1=>?_⟩⟩))))))))
  refine q _ (.node (.times lo hi how) [p]) _ cm (hb3.new hp1) (hc3.new hp1) hcm (fun G hG=>⟨p,rfl,by omega,(fun x hx=>by have:=hh x hx;omega),(hkm G hG).deep (by omega)⟩) (by rw[Zu,Y9];have:=Z5z d;omega) ⟨p1,[v],rfl,⟨⟨h0,by omega,fun h e=>by have:=hh h e;omega⟩,v,rfl,Z1⟩,.cons ((hp3.mono (Gro.new (S:=[]) hp1 _).tups).deep (by omega)) .nil⟩ (((g1.mono (by simp)).trans g3).tup hp1)
 refine Zdc ?_
 intro Ez Az1 Az2 Az3 Az4 Az5
 refine(Zg rfl ⟨b,3,rfl,hb,by decide,by decide,fun lo H1 h0 h1 hb1 g1=>?_⟩)
 refine(Zg rfl (Ud rfl rfl (Zg rfl (Ud rfl rfl (Zg rfl ⟨_,_,rfl,sz,fun a ha=>?_⟩)))))
 have ba:b≠a:=Z9 hb1.choose_spec.1 ha
 refine(Zg rfl ⟨b,4,rfl,hb1.new ha,by decide,by decide,fun r H2 h20 h21 hb2 g2=>?_⟩)
 have ha2:=g2.keep a _ (Z1 (H:=H1)) (by simpa using Ne.symm ba)
 have high:∃hi:Option Int,(∀h,hi=some h->1<=h/\lo<=h/\h<=4)/\Z89 [V.non,V.int (lo+1),V.int (lo+2),V.int (if(1:Int)>lo then 1 else lo)] r=some (Z1c hi):=by
  have:r=0∨r=1∨r=2∨r=3:=by omega
  rcases this with rfl | rfl | rfl | rfl
  ·exact⟨none,(fun h e=>by cases e),rfl⟩
  ·exact⟨some (lo+1),(fun h e=>by cases e;omega),rfl⟩
  ·exact⟨some (lo+2),(fun h e=>by cases e;omega),rfl⟩
  ·exact⟨some (if(1:Int)>lo then 1 else lo),(fun h e=>by cases e;split <;> omega),rfl⟩
 obtain⟨hi,hhi,ehi⟩:=high
 refine⟨a,_,_,_,rfl,rfl,SqL.of ha2,ehi,sz,fun a2 ha2n=>?_⟩
 have ba2:b≠a2:=Z9 hb2.choose_spec.1 ha2n
 refine(Zg rfl ⟨b,3,rfl,hb2.new ha2n,by decide,by decide,fun r2 H3 h30 h31 hb3 g3=>?_⟩)
 have ha3:=g3.keep a2 _ (Z1 (H:=H2)) (by simpa using Ne.symm ba2)
 have g13:Gro [b] H H3:=((g1.tup ha).trans (g2.tup ha2n)).trans g3
 have hl3:=hl.gro g13 lS
 have hc3:=hc.gro g13 cS
 obtain⟨cp,hcl,hcn⟩:=id hc3
 have howE:∃how:How,Z89 [V.str "much",V.str "little",V.str "keep"] r2=some (.str how.text):=by
  have:r2=0∨r2=1∨r2=2:=by omega
  rcases this with rfl | rfl | rfl
  ·exact⟨.much,rfl⟩
  ·exact⟨.little,rfl⟩
  ·exact⟨.keep,rfl⟩
 obtain⟨how,ehow⟩:=howE
 refine⟨a2,_,_,_,rfl,rfl,SqL.of ha3,ehow,?_⟩
 have q':∀(v:V) (p:Pat) (H':Hp) (cm:Int),BoxAt H' b->CntN H' c cm->cn<=cm->(∀G,cm<=G->Kp G (2*d+3) cn p cm)->p.size<=zd (d+1)->PatAt H' (2*d+3) v p->Gro [b,c] H H'->Q v H':=q
 refine(Zg rfl ⟨rfl,Zg rfl (X5 (fun _=>?_) (fun _=>Ui ⟨lo,hi,how,rfl,h0,by omega,hhi,hb3,hl3,hc3,g13,q'⟩))⟩)
 refine(Z9k hcl rfl ⟨rfl,_,rfl,X5 (fun _=>?_) (fun _=>⟨lo,hi,how,rfl,h0,by omega,hhi,hb3,hl3,hc3,g13,q'⟩)⟩)
 exact⟨lo,hi,.much,rfl,h0,by omega,hhi,hb3,hl3,hc3,g13,q'⟩
def Zeg(b l c:Addr)(cn:Int)(d:Nat)(H:Hp):TS:=fun D σ H1=>∃k:Int,σ=[some (.ref b),some (.ref l),some (.ref c),some (.int d),some (.int k),none,none,none]/\2<=k/\k<12/\1<=d/\BoxAt H1 b/\LetG H1 l/\CntN H1 c cn/\Gro [b] H H1 /\
 ∀(v:V) (p:Pat) (H':Hp) (cm:Int),BoxAt H' b->CntN H' c cm->cn<=cm->(∀G,cm<=G->Kp G (2*d+1) cn p cm)->p.size<=zd d->PatAt H' (2*d+1) v p->Gro [b,c] H H'->D.rt v H'
abbrev Wt:Stmt:=U3 53
theorem sc_l_pattern:FnScope ["_law_box","_law_letters_here","_law_count","_law_deep","_law_kind","_law_number","_law_yes","_law_word"] ["_law_box","_law_letters_here","_law_count","_law_deep"] (Zc Wt):=U5
theorem Z5c{n:Nat}(T:Blt mg)(O_l_take:Own P w K mg base 1 "_law_take" ["_law_box","_law_many"] Xq)(O_l_leaf:Own P w K mg base 3 "_law_leaf" ["_law_box","_law_letters_here","_law_count"] Z13)(O_l_parts:Own P w K mg base (4+2*n+1) "_law_parts" ["_law_box","_law_letters_here","_law_count","_law_deep","_law_word"] (Z2v n))
  (O_l_times:Own P w K mg base (4+2*n+1) "_law_times" ["_law_box","_law_letters_here","_law_count","_law_deep"] (Z6m n)) (O_l_pattern:Own P w K mg base (4+2*n) "_law_pattern" ["_law_box","_law_letters_here","_law_count","_law_deep"] (Z1f n)) (F:Fun K "_law_pattern" "_law_pattern" Wt f fd) :
  FnOk P w K mg base V1 (4+2*n+1+1) f fd ["_law_box","_law_letters_here","_law_count","_law_deep"] (Z1f (n+1)):=by
 refine F.ok sc_l_pattern (fun vs H Q E h=>?_) (fun cdv A outer s H vs Q E hr h=>?_)
 ·obtain⟨b,l,c,cn,d,_,rfl,_⟩:=h
  rfl
 obtain⟨b,l,c,cn,d,hd,rfl,hb,hl,hc,bc,q⟩:=h
 have bl:b≠l:=hb.ne_let hl.at_
 have cl:c≠l:=hc.ne_let hl.at_
 have lS:l∉[b]:=by simpa using Ne.symm bl
 have cS:c∉[b]:=by simpa using Ne.symm bc
 have lS2:l∉[b,c]:=by simp only[List.mem_cons,List.not_mem_nil,or_false,not_or];exact⟨Ne.symm bl,Ne.symm cl⟩
 refine U4 ?_
 intro Xz
 refine⟨_,(Z3 (pS 4 sc_l_pattern.nd (Zi (O_l_take.mono (by omega)) hr rfl (Z0 (pv 0) (Z0 Z5 Z2))))
  (Z3 (Zq (PW.pt (Vn (Zf Y1 (pv 3) Z5 (Zj _)) (Ww (Zf Z03 (pv 4) Z5 (Zj _))))) (Z6 (Zd (Zi (O_l_leaf.mono (by omega)) hr rfl (Z0 (pv 0) (Z0 (pv 1) (Z0 (pv 2) Z2)))))) Zh)
  (Z3 (Zq (PW.pt (Z3c (Zf Y1 (pv 4) Z5 (Zj _)) (Z08 (Zf Y1 (Zi (O_l_take.mono (by omega)) hr rfl (Z0 (pv 0) (Z0 Z5 Z2))) Z5 (Zj _))))) (Z6 (Zd (Zr (Z0 Z8 (Z0 (Zr Z2) Z2))))) Zh)
  (J3 (Zeg b l c cn d H) (Z3 (Zq (Zf Z03 (pv 4) Z5 (Zj _)) (Z6 (Zd (Zi (O_l_parts.mono (by omega)) hr rfl (Z0 (pv 0) (Z0 (pv 1) (Z0 (pv 2) (Z0 (pv 3) (Z0 (Zo Y0 (Yl (Z0 Z8 (Z0 Z8 Z2))) (Zs Z33 (pv 4) Z5) (fun _ _=>rfl)) Z2)))))))) Zh)
  (Z3 (Zq (Zf Z03 (pv 4) Z5 (Zj _)) (Z6 (Zd (Zi (O_l_times.mono (by omega)) hr rfl (Z0 (pv 0) (Z0 (pv 1) (Z0 (pv 2) (Z0 (pv 3) Z2))))))) Zh)
  (Z3 (Zq (PW.pt (Vn (Zf Y1 (pv 4) Z5 (Zj _)) (Ww (Zf Y1 (Zo Y0 (pv 2) Z5 (fun _ _=>rfl)) Z5 (Zj _))))) (Z3 (Zq (Zf Y1 (Zo Y0 (pv 2) Z5 (fun _ _=>rfl)) Z5 (Zj _)) (Z6 (Zd (Zr (Z0 Z8 Z2)))) Zh)
  (Z3 (Z67 (Zs Xs (Zo Y0 (pv 2) Z5 (fun _ _=>rfl)) Z5) (Z68 (pv 2) Z5 Z0w))
  (Z3 (pS 5 sc_l_pattern.nd (Zo Y0 (pv 2) Z5 (fun _ _=>rfl)))
  (Z6 (Zd (Zr (Z0 Z8 (Z0 (pv 5) (Z0 (Zi (O_l_pattern.mono (by omega)) hr rfl (Z0 (pv 0) (Z0 (pv 1) (Z0 (pv 2) (Z0 (Zs Uf (pv 3) Z5) Z2))))) Z2))))))))) Zh)
  (Z3 (Zq (PW.pt (Z3c (Zf Y1 (pv 4) Z5 (Zj _)) (Z08 (Zf Tg (Zo Y0 (pv 2) Z5 (fun _ _=>rfl)) Z5 (Zj _))))) (Z3 (pS 5 sc_l_pattern.nd (Zs Xs Z5 (Zi (O_l_take.mono (by omega)) hr rfl (Z0 (pv 0) (Z0 (Zo Y0 (pv 2) Z5 (fun _ _=>rfl)) Z2)))))
  (Z3 (pS 6 sc_l_pattern.nd (Zi (O_l_pattern.mono (by omega)) hr rfl (Z0 (pv 0) (Z0 (pv 1) (Z0 (pv 2) (Z0 (Zs Uf (pv 3) Z5) Z2))))))
  (Z6 (Zd (Zr (Z0 Z8 (Z0 (pv 5) (Z0 (pv 6) (Z0 (Zi (O_l_pattern.mono (by omega)) hr rfl (Z0 (pv 0) (Z0 (pv 1) (Z0 (pv 2) (Z0 (Zs Uf (pv 3) Z5) Z2))))) Z2))))))))) Zh)
  (Z3 (pS 7 sc_l_pattern.nd (Zo Y0 (Yl (Z0 Z8 (Z0 Z8 (Z0 Z8 (Z0 Z8 (Z0 Z8 Z2)))))) (Zi (O_l_take.mono (by omega)) hr rfl (Z0 (pv 0) (Z0 Z5 Z2))) (fun _ _=>rfl)))
  (Z6 (Zd (Zr (Z0 (pv 7) (Z0 (Zi (O_l_pattern.mono (by omega)) hr rfl (Z0 (pv 0) (Z0 (pv 1) (Z0 (pv 2) (Z0 (Zs Uf (pv 3) Z5) Z2))))) Z2)))))))))) (fun D1 σ1 H1 hcut=>?cut3))))),?_⟩
 case cut3 =>
  refine Zcv ?_
  intro Ez Az1 Az2 Az3 Az4 Az5 Az6 Az7 Az8 Az9 Az10 Az11 Az12 Az13 Az14 Az15
  obtain⟨k,rfl,hk2,hk12,hd1,hb1,hl1,hc1,g1,q⟩:=hcut
  obtain⟨e,rfl⟩:∃e,d=e+1:=⟨d-1,by omega⟩
  have he:e<n:=by omega
  have ea:((e+1:Nat):Int)-1=e:=by omega
  have g1c:Gro [b,c] H H1:=g1.mono (by simp)
  obtain⟨cp,hcl,hcn⟩:=id hc1
  refine(Zg rfl (Ud rfl rfl (Zg rfl (X5 (fun k6=>?_) (fun k6=>?_)))))
  ·have hk6:k<6:=of_decide_eq_true k6
   refine(Zg rfl (Zg rfl (Zg rfl (Zg rfl ⟨sz,fun a ha=>(Zg rfl (Ud rfl rfl ⟨⟨by decide,by decide⟩,?_⟩))⟩))))
   have e01:k / 4=0∨k / 4=1:=by omega
   have go:∀wd:Str,(wd="row" ∨ wd="or")->Z2v n ([V.ref b,V.ref l,V.ref c,V.int ((e+1:Nat):Int),V.str wd]++[]) (Y2 H1 a (.lst [.str "row",.str "or"])) D1.rt E0:=fun wd hwd =>
    ⟨b,l,c,cn,e,wd,he,rfl,hwd,hb1.new ha,hl1.new ha,hc1.new ha,bc,fun v p H' cm hb' hc' hcm hkm hs' hp' g'=>q v p H' cm hb' hc' hcm hkm hs' hp' ((g1c.tup ha).trans g')⟩
   rcases e01 with z | z
   ·exact⟨a,_,_,_,rfl,rfl,SqL.of Z1,(by rw[z];rfl),go "row" (.inl rfl)⟩
   ·exact⟨a,_,_,_,rfl,rfl,SqL.of Z1,(by rw[z];rfl),go "or" (.inr rfl)⟩
  refine(Zg rfl (Ud rfl rfl (Zg rfl (X5 (fun _=>?_) (fun _=>?_)))))
  ·exact(Zg rfl (Zg rfl (Zg rfl (Zg rfl ⟨b,l,c,cn,e,he,rfl,hb1,hl1,hc1,bc,fun v p H' cm hb' hc' hcm hkm hs' hp' g'=>q v p H' cm hb' hc' hcm hkm hs' hp' (g1c.trans g')⟩))))
  dsimp only[Ze,Zb,Zn]
  refine Zdv (fun R h1 h2=>(Zg rfl ⟨rfl,Zg rfl (Zce h1 h2)⟩)) (fun R h1 h2=>(Z9k hcl rfl ⟨rfl,_,rfl,Zce h1 h2⟩)) (Jw ?_) (Ui ?_)
  ·refine(Z9k hcl rfl ⟨rfl,_,rfl,X5 (fun _=>?_) (fun c9=>?_)⟩)
   ·exact⟨sz,fun p hp=>q _ (.node .any []) _ cn (hb1.new hp) (hc1.new hp) (Int.le_refl _) (fun G hG=>⟨rfl,rfl⟩) (by rw[Zu];exact Z5y _) ⟨p,[],rfl,⟨rfl,Z1⟩,.nil⟩ (g1c.tup hp)⟩
   have hcn9:¬cn=9:=fun z=>c9 (decide_eq_true (by rw[z]))
   refine(Z9k hcl rfl ⟨_,_,rfl,rfl,_,rfl,c,_,_,0,rfl,rfl,hcl,rfl,?_⟩)
   have gs:Gro [c] H1 (Y2 H1 c (.lst [.int (cn+1),.int cp])):=Gro.set (by simp) hcl _
   have hc2:CntN (Y2 H1 c (.lst [.int (cn+1),.int cp])) c (cn+1):=⟨cp,Z1,by omega,by omega⟩
   have hb2:BoxAt (Y2 H1 c (.lst [.int (cn+1),.int cp])) b:=hb1.gro gs (by simpa using bc)
   have hl2:LetG (Y2 H1 c (.lst [.int (cn+1),.int cp])) l:=hl1.gro gs (by simpa using Ne.symm cl)
   refine(Z9k Z1 rfl (?_))
   refine(Zg rfl (Zg rfl (Zg rfl (Zg rfl (Zg rfl (Ud rfl rfl ⟨b,l,c,_,e,he,congrArg (fun z=>[V.ref b,V.ref l,V.ref c,V.int z]) ea,hb2,hl2,hc2,bc,fun v p H' cm hb' hc' hcm hkm hs' hp' g'=>⟨sz,fun p1 hp1=>?_⟩⟩))))))
   exact q _ (.node (.grp (cn+1)) [p]) _ cm (hb'.new hp1) (hc'.new hp1) (by omega) (fun G hG=>⟨p,rfl,rfl,hcn.1,by omega,(hkm G hG).deep (by omega)⟩) (by rw[Zu,Y9];have:=Z5z e;omega) ⟨p1,[v],rfl,⟨⟨by omega,by omega⟩,v,rfl,Z1⟩,.cons ((hp'.mono (Gro.new (S:=[]) hp1 _).tups).deep (by omega)) .nil⟩ (((g1c.trans (gs.mono (by simp))).trans g').tup hp1)
  have looks:∀(H2:Hp),BoxAt H2 b->LetG H2 l->CntN H2 c cn->Gro [b] H H2->∀kk:Option V,(Zb (Z1t (Te (Z71 K) (Z8c (Yf (tC (.str "once")) (Yf (tC (.str "ahead")) (Yf (tC (.str "notahead")) (Yf (tC (.str "behind")) (Yf (tC (.str "notbehind")) V0)))))) (T5 Xq [] E0 (Yf (Yz 0) (Yf (tC (.int 5)) V0)))) (Wg 7))
    (Z1s (Z8b (Yf (Yz 7) (Yf (T5 (Z1f n) [] E0 (Yf (Yz 0) (Yf (Yz 1) (Yf (Yz 2) (Yf (Te (Zf6 fun i j=>.int (i-j)) (Yz 3) (tC (.int 1))) V0))))) V0))))) D1 [some (.ref b),some (.ref l),some (.ref c),some (.int ((e+1:Nat):Int)),kk,none,none,none] H2:=by
   intro H2 hb2 hl2 hc2 g2 kk
   refine⟨sz,fun a ha=>(Zg rfl ⟨b,5,rfl,hb2.new ha,by decide,by decide,fun r H3 h30 h31 hb3 g3=>?_⟩)⟩
   have ba:b≠a:=Z9 hb2.choose_spec.1 ha
   have ha3:=g3.keep a _ (Z1 (H:=H2)) (by simpa using Ne.symm ba)
   have lw:∃lk:Lk,Z89 [V.str "once",V.str "ahead",V.str "notahead",V.str "behind",V.str "notbehind"] r=some (.str lk.text):=by
    have:r=0∨r=1∨r=2∨r=3∨r=4:=by omega
    rcases this with rfl | rfl | rfl | rfl | rfl
    ·exact⟨.once,rfl⟩
    ·exact⟨.ahead,rfl⟩
    ·exact⟨.notahead,rfl⟩
    ·exact⟨.behind,rfl⟩
    ·exact⟨.notbehind,rfl⟩
   obtain⟨lk,elk⟩:=lw
   have g23:Gro [b] H H3:=(g2.tup ha).trans g3
   refine⟨a,_,_,_,rfl,rfl,SqL.of ha3,elk,Zg rfl (Zg rfl (Zg rfl (Zg rfl (Zg rfl (Ud rfl rfl ⟨b,l,c,_,e,he,congrArg (fun z=>[V.ref b,V.ref l,V.ref c,V.int z]) ea,hb3,hl.gro g23 lS,hc.gro g23 cS,bc,fun v p H' cm hb' hc' hcm hkm hs' hp' g'=>⟨sz,fun p1 hp1=>?_⟩⟩)))))⟩
   exact q _ (.node (.look lk) [p]) _ cm (hb'.new hp1) (hc'.new hp1) hcm (fun G hG=>⟨p,rfl,(hkm G hG).deep (by omega)⟩) (by rw[Zu,Y9];have:=Z5z e;omega) ⟨p1,[v],rfl,⟨v,rfl,Z1⟩,.cons ((hp'.mono (Gro.new (S:=[]) hp1 _).tups).deep (by omega)) .nil⟩ (((g23.mono (by simp)).trans g').tup hp1)
  refine(Zg rfl ⟨rfl,Zg rfl (X5 (fun _=>?_) (fun _=>Ui (looks H1 hb1 hl1 hc1 g1 _)))⟩)
  refine(Z9k hcl rfl ⟨_,_,rfl,rfl,_,rfl,X5 (fun c0=>?_) (fun _=>looks H1 hb1 hl1 hc1 g1 _)⟩)
  have hc0:0<cn:=of_decide_eq_true c0
  refine(Zg rfl (Z9k hcl rfl ⟨b,cn,rfl,hb1,hc0,by omega,fun r H2 h20 h21 hb2 g2=>(Ud rfl rfl (?_))⟩))
  have g12:=g1.trans g2
  refine(Zg rfl (Zg rfl (Zg rfl (Zg rfl (Ud rfl rfl ⟨b,l,c,_,e,he,congrArg (fun z=>[V.ref b,V.ref l,V.ref c,V.int z]) ea,hb2,hl.gro g12 lS,hc.gro g12 cS,bc,fun v1 p1 H3 cm3 hb3 hc3 hcm3 hkm3 hs3 hp3 g3=>?_⟩)))))
  have g13:Gro [b,c] H H3:=(g12.mono (by simp)).trans g3
  refine(Zg rfl (Zg rfl (Zg rfl (Zg rfl (Zg rfl (Zg rfl (Ud rfl rfl ⟨b,l,c,_,e,he,congrArg (fun z=>[V.ref b,V.ref l,V.ref c,V.int z]) ea,hb3,hl.gro g13 lS2,hc3,bc,fun v2 p2 H4 cm4 hb4 hc4 hcm4 hkm4 hs4 hp4 g4=>⟨sz,fun p5 hp5=>?_⟩⟩)))))))
  have t5:=(Gro.new (S:=[]) hp5 (.tup [.str "have",.int (1+r),v1,v2])).tups
  exact q _ (.node (.hav (1+r)) [p1,p2]) _ cm4 (hb4.new hp5) (hc4.new hp5) (by omega) (fun G hG=>⟨p1,p2,cm3,rfl,by omega,by omega,(hkm3 G (by omega)).deep (by omega),(hkm4 G hG).deep (by omega)⟩) (by rw[Zu,Y8,Y9];have:=Zcp e;omega) ⟨p5,[v1,v2],rfl,⟨⟨by omega,by omega⟩,v1,v2,rfl,Z1⟩,.cons (((hp3.mono g4.tups).mono t5).deep (by omega)) (.cons ((hp4.mono t5).deep (by omega)) .nil)⟩ ((g13.trans g4).tup hp5)
 refine Zdh ?_
 intro Ez Az1 Az2 Az3 Az4 Az5
 refine(Zg rfl ⟨b,12,rfl,hb,by decide,by decide,fun k H1 h0 h1 hb1 g1=>?_⟩)
 have l1:=hl.gro g1 lS
 have c1:=hc.gro g1 cS
 have lf:(T5 Z13 [] E0 (Yf (Yz 0) (Yf (Yz 1) (Yf (Yz 2) V0)))) [some (.ref b),some (.ref l),some (.ref c),some (.int d),some (.int k),none,none,none] H1 Q :=
  (Zg rfl (Zg rfl (Zg rfl ⟨b,l,c,cn,rfl,hb1,l1,c1,bc,fun v p H' hb' hp hkl g=>q v p H' cn hb' (c1.gro g cS) (Int.le_refl _) (fun G hG=>(hkl G hG).deep (by omega)) (Nat.le_trans hp.size_le (Z5y _)) (hp.deep (by omega)) ((g1.trans g).mono (by simp))⟩)))
 refine(Zg rfl ⟨rfl,Zg rfl (X5 (fun _=>Jw lf) (fun d0=>(Zg rfl (Ud rfl rfl (Zg rfl (X5 (fun _=>lf) (fun k2=>?_)))))))⟩)
 have hd1:1<=d:=by
  cases d with
  |zero=>exact absurd (decide_eq_true rfl) d0
  |succ e=>omega
 have hk2:2<=k:=by
  have:¬k<2:=fun z=>k2 (decide_eq_true z)
  omega
 refine(Zg rfl ⟨rfl,Zg rfl (X5 (fun _=>?_) (fun _=>Ui ⟨k,rfl,hk2,h1,hd1,hb1,l1,c1,g1,q⟩))⟩)
 refine(Zg rfl ⟨b,5,rfl,hb1,by decide,by decide,fun r H2 h20 h21 hb2 g2=>⟨rfl,Zg rfl (X5 (fun _=>?_) (fun _=>⟨k,rfl,hk2,h1,hd1,hb2,l1.gro g2 lS,c1.gro g2 cS,g1.trans g2,q⟩))⟩⟩)
 refine⟨sz,fun r1 hr1=>⟨sz,fun p1 hp1=>?_⟩⟩
 have g3:Gro [b,c] H2 (Y2 (Y2 H2 r1 (.tup [])) p1 (.tup [.str "row",.ref r1])):=(Gro.new hr1 _).tup hp1
 refine q _ (.node .row []) _ cn ((hb2.new hr1).new hp1) (((c1.gro g2 cS).new hr1).new hp1) (Int.le_refl _) (fun G hG=>⟨by simp,by simp,by simp,.nil⟩) (by rw[Zu];exact Z5y _) ⟨p1,[],rfl,⟨by simp,r1,Z1,by rw[Zl (Z9 Z1 hp1)];exact Z1⟩,.nil⟩ (((g1.trans g2).mono (by simp)).trans g3)
theorem Jm(T:Blt mg)(O_l_take:Own P w K mg base 1 "_law_take" ["_law_box","_law_many"] Xq)(O_l_leaf:Own P w K mg base 3 "_law_leaf" ["_law_box","_law_letters_here","_law_count"] Z13)(D1:Def K mg "_law_parts" Vw ["_law_box","_law_letters_here","_law_count","_law_deep","_law_word"])(D2:Def K mg "_law_times" Vv ["_law_box","_law_letters_here","_law_count","_law_deep"])(D3:Def K mg "_law_pattern" Wt ["_law_box","_law_letters_here","_law_count","_law_deep"]) :
  ∀n,Own P w K mg base (4+2*n) "_law_pattern" ["_law_box","_law_letters_here","_law_count","_law_deep"] (Z1f n)
 |0=>D3.own fun f fd F=>FnOk.never fun vs H Q E h=>by
  obtain⟨_,_,_,_,d,hd,_⟩:=h
  omega
 |n+1=>by
  have ih:=Jm T O_l_take O_l_leaf D1 D2 D3 n
  exact D3.own fun f fd F=>Z5c T O_l_take O_l_leaf (D1.own fun f fd F=>Z8y T O_l_take ih F) (D2.own fun f fd F=>Z8w T O_l_take ih F) ih F
inductive spDrawnI(vs:List V)(H:Hp)(Q:VK):Prop
 |mk (b l:Addr) (pl:Int) (_:vs=[.ref b,.ref l,.int pl]) (_:BoxAt H b) (_:LetG H l) (_:∀(t g:Addr) (v:V) (p:Pat) (n:Nat) (H':Hp),BoxAt H' b->H' t=some (.tup [v,.ref g])->H' g=some (.tup (List.replicate n .non))->n<=9->Kp n 7 0 p n->p.size<=60->PatAt H' 7 v p->Gro [b] H H'->Q (.ref t) H')
def Z2x:Sp:=fun vs H Q _=>spDrawnI vs H Q
def Z4m(b l c:Addr)(pl:Int)(H:Hp):TS:=fun D σ H1=>∃(v:V) (p:Pat) (cn:Int) (one two:Option V),σ=[some (.ref b),some (.ref l),some (.int pl),some (.ref c),some v,one,two]/\PatAt H1 7 v p/\Kp cn 7 0 p cn/\p.size<=60/\BoxAt H1 b/\CntN H1 c cn/\Gro [b] H H1 /\
 ∀(t g:Addr) (v:V) (p:Pat) (n:Nat) (H':Hp),BoxAt H' b->H' t=some (.tup [v,.ref g])->H' g=some (.tup (List.replicate n .non))->n<=9->Kp n 7 0 p n->p.size<=60->PatAt H' 7 v p->Gro [b] H H'->D.rt (.ref t) H'
abbrev Vy:Stmt:=U3 54
theorem sc_l_drawn:FnScope ["_law_box","_law_letters_here","_law_plain","_law_count","_law_p","_law_one","_law_two"] ["_law_box","_law_letters_here","_law_plain"] (Zc Vy):=U5
theorem Z91(T:Blt mg)(O_l_take:Own P w K mg base 1 "_law_take" ["_law_box","_law_many"] Xq)(O_l_runs:Own P w K mg base 2 "_law_runs" ["_law_box","_law_letters_here"] Jq)(O_l_pattern:Own P w K mg base 12 "_law_pattern" ["_law_box","_law_letters_here","_law_count","_law_deep"] (Z1f 4))(F:Fun K "_law_drawn" "_law_drawn" Vy f fd) :
  FnOk P w K mg base V1 13 f fd ["_law_box","_law_letters_here","_law_plain"] Z2x:=by
 refine F.ok sc_l_drawn (fun vs H Q E h=>?_) (fun cdv A outer s H vs Q E hr h=>?_)
 ·obtain⟨b,l,pl,rfl,_⟩:=h
  rfl
 obtain⟨b,l,pl,rfl,hb,hl,q⟩:=h
 have bl:b≠l:=hb.ne_let hl.at_
 have lS:l∉[b]:=by simpa using Ne.symm bl
 refine U4 ?_
 intro Xz
 refine⟨_,(Z3 (pS 3 sc_l_drawn.nd (Yl (Z0 Z5 (Z0 (pv 2) Z2))))
  (Z3 (pS 4 sc_l_drawn.nd (Zi (O_l_pattern.mono (by omega)) hr rfl (Z0 (pv 0) (Z0 (pv 1) (Z0 (pv 3) (Z0 Z5 Z2))))))
  (Z3 (by refine' Zq ?h1 ?h2 ?h3;(case h1=>exact(PW.pt (Z3c (Zf Y1 (Zi (O_l_take.mono (by omega)) hr rfl (Z0 (pv 0) (Z0 Z5 Z2))) Z5 (Zj _)) (Z08 (Zf Y1 (pv 2) Z5 (Zj _))))));(case h3=>exact Zh);case h2=>refine' Z3 ?h4 ?h5;(case h4=>exact(pS 5 sc_l_drawn.nd (by refine' Zr ?h6;case h6=>refine' Wz ?h8 ?h7;(case h8=>exact Z8);case h7=>refine' Up ?h10 ?h9;(case h10=>refine' Zr ?h11;case h11=>refine' Up ?h13 ?h12;(case h13=>refine' Zr ?h14;case h14=>refine' Wz ?h16 ?h15;(case h16=>exact Z8);case h15=>refine' Wz ?h18 ?h17;(case h18=>exact Z5);case h17=>exact Z2);case h12=>refine' Up ?h20 ?h19;(case h20=>refine' Zr ?h21;case h21=>refine' Wz ?h23 ?h22;(case h23=>exact Z8);case h22=>refine' Z0 ?h25 ?h24;(case h25=>exact(Zo Y0 (pv 1) (Zi (O_l_take.mono (by omega)) hr rfl (Z0 (pv 0) (Z0 Z5 Z2))) (fun _ _=>rfl)));case h24=>exact Z2);case h19=>exact Z2);case h9=>exact Z2)));case h5=>refine' Z3 ?h26 ?h27;(case h26=>exact(pS 6 sc_l_drawn.nd (Zr (Z0 Z8 (Z0 Z5 (Z0 (Zr (Z0 Z8 (Z0 (Zi (O_l_runs.mono (by omega)) hr rfl (Z0 (pv 0) (Z0 (pv 1) Z2))) Z2))) Z2))))));case h27=>refine' Z3 ?h28 ?h29;(case h28=>exact(pS 4 sc_l_drawn.nd (by refine' Zr ?h30;case h30=>refine' Wz ?h32 ?h31;(case h32=>exact Z8);case h31=>refine' Wz ?h34 ?h33;(case h34=>exact Z5);case h33=>refine' Wz ?h36 ?h35;(case h36=>exact Z17);case h35=>refine' Z0 ?h38 ?h37;(case h38=>exact(Zo Y0 (Yl (Z0 Z8 (Z0 Z8 Z2))) (Zi (O_l_take.mono (by omega)) hr rfl (Z0 (pv 0) (Z0 Z5 Z2))) (fun _ _=>rfl)));case h37=>refine' Up ?h40 ?h39;(case h40=>refine' Zr ?h41;case h41=>refine' Wz ?h43 ?h42;(case h43=>exact Z8);case h42=>refine' Up ?h45 ?h44;(case h45=>refine' Zr ?h46;case h46=>refine' Z4d ?h48 ?h47;(case h48=>exact(pv 5));case h47=>refine' Z4d ?h50 ?h49;(case h50=>exact(pv 6));case h49=>exact Z2);case h44=>exact Z2);case h39=>exact Z2)));case h29=>refine' Z6 ?h51;case h51=>exact(Z67 Z5 (Z68 (pv 3) Z5 Z0w)))
  (J3 (fun D σ H1=>∃c,Z4m b l c pl H D σ H1) (Z6 (Zd (Zr (Z0 (pv 4) (Z0 (Zw Y3 rfl T.b_tuple PyProof.Rows.Boot.«tuple» (Z0 (Xa rfl (show CScope _ ["_law_box","_law_letters_here","_law_plain","_law_count","_law_p","_law_one","_law_two"] (Zc Vy) _ from⟨rfl,by decide +kernel,rfl,by decide +kernel,by decide +kernel,by decide +kernel,by decide +kernel⟩) (Yr rfl T.b_range (Z0 (Zo Y0 (pv 3) Z5 (fun _ _=>rfl)) Z2)) (fun _ _ _ _=>X7) (fun _ _ _ _=>Z17)) Z2)) Z2))))) (fun D1 σ1 H1 hcut=>?cut3))))),?_⟩
 case cut3 =>
  obtain⟨c,v,p,cn,one,two,rfl,hp,hkp,hps,hb1,⟨cp,hcl,hcn⟩,g1,q⟩:=hcut
  refine⟨_,rfl,_,rfl,c,_,_,_,rfl,rfl,SqL.of hcl,rfl,_,rfl,by omega,by omega,?_⟩
  refine Z0z (n:=cn.toNat) (fun i ys H'=>ys=List.replicate i V.non/\H'=H1) ⟨rfl,rfl⟩ (Zz (by omega)) (fun i ys H' ⟨e,_⟩=>by rw[e,List.length_replicate];exact Nat.le_refl _) ?_ ?_
  ·rintro i ys H2 hi ⟨rfl,rfl⟩
   exact⟨by rw[List.replicate_succ'],rfl⟩
  ·rintro ys H2 ⟨rfl,rfl⟩ a ha
   refine⟨a,_,rfl,.inl ⟨SqL.of Z1,fun g hg=>⟨sz,fun t ht=>?_⟩⟩⟩
   have gg:Gro [b] H2 (Y2 (Y2 (Y2 H2 a (.lst (List.replicate cn.toNat .non))) g (.tup (List.replicate cn.toNat .non))) t (.tup [v,.ref g])):=((Gro.new ha _).tup hg).tup ht
   exact q t g v p cn.toNat _ (((hb1.new ha).new hg).new ht) Z1 (by rw[Zl (Z9 Z1 ht)];exact Z1) (by omega) (by rw[show((cn.toNat:Nat):Int)=cn by omega];exact hkp) hps (hp.mono gg.tups) (g1.trans gg)
 refine Zd2 ?_
 intro Ez Az1 Az2 Az3 Az4 Az5 Az6 Az7
 refine⟨_,rfl,sz,fun c hc=>?_⟩
 have bc:b≠c:=Z9 hb.choose_spec.1 hc
 have cS:c∉[b]:=by simpa using Ne.symm bc
 refine⟨_,rfl,_,rfl,_,rfl,b,l,c,0,3,by decide,rfl,hb.new hc,hl.new hc,⟨pl,Z1,by decide,by decide⟩,bc,fun v p H1 cm hb1 hc1 hcm hkm hs1 hp1 g1=>?_⟩
 have g1':Gro [b] H H1:=g1.drop hc
 refine⟨_,rfl,b,8,rfl,hb1,by decide,by decide,fun r H2 h20 h21 hb2 g2=>⟨rfl,_,rfl,?_⟩⟩
 have base2:Z4m b l c pl H { nx:=fun _ H'=>Q .non H',rt:=Q } [some (.ref b),some (.ref l),some (.int pl),some (.ref c),some v,none,none] H2:=⟨v,p,cm,none,none,rfl,hp1.mono g2.tups,hkm cm (Int.le_refl _),Nat.le_trans hs1 (by decide),hb2,hc1.gro g2 cS,g1'.trans g2,q⟩
 refine X5 (fun _=>⟨_,rfl,rfl,_,rfl,X5 (fun _=>?_) (fun _=>⟨c,base2⟩)⟩) (fun _=>Ui ⟨c,base2⟩)
 have l2:LetG H2 l:=(hl.gro g1' lS).gro g2 lS
 refine⟨sz,fun p1 hp1n=>⟨_,rfl,_,rfl,b,3,rfl,hb2.new hp1n,by decide,by decide,fun r3 H3 h30 h31 hb3 g3=>?_⟩⟩
 refine Z72 ((l2.new hp1n).gro g3 lS) h30 h31 fun s hs=>⟨sz,fun p2 hp2=>⟨sz,fun p3 hp3=>⟨sz,fun p4 hp4=>?_⟩⟩⟩
 have e1:H3 p1=some (.tup [.str "again",.int 1]):=g3.tups _ _ Z1
 generalize hH4:Y2 (Y2 (Y2 H3 p2 (.tup [.str "sign",.str s])) p3 (.tup [.ref p1,.ref p2])) p4 (.tup [.str "row",.ref p3])=H4
 have g34:Gro [b] H3 H4:=by rw[← hH4];exact((Gro.new hp2 _).tup hp3).tup hp4
 have e4:H4 p4=some (.tup [.str "row",.ref p3]):=by rw[← hH4];exact Z1
 have e3:H4 p3=some (.tup [.ref p1,.ref p2]):=by rw[← hH4,Zl (Z9 Z1 hp4)];exact Z1
 have e2:H4 p2=some (.tup [.str "sign",.str s]):=by rw[← hH4,Zl (Z9 (by rw[Zl (Z9 Z1 hp3)];exact Z1) hp4),Zl (Z9 Z1 hp3)];exact Z1
 have g24:Gro [b] H2 H4:=((Gro.new hp1n _).trans g3).trans g34
 have hb4:BoxAt H4 b:=by rw[← hH4];exact((hb3.new hp2).new hp3).new hp4
 have l4:=l2.gro g24 lS
 have P1:PatAt H4 4 (.ref p4) (.node .row [.node (.again 1) [],.node (.sign s) []]) :=
  ⟨p4,[.ref p1,.ref p2],rfl,⟨by simp,p3,e4,e3⟩,.cons ⟨p1,[],rfl,⟨⟨by decide,by decide⟩,rfl,g34.tups _ _ e1⟩,.nil⟩ (.cons ⟨p2,[],rfl,⟨rfl,hs.len,e2⟩,.nil⟩ .nil)⟩
 refine⟨_,rfl,_,rfl,b,l,rfl,hb4,l4,fun rr rs H5 hb5 hr5 hr1 hr2 hro g5=>⟨sz,fun p5 hp5=>⟨sz,fun p6 hp6=>?_⟩⟩⟩
 generalize hH6:Y2 (Y2 H5 p5 (.tup [.str "in",.ref rr])) p6 (.tup [.str "group",.int 1,.ref p5])=H6
 have g56:Gro [b] H5 H6:=by rw[← hH6];exact(Gro.new hp5 _).tup hp6
 have e6:H6 p6=some (.tup [.str "group",.int 1,.ref p5]):=by rw[← hH6];exact Z1
 have e5:H6 p5=some (.tup [.str "in",.ref rr]):=by rw[← hH6,Zl (Z9 Z1 hp6)];exact Z1
 have hb6:BoxAt H6 b:=by rw[← hH6];exact(hb5.new hp5).new hp6
 have P2:PatAt H6 4 (.ref p6) (.node (.grp 1) [.node (.inn rs) []]):=⟨p6,[.ref p5],rfl,⟨⟨by decide,by decide⟩,_,rfl,e6⟩,.cons ⟨p5,[],rfl,⟨rfl,rr,e5,hr5.mono g56.tups⟩,.nil⟩ .nil⟩
 refine⟨sz,fun a ha=>⟨_,rfl,b,2,rfl,hb6.new ha,by decide,by decide,fun r7 H7 h70 h71 hb7 g7=>?_⟩⟩
 have ba:b≠a:=Z9 hb6.choose_spec.1 ha
 have ha7:=g7.keep a _ (Z1 (H:=H6)) (by simpa using Ne.symm ba)
 have howE:∃how:How,Z89 [V.str "much",V.str "little"] r7=some (.str how.text):=by
  have:r7=0∨r7=1:=by omega
  rcases this with rfl | rfl
  ·exact⟨.much,rfl⟩
  ·exact⟨.little,rfl⟩
 obtain⟨how,ehow⟩:=howE
 refine⟨a,_,_,_,rfl,rfl,SqL.of ha7,ehow,_,rfl,_,rfl,sz,fun p8 hp8=>⟨sz,fun p9 hp9=>⟨sz,fun p10 hp10=>?_⟩⟩⟩
 generalize hH10:Y2 (Y2 (Y2 H7 p8 (.tup [.ref p4,.ref p6])) p9 (.tup [.str "or",.ref p8])) p10 (.tup [.str "times",.int 0,.non,.str how.text,.ref p9])=H10
 have g710:Gro [b] H7 H10:=by rw[← hH10];exact((Gro.new hp8 _).tup hp9).tup hp10
 have e10:H10 p10=some (.tup [.str "times",.int 0,.non,.str how.text,.ref p9]):=by rw[← hH10];exact Z1
 have e9:H10 p9=some (.tup [.str "or",.ref p8]):=by rw[← hH10,Zl (Z9 Z1 hp10)];exact Z1
 have e8:H10 p8=some (.tup [.ref p4,.ref p6]):=by rw[← hH10,Zl (Z9 (by rw[Zl (Z9 Z1 hp9)];exact Z1) hp10),Zl (Z9 Z1 hp9)];exact Z1
 have g67:Gro [b] H6 H7:=(Gro.new ha _).trans g7
 have g410:Gro [b] H4 H10:=((g5.trans g56).trans g67).trans g710
 have g610:Gro [b] H6 H10:=g67.trans g710
 have hb10:BoxAt H10 b:=by rw[← hH10];exact((hb7.new hp8).new hp9).new hp10
 have P3:PatAt H10 7 (.ref p10) (.node (.times 0 none how) [.node .alt [.node .row [.node (.again 1) [],.node (.sign s) []],.node (.grp 1) [.node (.inn rs) []]]]) :=
  ⟨p10,[.ref p9],rfl,⟨⟨by decide,by decide,fun h e=>by cases e⟩,_,rfl,e10⟩,.cons ⟨p9,[.ref p4,.ref p6],rfl,⟨by simp,by simp,p8,e9,e8⟩,.cons ((P1.mono g410.tups).deep (by decide)) (.cons ((P2.mono g610.tups).deep (by decide)) .nil)⟩ .nil⟩
 have nw1:∀k∈([.node .row [.node (.again 1) [],.node (.sign s) []],.node (.grp 1) [.node (.inn rs) []]]:List Pat),k.word≠"or":=fun k hk=>by
  rcases List.mem_cons.mp hk with rfl | hk
  ·show("row":Str)≠"or";decide +kernel
  ·rw[List.mem_singleton.mp hk];show("group":Str)≠"or";decide +kernel
 have nw2:∀k∈([.node (.again 1) [],.node (.sign s) []]:List Pat),k.word≠"row":=fun k hk=>by
  rcases List.mem_cons.mp hk with rfl | hk
  ·show("again":Str)≠"row";decide +kernel
  ·rw[List.mem_singleton.mp hk];show("sign":Str)≠"row";decide +kernel
 have kp3:Kp 1 7 0 (.node (.times 0 none how) [.node .alt [.node .row [.node (.again 1) [],.node (.sign s) []],.node (.grp 1) [.node (.inn rs) []]]]) 1 :=
  ⟨_,rfl,by decide,(fun x hx=>by cases hx),by simp,by simp,nw1,.cons ⟨by simp,by simp,nw2,.cons ⟨rfl,by decide,by decide,rfl⟩ (.cons ⟨rfl,hs,rfl⟩ .nil)⟩ (.cons ⟨_,rfl,rfl,by decide,by decide,rfl,⟨hr1,by omega⟩,hro,rfl⟩ .nil)⟩
 have hc10:CntN H10 c cm:=hc1.gro ((g2.trans g24).trans g410) cS
 obtain⟨cp,hcl,hcn⟩:=id hc10
 refine⟨_,rfl,c,_,_,0,rfl,rfl,hcl,rfl,?_⟩
 have gs:Gro [c] H10 (Y2 H10 c (.lst [.int 1,.int cp])):=Gro.set (by simp) hcl _
 refine⟨c,_,_,1,_,_,rfl,P3.mono gs.tups,kp3,by simp[Zu,Y8],hb10.gro gs (by simpa using bc),⟨cp,Z1,by decide,by decide⟩,?_,q⟩
 exact(((g1'.trans g2).trans g24).trans g410).fresh hc _
end
theorem V9{x:Str}{ps:List Pat}{p:Pat}(h:∀k∈ps,k.word≠x)(h':p.word≠x):∀k∈ps++[p],k.word≠x:=fun k hk=>by
 rcases List.mem_append.mp hk with z | z
 ·exact h k z
 ·rw[List.mem_singleton.mp z];exact h'
inductive NumG:Int->List Pat->Prop
 |nil {c:Int}:NumG c []
 |cons {c:Int} {s:Str} {ps:List Pat}:SgOk s->NumG (c+1) ps->NumG c (.node (.grp (c+1)) [.node (.sign s) []]::ps)
theorem NumG.snoc{s:Str}(hs:SgOk s):∀ {c:Int} {ps:List Pat},NumG c ps->NumG c (ps++[.node (.grp (c+(ps.length:Nat)+1)) [.node (.sign s) []]])
 |c,_,.nil=>by
  have e:c+(([]:List Pat).length:Nat)+1=c+1:=by simp
  rw[e]
  exact .cons hs .nil
 |c,_,.cons (ps:=ps) h r=>by
  have:=NumG.snoc hs r
  rw[List.cons_append]
  refine .cons h ?_
  rw[show c+((Pat.node (Hd.grp (c+1)) [Pat.node (Hd.sign _) []]::ps).length:Nat)+1=c+1+(ps.length:Nat)+1 by simp only[List.length_cons];omega]
  exact this
theorem NumG.word:∀ {c:Int} {ps:List Pat},NumG c ps->∀k∈ps,k.word≠"row"
 |_,_,.nil,k,hk=>by simp at hk
 |_,_,.cons _ r,k,hk=>by
  rcases List.mem_cons.mp hk with rfl | hk
  ·show("group":Str)≠"row";decide +kernel
  ·exact r.word k hk
theorem NumG.size:∀ {c:Int} {ps:List Pat},NumG c ps->Y8 ps=2*ps.length
 |_,_,.nil=>rfl
 |_,_,.cons _ r=>by
  have:=r.size
  simp only[Y8,Zu,List.length_cons]
  omega
theorem NumG.cn{G:Int}{n:Nat}(hn:2<=n):∀ {c:Int} {ps:List Pat},NumG c ps->0<=c/\c+ps.length<=9->CnL (Kp G n) c ps (c+(ps.length:Nat))
 |c,_,.nil,_=>by
  have e:c+(([]:List Pat).length:Nat)=c:=by simp
  rw[e]
  exact .nil
 |c,_,.cons (ps:=ps) h r,hc=>by
  simp only[List.length_cons]at hc
  have:=NumG.cn (G:=G) hn r ⟨by omega,by omega⟩
  refine .cons (e:=c+1) (Kp.deep (n:=2) ⟨_,rfl,rfl,hc.1,by omega,rfl,h,rfl⟩ hn) ?_
  rw[show c+((Pat.node (Hd.grp (c+1)) [Pat.node (Hd.sign _) []]::ps).length:Nat)=c+1+(ps.length:Nat) by simp only[List.length_cons];omega]
  exact this
theorem NumG.take:∀ {c:Int} {ps:List Pat} (j:Nat),NumG c ps->NumG c (ps.take j)
 |_,_,0,_=>by rw[List.take_zero];exact .nil
 |_,_,j+1,.nil=>.nil
 |_,_,j+1,.cons h r=>.cons h (r.take j)
theorem NumG.drop:∀ {c:Int} {ps:List Pat} (j:Nat),NumG c ps->NumG (c+(j:Nat)) (ps.drop j)
 |c,_,0,h=>by simpa using h
 |_,_,j+1,.nil=>.nil
 |c,_,j+1,.cons h r=>by
  have:=r.drop j
  rw[show c+((j+1:Nat):Int)=c+1+(j:Nat) by omega]
  exact this
section
variable{P:Program}{w:World}{K:W.Frag}{mg:Str->Option Value}{base:Heap}{f:Addr}{fd:FuncData}
def Z0v:Sp:=fun vs H Q _=>∃(b l:Addr) (d:Int),vs=[.ref b,.ref l,.int d]/\1<=d/\d<=8/\BoxAt H b/\LetG H l/\∀(v:V) (p:Pat) (H':Hp),BoxAt H' b->Kp 0 8 0 p 0->p.size<=60->PatAt H' 8 v p->Gro [b] H H'->Q v H'
abbrev U7:Stmt:=U3 55
theorem sc_l_nested:FnScope ["_law_box","_law_letters_here","_law_deep","_law_p","_law_k","_law_kind"] ["_law_box","_law_letters_here","_law_deep"] (Zc U7):=U5
theorem Z7p(T:Blt mg)(O_l_take:Own P w K mg base 1 "_law_take" ["_law_box","_law_many"] Xq)(F:Fun K "_law_nested" "_law_nested" U7 f fd):FnOk P w K mg base V1 2 f fd ["_law_box","_law_letters_here","_law_deep"] Z0v:=by
 refine F.ok sc_l_nested (fun vs H Q E h=>?_) (fun cdv A outer s H vs Q E hr h=>?_)
 ·obtain⟨b,l,d,rfl,_⟩:=h
  rfl
 obtain⟨b,l,d,rfl,hd1,hd8,hb,hl,q⟩:=h
 have bl:b≠l:=hb.ne_let hl.at_
 refine U4 ?_
 intro Xz
 refine⟨_,(Z3 (pS 3 sc_l_nested.nd (Zr (Z0 Z8 (Z0 (Zo Y0 (pv 1) Z5 (fun _ _=>rfl)) Z2))))
  (Z3 (V7 PassesOwn.never rfl (Yr rfl T.b_range (Z0 (Zs Uf (pv 2) Z5) Z2)) (pN 4 sc_l_nested.nd) (Z3 (pS 5 sc_l_nested.nd (Zi (O_l_take.mono (by omega)) hr rfl (Z0 (pv 0) (Z0 Z5 Z2))))
  (Z3 (Zq (Zf Y1 (pv 5) Z5 (Zj _)) (Z6 (pS 3 sc_l_nested.nd (Zr (Z0 Z8 (Z0 (pv 3) Z2))))) Zh)
  (Z3 (Zq (Zf Y1 (pv 5) Z5 (Zj _)) (Z6 (pS 3 sc_l_nested.nd (Zr (Z0 Z8 (Z0 (Zi (O_l_take.mono (by omega)) hr rfl (Z0 (pv 0) (Z0 Z5 Z2))) (Z0 Z17 (Z0 Z8 (Z0 (pv 3) Z2)))))))) Zh)
  (Z3 (Zq (Zf Y1 (pv 5) Z5 (Zj _)) (Z6 (pS 3 sc_l_nested.nd (Zr (Z0 Z8 (Z0 Z5 (Z0 (Zs Xs Z5 (Zi (O_l_take.mono (by omega)) hr rfl (Z0 (pv 0) (Z0 Z5 Z2)))) (Z0 Z8 (Z0 (pv 3) Z2)))))))) Zh)
  (Z6 (Zq (Zf Y1 (pv 5) Z5 (Zj _)) (Z6 (pS 3 sc_l_nested.nd (Zr (Z0 Z8 (Z0 (pv 3) Z2))))) Zh)))))))
  (Z6 (Zd (pv 3))))),?_⟩
 refine Zda ?_
 intro Ez Az1 Az2 Az3 Az4 Az5 Az6 Az7 Az8 Az9 Az10 Az11
 refine⟨_,rfl,Z72 hl (by decide) (by decide) fun s hs=>⟨sz,fun p0 hp0=>?_⟩⟩
 refine⟨_,rfl,_,_,rfl,rfl,_,rfl,by omega,by omega,?_⟩
 refine Xo (fun i σ H'=>∃(v:V) (p:Pat) (k kk:Option V),σ=[some (.ref b),some (.ref l),some (.int d),some v,k,kk]/\i<=7/\PatAt H' (i+1) v p/\Kp 0 (i+1) 0 p 0/\p.size<=i+1/\BoxAt H' b/\Gro [b] H H')
  ⟨.ref p0,.node (.sign s) [],none,none,rfl,by decide,⟨p0,[],rfl,⟨rfl,hs.len,Z1⟩,.nil⟩,⟨rfl,hs,rfl⟩,(by simp[Zu,Y8]),hb.new hp0,Gro.new hp0 _⟩ ?_ ?_
 ·rintro i σ H2 hi ⟨v,p,k,kk,rfl,hi7,hp2,hk2,hz2,hb2,g2⟩
  refine⟨_,rfl,b,4,rfl,hb2,by decide,by decide,fun r H3 h30 h31 hb3 g3=>?_⟩
  have hp3:=hp2.mono g3.tups
  have g23:=g2.trans g3
  have:r=0∨r=1∨r=2∨r=3:=by omega
  rcases this with rfl | rfl | rfl | rfl
  ·refine⟨_,rfl,rfl,_,rfl,Jw ⟨_,rfl,sz,fun p1 hp1=>?_⟩⟩
   refine⟨_,rfl,rfl,_,rfl,Ui ⟨_,rfl,rfl,_,rfl,Ui ⟨_,rfl,rfl,_,rfl,Ui ?_⟩⟩⟩
   exact⟨_,.node (.look .once) [p],_,_,rfl,by omega,⟨p1,[v],rfl,⟨v,rfl,Z1⟩,.cons (hp3.mono (Gro.new (S:=[]) hp1 _).tups) .nil⟩,⟨p,rfl,hk2⟩,(by rw[Zu,Y9];omega),hb3.new hp1,g23.tup hp1⟩
  ·refine⟨_,rfl,rfl,_,rfl,Ui ⟨_,rfl,rfl,_,rfl,Jw ?_⟩⟩
   refine⟨_,rfl,b,10,rfl,hb3,by decide,by decide,fun r4 H4 h40 h41 hb4 g4=>⟨_,rfl,sz,fun p1 hp1=>?_⟩⟩
   refine⟨_,rfl,rfl,_,rfl,Ui ⟨_,rfl,rfl,_,rfl,Ui ?_⟩⟩
   exact⟨_,.node (.times r4 none .little) [p],_,_,rfl,by omega,⟨p1,[v],rfl,⟨⟨h40,by omega,fun h e=>by cases e⟩,v,rfl,Z1⟩,.cons ((hp3.mono g4.tups).mono (Gro.new (S:=[]) hp1 _).tups) .nil⟩,⟨p,rfl,⟨h40,by omega⟩,(fun x hx=>by cases hx),hk2⟩,(by rw[Zu,Y9];omega),hb4.new hp1,(g23.trans g4).tup hp1⟩
  ·refine⟨_,rfl,rfl,_,rfl,Ui ⟨_,rfl,rfl,_,rfl,Ui ⟨_,rfl,rfl,_,rfl,Jw ?_⟩⟩⟩
   refine⟨_,rfl,b,9,rfl,hb3,by decide,by decide,fun r4 H4 h40 h41 hb4 g4=>⟨_,_,rfl,rfl,_,rfl,sz,fun p1 hp1=>?_⟩⟩
   refine⟨_,rfl,rfl,_,rfl,Ui ?_⟩
   exact⟨_,.node (.times 0 (some (1+r4)) .much) [p],_,_,rfl,by omega,⟨p1,[v],rfl,⟨⟨by decide,by decide,fun h e=>by cases e;omega⟩,v,rfl,Z1⟩,.cons ((hp3.mono g4.tups).mono (Gro.new (S:=[]) hp1 _).tups) .nil⟩,⟨p,rfl,by decide,(fun x hx=>by cases hx;omega),hk2⟩,(by rw[Zu,Y9];omega),hb4.new hp1,(g23.trans g4).tup hp1⟩
  ·refine⟨_,rfl,rfl,_,rfl,Ui ⟨_,rfl,rfl,_,rfl,Ui ⟨_,rfl,rfl,_,rfl,Ui ⟨_,rfl,rfl,_,rfl,Jw ⟨_,rfl,sz,fun p1 hp1=>?_⟩⟩⟩⟩⟩
   exact⟨_,.node (.look .notbehind) [p],_,_,rfl,by omega,⟨p1,[v],rfl,⟨v,rfl,Z1⟩,.cons (hp3.mono (Gro.new (S:=[]) hp1 _).tups) .nil⟩,⟨p,rfl,hk2⟩,(by rw[Zu,Y9];omega),hb3.new hp1,g23.tup hp1⟩
 ·rintro σ H2 ⟨v,p,k,kk,rfl,hi7,hp2,hk2,hz2,hb2,g2⟩
  exact⟨_,rfl,q v p H2 hb2 (hk2.deep (by omega)) (by omega) (hp2.deep (by omega)) g2⟩
def Z60:Sp:=fun vs H Q _=>∃(b l:Addr) (x y:Int),vs=[.ref b,.ref l,.int x,.int y]/\(2<=x/\x<=8/\2<=y/\y<=8)/\x.toNat*(1+y.toNat)<=59/\BoxAt H b/\LetG H l/\∀(v:V) (p:Pat) (H':Hp),BoxAt H' b->Kp 0 3 0 p 0->p.size<=60->PatAt H' 3 v p->Gro [b] H H'->Q v H'
abbrev Tp:Stmt:=U3 56
theorem sc_l_wide:FnScope ["_law_box","_law_letters_here","_law_one","_law_two","_law_rows","_law_k","_law_branches","_law_j"] ["_law_box","_law_letters_here","_law_one","_law_two"] (Zc Tp):=U5
theorem Zb5(T:Blt mg)(O_l_take:Own P w K mg base 1 "_law_take" ["_law_box","_law_many"] Xq)(F:Fun K "_law_wide" "_law_wide" Tp f fd):FnOk P w K mg base V1 2 f fd ["_law_box","_law_letters_here","_law_one","_law_two"] Z60:=by
 refine F.ok sc_l_wide (fun vs H Q E h=>?_) (fun cdv A outer s H vs Q E hr h=>?_)
 ·obtain⟨b,l,x,y,rfl,_⟩:=h
  rfl
 obtain⟨b,l,x,y,rfl,⟨hx0,hx8,hy1,hy9⟩,h59,hb,hl,q⟩:=h
 have bl:b≠l:=hb.ne_let hl.at_
 have lS:l∉[b]:=by simpa using Ne.symm bl
 refine U4 ?_
 intro Xz
 refine⟨_,(Z3 (pS 4 sc_l_wide.nd (Yl Z2))
  (Z3 (V7 PassesOwn.never rfl (Yr rfl T.b_range (Z0 (pv 2) Z2)) (pN 5 sc_l_wide.nd) (Z3 (pS 6 sc_l_wide.nd (Yl Z2))
  (Z3 (V7 PassesOwn.never rfl (Yr rfl T.b_range (Z0 (pv 3) Z2)) (pN 7 sc_l_wide.nd) (Z6 (X8 (V2 PySem.F.plainAttrs_list PySem.F.slot_list_append PySem.F.type_list_append Xb (pv 6) (Z0 (Zr (Z0 Z8 (Z0 (Zo Y0 (pv 1) (Zi (O_l_take.mono (by omega)) hr rfl (Z0 (pv 0) (Z0 Z5 Z2))) (fun _ _=>rfl)) Z2))) Z2)))))
  (Z6 (X8 (V2 PySem.F.plainAttrs_list PySem.F.slot_list_append PySem.F.type_list_append Xb (pv 4) (Z0 (Zr (Z0 Z8 (Z0 (Zw Y3 rfl T.b_tuple PyProof.Rows.Boot.«tuple» (Z0 (pv 6) Z2)) Z2))) Z2)))))))
  (Z6 (Zd (Zr (Z0 Z8 (Z0 (Zw Y3 rfl T.b_tuple PyProof.Rows.Boot.«tuple» (Z0 (pv 4) Z2)) Z2))))))),?_⟩
 refine Zd6 ?_
 intro Ez Az1 Az2 Az3 Az4 Az5 Az6
 refine⟨sz,fun a ha=>?_⟩
 have ba:b≠a:=Z9 hb.choose_spec.1 ha
 refine⟨_,rfl,_,rfl,by omega,by omega,?_⟩
 refine Xo (fun i σ H'=>∃(vs:List V) (ps:List Pat) (k br j:Option V),σ=[some (.ref b),some (.ref l),some (.int x),some (.int y),some (.ref a),k,br,j]/\H' a=some (.lst vs)/\Paired (PatAt H' 2) vs ps/\vs.length=i/\CnL (Kp 0 2) 0 ps 0/\(∀k∈ps,k.word≠"row")/\Y8 ps=i*(1+y.toNat)/\BoxAt H' b/\Gro [b] H H')
  ⟨[],[],none,none,none,rfl,Z1,.nil,rfl,.nil,(fun k hk=>by simp at hk),by simp[Y8],hb.new ha,Gro.new ha _⟩ ?_ ?_
 ·rintro i σ H2 hi ⟨vs,ps,k,br,j,rfl,ha2,hp2,hl2,hkp,hnw,hsz,hb2,g2⟩
  refine⟨sz,fun e he=>?_⟩
  have be:b≠e:=Z9 hb2.choose_spec.1 he
  have ae:a≠e:=Z9 ha2 he
  refine⟨_,rfl,_,rfl,by omega,by omega,?_⟩
  refine Xo (fun i2 σ H'=>∃(us:List V) (qs:List Pat) (j:Option V),σ=[some (.ref b),some (.ref l),some (.int x),some (.int y),some (.ref a),some (.int (0+(i:Int))),some (.ref e),j]/\H' e=some (.lst us)/\H' a=some (.lst vs)/\Paired (PatAt H' 1) us qs/\us.length=i2/\CnL (Kp 0 1) 0 qs 0/\(∀k∈qs,k.word≠"or")/\Y8 qs=i2/\BoxAt H' b/\Gro [b] H2 H')
   ⟨[],[],_,rfl,Z1,by rw[Zl ae];exact ha2,.nil,rfl,.nil,(fun k hk=>by simp at hk),rfl,hb2.new he,Gro.new he _⟩ ?_ ?_
  ·rintro i2 σ H3 hi2 ⟨us,qs,j,rfl,he3,ha3,hq3,hl3,hkq,hnq,hzq,hb3,g3⟩
   refine⟨_,rfl,.inl ⟨rfl,_,SqL.of he3⟩,_,rfl,_,rfl,b,3,rfl,hb3,by decide,by decide,fun r H4 h40 h41 hb4 g4=>?_⟩
   refine Z72 (((hl.gro g2 lS).gro g3 lS).gro g4 lS) h40 h41 fun s hs=>⟨sz,fun p1 hp1=>?_⟩
   have he4:H4 e=some (.lst us):=g4.keep e _ he3 (by simpa using Ne.symm be)
   have ha4:H4 a=some (.lst vs):=g4.keep a _ ha3 (by simpa using Ne.symm ba)
   have he5:(Y2 H4 p1 (.tup [.str "sign",.str s])) e=some (.lst us):=by rw[Zl (Z9 he4 hp1)];exact he4
   have ha5:(Y2 H4 p1 (.tup [.str "sign",.str s])) a=some (.lst vs):=by rw[Zl (Z9 ha4 hp1)];exact ha4
   refine⟨e,us,_,rfl,rfl,he5,Zz (by omega),?_⟩
   have t1:Gro [e] (Y2 H4 p1 (.tup [.str "sign",.str s])) (Y2 (Y2 H4 p1 (.tup [.str "sign",.str s])) e (.lst (us++[.ref p1]))):=Gro.set (by simp) he5 _
   have tt:∀c xs,H3 c=some (.tup xs)->(Y2 (Y2 H4 p1 (.tup [.str "sign",.str s])) e (.lst (us++[.ref p1]))) c=some (.tup xs):=fun c xs hc=>t1.tups c xs ((Gro.new (S:=[]) hp1 _).tups c xs (g4.tups c xs hc))
   refine⟨us++[.ref p1],qs++[.node (.sign s) []],_,rfl,Z1,by rw[Zl ae];exact ha5,(Yg tt hq3).snoc (show PatAt _ 1 (.ref p1) (.node (.sign s) []) from⟨p1,[],rfl,⟨rfl,hs.len,t1.tups _ _ Z1⟩,.nil⟩),by simp[hl3],hkq.snoc (show Kp 0 1 0 (.node (.sign s) []) 0 from⟨rfl,hs,rfl⟩),V9 hnq (by show("sign":Str)≠"or";decide +kernel),by rw[X3,hzq];simp[Y8,Zu],(hb4.new hp1).gro t1 (by simpa using be),((g3.trans g4).tup hp1).fresh he _⟩
  ·rintro σ H3 ⟨us,qs,j,rfl,he3,ha3,hq3,hl3,hkq,hnq,hzq,hb3,g3⟩
   refine⟨_,rfl,.inl ⟨rfl,_,SqL.of ha3⟩,_,rfl,e,_,rfl,.inl ⟨SqL.of he3,fun r hr2=>⟨sz,fun p1 hp1=>?_⟩⟩⟩
   have hql:=Paired.length hq3
   have g35:Gro [b] H3 (Y2 (Y2 H3 r (.tup us)) p1 (.tup [.str "or",.ref r])):=(Gro.new hr2 _).tup hp1
   have ha5:=g35.keep a _ ha3 (by simpa using Ne.symm ba)
   have er:(Y2 (Y2 H3 r (.tup us)) p1 (.tup [.str "or",.ref r])) r=some (.tup us):=by rw[Zl (Z9 Z1 hp1)];exact Z1
   refine⟨a,vs,_,rfl,rfl,ha5,Zz (by omega),?_⟩
   have t1:=Gro.set (S:=[a]) (by simp) ha5 (.lst (vs++[V.ref p1]))
   have g25:Gro [b] H2 _:=g3.trans g35
   refine⟨vs++[.ref p1],ps++[.node .alt qs],_,_,_,rfl,Z1,(Yg t1.tups (Yg g25.tups hp2)).snoc (show PatAt _ 2 (.ref p1) (.node .alt qs) from⟨p1,us,rfl,⟨by omega,by omega,r,t1.tups _ _ Z1,t1.tups _ _ er⟩,Yg t1.tups (Yg g35.tups hq3)⟩),by simp[hl2],hkp.snoc (show Kp 0 2 0 (.node .alt qs) 0 from⟨by omega,by omega,hnq,hkq⟩),V9 hnw (by show("or":Str)≠"row";decide +kernel),by rw[X3,Y9,Zu,hsz,hzq,Nat.add_mul];omega,?_,(g2.trans g25).fresh ha _⟩
   exact(((hb3.new hr2).new hp1)).gro t1 (by simpa using ba)
 ·rintro σ H2 ⟨vs,ps,k,br,j,rfl,ha2,hp2,hl2,hkp,hnw,hsz,hb2,g2⟩
  refine⟨_,rfl,a,_,rfl,.inl ⟨SqL.of ha2,fun r hr2=>⟨sz,fun p1 hp1=>?_⟩⟩⟩
  have hpl:=Paired.length hp2
  have g35:Gro [b] H2 (Y2 (Y2 H2 r (.tup vs)) p1 (.tup [.str "row",.ref r])):=(Gro.new hr2 _).tup hp1
  exact q _ (.node .row ps) _ ((hb2.new hr2).new hp1) ⟨by omega,by omega,hnw,hkp⟩ (by rw[Zu,hsz];omega) ⟨p1,vs,rfl,⟨by omega,r,Z1,by rw[Zl (Z9 Z1 hp1)];exact Z1⟩,Yg g35.tups hp2⟩ (g2.trans g35)
def Z63:Sp:=fun vs H Q _=>∃(l:Addr) (m:Int),vs=[.ref l,.int m]/\1<=m/\m<=9/\LetG H l/\∀(v:V) (p:Pat) (H':Hp),Kp m 5 0 p m->p.size<=60->PatAt H' 5 v p->Gro [] H H'->Q v H'
abbrev X6:Stmt:=U3 57
theorem sc_l_many_groups:FnScope ["_law_letters_here","_law_many","_law_p","_law_parts_here"] ["_law_letters_here","_law_many"] (Zc X6):=U5
theorem Zbb(T:Blt mg)(F:Fun K "_law_many_groups" "_law_many_groups" X6 f fd):FnOk P w K mg base V1 1 f fd ["_law_letters_here","_law_many"] Z63:=by
 refine F.ok sc_l_many_groups (fun vs H Q E h=>?_) (fun cdv A outer s H vs Q E hr h=>?_)
 ·obtain⟨l,m,rfl,_⟩:=h
  rfl
 obtain⟨l,m,rfl,hm1,hm9,hl,q⟩:=h
 refine U4 ?_
 intro Xz
 refine⟨_,(Z3 (pS 2 sc_l_many_groups.nd (Zr (Z0 Z8 (Z0 (pv 1) Z2))))
  (Z3 (Z8s (i:=3) sc_l_many_groups.nd rfl rfl rfl (show CScope _ ["_law_letters_here","_law_many","_law_p","_law_parts_here"] (Zc X6) _ from⟨rfl,by decide +kernel,rfl,by decide +kernel,by decide +kernel,by decide +kernel,by decide +kernel⟩) (Yr rfl T.b_range (Z0 (pv 1) Z2)) (fun _ _ _ _=>X7) (fun _ _ _ _=>(Zr (Z0 Z8 (Z0 (Zs Xs (pv 0) Z5) (Z0 (Zr (Z0 Z8 (Z0 (Zo (r:=Z71 K) Y0 (pv 1) (Zs Z6a (pv 0) Z5) (fun _ _=>rfl)) Z2))) Z2))))) rfl)
  (Z3 (Zq (Zf Z03 (pv 1) Z5 (Zj _)) (Z6 (Zd (Zr (Z0 Z8 (Z0 (Zw Y3 rfl T.b_tuple PyProof.Rows.Boot.«tuple» (Z0 (Zs Z3g (pv 3) (Yl (Z0 (pv 2) Z2))) Z2)) Z2))))) Zh)
  (Z6 (Zd (Zr (Z0 Z8 (Z0 (Zw Y3 rfl T.b_tuple PyProof.Rows.Boot.«tuple» (Z0 (Zs Z3g (U2 Z2y (pv 3) J4 (Ua Z5)) (Yl (Z0 (Zr (Z0 Z8 (Z0 Z5 (Z0 (Zr (Z0 Z8 (Z0 (Zw Y3 rfl T.b_tuple PyProof.Rows.Boot.«tuple» (Z0 (Zs Z3g (U2 Z2y (pv 3) (Ua Z5) J4) (Yl (Z0 (pv 2) Z2))) Z2)) Z2))) Z2)))) Z2))) Z2)) Z2)))))))),?_⟩
 refine Z9r ?_
 intro Ez Az1 Az2 Az3 Az4
 refine⟨_,rfl,sz,fun p0 hp0=>?_⟩
 have P0:∀ {d:Nat} {H':Hp},Gro [] (Y2 H p0 (.tup [.str "again",.int m])) H'->PatAt H' (d+1) (.ref p0) (.node (.again m) []):=fun{d H'} g=>⟨p0,[],rfl,⟨⟨by omega,by omega⟩,rfl,g.tups _ _ Z1⟩,.nil⟩
 refine⟨_,rfl,_,rfl,by omega,by omega,?_⟩
 refine Z0z (n:=m.toNat) (fun i ys H'=>∃ps:List Pat,Paired (PatAt H' 2) ys ps/\ys.length=i/\NumG 0 ps/\Gro [] (Y2 H p0 (.tup [.str "again",.int m])) H') ⟨[],.nil,rfl,.nil,Gro.refl⟩ (Zz (by omega)) (fun i ys H' ⟨ps,_,e,_⟩=>by omega) ?_ ?_
 ·rintro i ys H2 hi ⟨ps,hp2,hl2,hng,g2⟩
  refine⟨_,rfl,_,_,rfl,rfl,_,rfl,_,rfl,_,_,rfl,rfl,(by decide:(0:Int)<3),?_⟩
  refine Z72 ((hl.new hp0).gro g2 (by simp)) (Int.emod_nonneg _ (by decide)) (Int.emod_lt_of_pos _ (by decide)) fun s hs=>⟨sz,fun p1 hp1=>⟨sz,fun p2 hp2n=>?_⟩⟩
  have g3:Gro [] H2 (Y2 (Y2 H2 p1 (.tup [.str "sign",.str s])) p2 (.tup [.str "group",.int (0+(i:Int)+1),.ref p1])):=(Gro.new hp1 _).tup hp2n
  refine⟨ps++[.node (.grp (0+(i:Int)+1)) [.node (.sign s) []]],(Yg g3.tups hp2).snoc (show PatAt _ 2 (.ref p2) (.node (.grp (0+(i:Int)+1)) [.node (.sign s) []]) from⟨p2,[.ref p1],rfl,⟨⟨by omega,by omega⟩,_,rfl,Z1⟩,.cons ⟨p1,[],rfl,⟨rfl,hs.len,by rw[Zl (Z9 Z1 hp2n)];exact Z1⟩,.nil⟩ .nil⟩),by simp[hl2],?_,g2.trans g3⟩
  have hpl:=Paired.length hp2
  have:=hng.snoc hs
  rw[← hpl,hl2]at this
  rw[show(0:Int)+(i:Int)+1=0+(i:Nat)+1 from rfl]
  exact this
 ·rintro ys H2 ⟨ps,hp2,hl2,hng,g2⟩ a ha
  have hyl:ys.length<=9:=by omega
  have hpl:=Paired.length hp2
  have ga:Gro [] H2 (Y2 H2 a (.lst ys)):=Gro.new ha _
  have gHa:Gro [] H (Y2 H2 a (.lst ys)):=((Gro.new hp0 _).trans g2).trans ga
  refine⟨_,rfl,_,_,rfl,rfl,_,rfl,X5 (fun m8=>?_) (fun m8=>?_)⟩
  ·refine⟨_,rfl,_,rfl,sz,fun e he=>?_⟩
   have ea:(Y2 (Y2 H2 a (.lst ys)) e (.lst [.ref p0])) a=some (.lst ys):=by rw[Zl (Z9 Z1 he)];exact Z1
   refine⟨a,e,ys,_,rfl,rfl,ea,Z1,Jb (by simp;omega),fun z hz=>?_⟩
   refine⟨z,_,rfl,.inl ⟨SqL.of Z1,fun r hr2=>⟨sz,fun p1 hp1=>?_⟩⟩⟩
   have g5:=(((ga.tup (o:=.lst [.ref p0]) he).tup (o:=.lst (ys++[.ref p0])) hz).tup (o:=.tup (ys++[.ref p0])) hr2).tup (o:=.tup [.str "row",.ref r]) hp1
   refine q _ (.node .row (ps++[.node (.again m) []])) _ ⟨by rw[List.length_append];simp only[List.length_cons,List.length_nil];omega,by simp;have m8':m<8:=of_decide_eq_true m8;omega,V9 (fun k hk=>hng.word k hk) (by show("again":Str)≠"row";decide +kernel),by have:=(hng.cn (G:=m) (n:=2) (by omega) ⟨by omega,by omega⟩).snoc (k:=.node (.again m) []) (c':=0+(ps.length:Int)) ⟨rfl,by omega,by omega,rfl⟩;rw[show(0:Int)+(ps.length:Int)=m by omega]at this;exact this.imp fun _ _ _ z=>z.deep (by decide)⟩ (by rw[Zu,X3,hng.size,Y9,Zu,Y8];omega) ⟨p1,ys++[.ref p0],rfl,⟨by simp;omega,r,Z1,by rw[Zl (Z9 Z1 hp1)];exact Z1⟩,?_⟩ (((Gro.new hp0 _).trans g2).trans g5)
   exact(Paired.mapP hp2 fun _ _ q=>(q.mono g5.tups).deep (by decide)).snoc (P0 (g2.trans g5))
  ·refine⟨_,rfl,_,rfl,a,ys,rfl,SqL.of Z1,fun s1 hs1=>?_⟩
   have ea:(Y2 (Y2 H2 a (.lst ys)) s1 (.lst (Vp ys none (some 5)))) a=some (.lst ys):=by rw[Zl (Z9 Z1 hs1)];exact Z1
   refine⟨_,rfl,_,rfl,a,ys,rfl,SqL.of ea,fun s2 hs2=>⟨_,rfl,sz,fun e he=>?_⟩⟩
   have c1l:=Vm ys none (some 5)
   have c2l:=Vm ys (some 6) none
   have hm8:¬m<8:=fun z=>m8 (decide_eq_true z)
   have ec1:Vp ys none (some 5)=ys.take 5:=Zef (k:=5) (by omega)
   have ec2:Vp ys (some 6) none=ys.drop 6:=Z9f (k:=6) (by omega)
   have hq1:=Um 5 hp2
   have hq2:=Jl 6 hp2
   have hn1:=hng.take 5
   have hn2:=hng.drop 6
   have hx1:(ps.take 5).length=5:=by rw[List.length_take];omega
   have hx2:(ps.drop 6).length=m.toNat-6:=by rw[List.length_drop];omega
   rw[← ec1]at hq1
   rw[← ec2]at hq2
   generalize ps.take 5=qs1 at *
   generalize ps.drop 6=qs2 at *
   have hw1:=Paired.length hq1
   have hw2:=Paired.length hq2
   generalize Vp ys none (some 5)=c1 at *
   generalize Vp ys (some 6) none=c2 at *
   refine⟨s2,e,c2,_,rfl,rfl,by rw[Zl (Z9 Z1 he)];exact Z1,Z1,Jb (by simp;omega),fun z hz=>?_⟩
   refine⟨z,_,rfl,.inl ⟨SqL.of Z1,fun r hr2=>⟨sz,fun p1 hp1=>⟨sz,fun p2 hp2n=>⟨sz,fun g hg=>?_⟩⟩⟩⟩⟩
   have k1:=((((((Gro.new (S:=[]) hs2 (.lst c2)).tup (o:=.lst [.ref p0]) he).tup (o:=.lst (c2++[.ref p0])) hz).tup (o:=.tup (c2++[.ref p0])) hr2).tup (o:=.tup [.str "row",.ref r]) hp1).tup (o:=.tup [.str "group",.int 6,.ref p1]) hp2n).tup (o:=.lst [.ref p2]) hg
   refine⟨s1,g,c1,_,rfl,rfl,k1.keep s1 _ Z1 (by simp),Z1,Jb (by simp;omega),fun y hy=>?_⟩
   refine⟨y,_,rfl,.inl ⟨SqL.of Z1,fun r2 hr3=>⟨sz,fun p3 hp3=>?_⟩⟩⟩
   have k2:=(((Gro.new (S:=[]) hg (.lst [.ref p2])).tup (o:=.lst (c1++[.ref p2])) hy).tup (o:=.tup (c1++[.ref p2])) hr3).tup (o:=.tup [.str "row",.ref r2]) hp3
   have k3:=(((k1.tup (o:=.lst (c1++[.ref p2])) hy).tup (o:=.tup (c1++[.ref p2])) hr3).tup (o:=.tup [.str "row",.ref r2]) hp3)
   have kk:=(ga.tup (o:=.lst c1) hs1).trans k3
   have e2:=k2.tups p2 _ Z1
   have e1:=k2.tups p1 _ (by rw[Zl (Z9 Z1 hp2n)];exact Z1)
   have er:=k2.tups r _ (by rw[Zl (Z9 (by rw[Zl (Z9 Z1 hp1)];exact Z1) hp2n),Zl (Z9 Z1 hp1)];exact Z1)
   have inner:=(Paired.mapP hq2 fun _ _ q=>(q.mono kk.tups)).snoc (P0 (d:=1) (g2.trans kk))
   have kin:Kp m 3 (5+1) (.node .row (qs2++[.node (.again m) []])) m:=by
    refine⟨by rw[List.length_append];simp only[List.length_cons,List.length_nil];omega,by simp;omega,V9 (fun k hk=>hn2.word k hk) (by show("again":Str)≠"row";decide +kernel),?_⟩
    have:=(hn2.cn (G:=m) (n:=2) (by omega) ⟨by omega,by omega⟩).snoc (k:=.node (.again m) []) (c':=((0:Int)+(6:Nat))+(qs2.length:Int)) ⟨rfl,by omega,by omega,rfl⟩
    rw[show((0:Int)+(6:Nat))+(qs2.length:Int)=m by omega]at this
    exact this
   have kout:CnL (Kp m 4) 0 (qs1++[.node (.grp 6) [.node .row (qs2++[.node (.again m) []])]]) m:=by
    have h5:=(hn1.cn (G:=m) (n:=4) (by omega) ⟨by omega,by omega⟩)
    rw[show(0:Int)+(qs1.length:Int)=5 by omega]at h5
    exact h5.snoc ⟨_,rfl,rfl,by decide,by decide,kin⟩
   refine q _ (.node .row (qs1++[.node (.grp 6) [.node .row (qs2++[.node (.again m) []])]])) _ ⟨by rw[List.length_append];simp only[List.length_cons,List.length_nil];omega,by simp;omega,V9 (fun k hk=>hn1.word k hk) (by show("group":Str)≠"row";decide +kernel),kout⟩ (by simp only[Zu,X3,Y8,hn1.size,hn2.size];omega) ⟨p3,c1++[.ref p2],rfl,⟨by simp;omega,r2,Z1,by rw[Zl (Z9 Z1 hp3)];exact Z1⟩,?_⟩ (((Gro.new hp0 _).trans g2).trans kk)
   refine(Paired.mapP hq1 fun _ _ q=>(q.mono kk.tups).deep (by decide)).snoc (show PatAt _ 4 (.ref p2) _ from⟨p2,[.ref p1],rfl,⟨⟨by decide,by decide⟩,_,rfl,e2⟩,.cons (show PatAt _ 3 (.ref p1) _ from⟨p1,c2++[.ref p0],rfl,⟨by simp;omega,r,e1,er⟩,inner⟩) .nil⟩)
end
def Zgt(p:Pat):Prop:=∃G:Int,Kp G 8 0 p G/\G<=9/\p.size<=60
theorem Zfz{r q:Int}(h0:0<=r)(h1:r<7)(h2:0<=q)(h3:q<(if 59 / (2+r)-2<7 then 59 / (2+r)-2 else 7)):(2+r).toNat*(1+(2+q).toNat)<=59:=by
 have:r=0∨r=1∨r=2∨r=3∨r=4∨r=5∨r=6:=by omega
 rcases this with rfl | rfl | rfl | rfl | rfl | rfl | rfl <;> (simp at h3;simp only[show((2:Int)+0).toNat=2 from rfl,show((2:Int)+1).toNat=3 from rfl,show((2:Int)+2).toNat=4 from rfl,show((2:Int)+3).toNat=5 from rfl,show((2:Int)+4).toNat=6 from rfl,show((2:Int)+5).toNat=7 from rfl,show((2:Int)+6).toNat=8 from rfl];omega)
section
variable{P:Program}{w:World}{K:W.Frag}{mg:Str->Option Value}{base:Heap}{f:Addr}{fd:FuncData}
theorem Zg1{r:Int}(h0:0<=r)(h1:r<7):5<=59 / (2+r)-2:=by
 have:r=0∨r=1∨r=2∨r=3∨r=4∨r=5∨r=6:=by omega
 rcases this with rfl | rfl | rfl | rfl | rfl | rfl | rfl <;> decide
def Z62:Sp:=fun vs H Q _=>∃(b l:Addr),vs=[.ref b,.ref l]/\BoxAt H b/\LetG H l/\∀(v:V) (p:Pat) (H':Hp),BoxAt H' b->Zgt p->PatAt H' 8 v p->Gro [b] H H'->Q v H'
abbrev Tr:Stmt:=U3 58
theorem sc_l_some:FnScope ["_law_box","_law_letters_here","_law_kind","_law_one","_law_runs_here","_law_k"] ["_law_box","_law_letters_here"] (Zc Tr):=U5
theorem Zb8(T:Blt mg)(O_l_take:Own P w K mg base 1 "_law_take" ["_law_box","_law_many"] Xq)(O_l_runs:Own P w K mg base 2 "_law_runs" ["_law_box","_law_letters_here"] Jq)(O_l_drawn:Own P w K mg base 13 "_law_drawn" ["_law_box","_law_letters_here","_law_plain"] Z2x)(O_l_nested:Own P w K mg base 2 "_law_nested" ["_law_box","_law_letters_here","_law_deep"] Z0v)
  (O_l_wide:Own P w K mg base 2 "_law_wide" ["_law_box","_law_letters_here","_law_one","_law_two"] Z60) (O_l_many_groups:Own P w K mg base 1 "_law_many_groups" ["_law_letters_here","_law_many"] Z63) (F:Fun K "_law_some" "_law_some" Tr f fd):FnOk P w K mg base V1 14 f fd ["_law_box","_law_letters_here"] Z62:=by
 refine F.ok sc_l_some (fun vs H Q E h=>?_) (fun cdv A outer s H vs Q E hr h=>?_)
 ·obtain⟨b,l,rfl,_⟩:=h
  rfl
 obtain⟨b,l,rfl,hb,hl,q⟩:=h
 have bl:b≠l:=hb.ne_let hl.at_
 have lS:l∉[b]:=by simpa using Ne.symm bl
 refine U4 ?_
 intro Xz
 refine⟨_,(Z3 (pS 2 sc_l_some.nd (Zi (O_l_take.mono (by omega)) hr rfl (Z0 (pv 0) (Z0 Z5 Z2))))
  (Z3 (Zq (Zf Y1 (pv 2) Z5 (Zj _)) (Z6 (Zd (Zi (O_l_nested.mono (by omega)) hr rfl (Z0 (pv 0) (Z0 (pv 1) (Z0 (Zs Xs Z5 (Zi (O_l_take.mono (by omega)) hr rfl (Z0 (pv 0) (Z0 Z5 Z2)))) Z2)))))) Zh)
  (Z3 (Zq (Zf Y1 (pv 2) Z5 (Zj _)) (Z3 (pS 3 sc_l_some.nd (Zs Xs Z5 (Zi (O_l_take.mono (by omega)) hr rfl (Z0 (pv 0) (Z0 Z5 Z2)))))
  (Z6 (Zd (Zi (O_l_wide.mono (by omega)) hr rfl (Z0 (pv 0) (Z0 (pv 1) (Z0 (pv 3) (Z0 (Zs Xs Z5 (Zi (O_l_take.mono (by omega)) hr rfl (Z0 (pv 0) (Z0 (Zx (Z82 rfl) rfl T.b_min PyProof.Rows.Boot.«min» (Z0 Z5 (Z0 (Zs Uf (Zs Z33 Z5 (pv 3)) Z5) Z2))) Z2)))) Z2)))))))) Zh)
  (Z3 (Zq (Zf Y1 (pv 2) Z5 (Zj _)) (Z6 (Zd (Zi (O_l_many_groups.mono (by omega)) hr rfl (Z0 (pv 1) (Z0 (Zs Xs Z5 (Zi (O_l_take.mono (by omega)) hr rfl (Z0 (pv 0) (Z0 Z5 Z2)))) Z2))))) Zh)
  (Z3 (Zq (Zf Y1 (pv 2) Z5 (Zj _)) (Z3 (pS 4 sc_l_some.nd (Yl (Z0 (Zr (Z0 (Zo Y0 (pv 1) Z5 (fun _ _=>rfl)) (Z0 (Zo Y0 (pv 1) Z5 (fun _ _=>rfl)) Z2))) Z2)))
  (Z3 (V7 PassesOwn.never rfl (Yr rfl T.b_range (Z0 (Zi (O_l_take.mono (by omega)) hr rfl (Z0 (pv 0) (Z0 Z5 Z2))) Z2)) (pN 5 sc_l_some.nd) (Z6 (pS 4 sc_l_some.nd (Zs Z3g (pv 4) (U2 Z2y (Zw Tm rfl T.b_list PyProof.Rows.Boot.«list» (Z0 (Zi (O_l_runs.mono (by omega)) hr rfl (Z0 (pv 0) (Z0 (pv 1) Z2))) Z2)) J4 (Ua Z5))))))
  (Z6 (Zd (Zr (Z0 (Zo Y0 (Yl (Z0 Z8 (Z0 Z8 Z2))) (Zi (O_l_take.mono (by omega)) hr rfl (Z0 (pv 0) (Z0 Z5 Z2))) (fun _ _=>rfl)) (Z0 (Zw Y3 rfl T.b_tuple PyProof.Rows.Boot.«tuple» (Z0 (pv 4) Z2)) Z2))))))) Zh)
  (Z6 (Zd (Zo Zt (Zi (O_l_drawn.mono (by omega)) hr rfl (Z0 (pv 0) (Z0 (pv 1) (Z0 Z5 Z2)))) Z5 (fun _ _=>rfl))))))))),?_⟩
 refine Zdi ?_
 intro Ez Az1 Az2 Az3 Az4 Az5 Az6 Az7 Az8 Az9 Az10 Az11 Az12 Az13
 refine⟨_,rfl,b,6,rfl,hb,by decide,by decide,fun k H1 h0 h1 hb1 g1=>?_⟩
 have l1:=hl.gro g1 lS
 refine⟨_,rfl,rfl,_,rfl,X5 (fun _=>?_) (fun _=>?_)⟩
 ·exact⟨_,rfl,_,rfl,_,rfl,b,8,rfl,hb1,by decide,by decide,fun r H2 h20 h21 hb2 g2=>⟨_,_,rfl,rfl,b,l,_,rfl,by omega,by omega,hb2,l1.gro g2 lS,fun v p H' hb' hk hz hp g'=>q v p H' hb' ⟨0,hk,by decide,hz⟩ hp ((g1.trans g2).trans g')⟩⟩
 refine⟨_,rfl,rfl,_,rfl,X5 (fun _=>?_) (fun _=>?_)⟩
 ·refine⟨_,rfl,b,7,rfl,hb1,by decide,by decide,fun r H2 h20 h21 hb2 g2=>⟨_,_,rfl,rfl,?_⟩⟩
  have h59:=Zg1 h20 h21
  refine⟨_,rfl,_,rfl,_,rfl,_,rfl,_,rfl,_,_,rfl,rfl,⟨by omega,by omega⟩,_,_,rfl,rfl,_,_,rfl,b,_,rfl,hb2,(by split <;> omega),(by split <;> omega),fun r3 H3 h30 h31 hb3 g3=>⟨_,_,rfl,rfl,?_⟩⟩
  have h3:r3<7:=by
   refine Int.lt_of_lt_of_le h31 ?_
   split <;> omega
  have h8:(2+r).toNat*(1+(2+r3).toNat)<=59:=Zfz h20 h21 h30 h31
  exact⟨b,l,_,_,rfl,⟨by omega,by omega,by omega,by omega⟩,h8,hb3,(l1.gro g2 lS).gro g3 lS,fun v p H' hb' hk hz hp g'=>q v p H' hb' ⟨0,hk.deep (by decide),by decide,hz⟩ (hp.deep (by decide)) (((g1.trans g2).trans g3).trans g')⟩
 refine⟨_,rfl,rfl,_,rfl,X5 (fun _=>?_) (fun _=>?_)⟩
 ·exact⟨_,rfl,_,rfl,b,9,rfl,hb1,by decide,by decide,fun r H2 h20 h21 hb2 g2=>⟨_,_,rfl,rfl,l,_,rfl,by omega,by omega,l1.gro g2 lS,fun v p H' hk hz hp g'=>q v p H' (hb2.gro g' (by simp)) ⟨_,hk.deep (by decide),by omega,hz⟩ (hp.deep (by decide)) ((g1.trans g2).trans (g'.mono (by simp)))⟩⟩
 refine⟨_,rfl,rfl,_,rfl,X5 (fun _=>?_) (fun _=>?_)⟩
 ·obtain⟨s1,y1,z1,hle,hs1,hy1,hz1⟩:=id l1
  refine⟨_,rfl,l,_,_,_,rfl,rfl,SqL.of hle,rfl,_,rfl,l,_,_,_,rfl,rfl,SqL.of hle,rfl,sz,fun p1 hp1=>⟨sz,fun a0 ha0=>?_⟩⟩
  have ga:Gro [b] H1 (Y2 (Y2 H1 p1 (.tup [.str s1,.str s1])) a0 (.lst [.ref p1])):=(Gro.new hp1 _).tup ha0
  have ba0:b≠a0:=Z9 (hb1.new hp1).choose_spec.1 ha0
  refine⟨_,rfl,b,8,rfl,(hb1.new hp1).new ha0,by decide,by decide,fun r H2 h20 h21 hb2 g2=>⟨_,rfl,by omega,by omega,?_⟩⟩
  have R1:RunP H2 (.ref p1) (s1,s1):=⟨hs1.len,hs1.len,p1,rfl,g2.tups _ _ (by rw[Zl (Z9 Z1 ha0)];exact Z1)⟩
  refine Xo (fun i σ H'=>∃(a:Addr) (vs:List V) (rs:List (Str×Str)) (kk:Option V),σ=[some (.ref b),some (.ref l),some (.int k),none,some (.ref a),kk]/\b≠a/\H' a=some (.lst vs)/\Paired (RunP H') vs rs/\vs.length=i+1/\(∀x∈rs,Jx x)/\BoxAt H' b/\Gro [b] H H')
   ⟨a0,[.ref p1],[(s1,s1)],none,rfl,ba0,g2.keep a0 _ Z1 (by simpa using Ne.symm ba0),.cons R1 .nil,rfl,(fun x hx=>by rw[List.mem_singleton.mp hx];exact Z51 hs1 hs1 (by omega)),hb2,(g1.trans ga).trans g2⟩ ?_ ?_
  ·rintro i σ H3 hi ⟨a,vs,rs,kk,rfl,ba,ha3,hp3,hl3,hro,hb3,g3⟩
   refine⟨_,rfl,_,rfl,_,rfl,b,l,rfl,hb3,hl.gro g3 lS,fun rr rs4 H4 hb4 ⟨vs4,hr4,hp4,_⟩ hl5 hl4 hro4 g4=>?_⟩
   have hv4:=Paired.length hp4
   refine⟨rr,vs4,rfl,.inr (SqT.of hr4),fun x hx=>⟨_,rfl,x,vs4,rfl,SqL.of Z1,fun y hy=>?_⟩⟩
   have ha4:=g4.keep a _ ha3 (by simpa using Ne.symm ba)
   have gxy:Gro [b] H4 (Y2 (Y2 H4 x (.lst vs4)) y (.lst (Vp vs4 none (some 1)))):=(Gro.new hx _).tup hy
   have hp4':Paired (RunP H4) vs4 rs4:=hp4
   have ec:Vp vs4 none (some 1)=vs4.take 1:=Zbm vs4
   have hq:Paired (RunP H4) (Vp vs4 none (some 1)) (rs4.take 1):=by rw[ec];exact Um 1 hp4'
   have cl4:(Vp vs4 none (some 1)).length=1:=by rw[ec,List.length_take];omega
   refine⟨a,y,vs,_,rfl,rfl,gxy.keep a _ ha4 (by simpa using Ne.symm ba),Z1,Jb (by omega),fun z hz=>?_⟩
   have gz:=gxy.tup (o:=.lst (vs++Vp vs4 none (some 1))) hz
   refine⟨z,vs++Vp vs4 none (some 1),rs++rs4.take 1,_,rfl,Z9 (((hb4.new hx).new hy).choose_spec.1) hz,Z1,Z0o (Y4 gz.tups (Y4 g4.tups hp3)) (Y4 gz.tups hq),by rw[List.length_append];omega,(fun x hx=>by rcases List.mem_append.mp hx with z | z;exact hro x z;exact hro4 x (List.mem_of_mem_take z)),((hb4.new hx).new hy).new hz,(g3.trans g4).trans gz⟩
  ·rintro σ H3 ⟨a,vs,rs,kk,rfl,ba,ha3,hp3,hl3,hro,hb3,g3⟩
   have hrl:=Paired.length hp3
   refine⟨sz,fun e he=>⟨_,rfl,b,2,rfl,hb3.new he,by decide,by decide,fun r4 H4 h40 h41 hb4 g4=>?_⟩⟩
   have be:b≠e:=Z9 hb3.choose_spec.1 he
   have he4:=g4.keep e _ (Z1 (H:=H3)) (by simpa using Ne.symm be)
   have ha4:H4 a=some (.lst vs):=g4.keep a _ (by rw[Zl (Z9 ha3 he)];exact ha3) (by simpa using Ne.symm ba)
   have g34:Gro [b] H3 H4:=(Gro.new he _).trans g4
   have e01:r4=0∨r4=1:=by omega
   rcases e01 with rfl | rfl
   ·refine⟨e,_,_,_,rfl,rfl,SqL.of he4,rfl,_,rfl,a,_,rfl,.inl ⟨SqL.of ha4,fun rr hrr=>⟨sz,fun p5 hp5=>?_⟩⟩⟩
    have g5:Gro [b] H4 (Y2 (Y2 H4 rr (.tup vs)) p5 (.tup [.str "in",.ref rr])):=(Gro.new hrr _).tup hp5
    refine q _ (.node (.inn rs) []) _ ((hb4.new hrr).new hp5) ⟨0,⟨rfl,⟨by omega,by omega⟩,hro,rfl⟩,by decide,by simp[Zu,Y8]⟩ ⟨p5,[],rfl,⟨rfl,rr,Z1,vs,by rw[Zl (Z9 Z1 hp5)];exact Z1,Y4 (g34.trans g5).tups hp3,by omega⟩,.nil⟩ ((g3.trans g34).trans g5)
   ·refine⟨e,_,_,_,rfl,rfl,SqL.of he4,rfl,_,rfl,a,_,rfl,.inl ⟨SqL.of ha4,fun rr hrr=>⟨sz,fun p5 hp5=>?_⟩⟩⟩
    have g5:Gro [b] H4 (Y2 (Y2 H4 rr (.tup vs)) p5 (.tup [.str "out",.ref rr])):=(Gro.new hrr _).tup hp5
    refine q _ (.node (.out rs) []) _ ((hb4.new hrr).new hp5) ⟨0,⟨rfl,⟨by omega,by omega⟩,hro,rfl⟩,by decide,by simp[Zu,Y8]⟩ ⟨p5,[],rfl,⟨rfl,rr,Z1,vs,by rw[Zl (Z9 Z1 hp5)];exact Z1,Y4 (g34.trans g5).tups hp3,by omega⟩,.nil⟩ ((g3.trans g34).trans g5)
 ·exact⟨_,rfl,_,rfl,b,l,0,rfl,hb1,l1,fun t g v p n H' hb' ht hg hn hk hz hp g'=>⟨t,_,_,_,rfl,rfl,SqT.of ht,Z11,q v p H' hb' ⟨n,hk.deep (by decide),by omega,hz⟩ (hp.deep (by decide)) (g1.trans g')⟩⟩
inductive spHvI(vs:List V)(H:Hp)(Q:VK):Prop
 |mk (b:Addr) (_:vs=[.ref b]) (_:BoxAt H b) (_:∀(v:V) (p:Pat) (H':Hp),BoxAt H' b->Zgt p->PatAt H' 8 v p->Gro [b] H H'->Q v H')
def Zev:Sp:=fun vs H Q _=>spHvI vs H Q
theorem Zcb{r:Int}(h0:0<=r)(h1:r<5):∃c,Z89 ("[]^-\\":Str).cps.toList r=some c/\Z74 c:=by
 have:r=0∨r=1∨r=2∨r=3∨r=4:=by omega
 rcases this with rfl | rfl | rfl | rfl | rfl
 ·exact⟨91,rfl,by decide⟩
 ·exact⟨93,rfl,by decide⟩
 ·exact⟨94,rfl,by decide⟩
 ·exact⟨45,rfl,by decide⟩
 ·exact⟨92,rfl,by decide⟩
abbrev Us:Stmt:=U3 64
theorem sc_l_heavy:FnScope ["_law_box","_law_some_here","_law_parts_here","_law_k","_law_runs_here","_law_j","_law_one","_law_two"] ["_law_box"] (Zc Us):=U5
theorem Z90(T:Blt mg)(O_l_take:Own P w K mg base 1 "_law_take" ["_law_box","_law_many"] Xq)(F:Fun K "_law_heavy" "_law_heavy" Us f fd):FnOk P w K mg base V1 2 f fd ["_law_box"] Zev:=by
 refine F.ok sc_l_heavy (fun vs H Q E h=>?_) (fun cdv A outer s H vs Q E hr h=>?_)
 ·obtain⟨b,rfl,_⟩:=h
  rfl
 obtain⟨b,rfl,hb,q⟩:=h
 refine U4 ?_
 intro Xz
 refine⟨_,(Z3 (pS 1 sc_l_heavy.nd Z8)
  (Z3 (pS 2 sc_l_heavy.nd (Yl Z2))
  (Z3 (V7 PassesOwn.never rfl (Yr rfl T.b_range (Z0 Z5 Z2)) (pN 3 sc_l_heavy.nd) (Z3 (pS 4 sc_l_heavy.nd (Yl Z2))
  (Z3 (V7 PassesOwn.never rfl (Yr rfl T.b_range (Z0 Z5 Z2)) (pN 5 sc_l_heavy.nd) (Z3 (pS 6 sc_l_heavy.nd (Zo Z6d (pv 1) (Zi (O_l_take.mono (by omega)) hr rfl (Z0 (pv 0) (Z0 Z5 Z2))) (fun _ _=>rfl)))
  (Z3 (pS 7 sc_l_heavy.nd (Zo Z6d (pv 1) (Zi (O_l_take.mono (by omega)) hr rfl (Z0 (pv 0) (Z0 Z5 Z2))) (fun _ _=>rfl)))
  (Z6 (X8 (V2 PySem.F.plainAttrs_list PySem.F.slot_list_append PySem.F.type_list_append Xb (pv 4) (Z0 (Zo Y0 (Yl (Z0 (Zr (Z0 (pv 6) (Z0 (pv 7) Z2))) (Z0 (Zr (Z0 (pv 7) (Z0 (pv 6) Z2))) Z2))) (Zw Jk rfl T.b_int PyProof.Rows.Boot.«int» (Z0 (Yo Tg (Zx Ur rfl T.b_ord PyProof.Rows.Boot.«ord» (Z0 (pv 6) Z2)) (Zx Ur rfl T.b_ord PyProof.Rows.Boot.«ord» (Z0 (pv 7) Z2)) (Zj _)) Z2)) (fun _ _=>rfl)) Z2)))))))
  (Z6 (X8 (V2 PySem.F.plainAttrs_list PySem.F.slot_list_append PySem.F.type_list_append Xb (pv 2) (Z0 (Zr (Z0 (Zo Y0 (Yl (Z0 Z8 (Z0 Z8 Z2))) (Zi (O_l_take.mono (by omega)) hr rfl (Z0 (pv 0) (Z0 Z5 Z2))) (fun _ _=>rfl)) (Z0 (Zw Y3 rfl T.b_tuple PyProof.Rows.Boot.«tuple» (Z0 (pv 4) Z2)) Z2))) Z2)))))))
  (Z6 (Zd (Zr (Z0 Z8 (Z0 (Zw Y3 rfl T.b_tuple PyProof.Rows.Boot.«tuple» (Z0 (pv 2) Z2)) Z2)))))))),?_⟩
 refine Zcu ?_
 intro Ez Az1 Az2 Az3 Az4 Az5 Az6 Az7 Az8 Az9
 refine⟨sz,fun a ha=>?_⟩
 have ba:b≠a:=Z9 hb.choose_spec.1 ha
 refine Zg rfl ⟨by decide,by decide,?_⟩
 refine Xo (fun i σ H'=>∃(vs:List V) (ps:List Pat) (k rn j o t:Option V),σ=[some (.ref b),some (.str "[]^-\\"), some (.ref a), k, rn, j, o, t] ∧ H' a = some (.lst vs) ∧ Paired (PatAt H' 1) vs ps ∧ vs.length = i ∧ CnL (Kp 0 1) 0 ps 0 ∧ (∀ k ∈ ps, k.word ≠ "row")/\Y8 ps=i/\BoxAt H' b/\Gro [b] H H')
  ⟨[],[],none,none,none,none,none,rfl,Z1,.nil,rfl,.nil,(fun k hk=>by simp at hk),rfl,hb.new ha,Gro.new ha _⟩ ?_ ?_
 ·rintro i σ H2 hi ⟨vs,ps,k,rn,j,o,t,rfl,ha2,hp2,hl2,hkp,hnw,hsz,hb2,g2⟩
  refine⟨sz,fun e he=>?_⟩
  have be:b≠e:=Z9 hb2.choose_spec.1 he
  have ae:a≠e:=Z9 ha2 he
  refine Zg rfl ⟨by decide,by decide,?_⟩
  refine Xo (fun i2 σ H'=>∃(us:List V) (rs:List (Str×Str)) (j o t:Option V),σ=[some (.ref b),some (.str "[]^-\\"),some (.ref a),some (.int (0+(i:Int))),some (.ref e),j,o,t]/\H' e=some (.lst us)/\H' a=some (.lst vs)/\Paired (RunP H') us rs/\us.length=i2/\(∀x∈rs,Jx x)/\BoxAt H' b/\Gro [b] H2 H')
   ⟨[],[],_,_,_,rfl,Z1,by rw[Zl ae];exact ha2,.nil,rfl,(fun x hx=>by simp at hx),hb2.new he,Gro.new he _⟩ ?_ ?_
  ·rintro i2 σ H3 hi2 ⟨us,rs,j,o,t,rfl,he3,ha3,hq3,hl3,hro,hb3,g3⟩
   refine Zg rfl (Zg rfl ⟨b,5,rfl,hb3,by decide,by decide,fun r4 H4 h40 h41 hb4 g4=>?_⟩)
   obtain⟨c1,ec1,hc1⟩:=Zcb h40 h41
   refine⟨_,r4,c1,rfl,rfl,sz,ec1,?_⟩
   refine Zg rfl (Zg rfl ⟨b,5,rfl,hb4,by decide,by decide,fun r5 H5 h50 h51 hb5 g5=>?_⟩)
   obtain⟨c2,ec2,hc2⟩:=Zcb h50 h51
   refine⟨_,r5,c2,rfl,rfl,sz,ec2,?_⟩
   have g35:=g4.trans g5
   have he5:=g35.keep e _ he3 (by simpa using Ne.symm be)
   have ha5:=g35.keep a _ ha3 (by simpa using Ne.symm ba)
   refine Zg rfl ⟨.inl ⟨rfl,_,SqL.of he5⟩,?_⟩
   refine Zg rfl (Zg rfl ⟨sz,fun p1 hp1=>Zg rfl (Zg rfl ⟨sz,fun p2 hp2'=>⟨sz,fun z hz=>?_⟩⟩)⟩)
   have k1:=Gro.new (S:=[b]) hp1 (.tup [.str ⟨#[c1]⟩,.str ⟨#[c2]⟩])
   have k2:=Gro.new (S:=[b]) hp2' (.tup [.str ⟨#[c2]⟩,.str ⟨#[c1]⟩])
   have k3:=Gro.new (S:=[b]) hz (.lst [.ref p1,.ref p2])
   have kk:=(k1.trans k2).trans k3
   have e1:=k3.tups p1 _ (k2.tups p1 _ Z1)
   have e2:=k3.tups p2 _ Z1
   have ez:(Y2 (Y2 (Y2 H5 p1 (.tup [.str ⟨#[c1]⟩,.str ⟨#[c2]⟩])) p2 (.tup [.str ⟨#[c2]⟩,.str ⟨#[c1]⟩])) z (.lst [.ref p1,.ref p2])) z=some (.lst [.ref p1,.ref p2]):=Z1
   have hb6:=((hb5.new (o:=.tup [.str ⟨#[c1]⟩,.str ⟨#[c2]⟩]) hp1).new (o:=.tup [.str ⟨#[c2]⟩,.str ⟨#[c1]⟩]) hp2').new (o:=.lst [.ref p1,.ref p2]) hz
   have he6:=kk.keep e _ he5 (by simpa using Ne.symm be)
   have ha6:=kk.keep a _ ha5 (by simpa using Ne.symm ba)
   generalize Y2 (Y2 (Y2 H5 p1 (.tup [.str ⟨#[c1]⟩,.str ⟨#[c2]⟩])) p2 (.tup [.str ⟨#[c2]⟩,.str ⟨#[c1]⟩])) z (.lst [.ref p1,.ref p2])=H6 at *
   refine Zg rfl ⟨_,rfl,rfl,Zg rfl ⟨_,rfl,rfl,Ud rfl rfl (.inr ⟨_,rfl,?_⟩)⟩⟩
   have fin:∀(x:Addr) (u y:Str),Jx (u,y)->H6 x=some (.tup [.str u,.str y])->∃(us':List V) (rs':List (Str×Str)) (j o t:Option V),[some (V.ref b),some (.str "[]^-\\"), some (.ref a), some (.int (0 + (i : Int))), some (.ref e), some (.int (0 + (i2 : Int))), some (.str ⟨#[c1]⟩), some (.str ⟨#[c2]⟩)] = [some (.ref b), some (.str "[]^-\\"),some (.ref a),some (.int (0+(i:Int))),some (.ref e),j,o,t]/\(Y2 H6 e (.lst (us++[.ref x]))) e=some (.lst us')/\(Y2 H6 e (.lst (us++[.ref x]))) a=some (.lst vs)/\Paired (RunP (Y2 H6 e (.lst (us++[.ref x])))) us' rs'/\us'.length=i2+1/\(∀x∈rs',Jx x)/\BoxAt (Y2 H6 e (.lst (us++[.ref x]))) b/\Gro [b] H2 (Y2 H6 e (.lst (us++[.ref x]))):=by
    intro x u y hxy hx
    have t1:Gro [e] H6 (Y2 H6 e (.lst (us++[.ref x]))):=Gro.set (by simp) he6 _
    refine⟨us++[.ref x],rs++[(u,y)],_,_,_,rfl,Z1,by rw[Zl ae];exact ha6,?_,by simp[hl3],?_,hb6.gro t1 (by simpa using be),((g3.trans g35).trans kk).fresh he _⟩
    ·exact(Y4 t1.tups (Y4 (g35.trans kk).tups hq3)).snoc ⟨hxy.1.len,hxy.2.1.len,x,rfl,t1.tups _ _ hx⟩
    ·intro z hz
     rcases List.mem_append.mp hz with hz | hz
     ·exact hro z hz
     ·rw[List.mem_singleton.mp hz];exact hxy
   have s1:SgOk (⟨#[c1]⟩:Str):=⟨c1,rfl,hc1⟩
   have s2:SgOk (⟨#[c2]⟩:Str):=⟨c2,rfl,hc2⟩
   by_cases hc:((c2:Nat):Int)<(c1:Nat)
   ·rw[if_pos (show decide (((⟨#[c2]⟩:Str).cps.getD 0 0:Int)<((⟨#[c1]⟩:Str).cps.getD 0 0:Nat))=true from decide_eq_true hc)]
    exact⟨z,_,_,_,rfl,rfl,SqL.of ez,rfl,e,us,_,rfl,rfl,he6,Zz (by omega),fin p2 _ _ (Z51 s2 s1 (fun z=>by have z':((c1:Nat):Int)<(c2:Nat):=z;omega)) e2⟩
   ·rw[if_neg (show ¬decide (((⟨#[c2]⟩:Str).cps.getD 0 0:Int)<((⟨#[c1]⟩:Str).cps.getD 0 0:Nat))=true from fun z=>hc (of_decide_eq_true z))]
    exact⟨z,_,_,_,rfl,rfl,SqL.of ez,rfl,e,us,_,rfl,rfl,he6,Zz (by omega),fin p1 _ _ (Z51 s1 s2 hc) e1⟩
  ·rintro σ H3 ⟨us,rs,j,o,t,rfl,he3,ha3,hq3,hl3,hro,hb3,g3⟩
   have hrl:=Paired.length hq3
   have hl8:us.length=8:=hl3
   refine Zg rfl ⟨.inl ⟨rfl,_,SqL.of ha3⟩,⟨sz,fun y hy=>Zg rfl ⟨b,2,rfl,hb3.new hy,by decide,by decide,fun r4 H4 h40 h41 hb4 g4=>?_⟩⟩⟩
   have k0:=Gro.new (S:=[b]) hy (.lst [.str "in",.str "out"])
   have yb:y≠b:=Ne.symm (Z9 hb3.choose_spec.1 hy)
   have ey:H4 y=some (.lst [.str "in",.str "out"]):=g4.keep y _ Z1 (by simpa using yb)
   have g34:=k0.trans g4
   have he4:=g34.keep e _ he3 (by simpa using Ne.symm be)
   have ha4:=g34.keep a _ ha3 (by simpa using Ne.symm ba)
   have fin:∀(x:Str) (h:Hd),h.word≠"row"->Kp 0 1 0 (.node h []) 0->(∀(H':Hp) (p r:Addr),H' p=some (.tup [.str x,.ref r])->RunsAt H' r rs->Lay H' p h [])->∀r,H4 r=none->∀p1,(Y2 H4 r (.tup us)) p1=none->∃(vs':List V) (ps':List Pat) (k rn j' o' t':Option V),[some (V.ref b),some (.str "[]^-\\"), some (.ref a), some (.int (0 + (i : Int))), some (.ref e), j, o, t] = [some (.ref b), some (.str "[]^-\\"), some (.ref a), k, rn, j', o', t'] ∧ (Y2 (Y2 (Y2 H4 r (.tup us)) p1 (.tup [.str x, .ref r])) a (.lst (vs ++ [.ref p1]))) a = some (.lst vs') ∧ Paired (PatAt (Y2 (Y2 (Y2 H4 r (.tup us)) p1 (.tup [.str x, .ref r])) a (.lst (vs ++ [.ref p1]))) 1) vs' ps' ∧ vs'.length = i + 1 ∧ CnL (Kp 0 1) 0 ps' 0 ∧ (∀ k ∈ ps', k.word ≠ "row")/\Y8 ps'=i+1/\BoxAt (Y2 (Y2 (Y2 H4 r (.tup us)) p1 (.tup [.str x,.ref r])) a (.lst (vs++[.ref p1]))) b/\Gro [b] H (Y2 (Y2 (Y2 H4 r (.tup us)) p1 (.tup [.str x,.ref r])) a (.lst (vs++[.ref p1]))):=by
    intro x h hw hk lay r hr2 p1 hp1
    have g45:Gro [b] H4 (Y2 (Y2 H4 r (.tup us)) p1 (.tup [.str x,.ref r])):=(Gro.new hr2 _).tup hp1
    have ha5:=g45.keep a _ ha4 (by simpa using Ne.symm ba)
    have er:(Y2 (Y2 H4 r (.tup us)) p1 (.tup [.str x,.ref r])) r=some (.tup us):=by rw[Zl (Z9 Z1 hp1)];exact Z1
    have t1:=Gro.set (S:=[a]) (by simp) ha5 (.lst (vs++[V.ref p1]))
    have g25:=(g3.trans g34).trans g45
    refine⟨vs++[.ref p1],ps++[.node h []],_,_,_,_,_,rfl,Z1,(Yg t1.tups (Yg g25.tups hp2)).snoc (show PatAt _ 1 (.ref p1) (.node h []) from⟨p1,[],rfl,lay _ _ r (t1.tups _ _ Z1) ⟨us,t1.tups _ _ er,Y4 t1.tups (Y4 (g34.trans g45).tups hq3),by omega⟩,.nil⟩),by simp[hl2],hkp.snoc hk,V9 (p:=.node h []) hnw hw,by rw[X3,Y9,Zu,hsz];simp[Y8],?_,(g2.trans g25).fresh ha _⟩
    exact((hb4.new hr2).new hp1).gro t1 (by simpa using ba)
   have e01:r4=0∨r4=1:=by omega
   rcases e01 with rfl | rfl
   ·refine⟨y,_,_,_,rfl,rfl,SqL.of ey,rfl,Zg rfl ⟨e,us,rfl,.inl ⟨SqL.of he4,fun r hr2=>⟨sz,fun p1 hp1=>?_⟩⟩⟩⟩
    have ha5:=((Gro.new (S:=[]) hr2 (.tup us)).tup (o:=.tup [.str "in",.ref r]) hp1).keep a _ ha4 (by simp)
    exact⟨a,vs,_,rfl,rfl,ha5,Zz (by omega),fin "in" (.inn rs) (by show("in":Str)≠"row";decide +kernel) ⟨rfl,⟨by omega,by omega⟩,hro,rfl⟩ (fun H' p r h1 h2=>⟨rfl,r,h1,h2⟩) r hr2 p1 hp1⟩
   ·refine⟨y,_,_,_,rfl,rfl,SqL.of ey,rfl,Zg rfl ⟨e,us,rfl,.inl ⟨SqL.of he4,fun r hr2=>⟨sz,fun p1 hp1=>?_⟩⟩⟩⟩
    have ha5:=((Gro.new (S:=[]) hr2 (.tup us)).tup (o:=.tup [.str "out",.ref r]) hp1).keep a _ ha4 (by simp)
    exact⟨a,vs,_,rfl,rfl,ha5,Zz (by omega),fin "out" (.out rs) (by show("out":Str)≠"row";decide +kernel) ⟨rfl,⟨by omega,by omega⟩,hro,rfl⟩ (fun H' p r h1 h2=>⟨rfl,r,h1,h2⟩) r hr2 p1 hp1⟩
 ·rintro σ H2 ⟨vs,ps,k,rn,j,o,t,rfl,ha2,hp2,hl2,hkp,hnw,hsz,hb2,g2⟩
  have hl8:vs.length=8:=hl2
  have hpl:=Paired.length hp2
  have hs8:Y8 ps=8:=hsz
  refine Zg rfl ⟨a,vs,rfl,.inl ⟨SqL.of ha2,fun r hr2=>⟨sz,fun p1 hp1=>?_⟩⟩⟩
  have g35:Gro [b] H2 (Y2 (Y2 H2 r (.tup vs)) p1 (.tup [.str "row",.ref r])):=(Gro.new hr2 _).tup hp1
  refine q _ (.node .row ps) _ ((hb2.new hr2).new hp1) ⟨0,Kp.deep (n:=2) ⟨by omega,by omega,hnw,hkp⟩ (by decide),by decide,by rw[Zu,hs8];decide⟩ ?_ (g2.trans g35)
  exact PatAt.deep (d:=2) ⟨p1,vs,rfl,⟨by omega,r,Z1,by rw[Zl (Z9 Z1 hp1)];exact Z1⟩,Yg g35.tups hp2⟩ (by decide)
end
theorem SameAt.deep{H:Hp}:∀ {n m:Nat} {x y:V},SameAt H n x y->n<=m->SameAt H m x y
 |0,_,_,_,h,_=>h.elim
 |n+1,0,_,_,_,hm=>absurd hm (by omega)
 |n+1,m+1,x,y,h,hm=>by
  rcases h with h | ⟨a,b,xs,ys,e1,e2,h1,h2,z,p⟩
  ·exact .inl h
  ·exact .inr ⟨a,b,xs,ys,e1,e2,h1,h2,z,Paired.mapP p fun _ _ q=>SameAt.deep q (by omega)⟩
theorem Yt{H:Hp}{n:Nat}{x:V}(h:Z9u x=true):SameAt H (n+1) x x:=.inl ⟨rfl,h⟩
theorem Xr{H:Hp}{n:Nat}{a b:Addr}{xs ys:List V}(h1:H a=some (.tup xs))(h2:H b=some (.tup ys))(hz:xs.length<=1000000)(h:Paired (SameAt H n) xs ys):SameAt H (n+1) (.ref a) (.ref b):=.inr ⟨a,b,xs,ys,rfl,rfl,h1,h2,hz,h⟩
theorem Tb{α β γ:Type}{F:α->γ->Prop}{F':β->γ->Prop}{R:α->β->Prop}(h:∀a b c,F a c->F' b c->R a b):∀ {xs:List α} {ys:List β} {zs:List γ},Paired F xs zs->Paired F' ys zs->Paired R xs ys
 |_,_,_,.nil,.nil=>.nil
 |_,_,_,.cons a t,.cons b u=>.cons (h _ _ _ a b) (Tb h t u)
theorem Z1x{H:Hp}{n:Nat}{r r':Addr}{rs:List (Str×Str)}(h:RunsAt H r rs)(h':RunsAt H r' rs):SameAt H (n+3) (.ref r) (.ref r'):=by
 obtain⟨vs,e,p,z⟩:=h
 obtain⟨vs',e',p',z'⟩:=h'
 have hl:=Paired.length p
 refine Xr e e' (by omega) (Tb (fun x y q ⟨_,_,a,ea,ha⟩ ⟨_,_,b,eb,hb⟩=>?_) p p')
 rw[ea,eb]
 exact Xr ha hb (by simp) (.cons (Yt rfl) (.cons (Yt rfl) .nil))
theorem Z8p{H:Hp}{n:Nat}(hi:Option Int):SameAt H (n+1) (Z1c hi) (Z1c hi):=by
 cases hi <;> exact Yt rfl
theorem Z4a{H:Hp}:∀ {d:Nat} {v v':V} {p:Pat},PatAt H d v p->PatAt H d v' p->SameAt H (2*d+2) v v'
 |0,_,_,_,h,_=>h.elim
 |d+1,v,v',.node h ks,⟨a,kv,e,l,pk⟩,⟨a',kv',e',l',pk'⟩=>by
  subst e e'
  have ih:Paired (SameAt H (2*d+2)) kv kv':=Tb (R:=SameAt H (2*d+2)) (fun x y q hx hy=>Z4a (d:=d) (p:=q) hx hy) pk pk'
  have fw:=l.few
  show SameAt H (2*d+3+1) _ _
  cases h with
  |sign s=>exact Xr l.2.2 l'.2.2 (by simp) (.cons (Yt rfl) (.cons (Yt rfl) .nil))
  |any=>exact Xr l.2 l'.2 (by simp) (.cons (Yt rfl) .nil)
  |beg=>exact Xr l.2 l'.2 (by simp) (.cons (Yt rfl) .nil)
  |fin=>exact Xr l.2 l'.2 (by simp) (.cons (Yt rfl) .nil)
  |inn rs =>
   obtain⟨_,r,e,hr⟩:=l
   obtain⟨_,r',e',hr'⟩:=l'
   exact Xr e e' (by simp) (.cons (Yt rfl) (.cons (Z1x hr hr') .nil))
  |out rs =>
   obtain⟨_,r,e,hr⟩:=l
   obtain⟨_,r',e',hr'⟩:=l'
   exact Xr e e' (by simp) (.cons (Yt rfl) (.cons (Z1x hr hr') .nil))
  |row =>
   obtain⟨_,r,e,hr⟩:=l
   obtain⟨_,r',e',hr'⟩:=l'
   exact Xr e e' (by simp) (.cons (Yt rfl) (.cons (Xr hr hr' (by omega) ih) .nil))
  |alt =>
   obtain⟨_,_,r,e,hr⟩:=l
   obtain⟨_,_,r',e',hr'⟩:=l'
   exact Xr e e' (by simp) (.cons (Yt rfl) (.cons (Xr hr hr' (by omega) ih) .nil))
  |times lo hi how =>
   obtain⟨_,k,rfl,e⟩:=l
   obtain⟨_,k',rfl,e'⟩:=l'
   cases ih with
   |cons q _=>exact Xr e e' (by simp) (.cons (Yt rfl) (.cons (Yt rfl) (.cons (Z8p hi) (.cons (Yt rfl) (.cons (q.deep (by omega)) .nil)))))
  |grp j =>
   obtain⟨_,k,rfl,e⟩:=l
   obtain⟨_,k',rfl,e'⟩:=l'
   cases ih with
   |cons q _=>exact Xr e e' (by simp) (.cons (Yt rfl) (.cons (Yt rfl) (.cons (q.deep (by omega)) .nil)))
  |again j=>exact Xr l.2.2 l'.2.2 (by simp) (.cons (Yt rfl) (.cons (Yt rfl) .nil))
  |hav j =>
   obtain⟨_,y,z,rfl,e⟩:=l
   obtain⟨_,y',z',rfl,e'⟩:=l'
   cases ih with
   |cons q1 t=>cases t with
    |cons q2 _=>exact Xr e e' (by simp) (.cons (Yt rfl) (.cons (Yt rfl) (.cons (q1.deep (by omega)) (.cons (q2.deep (by omega)) .nil))))
  |look w =>
   obtain⟨k,rfl,e⟩:=l
   obtain⟨k',rfl,e'⟩:=l'
   cases ih with
   |cons q _=>exact Xr e e' (by simp) (.cons (Yt rfl) (.cons (q.deep (by omega)) .nil))
def Z2o(K:W.Frag):Sp:=fun vs H Q _=>∃(a:Addr) (ns:List Int),vs=[.ref a]/\SqL K H a (ns.map V.int)/\ns.length<=63/\∀H',Q (.bl true) H'
section
variable{P:Program}{w:World}{K:W.Frag}{mg:Str->Option Value}{base:Heap}{f:Addr}{fd:FuncData}{h:Heap}{C:Addr}
abbrev T6:Stmt:=U3 65
theorem sc_law:FnScope ["_law_script","_law_box","_law_letters_here","_law_p","_law_other","_law_one"] ["_law_script"] (Zc T6):=U5
theorem Ze1(T:Blt mg)(O_l_take:Own P w K mg base 1 "_law_take" ["_law_box","_law_many"] Xq)(O_l_letters:Own P w K mg base 2 "_law_letters" ["_law_box"] Je)(O_l_some:Own P w K mg base 14 "_law_some" ["_law_box","_law_letters_here"] Z62)(O_l_heavy:Own P w K mg base 2 "_law_heavy" ["_law_box"] Zev)(O_l_alike:Own P w K mg base 20 "_law_alike" ["_law_found","_law_due"] (Z50 18))
  (O_read_pattern:Own P w K mg base 61 "read_pattern" ["text"] Zep) (O_l_written:Own P w K mg base 19 "_law_written" ["_law_p"] (Tf 8)) (F:Fun K "law" "law" T6 f fd):FnOk P w K mg base V1 62 f fd ["_law_script"] (Z2o K):=by
 refine F.ok sc_law (fun vs H Q E h=>?_) (fun cdv A outer s H vs Q E hr h=>?_)
 ·obtain⟨a,ns,rfl,_⟩:=h
  rfl
 obtain⟨a,ns,rfl,hS,h63,q⟩:=h
 refine U4 ?_
 intro Xz
 refine⟨_,(Z3 (pS 1 sc_law.nd (Zw Tm rfl T.b_list PyProof.Rows.Boot.«list» (Z0 (pv 0) Z2)))
  (Z3 (pS 2 sc_law.nd (Zi (O_l_letters.mono (by omega)) hr rfl (Z0 (pv 1) Z2)))
  (Z3 (pS 3 sc_law.nd (Zi (O_l_some.mono (by omega)) hr rfl (Z0 (pv 1) (Z0 (pv 2) Z2))))
  (Z3 (pS 4 sc_law.nd (Zi (O_l_some.mono (by omega)) hr rfl (Z0 (pv 1) (Z0 (Zi (O_l_letters.mono (by omega)) hr rfl (Z0 (pv 1) Z2)) Z2))))
  (Z3 (Zq (Zf Y1 (Zi (O_l_take.mono (by omega)) hr rfl (Z0 (pv 1) (Z0 Z5 Z2))) Z5 (Zj _)) (Z6 (pS 4 sc_law.nd (Zi (O_l_heavy.mono (by omega)) hr rfl (Z0 (pv 1) Z2)))) Zh)
  (Z3 (V7 PassesOwn.never rfl (Zax (Yl (Z0 (pv 3) (Z0 (pv 4) (Z0 (pv 3) Z2))))) (pN 5 sc_law.nd) (Z6 (Zq (Js (Yu (Zi (O_l_alike.mono (by omega)) hr rfl (Z0 (Zi (O_read_pattern.mono (by omega)) hr rfl (Z0 (Zi (O_l_written.mono (by omega)) hr rfl (Z0 (pv 5) Z2)) Z2)) (Z0 (pv 5) Z2))))) (Z6 (Zd Vt)) Zh)))
  (Z6 (Zd Vt)))))))),?_⟩
 refine Zd1 ?_
 intro Ez Az1 Az2 Az3 Az4 Az5 Az6 Az7 Az8 Az9
 refine Zg rfl ⟨a,_,rfl,.inl hS,fun b hb=>?_⟩
 refine Zg rfl ⟨b,rfl,⟨ns,Z1,h63⟩,fun l H1 hb1 hl1 g1=>?_⟩
 refine Zg rfl (Zg rfl ⟨b,l,rfl,hb1,hl1,fun v p H2 hb2 hd hp g2=>?_⟩)
 refine Zg rfl (Zg rfl ⟨b,rfl,hb2,fun l3 H3 hb3 hl3 g3=>?_⟩)
 refine⟨b,l3,rfl,hb3,hl3,fun v4 p4 H4 hb4 hd4 hp4 g4=>?_⟩
 have hpx:=(hp.mono g3.tups).mono g4.tups
 have loop:∀(v4:V) (p4:Pat) (H5:Hp),Zgt p4->PatAt H5 8 v4 p4->PatAt H5 8 v p->Az5 Ez [some (.ref a),some (.ref b),some (.ref l),some v,some v4,none] H5:=by
  intro v4 p4 H5 hd4 hp4 hpx
  refine Zg rfl (Zg rfl (Zg rfl ⟨sz,fun c hc=>⟨c,rfl,⟨_,SqL.of Z1⟩,?_⟩⟩))
  have g5:=Gro.new (S:=[]) hc (.lst [v,v4,v])
  refine Z9d (xs:=[v,v4,v]) (fun i σ H'=>(∃o:Option V,σ=[some (.ref a),some (.ref b),some (.ref l),some v,some v4,o])/\Gro [] (Y2 H5 c (.lst [v,v4,v])) H') ⟨⟨none,rfl⟩,Gro.refl⟩ (fun i σ H' _ ⟨_,g⟩=>SqL.of (g.keep c _ Z1 (by simp))) ?_ ?_
  ·rintro i x σ H6 hx ⟨⟨o,rfl⟩,g6⟩
   have hy:∃y:Pat,Zgt y/\PatAt H6 8 x y:=by
    have t:=(g5.trans g6).tups
    match i,hx with
    |0,hx=>cases hx;exact⟨p,hd,hpx.mono t⟩
    |1,hx=>cases hx;exact⟨p4,hd4,hp4.mono t⟩
    |2,hx=>cases hx;exact⟨p,hd,hpx.mono t⟩
   obtain⟨y,⟨G,hK,hG,hz⟩,hy⟩:=hy
   have hsh:=hy.short
   unfold Xe at hsh
   refine Zg rfl ⟨x,y,rfl,hy,by omega,fun H7 g7=>?_⟩
   refine⟨y,G,rfl,hK,hG,hz,by omega,fun u H8 hu g8=>?_⟩
   refine Zg rfl ⟨u,x,rfl,Z4a hu ((hy.mono g7.tups).mono g8.tups),Zg rfl (Z7 (by decide) ?_)⟩
   exact⟨⟨_,rfl⟩,(g6.trans g7).trans g8⟩
  ·rintro σ H6 ⟨⟨o,rfl⟩,g6⟩
   exact q H6
 refine Zg rfl ⟨b,8,rfl,hb4,by decide,by decide,fun r H5 h0 h1 hb5 g5=>⟨rfl,Zg rfl (X5 (fun _=>?_) (fun _=>?_))⟩⟩
 ·exact Zg rfl ⟨b,rfl,hb5,fun v6 p6 H6 hb6 hd6 hp6 g6=>loop v6 p6 H6 hd6 hp6 ((hpx.mono g5.tups).mono g6.tups)⟩
 ·exact loop v4 p4 H5 hd4 (hp4.mono g5.tups) (hpx.mono g5.tups)
def MDef(K:W.Frag)(C:Addr)(m qual:Str)(st:Stmt)(ps:List Str):Prop:=∃f fd,Fun K m qual st f fd/\Meth K C m f/\Binds K fd ps []
theorem Yw{C f:Addr}{m qual:Str}{st:Stmt}{ps:List Str}{oc:Value}{od an:Option Addr}{osl:Array (Option Value)}{kV doc pm cdv ct:Value}(a:W.findIn K (.ref C) m=some (some (.ref f)))(i:W.isFn K (.ref f)=true)
  (l:K.lookup f=some ⟨oc,od,.func (W.fnOf m qual (Wy st) (Wb st) (Zc st) .none kV doc pm an cdv ct),osl⟩) (c:W.codeIn K cdv qual=true) (k:W.keepIn K (.ref f)=true)
  (hb:∀(kV doc pm:Value) (an:Option Addr) (cdv ct:Value) (us:List Value),us.length=ps.length->bindArgs (W.fnOf m qual (Wy st) (Wb st) (Zc st) .none kV doc pm an cdv ct) ⟨us,[]⟩=pure (ps.zip us)):MDef K C m qual st ps :=
 ⟨f,_,Z1b (st:=st) l c k,⟨a,i,k⟩,(Z1b (st:=st) l c k).binds hb⟩
structure RDefs(K:W.Frag)(mg:Str->Option Value)(CR:Addr):Prop where
 mg_:mg "Reader" = some (.ref CR)
 tx:TxtR K CR
 mks:W.makesIn K CR=true
 kc:W.keepIn K (.ref CR)=true
 init:MDef K CR "__init__" "Reader.__init__" Xd ["self","text"]
 m_seen:MDef K CR "seen" "Reader.seen" Wn ["self"]
 m_take:MDef K CR "take" "Reader.take" Wl ["self"]
 m_passes:MDef K CR "passes" "Reader.passes" Xx ["self","sign"]
 m_need:MDef K CR "need" "Reader.need" Wp ["self","sign"]
 m_branches:MDef K CR "branches" "Reader.branches" Xc ["self"]
 m_line:MDef K CR "line" "Reader.line" Wq ["self"]
 m_part:MDef K CR "part" "Reader.part" Wo ["self"]
 m_single:MDef K CR "single" "Reader.single" Xw ["self"]
 m_within:MDef K CR "within" "Reader.within" Xv ["self","close"]
 m_group:MDef K CR "group" "Reader.group" W5 ["self"]
 m_bracket:MDef K CR "bracket" "Reader.bracket" Xl ["self"]
 m_listed:MDef K CR "listed" "Reader.listed" Xy ["self"]
 m_run:MDef K CR "run" "Reader.run" V5 ["self"]
 m_sign:MDef K CR "sign" "Reader.sign" Wm ["self","stroked"]
 m_digit:MDef K CR "digit" "Reader.digit" W6 ["self"]
 m_turns:MDef K CR "turns" "Reader.turns" W4 ["self","part"]
theorem Zao{C:Addr}(pg:W.plainGet K C Str.empty=true)(hd:W.hasDictIn K C=true)(po:W.plainOver K C=true)(sa:W.findIn K (.ref C) "__setattr__" = some (some (.builtin "object.__setattr__")))
  (a1:W.findIn K (.ref C) "text" = some none) (a2:W.findIn K (.ref C) "place" = some none) (a3:W.findIn K (.ref C) "groups" = some none) (a4:W.findIn K (.ref C) "nested" = some none):TxtR K C:=⟨⟨pg,hd,po,sa⟩,a1,a2,a3,a4⟩
theorem MDef.own{m qual:Str}{st:Stmt}{ps:List Str}{k:Nat}{sp:Sp}(D:MDef K C m qual st ps)(h:∀f fd,Fun K m qual st f fd->FnOk P w K mg base V1 k f fd ps sp):OwnM P w K mg base k C m ps sp:=by
 obtain⟨f,fd,F,M,b⟩:=D
 exact⟨f,fd,h f fd F,M,b⟩
structure RCs(K:W.Frag)(w:World)(mg:Str->Option Value):Prop where
 deep:∃t,mg "MOST_DEEP" = some (.int 8 t)
 groups:∃t,mg "MOST_GROUPS" = some (.int 9 t)
 pats:∃t,mg "MOST_PATTERNS" = some (.int 60 t)
 parts:∃t,mg "MOST_PARTS" = some (.int 8 t)
 runs:∃t,mg "MOST_RUNS" = some (.int 8 t)
 turns:∃t,mg "MOST_TURNS" = some (.int 9 t)
 blank:∃t,mg "BLANK" = some (.int 32 t)
 last:∃t,mg "LAST_SIGN" = some (.int 126 t)
 per:∃t,mg "PERCENT" = some (.int 37 t)
 dig:∃t,mg "DIGITS" = some (.str digS t)
 str:∃t,mg "STROKED" = some (.str stroked t)
 strR:∃t,mg "STROKED_IN_RUNS" = some (.str Zy t)
 bare:∃a,mg "BARE" = some (.ref a)/\DcK K w a bareT
 lists:∃a,mg "LISTS" = some (.ref a)/\DcK K w a Yn
 brk:∃a,mg "BRACKETS" = some (.ref a)/\DcK K w a bracketsT
 hows:∃a,mg "HOWS" = some (.ref a)/\DcK K w a Z2r
 wr:∃a,mg "WRAPPED_IN_ROW" = some (.ref a)/\∀H,SqT K H a Ym
 wt:∃a,mg "WRAPPED_IN_TIMES" = some (.ref a)/\∀H,SqT K H a Y7
 stops:∃a,mg "STOPS" = some (.ref a)/\∀H,SqT K H a Th
 pl:∃a,mg "PART_LAST" = some (.ref a)/\∀H,SqT K H a Wj
theorem Z9v{CR:Addr}(T:Blt mg)(C:RCs K w mg)(D:RDefs K mg CR):∀n,OwnM P w K mg base (5+6*n) CR "branches" ["self"] (Zc2 CR n)
 |0=>D.m_branches.own fun f fd F=>FnOk.never fun vs H Q E h=>by
  obtain⟨e,he,m,dx,t,p,i,c,c',d,_,_,_,_,hC,_⟩:=h
  have:=hC.pos
  omega
 |n+1=>by
  have ih:=Z9v T C D n
  obtain⟨t8,c8⟩:=C.deep
  obtain⟨t0,c0⟩:=C.dig
  obtain⟨t1,c1⟩:=C.str
  obtain⟨t2,c2⟩:=C.strR
  obtain⟨ba,cb,hb⟩:=C.bare
  obtain⟨bk,ck,hk⟩:=C.brk
  obtain⟨st,cs,hs⟩:=C.stops
  have seen:OwnM P w K mg base 1 CR "seen" ["self"] (Ti CR):=D.m_seen.own fun _ _ F=>Z6q D.tx F
  have take:OwnM P w K mg base 2 CR "take" ["self"] (T1 CR):=D.m_take.own fun _ _ F=>Z4g D.tx seen F
  have pass:OwnM P w K mg base 2 CR "passes" ["self","sign"] (Vq CR):=D.m_passes.own fun _ _ F=>Zba D.tx seen F
  have need:OwnM P w K mg base 3 CR "need" ["self","sign"] (Jr CR):=D.m_need.own fun _ _ F=>Z6r D.tx take F
  have sgn:OwnM P w K mg base 3 CR "sign" ["self","stroked"] (Z75 CR):=D.m_sign.own fun _ _ F=>Zdy D.tx pass take F
  have dig:OwnM P w K mg base 3 CR "digit" ["self"] (Z4z CR):=D.m_digit.own fun _ _ F=>Ze2 T c0 D.tx take F
  have run:OwnM P w K mg base 4 CR "run" ["self"] (Zab CR):=D.m_run.own fun _ _ F=>Zdz c2 D.tx pass sgn F
  have trn:OwnM P w K mg base 4 CR "turns" ["self","part"] (Z61 CR):=D.m_turns.own fun _ _ F=>Zb6 D.tx seen pass need dig F
  have lst:OwnM P w K mg base 5 CR "listed" ["self"] (Z64 CR):=D.m_listed.own fun _ _ F=>Zbc T D.tx pass run F
  have wi:OwnM P w K mg base (5+6*n+1) CR "within" ["self","close"] (Zc0 CR n):=D.m_within.own fun _ _ F=>Zfk (by omega) c8 D.tx ih need F
  have gr:OwnM P w K mg base (5+6*n+1+1) CR "group" ["self"] (Zew CR n):=D.m_group.own fun _ _ F=>Zfq D.tx wi F
  have bkt:OwnM P w K mg base (5+6*n+1+1) CR "bracket" ["self"] (Zex CR n):=D.m_bracket.own fun _ _ F=>Zfs (by omega) ck hk D.tx pass dig wi F
  have si:OwnM P w K mg base (5+6*n+1+1+1) CR "single" ["self"] (Zeo CR n):=D.m_single.own fun _ _ F=>Zfl (by omega) cb hb c1 D.tx pass dig sgn lst gr bkt F
  have pt:OwnM P w K mg base (5+6*n+1+1+1+1) CR "part" ["self"] (Zer CR n):=D.m_part.own fun _ _ F=>Zfn (by omega) D.tx pass trn si F
  have ln:OwnM P w K mg base (5+6*n+1+1+1+1+1) CR "line" ["self"] (Zc1 CR n):=D.m_line.own fun _ _ F=>Zfo (by omega) T cs hs D.tx seen pt F
  exact D.m_branches.own fun _ _ F=>Zfr (L:=5+6*n+1+1+1+1+1) (by omega) T D.tx pass ln F
theorem Ya{x:Str}{st:Stmt}{ps:List Str}{f:Addr}{oc:Value}{od an:Option Addr}{osl:Array (Option Value)}{kV doc pm cdv ct:Value}(X:K.In h)(G:h.Ns mainGlobals mg)(a:W.nsIn K mainGlobals x=some (some (.ref f)))
  (l:K.lookup f=some ⟨oc,od,.func (W.fnOf x x (Wy st) (Wb st) (Zc st) .none kV doc pm an cdv ct),osl⟩) (c:W.codeIn K cdv x=true) (k:W.keepIn K (.ref f)=true)
  (hb:∀(kV doc pm:Value) (an:Option Addr) (cdv ct:Value) (us:List Value),us.length=ps.length->bindArgs (W.fnOf x x (Wy st) (Wb st) (Zc st) .none kV doc pm an cdv ct) ⟨us,[]⟩=pure (ps.zip us)):Def K mg x st ps :=
 ⟨f,_,Z1b (st:=st) l c k,W.mg_of X G a,(Z1b (st:=st) l c k).binds hb⟩
theorem Z81{x:Str}{pl:Addr}{od:Option Addr}{n:Nat}{sl:Array (Option Value)}{x1:Str}{t1:Tok}(X:K.In h)(G:h.Ns mainGlobals mg)(a:W.nsIn K mainGlobals x=some (some (.ref pl)))(l:K.lookup pl=some ⟨.type "tuple",od,.seq #[.str x1 t1] n,sl⟩) :
  ∃pl,mg x=some (.ref pl)/\∀H,SqT K H pl [.str x1]:=⟨pl,W.mg_of X G a,fun H=>.inr ⟨_,_,n,l,rfl,rfl,sz,(.cons ⟨_,rfl⟩ .nil)⟩⟩
theorem Z80{x:Str}{pl:Addr}{od:Option Addr}{n:Nat}{sl:Array (Option Value)}{x1 x2 x3:Str}{t1 t2 t3:Tok}(X:K.In h)(G:h.Ns mainGlobals mg)(a:W.nsIn K mainGlobals x=some (some (.ref pl)))(l:K.lookup pl=some ⟨.type "tuple",od,.seq #[.str x1 t1,.str x2 t2,.str x3 t3] n,sl⟩) :
  ∃pl,mg x=some (.ref pl)/\∀H,SqT K H pl [.str x1,.str x2,.str x3]:=⟨pl,W.mg_of X G a,fun H=>.inr ⟨_,_,n,l,rfl,rfl,sz,(.cons ⟨_,rfl⟩ (.cons ⟨_,rfl⟩ (.cons ⟨_,rfl⟩ .nil)))⟩⟩
theorem Z7z{x:Str}{pl:Addr}{od:Option Addr}{n:Nat}{sl:Array (Option Value)}{x1 x2 x3 x4 x5:Str}{t1 t2 t3 t4 t5:Tok}(X:K.In h)(G:h.Ns mainGlobals mg)(a:W.nsIn K mainGlobals x=some (some (.ref pl)))(l:K.lookup pl=some ⟨.type "tuple",od,.seq #[.str x1 t1,.str x2 t2,.str x3 t3,.str x4 t4,.str x5 t5] n,sl⟩) :
  ∃pl,mg x=some (.ref pl)/\∀H,SqT K H pl [.str x1,.str x2,.str x3,.str x4,.str x5]:=⟨pl,W.mg_of X G a,fun H=>.inr ⟨_,_,n,l,rfl,rfl,sz,(.cons ⟨_,rfl⟩ (.cons ⟨_,rfl⟩ (.cons ⟨_,rfl⟩ (.cons ⟨_,rfl⟩ (.cons ⟨_,rfl⟩ .nil)))))⟩⟩
theorem Xp{x:Str}{i:Int}{t:Tok}(X:K.In h)(G:h.Ns mainGlobals mg)(a:W.nsIn K mainGlobals x=some (some (.int i t))):∃t,mg x=some (.int i t):=⟨t,W.mg_of X G a⟩
theorem Z7y{x:Str}{pl:Addr}{od:Option Addr}{n:Nat}{sl:Array (Option Value)}{x1 x2 x3 x4 x5 x6 x7:Str}{t1 t2 t3 t4 t5 t6 t7:Tok}(X:K.In h)(G:h.Ns mainGlobals mg)(a:W.nsIn K mainGlobals x=some (some (.ref pl)))(l:K.lookup pl=some ⟨.type "tuple",od,.seq #[.str x1 t1,.str x2 t2,.str x3 t3,.str x4 t4,.str x5 t5,.str x6 t6,.str x7 t7] n,sl⟩) :
  ∃pl,mg x=some (.ref pl)/\∀H,SqT K H pl [.str x1,.str x2,.str x3,.str x4,.str x5,.str x6,.str x7]:=⟨pl,W.mg_of X G a,fun H=>.inr ⟨_,_,n,l,rfl,rfl,sz,(.cons ⟨_,rfl⟩ (.cons ⟨_,rfl⟩ (.cons ⟨_,rfl⟩ (.cons ⟨_,rfl⟩ (.cons ⟨_,rfl⟩ (.cons ⟨_,rfl⟩ (.cons ⟨_,rfl⟩ .nil)))))))⟩⟩
theorem T3{P:Program}{w:World}{base:Heap}{x:Str}{st:Stmt}{ps:List Str}{sp:Nat->Sp}(D:Def K mg x st ps)(no:∀vs H Q E,¬sp 0 vs H Q E)(step:∀n f fd,Own P w K mg base (2+n) x ps (sp n)->Fun K x x st f fd->FnOk P w K mg base V1 (2+n+1) f fd ps (sp (n+1))) :
  ∀n,Own P w K mg base (2+n) x ps (sp n)
 |0=>D.own fun f fd F=>FnOk.never no
 |n+1=>D.own fun f fd F=>step n f fd (T3 D no step n) F
theorem Zcn{l:W.OpenLaw}{w:World}{fa f:Addr}{oc:Value}{od an:Option Addr}{osl:Array (Option Value)}{kV doc pm cdv ct:Value}(X:K.In h)(G:h.Ns mainGlobals mg)(hfa:mg "law" = some (.ref fa))(a:W.nsIn K mainGlobals "law" = some (some (.ref f)))
  (lk:K.lookup f=some ⟨oc,od,.func (W.fnOf "law" "law" (Wy T6) (Wb T6) (Zc T6) .none kV doc pm an cdv ct),osl⟩) (c:W.codeIn K cdv "law" = true) (k:W.keepIn K (.ref f)=true)
  (rest:∀(base:Heap) (f:Addr) (fd:FuncData),Fun K "law" "law" T6 f fd->FnOk l.prog w K mg base V1 62 f fd ["_law_script"] (Z2o K)) :
  ∃fd:FuncData,(∀(s:Shared) (v:Value),BindsTo s fd ⟨[v],[]⟩ [("_law_script",v)])/\∀base:Heap,K.In base->base.Ns mainGlobals mg->FnOk l.prog w K mg base V1 62 fa fd ["_law_script"] (Z2o K):=by
 have e:=hfa.symm.trans (W.mg_of X G a)
 cases e
 exact⟨W.fnOf "law" "law" (Wy T6) (Wb T6) (Zc T6) .none kV doc pm an cdv ct,fun s v=>.of_eq rfl,fun base _ _=>rest base _ _ (Z1b (st:=T6) lk c k)⟩
theorem Z5l{w:World}{x:Str}{pl:Addr}{n:Nat}{h1 h2:Int}{k1 k2 v1 v2:Str}{t1 t2 u1 u2:Tok}(X:K.In h)(G:h.Ns mainGlobals mg)(a:W.nsIn K mainGlobals x=some (some (.ref pl)))
  (l:K.lookup pl=some ⟨.type "dict",none,.dict #[⟨h1,.str k1 t1,.str v1 u1⟩,⟨h2,.str k2 t2,.str v2 u2⟩] n,#[]⟩) (hd:(pl==sysModules)=false)
  (e:h1=PyData.keyHash w.params k1/\h2=PyData.keyHash w.params k2) (nd:([(.inr k1),(.inr k2)]:List V6).Nodup) :
  ∃pl,mg x=some (.ref pl)/\DcK K w pl [(.inr k1,.str v1),(.inr k2,.str v2)] :=
 ⟨pl,W.mg_of X G a,Z6f l hd (.cons (W1 e.1) (.cons (W1 e.2) .nil)) nd⟩
theorem Z0r{w:World}{x:Str}{pl:Addr}{n:Nat}{h1 h2 h3:Int}{k1 k2 k3 v1 v2 v3:Str}{t1 t2 t3 u1 u2 u3:Tok}(X:K.In h)(G:h.Ns mainGlobals mg)(a:W.nsIn K mainGlobals x=some (some (.ref pl)))
  (l:K.lookup pl=some ⟨.type "dict",none,.dict #[⟨h1,.str k1 t1,.str v1 u1⟩,⟨h2,.str k2 t2,.str v2 u2⟩,⟨h3,.str k3 t3,.str v3 u3⟩] n,#[]⟩) (hd:(pl==sysModules)=false)
  (e:h1=PyData.keyHash w.params k1/\h2=PyData.keyHash w.params k2/\h3=PyData.keyHash w.params k3) (nd:([(.inr k1),(.inr k2),(.inr k3)]:List V6).Nodup) :
  ∃pl,mg x=some (.ref pl)/\DcK K w pl [(.inr k1,.str v1),(.inr k2,.str v2),(.inr k3,.str v3)] :=
 ⟨pl,W.mg_of X G a,Z6f l hd (.cons (W1 e.1) (.cons (W1 e.2.1) (.cons (W1 e.2.2) .nil))) nd⟩
theorem Z5k{w:World}{x:Str}{pl:Addr}{n:Nat}{h1 h2 h3 h4 h5:Int}{k1 k2 k3 k4 k5 v1 v2 v3 v4 v5:Str}{t1 t2 t3 t4 t5 u1 u2 u3 u4 u5:Tok}(X:K.In h)(G:h.Ns mainGlobals mg)(a:W.nsIn K mainGlobals x=some (some (.ref pl)))
  (l:K.lookup pl=some ⟨.type "dict",none,.dict #[⟨h1,.str k1 t1,.str v1 u1⟩,⟨h2,.str k2 t2,.str v2 u2⟩,⟨h3,.str k3 t3,.str v3 u3⟩,⟨h4,.str k4 t4,.str v4 u4⟩,⟨h5,.str k5 t5,.str v5 u5⟩] n,#[]⟩) (hd:(pl==sysModules)=false)
  (e:h1=PyData.keyHash w.params k1/\h2=PyData.keyHash w.params k2/\h3=PyData.keyHash w.params k3/\h4=PyData.keyHash w.params k4/\h5=PyData.keyHash w.params k5) (nd:([(.inr k1),(.inr k2),(.inr k3),(.inr k4),(.inr k5)]:List V6).Nodup) :
  ∃pl,mg x=some (.ref pl)/\DcK K w pl [(.inr k1,.str v1),(.inr k2,.str v2),(.inr k3,.str v3),(.inr k4,.str v4),(.inr k5,.str v5)] :=
 ⟨pl,W.mg_of X G a,Z6f l hd (.cons (W1 e.1) (.cons (W1 e.2.1) (.cons (W1 e.2.2.1) (.cons (W1 e.2.2.2.1) (.cons (W1 e.2.2.2.2) .nil))))) nd⟩
theorem Jj{x y:Str}{t:Tok}(X:K.In h)(G:h.Ns mainGlobals mg)(a:W.nsIn K mainGlobals x=some (some (.str y t))):∃t,mg x=some (.str y t):=⟨t,W.mg_of X G a⟩
section
variable{P:Program}{w:World}{base:Heap}
theorem Z4f{bt lt bk hw wr wt:Addr}{t1 t2:Tok}(T:Blt mg)(Vb:mg "STROKED" = some (.str stroked t1))(Yc:mg "STROKED_IN_RUNS" = some (.str Zy t2))(T0:mg "BARE" = some (.ref bt))(hBT:DcK K w bt bareT)(J5:mg "LISTS" = some (.ref lt))(hLT:DcK K w lt Yn)(W2:mg "BRACKETS" = some (.ref bk))(hBK:DcK K w bk bracketsT)(Z3j:mg "HOWS" = some (.ref hw))(hHW:DcK K w hw Z2r)
  (Xm:mg "WRAPPED_IN_ROW" = some (.ref wr)) (hWR:∀H,SqT K H wr Ym) (X1:mg "WRAPPED_IN_TIMES" = some (.ref wt)) (hWT:∀H,SqT K H wt Y7)
  (p1:Def K mg "pattern_text" Yj ["pattern"]) (p2:Def K mg "sign_text" Wr ["sign","stroked"]) (p3:Def K mg "run_text" Vc ["low","high"]) (p4:Def K mg "wrapped_text" Xh ["part","kinds"]) (p5:Def K mg "turns_text" W7 ["low","high","how"]) :
  ∀n,Own P w K mg base (2+2*n) "pattern_text" ["pattern"] (Tf n)
 |0=>p1.own fun f fd F=>FnOk.never fun vs H Q E h=>by
  obtain⟨_,_,_,hp,_⟩:=h
  exact hp.elim
 |n+1=>by
  have ih:=Z4f T Vb Yc T0 hBT J5 hLT W2 hBK Z3j hHW Xm hWR X1 hWT p1 p2 p3 p4 p5 n
  have sg1:Own P w K mg base 1 "sign_text" ["sign","stroked"] Z5s:=p2.own fun _ _ F=>Z2h F
  exact p1.own fun _ _ F=>Jz (k:=2*n) T Vb T0 hBT J5 hLT W2 hBK Xm hWR X1 hWT sg1 (p3.own fun _ _ F=>Z3o Yc sg1 F) (p5.own fun _ _ F=>Z1n T Z3j hHW F) (p4.own fun _ _ F=>Jy (k:=2*n) ih F) ih F
theorem Z0p(T:Blt mg)(d1:Def K mg "_law_written" Xj ["_law_p"])(d2:Def K mg "_law_signed" Vd ["_law_sign_here","_law_special"])(d3:Def K mg "_law_run_text" W8 ["_law_run"])(d4:Def K mg "_law_inner" Vx ["_law_p","_law_words"])(d5:Def K mg "_law_leaf_text" X9 ["_law_p"]) :
  ∀n,Own P w K mg base (2+2*n+1) "_law_written" ["_law_p"] (Tf n)
 |0=>d1.own fun f fd F=>FnOk.never fun vs H Q E h=>by
  obtain⟨_,_,_,hp,_⟩:=h
  exact hp.elim
 |n+1=>by
  have ih:=Z0p T d1 d2 d3 d4 d5 n
  have sg1:Own P w K mg base 1 "_law_signed" ["_law_sign_here","_law_special"] Z5s:=d2.own fun _ _ F=>Z3q F
  have rt:Own P w K mg base 2 "_law_run_text" ["_law_run"] Z14:=d3.own fun _ _ F=>Z1q sg1 F
  have lf:Own P w K mg base 3 "_law_leaf_text" ["_law_p"] Z2w:=d5.own fun _ _ F=>Z0i T sg1 rt F
  have inn:Own P w K mg base (2+2*n+2) "_law_inner" ["_law_p","_law_words"] (Z8d K n):=d4.own fun _ _ F=>Z5e (k:=2*n+1) ih F
  exact d1.own fun _ _ F=>Z2j (k:=2*n) T lf inn ih F
end
structure DDefs(K:W.Frag)(mg:Str->Option Value):Prop where
 d_take:Def K mg "_law_take" Tq ["_law_box","_law_many"]
 d_sign:Def K mg "_law_sign" Ts ["_law_cell"]
 d_letters:Def K mg "_law_letters" Wu ["_law_box"]
 d_runs:Def K mg "_law_runs" Tt ["_law_box","_law_letters_here"]
 d_leaf:Def K mg "_law_leaf" Tu ["_law_box","_law_letters_here","_law_count"]
 d_parts:Def K mg "_law_parts" Vw ["_law_box","_law_letters_here","_law_count","_law_deep","_law_word"]
 d_times:Def K mg "_law_times" Vv ["_law_box","_law_letters_here","_law_count","_law_deep"]
 d_pattern:Def K mg "_law_pattern" Wt ["_law_box","_law_letters_here","_law_count","_law_deep"]
 d_drawn:Def K mg "_law_drawn" Vy ["_law_box","_law_letters_here","_law_plain"]
 d_nested:Def K mg "_law_nested" U7 ["_law_box","_law_letters_here","_law_deep"]
 d_wide:Def K mg "_law_wide" Tp ["_law_box","_law_letters_here","_law_one","_law_two"]
 d_many_groups:Def K mg "_law_many_groups" X6 ["_law_letters_here","_law_many"]
 d_some:Def K mg "_law_some" Tr ["_law_box","_law_letters_here"]
 d_heavy:Def K mg "_law_heavy" Us ["_law_box"]
structure PDefs(K:W.Frag)(mg:Str->Option Value):Prop where
 p_parts_of:Def K mg "parts_of" U6 ["pattern"]
 p_groups_in:Def K mg "groups_in" Wv ["pattern"]
 p_patterns_in:Def K mg "patterns_in" Xu ["pattern"]
 p_depth:Def K mg "depth" J2 ["pattern"]
 p_runs_keep:Def K mg "runs_keep" Ws ["runs"]
 p_parts_keep:Def K mg "parts_keep" V4 ["parts"]
 p_turns_keep:Def K mg "turns_keep" V3 ["low","high"]
 p_keeps:Def K mg "keeps" Z07 ["pattern","groups"]
 p_all_keep:Def K mg "all_keep" Ve ["pattern","groups"]
 p_keeps_bounds:Def K mg "keeps_bounds" W3 ["pattern"]
 p_is_sign:Def K mg "is_sign" Uu ["sign"]
 p_read_pattern:Def K mg "read_pattern" Xi ["text"]
 p_pattern_text:Def K mg "pattern_text" Yj ["pattern"]
 p_sign_text:Def K mg "sign_text" Wr ["sign","stroked"]
 p_run_text:Def K mg "run_text" Vc ["low","high"]
 p_wrapped_text:Def K mg "wrapped_text" Xh ["part","kinds"]
 p_turns_text:Def K mg "turns_text" W7 ["low","high","how"]
structure LDefs(K:W.Frag)(mg:Str->Option Value):Prop where
 l_written:Def K mg "_law_written" Xj ["_law_p"]
 l_signed:Def K mg "_law_signed" Vd ["_law_sign_here","_law_special"]
 l_run_text:Def K mg "_law_run_text" W8 ["_law_run"]
 l_inner:Def K mg "_law_inner" Vx ["_law_p","_law_words"]
 l_leaf_text:Def K mg "_law_leaf_text" X9 ["_law_p"]
 l_alike:Def K mg "_law_alike" Ut ["_law_found","_law_due"]
theorem Ze6{P:Program}{w:World}{CR:Addr}(T:Blt mg)(C:RCs K w mg)(R:RDefs K mg CR)(D:DDefs K mg)(Pd:PDefs K mg)(L:LDefs K mg)(base:Heap)(f:Addr)(fd:FuncData)(F:Fun K "law" "law" T6 f fd):FnOk P w K mg base V1 62 f fd ["_law_script"] (Z2o K):=by
 have take:Own P w K mg base 1 "_law_take" ["_law_box","_law_many"] Xq:=D.d_take.own fun _ _ F=>Zb7 F
 have sign:Own P w K mg base 1 "_law_sign" ["_law_cell"] Z2u:=D.d_sign.own fun _ _ F=>Z8x F
 have letters:Own P w K mg base 2 "_law_letters" ["_law_box"] Je:=D.d_letters.own fun _ _ F=>Z5d T take sign F
 have runs:Own P w K mg base 2 "_law_runs" ["_law_box","_law_letters_here"] Jq:=D.d_runs.own fun _ _ F=>Zb9 T take F
 have leaf:Own P w K mg base 3 "_law_leaf" ["_law_box","_law_letters_here","_law_count"] Z13:=D.d_leaf.own fun _ _ F=>Zbd T take runs F
 have pat:=Jm T take leaf D.d_parts D.d_times D.d_pattern 4
 have drawn:Own P w K mg base 13 "_law_drawn" ["_law_box","_law_letters_here","_law_plain"] Z2x:=D.d_drawn.own fun _ _ F=>Z91 T take runs pat F
 have nested:Own P w K mg base 2 "_law_nested" ["_law_box","_law_letters_here","_law_deep"] Z0v:=D.d_nested.own fun _ _ F=>Z7p T take F
 have wide:Own P w K mg base 2 "_law_wide" ["_law_box","_law_letters_here","_law_one","_law_two"] Z60:=D.d_wide.own fun _ _ F=>Zb5 T take F
 have many:Own P w K mg base 1 "_law_many_groups" ["_law_letters_here","_law_many"] Z63:=D.d_many_groups.own fun _ _ F=>Zbb T F
 have some':Own P w K mg base 14 "_law_some" ["_law_box","_law_letters_here"] Z62:=D.d_some.own fun _ _ F=>Zb8 T take runs drawn nested wide many F
 have heavy:Own P w K mg base 2 "_law_heavy" ["_law_box"] Zev:=D.d_heavy.own fun _ _ F=>Z90 T take F
 have noA:∀vs H Q E,¬Z50 0 vs H Q E:=fun vs H Q E ⟨x,y,_,hp,_⟩=>hp.elim
 have al:=T3 (P:=P) (w:=w) (base:=base) (sp:=Z50) L.l_alike noA (fun n f fd O F=>Ze3 T O F) 18
 obtain⟨t1,c1⟩:=C.str
 obtain⟨t2,c2⟩:=C.strR
 obtain⟨bt,c3,h3⟩:=C.bare
 obtain⟨lt,c4,h4⟩:=C.lists
 obtain⟨bk,c5,h5⟩:=C.brk
 obtain⟨hw,c6,h6⟩:=C.hows
 obtain⟨wr,c7,h7⟩:=C.wr
 obtain⟨wt,c8,h8⟩:=C.wt
 obtain⟨pl,c9,h9⟩:=C.pl
 obtain⟨u1,k1⟩:=C.deep
 obtain⟨u2,k2⟩:=C.groups
 obtain⟨u3,k3⟩:=C.pats
 obtain⟨u4,k4⟩:=C.parts
 obtain⟨u5,k5⟩:=C.runs
 obtain⟨u6,k6⟩:=C.turns
 obtain⟨u7,k7⟩:=C.blank
 obtain⟨u8,k8⟩:=C.last
 obtain⟨u9,k9⟩:=C.per
 have pt:=Z4f (P:=P) (w:=w) (base:=base) T c1 c2 c3 h3 c4 h4 c5 h5 c6 h6 c7 h7 c8 h8 Pd.p_pattern_text Pd.p_sign_text Pd.p_run_text Pd.p_wrapped_text Pd.p_turns_text 8
 have lt:=Z0p (P:=P) (w:=w) (base:=base) T L.l_written L.l_signed L.l_run_text L.l_inner L.l_leaf_text 8
 have po:Own P w K mg base 1 "parts_of" ["pattern"] Va:=Pd.p_parts_of.own fun _ _ F=>Z3p c9 h9 F
 have noG:∀vs H Q E,¬Zgf 0 vs H Q E:=fun vs H Q E ⟨_,_,_,hp,_⟩=>hp.elim
 have noZ:∀vs H Q E,¬Zge 0 vs H Q E:=fun vs H Q E ⟨_,_,_,hp,_⟩=>hp.elim
 have noD:∀vs H Q E,¬Zag 0 vs H Q E:=fun vs H Q E ⟨_,_,_,hp,_⟩=>hp.elim
 have noK:∀vs H Q E,¬Z70 0 vs H Q E:=fun vs H Q E ⟨_,_,_,_,_,_,hp,_,_⟩=>hp.elim
 have gi:=T3 (P:=P) (w:=w) (base:=base) (sp:=Zgf) Pd.p_groups_in noG (fun n f fd O F=>Z2k T po O F) 8
 have pi:=T3 (P:=P) (w:=w) (base:=base) (sp:=Zge) Pd.p_patterns_in noZ (fun n f fd O F=>Z0h T po O F) 8
 have dp:=T3 (P:=P) (w:=w) (base:=base) (sp:=Zag) Pd.p_depth noD (fun n f fd O F=>Z92 T po O F) 8
 have rk:Own P w K mg base 1 "runs_keep" ["runs"] Zeq:=Pd.p_runs_keep.own fun _ _ F=>Z2i T k5 F
 have pk:Own P w K mg base 1 "parts_keep" ["parts"] (Zes K):=Pd.p_parts_keep.own fun _ _ F=>Z1p T k4 F
 have tk:Own P w K mg base 1 "turns_keep" ["low","high"] Zaa:=Pd.p_turns_keep.own fun _ _ F=>Z1o k6 F
 have ak:=T3 (P:=P) (w:=w) (base:=base) (sp:=Z70) Pd.p_all_keep noK (fun n f fd O F=>Z3r T po (Pd.p_keeps.own fun _ _ F=>Z8z T rk pk tk F) O F) 8
 have kb:Own P w K mg base 11 "keeps_bounds" ["pattern"] Zet:=Pd.p_keeps_bounds.own fun _ _ F=>Zfp k2 k3 k1 gi pi dp ak F
 have isg:Own P w K mg base 1 "is_sign" ["sign"] Zeu:=Pd.p_is_sign.own fun _ _ F=>Z5f T k7 k8 k9 F
 have br:=(Z9v (P:=P) (base:=base) T C R 8).mono (show 5+6*8<=60 by decide)
 have seen:OwnM P w K mg base 1 CR "seen" ["self"] (Ti CR):=R.m_seen.own fun _ _ F=>Z6q R.tx F
 have tk2:OwnM P w K mg base 2 CR "take" ["self"] (T1 CR):=R.m_take.own fun _ _ F=>Z4g R.tx seen F
 have need:OwnM P w K mg base 3 CR "need" ["self","sign"] (Jr CR):=R.m_need.own fun _ _ F=>Z6r R.tx tk2 F
 have rd:OwnC P w K mg base 1 CR "Reader" ["self","text"] (Zad CR):=by
  obtain⟨f,fd,F,M,b⟩:=R.init
  exact⟨f,fd,Ze0 R.tx F,⟨R.mks,M.at_,M.fn,R.kc⟩,R.mg_,b⟩
 have rp:Own P w K mg base 61 "read_pattern" ["text"] Zep:=Pd.p_read_pattern.own fun _ _ F=>Zfm T R.tx isg rd br need kb pt F
 exact Ze1 T take letters some' heavy al rp lt F
end
theorem Zgu{l:W.OpenLaw}{q:Program}{loose:List Str}{XP:(Str->Option Value)->Heap->Prop}{YP:World->Heap->Prop}{d:DefRec}{K:Params->W.Frag}(hn:l.most=some 63)(hdf:d.params.defaults=[])
  (hY:∀(w:World) (h:Heap),YP w h->(K w.params).In h)
  (F:∀(w:World) (mg:Str->Option Value) (fa:Addr) (h:Heap),(K w.params).In h->h.Ns mainGlobals mg->mg d.name=some (.ref fa) ->
   ∃fd:FuncData,(∀(s:Shared) (u:Value),BindsTo s fd ⟨[u],[]⟩ [("_law_script",u)])/\∀base:Heap,(K w.params).In base->base.Ns mainGlobals mg->FnOk l.prog w (K w.params) mg base V1 62 fa fd ["_law_script"] (Z2o (K w.params))) :
  W.WalkO q loose XP YP l.row.toRowW d [] (fun f vs=>PySem.call f vs) :=
 Zam (n:=63) (k:=62) (x:="_law_script") (CX:=fun _=>V1) (sp:=fun w=>Z2o (K w.params)) hn (by decide) hdf ⟨rfl,by decide,by decide⟩ hY F (fun _ _ a ns hl _ hS=>⟨a,ns,rfl,hS,hl,fun _=>rfl⟩) fun _ _ _ _ _ z=>z
end Seek
namespace PySem.W.Fast
def tw18264742843132363666:=0
def tw3295950547110190242:=0
def tw16029818500816994439:=0
def tw5542748061052458053:=0
def tw869151529186101750:=0
def tw8502952022347146445:=0
def tw10096663199186114152:=0
def tw17371206493294404396:=0
def tw12526176473103809546:=0
def tw12360597668663128702:=0
def tw6983579005222106069:=0
def tw11850497870984516818:=0
def tw7359305018644741422:=0
def tw5860914344580778225:=0
def tw9828994071736430842:=0
def tw5794038543519446202:=0
def tw2754331249919617931:=0
def tw17989102525802180444:=0
def tw9374909399689570090:=0
def tw942553653253911809:=0
def tw6830766274354059829:=0
def tw17397814099737962004:=0
def tw17982106592161829482:=0
def tw13820603946843522071:=0
def tw588121284653110448:=0
def tw8444692754375007022:=0
def tw16386500768312720377:=0
def tw17918613565348020:=0
def tw2204310700179507752:=0
def tw16473318521892186691:=0
def tw4659524958458718652:=0
def tw16358565955461930455:=0
def tw6244317721999696609:=0
def tw16539293719360825890:=0
def tw9775285508817408193:=0
def tw2071407845017071106:=0
def tw15983601260552379014:=0
def tw10074176744588473812:=0
def tw5263279168878937209:=0
def tw5600012626167856918:=0
def tw14353840536019117606:=0
def tw11390172632603736998:=0
def tw14161525717209829067:=0
def tw6165913307655738304:=0
def tw8029833252727160721:=0
def tw9344533757637177293:=0
def tw9839465831982376321:=0
def tw13253386675006326609:=0
def tw10127427060252405444:=0
def tw7805971242497800834:=0
def tw4794840841914092272:=0
def tw2129729752676474834:=0
def tw9739561647070681246:=0
def tw15304129196723661458:=0
def tw18104789152020576646:=0
def tw1748169454165138826:=0
def tw13668618336600046377:=0
def tw18135860055335191462:=0
def tw12793145916137298788:=0
def tw4341241957294075654:=0
def tw9020973579382279842:=0
def tw12526204275101364718:=0
def tw11147026686799342974:=0
def tw3571968027420176940:=0
def tw14145147770360340942:=0
def tw16265641083434716380:=0
def tw17082396834659198015:=0
def tw3189486583187186571:=0
def tw5894312141333391660:=0
def tw546155952035982413:=0
def tw4354327751889642507:=0
def tw2558347710216660617:=0
def tw11572757057035377687:=0
def tw10145845912729854894:=0
def tw5704994768856996961:=0
def tw18346676229873130878:=0
def tw14489028424329045047:=0
def tw2078618513470903662:=0
def tw8878083614018523368:=0
def tw17100677559107643518:=0
def tw11257185362136748347:=0
def tw3522986606627953828:=0
def tw375947080133295259:=0
def tw416068735913061327:=0
def tw18186331832370667200:=0
def tw16631809325713123548:=0
def tw1361461136994713471:=0
def tw8543770156332027083:=0
def tw1073582622437865314:=0
def tw856505253915472331:=0
def tw2310751087121068049:=0
def tw1490779662451015266:=0
def tw8282696509727308435:=0
def tw11088257507021891086:=0
def tw18076984738680989085:=0
def tw3059835672753211587:=0
def tw12646994358947998754:=0
def tw6740056660616524832:=0
def tw18118107757017495842:=0
def tw13783863134198836305:=0
def tw356396127648258595:=0
def tw13472116316321651201:=0
def tw8961193346628430483:=0
def tw9749189592512986103:=0
def tw15093230342285622642:=0
def tw1661606185160793163:=0
def tw17667818722512065808:=0
def tw17129992218855781685:=0
def tw570311032808604960:=0
def tw6021187769741038751:=0
def tw12343998690898690790:=0
def tw15627273774632782914:=0
def tw7397656338425820278:=0
def tw10052049359836981873:=0
def tw15251920359810870478:=0
def tw9222573146104714632:=0
def tw4499699914379582360:=0
def tw7786085705710997107:=0
def tw1473627437313098010:=0
def tw632556212242528330:=0
def tw2737324334148575159:=0
def tw8212358735828616559:=0
def tw1864591470247617405:=0
def tw6510632736624060724:=0
def tw54465217549248245:=0
def tw781607674808498668:=0
def tw13964109275587156683:=0
def tw17171241545758038068:=0
def tw15269085712375718342:=0
def tw11218682482549885405:=0
def tw10163616304199986709:=0
def tw15832351316667304977:=0
def tw4509121574892787488:=0
def tw9299478774726614103:=0
def tw7559398773370958124:=0
def tw6910525502540813198:=0
def tw1435417286904361135:=0
def tw3154702021910376121:=0
def tw10907617926592085151:=0
def tw14066218795321705135:=0
def tw7334181771477835374:=0
def tw2978128785345816848:=0
def tw14734306399630641729:=0
def tw8257948580111033059:=0
def tw17379949549192995663:=0
def tw17023235627790900850:=0
def tw3282636547930692762:=0
def tw12412478800264252183:=0
def tw17765137977097314956:=0
def tw11344629855741088152:=0
def tw2844044857004309671:=0
def tw11907790674494918332:=0
def tw11505227383592690549:=0
def tw478529534205608933:=0
def tw13995656495548795581:=0
def tw12963502644581674781:=0
def tw18421824894604344479:=0
def tw8769536621053335754:=0
def tw15083114729008532502:=0
def tw13923602957115715826:=0
def tw8385961233112890410:=0
def tw6359080512771919265:=0
def tw4583205528364799792:=0
def tw415819001268711385:=0
def tw16936188137813320954:=0
def tw10577907178115662624:=0
def tw15009761336750318637:=0
def tw3750950364034560497:=0
def tw7701166039471932824:=0
def tw5830691773551477970:=0
def tw16242628782372124314:=0
def tw4462734825685653994:=0
def tw12698392068158113591:=0
def tw15087440356302704751:=0
def tw2759052820849103303:=0
def tw12949245898427132750:=0
def tw2016434368096902902:=0
def tw18351820507685034419:=0
def tw8834691644048602465:=0
def tw4256675277592323967:=0
def tw9644183243631970624:=0
def tw8284164150006191027:=0
def tw7068272721972138070:=0
def tw3674942606294174023:=0
def tw2102927203630582669:=0
def tw2013630160759358361:=0
def tw17196015045727623090:=0
end PySem.W.Fast
open PySem PySem.W PyProof.Rows Seek L2
set_option maxRecDepth 100000 in
set_option maxHeartbeats 0 in
theorem PySem.Challenge.cw_seek_k04_read_back_holds : PySem.Challenge.rw_seek_k04_read_back.Holds := by
 w_on;o_law;k_head;(case hw=>w_witness2)
 k_fill
 refine Zgu (l:=PySem.Challenge.rw_seek_k04_read_back) rfl rfl (fun w h Y=>W.kIn_of Y) ?F
 case F =>
  intro w mg fa h KX G hmg
  have z:∀ {x:Str} {K:W.Frag},K.In h->W.nsIn K mainGlobals x=some none->mg x=none:=fun X e=>W.mg_none_of X G e
  have T:Seek.Blt mg:=by
   refine'⟨z KX ?b1,z KX ?b2,z KX ?b3,z KX ?b4,z KX ?b5,z KX ?b6,z KX ?b7,z KX ?b8,z KX ?b9,z KX ?b10,z KX ?b11,z KX ?b12,z KX ?b13⟩
   (case b1=>k_is);(case b2=>k_is);(case b3=>k_is);(case b4=>k_is);(case b5=>k_is);(case b6=>k_is);(case b7=>k_is);(case b8=>k_is);(case b9=>k_is);(case b10=>k_is);(case b11=>k_is);(case b12=>k_is);(case b13=>k_is)
  have rd:∃CR,Seek.RDefs (Z87 KX) mg CR:=by
   dsimp only[Z87]
   exact(by
   refine'⟨_,⟨W.mg_of KX G ?aC,Zao ?pg ?hd ?po ?sa ?na1 ?na2 ?na3 ?na4,?mk,?kc,Yw (m:="__init__") (qual:="Reader.__init__") (st:=Xd) (ps:=["self","text"]) ?m0a ?m0i ?m0l ?m0c ?m0k (fun _ _ _ _ _ _ us hl=>match us,hl with | [_,_],_=>rfl),Yw (m:="seen") (qual:="Reader.seen") (st:=Wn) (ps:=["self"]) ?m1a ?m1i ?m1l ?m1c ?m1k (fun _ _ _ _ _ _ us hl=>match us,hl with | [_],_=>rfl),Yw (m:="take") (qual:="Reader.take") (st:=Wl) (ps:=["self"]) ?m2a ?m2i ?m2l ?m2c ?m2k (fun _ _ _ _ _ _ us hl=>match us,hl with | [_],_=>rfl),Yw (m:="passes") (qual:="Reader.passes") (st:=Xx) (ps:=["self","sign"]) ?m3a ?m3i ?m3l ?m3c ?m3k (fun _ _ _ _ _ _ us hl=>match us,hl with | [_,_],_=>rfl),Yw (m:="need") (qual:="Reader.need") (st:=Wp) (ps:=["self","sign"]) ?m4a ?m4i ?m4l ?m4c ?m4k (fun _ _ _ _ _ _ us hl=>match us,hl with | [_,_],_=>rfl),Yw (m:="branches") (qual:="Reader.branches") (st:=Xc) (ps:=["self"]) ?m5a ?m5i ?m5l ?m5c ?m5k (fun _ _ _ _ _ _ us hl=>match us,hl with | [_],_=>rfl),Yw (m:="line") (qual:="Reader.line") (st:=Wq) (ps:=["self"]) ?m6a ?m6i ?m6l ?m6c ?m6k (fun _ _ _ _ _ _ us hl=>match us,hl with | [_],_=>rfl),Yw (m:="part") (qual:="Reader.part") (st:=Wo) (ps:=["self"]) ?m7a ?m7i ?m7l ?m7c ?m7k (fun _ _ _ _ _ _ us hl=>match us,hl with | [_],_=>rfl),Yw (m:="single") (qual:="Reader.single") (st:=Xw) (ps:=["self"]) ?m8a ?m8i ?m8l ?m8c ?m8k (fun _ _ _ _ _ _ us hl=>match us,hl with | [_],_=>rfl),Yw (m:="within") (qual:="Reader.within") (st:=Xv) (ps:=["self","close"]) ?m9a ?m9i ?m9l ?m9c ?m9k (fun _ _ _ _ _ _ us hl=>match us,hl with | [_,_],_=>rfl),Yw (m:="group") (qual:="Reader.group") (st:=W5) (ps:=["self"]) ?m10a ?m10i ?m10l ?m10c ?m10k (fun _ _ _ _ _ _ us hl=>match us,hl with | [_],_=>rfl),Yw (m:="bracket") (qual:="Reader.bracket") (st:=Xl) (ps:=["self"]) ?m11a ?m11i ?m11l ?m11c ?m11k (fun _ _ _ _ _ _ us hl=>match us,hl with | [_],_=>rfl),Yw (m:="listed") (qual:="Reader.listed") (st:=Xy) (ps:=["self"]) ?m12a ?m12i ?m12l ?m12c ?m12k (fun _ _ _ _ _ _ us hl=>match us,hl with | [_],_=>rfl),Yw (m:="run") (qual:="Reader.run") (st:=V5) (ps:=["self"]) ?m13a ?m13i ?m13l ?m13c ?m13k (fun _ _ _ _ _ _ us hl=>match us,hl with | [_],_=>rfl),Yw (m:="sign") (qual:="Reader.sign") (st:=Wm) (ps:=["self","stroked"]) ?m14a ?m14i ?m14l ?m14c ?m14k (fun _ _ _ _ _ _ us hl=>match us,hl with | [_,_],_=>rfl),Yw (m:="digit") (qual:="Reader.digit") (st:=W6) (ps:=["self"]) ?m15a ?m15i ?m15l ?m15c ?m15k (fun _ _ _ _ _ _ us hl=>match us,hl with | [_],_=>rfl),Yw (m:="turns") (qual:="Reader.turns") (st:=W4) (ps:=["self","part"]) ?m16a ?m16i ?m16l ?m16c ?m16k (fun _ _ _ _ _ _ us hl=>match us,hl with | [_,_],_=>rfl)⟩⟩
   (case aC=>k_is);(case pg=>k_is);(case hd=>k_is);(case po=>k_is);(case sa=>k_is);(case na1=>k_is);(case na2=>k_is);(case na3=>k_is);(case na4=>k_is);(case mk=>k_is);(case kc=>k_is);(case m0a=>k_is);(case m0i=>k_is);(case m0l=>k_is);(case m0c=>k_is);(case m0k=>k_is);(case m1a=>k_is);(case m1i=>k_is);(case m1l=>k_is);(case m1c=>k_is);(case m1k=>k_is);(case m2a=>k_is);(case m2i=>k_is);(case m2l=>k_is);(case m2c=>k_is);(case m2k=>k_is);(case m3a=>k_is);(case m3i=>k_is);(case m3l=>k_is);(case m3c=>k_is);(case m3k=>k_is);(case m4a=>k_is);(case m4i=>k_is);(case m4l=>k_is);(case m4c=>k_is);(case m4k=>k_is);(case m5a=>k_is);(case m5i=>k_is);(case m5l=>k_is);(case m5c=>k_is);(case m5k=>k_is);(case m6a=>k_is);(case m6i=>k_is);(case m6l=>k_is);(case m6c=>k_is);(case m6k=>k_is);(case m7a=>k_is);(case m7i=>k_is);(case m7l=>k_is);(case m7c=>k_is);(case m7k=>k_is);(case m8a=>k_is);(case m8i=>k_is);(case m8l=>k_is);(case m8c=>k_is);(case m8k=>k_is);(case m9a=>k_is);(case m9i=>k_is);(case m9l=>k_is);(case m9c=>k_is);(case m9k=>k_is);(case m10a=>k_is);(case m10i=>k_is);(case m10l=>k_is);(case m10c=>k_is);(case m10k=>k_is);(case m11a=>k_is);(case m11i=>k_is);(case m11l=>k_is);(case m11c=>k_is);(case m11k=>k_is);(case m12a=>k_is);(case m12i=>k_is);(case m12l=>k_is);(case m12c=>k_is);(case m12k=>k_is);(case m13a=>k_is);(case m13i=>k_is);(case m13l=>k_is);(case m13c=>k_is);(case m13k=>k_is);(case m14a=>k_is);(case m14i=>k_is);(case m14l=>k_is);(case m14c=>k_is);(case m14k=>k_is);(case m15a=>k_is);(case m15i=>k_is);(case m15l=>k_is);(case m15c=>k_is);(case m15k=>k_is);(case m16a=>k_is);(case m16i=>k_is);(case m16l=>k_is);(case m16c=>k_is);(case m16k=>k_is))
  have d0:=(by
   refine' Ya (x:="_law_take") (st:=Tq) (ps:=["_law_box","_law_many"]) KX G ?a ?l ?c ?k (fun _ _ _ _ _ _ us hl=>match us,hl with | [_,_],_=>rfl)
   (case a=>k_is);(case l=>k_is);(case c=>k_is);(case k=>k_is))
  have d1:=(by
   refine' Ya (x:="_law_sign") (st:=Ts) (ps:=["_law_cell"]) KX G ?a ?l ?c ?k (fun _ _ _ _ _ _ us hl=>match us,hl with | [_],_=>rfl)
   (case a=>k_is);(case l=>k_is);(case c=>k_is);(case k=>k_is))
  have d2:=(by
   refine' Ya (x:="_law_letters") (st:=Wu) (ps:=["_law_box"]) KX G ?a ?l ?c ?k (fun _ _ _ _ _ _ us hl=>match us,hl with | [_],_=>rfl)
   (case a=>k_is);(case l=>k_is);(case c=>k_is);(case k=>k_is))
  have d3:=(by
   refine' Ya (x:="_law_runs") (st:=Tt) (ps:=["_law_box","_law_letters_here"]) KX G ?a ?l ?c ?k (fun _ _ _ _ _ _ us hl=>match us,hl with | [_,_],_=>rfl)
   (case a=>k_is);(case l=>k_is);(case c=>k_is);(case k=>k_is))
  have d4:=(by
   refine' Ya (x:="_law_leaf") (st:=Tu) (ps:=["_law_box","_law_letters_here","_law_count"]) KX G ?a ?l ?c ?k (fun _ _ _ _ _ _ us hl=>match us,hl with | [_,_,_],_=>rfl)
   (case a=>k_is);(case l=>k_is);(case c=>k_is);(case k=>k_is))
  have d5:=(by
   refine' Ya (x:="_law_parts") (st:=Vw) (ps:=["_law_box","_law_letters_here","_law_count","_law_deep","_law_word"]) KX G ?a ?l ?c ?k (fun _ _ _ _ _ _ us hl=>match us,hl with | [_,_,_,_,_],_=>rfl)
   (case a=>k_is);(case l=>k_is);(case c=>k_is);(case k=>k_is))
  have d6:=(by
   refine' Ya (x:="_law_times") (st:=Vv) (ps:=["_law_box","_law_letters_here","_law_count","_law_deep"]) KX G ?a ?l ?c ?k (fun _ _ _ _ _ _ us hl=>match us,hl with | [_,_,_,_],_=>rfl)
   (case a=>k_is);(case l=>k_is);(case c=>k_is);(case k=>k_is))
  have d7:=(by
   refine' Ya (x:="_law_pattern") (st:=Wt) (ps:=["_law_box","_law_letters_here","_law_count","_law_deep"]) KX G ?a ?l ?c ?k (fun _ _ _ _ _ _ us hl=>match us,hl with | [_,_,_,_],_=>rfl)
   (case a=>k_is);(case l=>k_is);(case c=>k_is);(case k=>k_is))
  have d8:=(by
   refine' Ya (x:="_law_drawn") (st:=Vy) (ps:=["_law_box","_law_letters_here","_law_plain"]) KX G ?a ?l ?c ?k (fun _ _ _ _ _ _ us hl=>match us,hl with | [_,_,_],_=>rfl)
   (case a=>k_is);(case l=>k_is);(case c=>k_is);(case k=>k_is))
  have d9:=(by
   refine' Ya (x:="_law_nested") (st:=U7) (ps:=["_law_box","_law_letters_here","_law_deep"]) KX G ?a ?l ?c ?k (fun _ _ _ _ _ _ us hl=>match us,hl with | [_,_,_],_=>rfl)
   (case a=>k_is);(case l=>k_is);(case c=>k_is);(case k=>k_is))
  have d10:=(by
   refine' Ya (x:="_law_wide") (st:=Tp) (ps:=["_law_box","_law_letters_here","_law_one","_law_two"]) KX G ?a ?l ?c ?k (fun _ _ _ _ _ _ us hl=>match us,hl with | [_,_,_,_],_=>rfl)
   (case a=>k_is);(case l=>k_is);(case c=>k_is);(case k=>k_is))
  have d11:=(by
   refine' Ya (x:="_law_many_groups") (st:=X6) (ps:=["_law_letters_here","_law_many"]) KX G ?a ?l ?c ?k (fun _ _ _ _ _ _ us hl=>match us,hl with | [_,_],_=>rfl)
   (case a=>k_is);(case l=>k_is);(case c=>k_is);(case k=>k_is))
  have d12:=(by
   refine' Ya (x:="_law_some") (st:=Tr) (ps:=["_law_box","_law_letters_here"]) KX G ?a ?l ?c ?k (fun _ _ _ _ _ _ us hl=>match us,hl with | [_,_],_=>rfl)
   (case a=>k_is);(case l=>k_is);(case c=>k_is);(case k=>k_is))
  have d13:=(by
   refine' Ya (x:="_law_heavy") (st:=Us) (ps:=["_law_box"]) KX G ?a ?l ?c ?k (fun _ _ _ _ _ _ us hl=>match us,hl with | [_],_=>rfl)
   (case a=>k_is);(case l=>k_is);(case c=>k_is);(case k=>k_is))
  have p0:=(by
   refine' Ya (x:="parts_of") (st:=U6) (ps:=["pattern"]) KX G ?a ?l ?c ?k (fun _ _ _ _ _ _ us hl=>match us,hl with | [_],_=>rfl)
   (case a=>k_is);(case l=>k_is);(case c=>k_is);(case k=>k_is))
  have p1:=(by
   refine' Ya (x:="groups_in") (st:=Wv) (ps:=["pattern"]) KX G ?a ?l ?c ?k (fun _ _ _ _ _ _ us hl=>match us,hl with | [_],_=>rfl)
   (case a=>k_is);(case l=>k_is);(case c=>k_is);(case k=>k_is))
  have p2:=(by
   refine' Ya (x:="patterns_in") (st:=Xu) (ps:=["pattern"]) KX G ?a ?l ?c ?k (fun _ _ _ _ _ _ us hl=>match us,hl with | [_],_=>rfl)
   (case a=>k_is);(case l=>k_is);(case c=>k_is);(case k=>k_is))
  have p3:=(by
   refine' Ya (x:="depth") (st:=J2) (ps:=["pattern"]) KX G ?a ?l ?c ?k (fun _ _ _ _ _ _ us hl=>match us,hl with | [_],_=>rfl)
   (case a=>k_is);(case l=>k_is);(case c=>k_is);(case k=>k_is))
  have p4:=(by
   refine' Ya (x:="runs_keep") (st:=Ws) (ps:=["runs"]) KX G ?a ?l ?c ?k (fun _ _ _ _ _ _ us hl=>match us,hl with | [_],_=>rfl)
   (case a=>k_is);(case l=>k_is);(case c=>k_is);(case k=>k_is))
  have p5:=(by
   refine' Ya (x:="parts_keep") (st:=V4) (ps:=["parts"]) KX G ?a ?l ?c ?k (fun _ _ _ _ _ _ us hl=>match us,hl with | [_],_=>rfl)
   (case a=>k_is);(case l=>k_is);(case c=>k_is);(case k=>k_is))
  have p6:=(by
   refine' Ya (x:="turns_keep") (st:=V3) (ps:=["low","high"]) KX G ?a ?l ?c ?k (fun _ _ _ _ _ _ us hl=>match us,hl with | [_,_],_=>rfl)
   (case a=>k_is);(case l=>k_is);(case c=>k_is);(case k=>k_is))
  have p7:=(by
   refine' Ya (x:="keeps") (st:=Z07) (ps:=["pattern","groups"]) KX G ?a ?l ?c ?k (fun _ _ _ _ _ _ us hl=>match us,hl with | [_,_],_=>rfl)
   (case a=>k_is);(case l=>k_is);(case c=>k_is);(case k=>k_is))
  have p8:=(by
   refine' Ya (x:="all_keep") (st:=Ve) (ps:=["pattern","groups"]) KX G ?a ?l ?c ?k (fun _ _ _ _ _ _ us hl=>match us,hl with | [_,_],_=>rfl)
   (case a=>k_is);(case l=>k_is);(case c=>k_is);(case k=>k_is))
  have p9:=(by
   refine' Ya (x:="keeps_bounds") (st:=W3) (ps:=["pattern"]) KX G ?a ?l ?c ?k (fun _ _ _ _ _ _ us hl=>match us,hl with | [_],_=>rfl)
   (case a=>k_is);(case l=>k_is);(case c=>k_is);(case k=>k_is))
  have p10:=(by
   refine' Ya (x:="is_sign") (st:=Uu) (ps:=["sign"]) KX G ?a ?l ?c ?k (fun _ _ _ _ _ _ us hl=>match us,hl with | [_],_=>rfl)
   (case a=>k_is);(case l=>k_is);(case c=>k_is);(case k=>k_is))
  have p11:=(by
   refine' Ya (x:="read_pattern") (st:=Xi) (ps:=["text"]) KX G ?a ?l ?c ?k (fun _ _ _ _ _ _ us hl=>match us,hl with | [_],_=>rfl)
   (case a=>k_is);(case l=>k_is);(case c=>k_is);(case k=>k_is))
  have p12:=(by
   refine' Ya (x:="pattern_text") (st:=Yj) (ps:=["pattern"]) KX G ?a ?l ?c ?k (fun _ _ _ _ _ _ us hl=>match us,hl with | [_],_=>rfl)
   (case a=>k_is);(case l=>k_is);(case c=>k_is);(case k=>k_is))
  have p13:=(by
   refine' Ya (x:="sign_text") (st:=Wr) (ps:=["sign","stroked"]) KX G ?a ?l ?c ?k (fun _ _ _ _ _ _ us hl=>match us,hl with | [_,_],_=>rfl)
   (case a=>k_is);(case l=>k_is);(case c=>k_is);(case k=>k_is))
  have p14:=(by
   refine' Ya (x:="run_text") (st:=Vc) (ps:=["low","high"]) KX G ?a ?l ?c ?k (fun _ _ _ _ _ _ us hl=>match us,hl with | [_,_],_=>rfl)
   (case a=>k_is);(case l=>k_is);(case c=>k_is);(case k=>k_is))
  have p15:=(by
   refine' Ya (x:="wrapped_text") (st:=Xh) (ps:=["part","kinds"]) KX G ?a ?l ?c ?k (fun _ _ _ _ _ _ us hl=>match us,hl with | [_,_],_=>rfl)
   (case a=>k_is);(case l=>k_is);(case c=>k_is);(case k=>k_is))
  have p16:=(by
   refine' Ya (x:="turns_text") (st:=W7) (ps:=["low","high","how"]) KX G ?a ?l ?c ?k (fun _ _ _ _ _ _ us hl=>match us,hl with | [_,_,_],_=>rfl)
   (case a=>k_is);(case l=>k_is);(case c=>k_is);(case k=>k_is))
  have l0:=(by
   refine' Ya (x:="_law_written") (st:=Xj) (ps:=["_law_p"]) KX G ?a ?l ?c ?k (fun _ _ _ _ _ _ us hl=>match us,hl with | [_],_=>rfl)
   (case a=>k_is);(case l=>k_is);(case c=>k_is);(case k=>k_is))
  have l1:=(by
   refine' Ya (x:="_law_signed") (st:=Vd) (ps:=["_law_sign_here","_law_special"]) KX G ?a ?l ?c ?k (fun _ _ _ _ _ _ us hl=>match us,hl with | [_,_],_=>rfl)
   (case a=>k_is);(case l=>k_is);(case c=>k_is);(case k=>k_is))
  have l2:=(by
   refine' Ya (x:="_law_run_text") (st:=W8) (ps:=["_law_run"]) KX G ?a ?l ?c ?k (fun _ _ _ _ _ _ us hl=>match us,hl with | [_],_=>rfl)
   (case a=>k_is);(case l=>k_is);(case c=>k_is);(case k=>k_is))
  have l3:=(by
   refine' Ya (x:="_law_inner") (st:=Vx) (ps:=["_law_p","_law_words"]) KX G ?a ?l ?c ?k (fun _ _ _ _ _ _ us hl=>match us,hl with | [_,_],_=>rfl)
   (case a=>k_is);(case l=>k_is);(case c=>k_is);(case k=>k_is))
  have l4:=(by
   refine' Ya (x:="_law_leaf_text") (st:=X9) (ps:=["_law_p"]) KX G ?a ?l ?c ?k (fun _ _ _ _ _ _ us hl=>match us,hl with | [_],_=>rfl)
   (case a=>k_is);(case l=>k_is);(case c=>k_is);(case k=>k_is))
  have l5:=(by
   refine' Ya (x:="_law_alike") (st:=Ut) (ps:=["_law_found","_law_due"]) KX G ?a ?l ?c ?k (fun _ _ _ _ _ _ us hl=>match us,hl with | [_,_],_=>rfl)
   (case a=>k_is);(case l=>k_is);(case c=>k_is);(case k=>k_is))
  have c0:∃t,mg "MOST_DEEP" = some (.int 8 t):=by
   refine' Xp KX G ?a
   (case a=>k_is)
  have c1:∃t,mg "MOST_GROUPS" = some (.int 9 t):=by
   refine' Xp KX G ?a
   (case a=>k_is)
  have c2:∃t,mg "MOST_PATTERNS" = some (.int 60 t):=by
   refine' Xp KX G ?a
   (case a=>k_is)
  have c3:∃t,mg "MOST_PARTS" = some (.int 8 t):=by
   refine' Xp KX G ?a
   (case a=>k_is)
  have c4:∃t,mg "MOST_RUNS" = some (.int 8 t):=by
   refine' Xp KX G ?a
   (case a=>k_is)
  have c5:∃t,mg "MOST_TURNS" = some (.int 9 t):=by
   refine' Xp KX G ?a
   (case a=>k_is)
  have c6:∃t,mg "BLANK" = some (.int 32 t):=by
   refine' Xp KX G ?a
   (case a=>k_is)
  have c7:∃t,mg "LAST_SIGN" = some (.int 126 t):=by
   refine' Xp KX G ?a
   (case a=>k_is)
  have c8:∃t,mg "PERCENT" = some (.int 37 t):=by
   refine' Xp KX G ?a
   (case a=>k_is)
  have c9:∃t,mg "DIGITS" = some (.str Seek.digS t):=by
   refine' Jj KX G ?a
   (case a=>k_is)
  have c10:∃t,mg "STROKED" = some (.str Seek.stroked t):=by
   refine' Jj KX G ?a
   (case a=>k_is)
  have c11:∃t,mg "STROKED_IN_RUNS" = some (.str Zy t):=by
   refine' Jj KX G ?a
   (case a=>k_is)
  have c12:∃pl,mg "BARE" = some (.ref pl)/\L2.DcK (Z87 KX) w pl Seek.bareT:=by
   dsimp only[Z87]
   refine' Z0r KX G ?a ?l ?d ?e ?n
   (case a=>k_is);(case l=>k_is)
   (case d=>decide);(case e=>exact⟨rfl,rfl,rfl⟩);(case n=>decide +kernel)
  have c13:∃pl,mg "LISTS" = some (.ref pl)/\L2.DcK (Z87 KX) w pl Yn:=by
   dsimp only[Z87]
   refine' Z5l KX G ?a ?l ?d ?e ?n
   (case a=>k_is);(case l=>k_is)
   (case d=>decide);(case e=>exact⟨rfl,rfl⟩);(case n=>decide +kernel)
  have c14:∃pl,mg "BRACKETS" = some (.ref pl)/\L2.DcK (Z87 KX) w pl Seek.bracketsT:=by
   dsimp only[Z87]
   refine' Z5k KX G ?a ?l ?d ?e ?n
   (case a=>k_is);(case l=>k_is)
   (case d=>decide);(case e=>exact⟨rfl,rfl,rfl,rfl,rfl⟩);(case n=>decide +kernel)
  have c15:∃pl,mg "HOWS" = some (.ref pl)/\L2.DcK (Z87 KX) w pl Z2r:=by
   dsimp only[Z87]
   refine' Z0r KX G ?a ?l ?d ?e ?n
   (case a=>k_is);(case l=>k_is)
   (case d=>decide);(case e=>exact⟨rfl,rfl,rfl⟩);(case n=>decide +kernel)
  have c16:∃pl,mg "WRAPPED_IN_ROW" = some (.ref pl)/\∀H,L2.SqT (Z87 KX) H pl Ym:=by
   dsimp only[Z87]
   refine' Z81 KX G ?a ?l
   (case a=>k_is);(case l=>k_is)
  have c17:∃pl,mg "WRAPPED_IN_TIMES" = some (.ref pl)/\∀H,L2.SqT (Z87 KX) H pl Y7:=by
   dsimp only[Z87]
   refine' Z80 KX G ?a ?l
   (case a=>k_is);(case l=>k_is)
  have c18:∃pl,mg "STOPS" = some (.ref pl)/\∀H,L2.SqT (Z87 KX) H pl Th:=by
   dsimp only[Z87]
   refine' Z7z KX G ?a ?l
   (case a=>k_is);(case l=>k_is)
  have c19:∃pl,mg "PART_LAST" = some (.ref pl)/\∀H,L2.SqT (Z87 KX) H pl Wj:=by
   dsimp only[Z87]
   refine' Z7y KX G ?a ?l
   (case a=>k_is);(case l=>k_is)
  obtain⟨CR,rd⟩:=rd
  refine' Zcn KX G hmg ?a ?l ?c ?k (Ze6 T ⟨c0,c1,c2,c3,c4,c5,c6,c7,c8,c9,c10,c11,c12,c13,c14,c15,c16,c17,c18,c19⟩ rd ⟨d0,d1,d2,d3,d4,d5,d6,d7,d8,d9,d10,d11,d12,d13⟩ ⟨p0,p1,p2,p3,p4,p5,p6,p7,p8,p9,p10,p11,p12,p13,p14,p15,p16⟩ ⟨l0,l1,l2,l3,l4,l5⟩)
  (case a=>k_is);(case l=>k_is);(case c=>k_is);(case k=>k_is)