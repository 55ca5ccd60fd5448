import PyProof.Rows.All
import Wide.All
import OpenK.AllK
import Wide.FinOn
import Lean
import PyProof.EqAt
import PyProof.EqKinds
import PyProof.TupleCall
import PyProof.StrLawsIdx
import PySem.Challenge.RW_seek_k28_whole_many_finds
set_option Elab.async false
set_option linter.all false
set_option maxRecDepth 100000
set_option maxHeartbeats 4000000
namespace L2
open PySem PySem.Spec PyProof.Rows
abbrev Us:=Sum Int Str
def Z2k:Us->Value->Bool
 |.inl k,v=>Value.isInt k v
 |.inr x,v=>Value.isStrOf x v
def Zji(w:World):Us->Int
 |.inl k=>hashInt k
 |.inr x=>hashStr w x
theorem Yq:∀ {k:Us} {v:Value},Z2k k v=true->(∃i t,k=Sum.inl i/\v=Value.int i t)∨(∃x t,k=Sum.inr x/\v=Value.str x t)
 |.inl i,v,h=>by
  obtain⟨t,e⟩:=Value.isInt_shape (k:=i) (v:=v) h
  exact .inl ⟨i,t,rfl,e⟩
 |.inr x,v,h=>by
  obtain⟨t,e⟩:=Value.isStrOf_shape (x:=x) (v:=v) h
  exact .inr ⟨x,t,rfl,e⟩
theorem Z9y(i:Int)(t:Tok):Z2k (.inl i) (.int i t)=true:=by simp[Z2k,Value.isInt]
theorem Z09(x:Str)(t:Tok):Z2k (.inr x) (.str x t)=true:=by simp[Z2k,Value.isStrOf]
theorem Zha(a b:Int):decide ((Sum.inl a:Us)=Sum.inl b)=(a==b):=by
 by_cases e:a=b
 ·subst e;simp
 ·have h:¬(Sum.inl a:Us)=Sum.inl b:=fun q=>e (Sum.inl.inj q)
  rw[decide_eq_false h]
  exact(beq_eq_false_iff_ne.mpr e).symm
theorem Zh7(a b:Str):decide ((Sum.inr a:Us)=Sum.inr b)=decide (a=b):=by
 by_cases e:a=b
 ·subst e;simp
 ·have h:¬(Sum.inr a:Us)=Sum.inr b:=fun q=>e (Sum.inr.inj q)
  rw[decide_eq_false h,decide_eq_false e]
theorem Zh9(a:Int)(b:Str):decide ((Sum.inl a:Us)=Sum.inr b)=false:=decide_eq_false (fun q=>nomatch q)
theorem Zh8(a:Str)(b:Int):decide ((Sum.inr a:Us)=Sum.inl b)=false:=decide_eq_false (fun q=>nomatch q)
def V0(prog:Program)(w:World):PySem.KeyKind prog w Us where
 is:=Z2k
 hash:=Zji w
 inj:=fun v a b ha hb=>by
  rcases Yq ha with⟨i,t,rfl,rfl⟩ | ⟨x,t,rfl,rfl⟩
  ·rcases Yq hb with⟨j,u,rfl,e⟩ | ⟨y,u,rfl,e⟩
   ·injection e with e1 _;rw[e1]
   ·exact nomatch e
  ·rcases Yq hb with⟨j,u,rfl,e⟩ | ⟨y,u,rfl,e⟩
   ·exact nomatch e
   ·injection e with e1 _;rw[e1]
 byValue:=fun k v h=>by
  rcases Yq h with⟨i,t,rfl,rfl⟩ | ⟨x,t,rfl,rfl⟩ <;> rfl
 pyHash:=fun hv h=>by
  rcases Yq hv with⟨i,t,rfl,rfl⟩ | ⟨x,t,rfl,rfl⟩
  ·exact wpAny_pyHash_int h
  ·exact wpAny_pyHash_str h
 eqBool:=fun hu hv h=>by
  rcases Yq hu with⟨i,t,rfl,rfl⟩ | ⟨x,t,rfl,rfl⟩
  ·rcases Yq hv with⟨j,u,rfl,rfl⟩ | ⟨y,u,rfl,rfl⟩
   ·rw[Zha]at h;exact wpAny_eqBool_int h
   ·rw[Zh9]at h;exact SeqAt.EqAt.int_str i t y u _ _ _ _ h
  ·rcases Yq hv with⟨j,u,rfl,rfl⟩ | ⟨y,u,rfl,rfl⟩
   ·rw[Zh8]at h;exact SeqAt.EqAt.str_int x t j u _ _ _ _ h
   ·rw[Zh7]at h;exact wpAny_eqBool_str h
 «strs»:=fun k x t v h=>by
  rcases Yq h with⟨i,u,rfl,e⟩ | ⟨y,u,rfl,e⟩
  ·exact nomatch e
  ·injection e with e1 _
   subst e1
   cases v <;> rfl
theorem Z59(prog:Program)(w:World)(i:Int)(t:Tok):(V0 prog w).is (.inl i) (.int i t)=true:=Z9y i t
theorem Z58(prog:Program)(w:World)(x:Str)(t:Tok):(V0 prog w).is (.inr x) (.str x t)=true:=Z09 x t
inductive V where
 |non | bl (b:Bool) | int (i:Int) | str (x:Str) | byt (b:Array UInt8) | flt (b:UInt64) | ref (a:Addr) | ty (n:String)
 deriving DecidableEq
def RelV:V->Value->Prop
 |.non,u=>u=Value.none
 |.bl b,u=>u=Value.bool b
 |.int i,u=>∃t,u=Value.int i t
 |.str x,u=>∃t,u=Value.str x t
 |.byt b,u=>∃t,u=Value.bytes b t
 |.flt b,u=>∃t,u=Value.float b t
 |.ref a,u=>u=Value.ref a
 |.ty n,u=>u=Value.type n
abbrev Vals:List V->List Value->Prop:=Paired RelV
theorem Vals.length{xs:List V}{us:List Value}(r:Vals xs us):xs.length=us.length:=Paired.length r
theorem Vals.get:∀ {xs:List V} {us:List Value} {i:Nat} {x:V},Vals xs us->xs[i]? = some x->∃u,us[i]? = some u/\RelV x u
 |_,_,_,_,.nil,e=>by simp at e
 |_,_,0,_,.cons r _,e=>by simp at e;subst e;exact⟨_,rfl,r⟩
 |_,_,i+1,x,.cons _ t,e=>by
  obtain⟨u,h1,h2⟩:=Vals.get (i:=i) (x:=x) t (by simpa using e)
  exact⟨u,by simpa using h1,h2⟩
theorem Vals.set{x:V}{u:Value}(r:RelV x u):∀ {xs:List V} {us:List Value} (i:Nat),Vals xs us->Vals (xs.set i x) (us.set i u)
 |_,_,_,.nil=>.nil
 |_,_,0,.cons _ t=>.cons r t
 |_,_,i+1,.cons q t=>.cons q (Vals.set r i t)
theorem Vals.append:∀ {xs ys:List V} {us ws:List Value},Vals xs us->Vals ys ws->Vals (xs++ys) (us++ws)
 |_,_,_,_,.nil,s=>s
 |_,_,_,_,.cons r t,s=>.cons r (Vals.append t s)
theorem Vals.take:∀ {xs:List V} {us:List Value} (n:Nat),Vals xs us->Vals (xs.take n) (us.take n)
 |_,_,0,_=>.nil
 |_,_,_+1,.nil=>.nil
 |_,_,n+1,.cons r t=>.cons r (Vals.take n t)
theorem Vals.drop:∀ {xs:List V} {us:List Value} (n:Nat),Vals xs us->Vals (xs.drop n) (us.drop n)
 |_,_,0,r=>r
 |_,_,_+1,.nil=>.nil
 |_,_,n+1,.cons _ t=>Vals.drop n t
def RelO:Option V->Option Value->Prop
 |some v,some u=>RelV v u
 |none,none=>True
 |_,_=>False
def KV{κ:Type}:List (κ×V)->List (κ×Value)->Prop:=Paired fun(p:κ×V) (q:κ×Value)=>p.1=q.1/\RelV p.2 q.2
def kV:Us->V
 |.inl i=>.int i
 |.inr x=>.str x
inductive HO where
 /-- a list -/
 |lst (xs:List V)
 /-- a tuple (never changes) -/
 |tup (xs:List V)
 /-- a dict whose keys are ints and texts;one whose keys are tuples of ints and texts (the empty one is both) -/
 |dK (kvs:List (Us×V)) | dT (kvs:List (List Us×V))
 /-- a set of ints: its members,its size -/
 |set (S:Int->Bool) (n:Nat)
 /-- an instance of the class at C,its dict at dx,its attributes -/
 |ins (C dx:Addr) (fs:List (Str×V))
 /-- the dict of the instance at x -/
 |own (x:Addr)
 /-- the dict of an exception -/
 |xd (fs:List (Str×V))
 /-- a bound method,f of x -/
 |met (f x:Addr)
 /-- a range object lo,lo+1,.. below hi -/
 |rng (lo hi:Int)
 /-- a thing that is known to the object (the script;a dict while a loop walks it): read,never written while it is so -/
 |frz (o:Obj) (u:HO)
 /-- a code object's table -/
 |tbl (ps:Array Value)
 /-- any other thing,by what is true of its one object (a def of one's own: SetO a S n:=HO.ext fun h=>..) -/
 |ext (φ:Heap->Prop)
abbrev Hp:=Addr->Option HO
def Zq(H:Hp)(a:Addr)(o:HO):Hp:=fun b=>if b=a then some o else H b
theorem Z3{H:Hp}{a:Addr}{o:HO}:Zq H a o a=some o:=by unfold Zq;rw[if_pos rfl]
theorem Zt{H:Hp}{a b:Addr}{o:HO}(h:b≠a):Zq H a o b=H b:=by unfold Zq;rw[if_neg h]
theorem Z7x{H:Hp}{a:Addr}{o u:HO}:Zq (Zq H a o) a u=Zq H a u:=by
 funext b;unfold Zq;split <;> rfl
theorem Zcv{H:Hp}{a b:Addr}{o u:HO}(h:H a=some o)(h':H b=some u)(d:o≠u):a≠b:=by
 intro e;subst e;rw[h]at h';exact d (Option.some.inj h')
theorem Za{H:Hp}{a b:Addr}{o:HO}(h:H a=some o)(h':H b=none):a≠b:=by
 intro e;subst e;rw[h]at h';cases h'
section
variable(P:Program)(w:World)
def ObjOk(H:Hp)(h:Heap)(a:Addr):HO->Prop
 |.lst xs=>xs.length<=sizeLine/\∃(its:List Value) (n:Nat),Vals xs its/\h.get? a=some { cls:=.type "list",data:=.seq its.toArray n }
 |.tup xs=>xs.length<=sizeLine/\∃its:List Value,Vals xs its/\IsTup h a its.toArray
 |.dK kvs=>kvs.length<=sizeLine/\(a==sysModules)=false/\∃vs,KV kvs vs/\h.DictOf (V0 P w) a vs
 |.dT kvs=>kvs.length<=sizeLine/\(a==sysModules)=false/\∃xs:List (List Us×Addr×Value),
   Paired (fun(p:List Us×V) (q:List Us×Addr×Value)=>p.1=q.1/\H q.2.1=some (.tup (p.1.map kV))/\RelV p.2 q.2.2) kvs xs /\
   ∃o es ep,h.get? a=some o/\o.ExactDict/\o.data=.dict es ep/\es.toList=xs.map (entryOfKey (tupleKind (V0 P w)))/\(xs.map (·.1)).Nodup
 |.set S n=>h.SetOf (intKind P w) a S n
 |.ins C dx fs=>H dx=some (.own a)/\fs.length<=1000/\dx≠a/\h.get? a=some (W.instObj C dx) /\
   ∃mA,h.Ns1 dx mA/\(∀f,RelO (fs.lookup f) (mA f))/\PySem.Within mA (fs.map (·.1))
 |.own _=>∃o,h.get? a=some o
 |.xd fs=>∃mA,h.Ns1 a mA/\∀f,RelO (fs.lookup f) (mA f)
 |.rng lo hi=>∃t u v,h.get? a=some { cls:=.type "range",data:=.fields #[.int lo t,.int hi u,.int 1 v] }
 |.frz o u=>h.get? a=some o/\ObjOk H h a u
 |.tbl ps=>h.get? a=some { cls:=.none,data:=.fields ps }
 |.met f x=>h.get? a=some (W.methodObj (.ref f) (.ref x))
 |.ext φ=>φ h/\(∃o,h.get? a=some o)/\∀h1 h2:Heap,φ h1->(∀o,h1.get? a=some o->h2.get? a=some o)->φ h2
def HOk(H:Hp)(h:Heap):Prop:=∀a o,H a=some o->ObjOk P w H h a o
end
section
variable{P:Program}{w:World}{H H':Hp}{h h':Heap}{a:Addr}{o:HO}
theorem ObjOk.lt(x:ObjOk P w H h a o):a<h.objs.size:=by
 cases o with
 |lst xs=>obtain⟨_,_,_,_,e⟩:=x;exact Heap.lt_size e
 |tup xs=>obtain⟨_,_,_,p⟩:=x;exact p.lt
 |dK kvs=>obtain⟨_,_,_,_,o,_,_,e,_⟩:=x;exact Heap.lt_size e
 |dT kvs=>obtain⟨_,_,_,_,o,_,_,e,_⟩:=x;exact Heap.lt_size e
 |set S n=>obtain⟨o,_,_,_,e,_⟩:=x;exact Heap.lt_size e
 |ins C dx fs=>obtain⟨_,_,_,e,_⟩:=x;exact Heap.lt_size e
 |own y=>obtain⟨_,e⟩:=x;exact Heap.lt_size e
 |xd fs=>obtain⟨_,⟨_,_,_,e,_⟩,_⟩:=x;exact Heap.lt_size e
 |rng lo hi=>obtain⟨_,_,_,e⟩:=x;exact Heap.lt_size e
 |frz ob u=>obtain⟨e,_⟩:=x;exact Heap.lt_size e
 |tbl ps=>exact Heap.lt_size (show h.get? a=some _ from x)
 |met f y=>exact Heap.lt_size (show h.get? a=some _ from x)
 |ext φ=>obtain⟨_,⟨_,e⟩,_⟩:=x;exact Heap.lt_size e
theorem Paired.mapP{α β:Type}{F G:α->β->Prop}:∀ {l₁:List α} {l₂:List β},Paired F l₁ l₂->(∀a b,F a b->G a b)->Paired G l₁ l₂
 |_,_,.nil,_=>.nil
 |_,_,.cons r t,f=>.cons (f _ _ r) (Paired.mapP t f)
theorem ObjOk.stay(x:ObjOk P w H h a o)(k:∀b u,(b=a∨H b=some (.own a))->h.get? b=some u->h'.get? b=some u)
  (ho:∀b,H b=some (.own a)->H' b=some (.own a)) (ht:∀b xs,H b=some (.tup xs)->H' b=some (.tup xs)):ObjOk P w H' h' a o:=by
 induction o with
 |lst xs=>obtain⟨z,its,n,r,e⟩:=x;exact⟨z,its,n,r,k _ _ (.inl rfl) e⟩
 |tup xs=>obtain⟨z,its,r,ob,e,c⟩:=x;exact⟨z,its,r,ob,k _ _ (.inl rfl) e,c⟩
 |dK kvs=>obtain⟨z,y,vs,r,ob,es,ep,e,c⟩:=x;exact⟨z,y,vs,r,ob,es,ep,k _ _ (.inl rfl) e,c⟩
 |dT kvs =>
  obtain⟨z,y,xs,r,ob,es,ep,e,c⟩:=x
  exact⟨z,y,xs,Paired.mapP r fun p q z=>⟨z.1,ht _ _ z.2.1,z.2.2⟩,ob,es,ep,k _ _ (.inl rfl) e,c⟩
 |set S n=>obtain⟨ob,es,ep,t,e,c⟩:=x;exact⟨ob,es,ep,t,k _ _ (.inl rfl) e,c⟩
 |ins C dx fs =>
  obtain⟨d,z,ne,e,mA,⟨od,es,ep,e2,c⟩,r⟩:=x
  exact⟨ho _ d,z,ne,k _ _ (.inl rfl) e,mA,⟨od,es,ep,k _ _ (.inr d) e2,c⟩,r⟩
 |own y=>obtain⟨ob,e⟩:=x;exact⟨ob,k _ _ (.inl rfl) e⟩
 |xd fs=>obtain⟨mA,⟨od,es,ep,e,c⟩,r⟩:=x;exact⟨mA,⟨od,es,ep,k _ _ (.inl rfl) e,c⟩,r⟩
 |rng lo hi=>obtain⟨t,u,v,e⟩:=x;exact⟨t,u,v,k _ _ (.inl rfl) e⟩
 |frz ob u ih=>obtain⟨e,q⟩:=x;exact⟨k _ _ (.inl rfl) e,ih q⟩
 |tbl ps =>
  have e:h.get? a=some { cls:=.none,data:=.fields ps }:=x
  show h'.get? a=some { cls:=.none,data:=.fields ps }
  exact k a _ (.inl rfl) e
 |met f y =>
  have e:h.get? a=some (W.methodObj (.ref f) (.ref y)):=x
  show h'.get? a=some (W.methodObj (.ref f) (.ref y))
  exact k a _ (.inl rfl) e
 |ext φ=>obtain⟨p,⟨o,e⟩,st⟩:=x;exact⟨st _ _ p fun o q=>k _ _ (.inl rfl) q,⟨o,k _ _ (.inl rfl) e⟩,st⟩
theorem HOk.lt(x:HOk P w H h)(e:H a=some o):a<h.objs.size:=(x a o e).lt
theorem HOk.fresh(x:HOk P w H h)(e:h.objs.size<=a):H a=none:=by
 cases q:H a with
 |none=>rfl
 |some u=>exact absurd (Nat.lt_of_lt_of_le (x.lt q) e) (Nat.lt_irrefl _)
theorem HOk.kept(x:HOk P w H h)(k:∀b u,h.get? b=some u->h'.get? b=some u):HOk P w H h':=fun a o e =>
 (x a o e).stay (fun b u _ q=>k b u q) (fun _ q=>q) fun _ _ q=>q
theorem HOk.laid(x:HOk P w H h)(k:∀b u,h.get? b=some u->h'.get? b=some u)(hp:h.objs.size<=a)(new:ObjOk P w (Zq H a o) h' a o):HOk P w (Zq H a o) h':=fun b u e=>by
 have hn:=x.fresh hp
 by_cases hb:b=a
 ·subst hb;rw[Z3]at e;cases e;exact new
 ·rw[Zt hb]at e
  exact(x b u e).stay (fun c v _ q=>k c v q) (fun c q=>by rw[Zt (Za q hn)];exact q) fun c xs q=>by rw[Zt (Za q hn)];exact q
end
def Rd(H:Hp)(a:Addr)(u:HO):Prop:=H a=some u∨∃o,H a=some (.frz o u)
theorem Rd.ok{P:Program}{w:World}{H:Hp}{h:Heap}{a:Addr}{u:HO}(r:Rd H a u)(x:HOk P w H h):ObjOk P w H h a u:=by
 rcases r with r | ⟨o,r⟩
 ·exact x a u r
 ·obtain⟨_,q⟩:=x a _ r
  exact q
def Zk4:Option HO->Prop
 |some (.lst _)=>True
 |some (.dK _)=>True
 |some (.dT _)=>True
 |some (.set _ _)=>True
 |some (.ins _ _ _)=>True
 |some (.ext _)=>True
 |_=>False
section
variable{P:Program}{w:World}{H:Hp}{h h':Heap}{x e:Addr}{o':HO}
theorem HOk.write(ok:HOk P w H h)(mu:Zk4 (H x))(he:e=x∨H e=some (.own x))(k:∀b u,b≠e->h.get? b=some u->h'.get? b=some u)(heo:∃u,h'.get? e=some u)
  (new:ObjOk P w (Zq H x o') h' x o'):HOk P w (Zq H x o') h':=fun b u q=>by
 have nown:∀c y,H c=some (.own y)->c≠x:=fun c y r z=>by subst z;rw[r]at mu;exact mu
 have ntup:∀c xs,H c=some (.tup xs)->c≠x:=fun c xs r z=>by subst z;rw[r]at mu;exact mu
 by_cases hb:b=x
 ·subst hb;rw[Z3]at q;cases q;exact new
 ·rw[Zt hb]at q
  by_cases hbe:b=e
  ·have q':H b=some (.own x):=by
    rcases he with z | z
    ·exact absurd (hbe.trans z) hb
    ·rw[hbe];exact z
   rw[q]at q';cases q'
   obtain⟨v,hv⟩:=heo
   exact⟨v,by rw[hbe];exact hv⟩
  ·refine(ok b u q).stay (fun c v hc r=>k c v ?_ r) (fun c r=>by rw[Zt (nown c b r)];exact r) fun c xs r=>by rw[Zt (ntup c xs r)];exact r
   rcases hc with rfl | hc
   ·exact hbe
   ·rintro rfl
    rcases he with z | z
    ·exact nown c b hc z
    ·rw[hc]at z;cases z;exact hb rfl
end
structure Un(fs ex:List Addr)(H H':Hp)(h h':Heap):Prop where
 keep:∀b o,h.get? b=some o->H b=none->b∉fs->b∉ex->h'.get? b=some o
 slot:∀b o,h.get? b=some o->H b=none->b∈fs->b∉ex->∃sl,h'.get? b=some { o with slots:=sl }
 free:∀b o,h.get? b=some o->H b=none->b∉ex->H' b=none
 there:∀b o,h.get? b=some o->b∉ex->∃o',h'.get? b=some o'
 tups:∀b xs,H b=some (.tup xs)->H' b=some (.tup xs)
 frzs:∀b o u,H b=some (.frz o u)->H' b=some (.frz o u)
 tbls:∀b ps,H b=some (.tbl ps)->∃more,H' b=some (.tbl (ps++more))
section
variable{fs fs' ex ex':List Addr}{H H1 H2:Hp}{h h1 h2 h':Heap}{a x e:Addr}{o:HO}
theorem Un.any(u:Un fs ex H H1 h h1){b:Addr}{ob:Obj}(q:h.get? b=some ob)(n:H b=none)(hx:b∉ex):∃sl,h1.get? b=some { ob with slots:=sl }:=by
 by_cases hb:b∈fs
 ·exact u.slot b ob q n hb hx
 ·exact⟨ob.slots,u.keep b ob q n hb hx⟩
theorem Un.kept(k:∀b u,h.get? b=some u->h'.get? b=some u):Un fs ex H H h h' :=
 ⟨fun b ob q _ _ _=>k b ob q,fun b ob q _ _ _=>⟨ob.slots,k b ob q⟩,fun _ _ _ n _=>n,fun b ob q _=>⟨ob,k b ob q⟩,fun _ _ q=>q,fun _ _ _ q=>q,fun _ ps q=>⟨#[],by rw[q];simp⟩⟩
theorem Un.refl:Un fs ex H H h h:=Un.kept fun _ _ q=>q
theorem Un.laid(k:∀b u,h.get? b=some u->h'.get? b=some u)(hp:h.objs.size<=a)(hn:H a=none):Un fs ex H (Zq H a o) h h' where
 keep:=fun b u q _ _ _=>k b u q
 slot:=fun b u q _ _ _=>⟨u.slots,k b u q⟩
 free:=fun b u q n _=>by rw[Zt (Nat.ne_of_lt (Nat.lt_of_lt_of_le (Heap.lt_size q) hp))];exact n
 there:=fun b u q _=>⟨u,k b u q⟩
 tups:=fun b xs q=>by rw[Zt (Za q hn)];exact q
 frzs:=fun b u xs q=>by rw[Zt (Za q hn)];exact q
 tbls:=fun b ps q=>⟨#[],by rw[Zt (Za q hn),q];simp⟩
theorem Un.write(mu:Zk4 (H x))(he:e=x∨H e=some (.own x))(k:∀b u,b≠e->h.get? b=some u->h'.get? b=some u)(heo:∃u,h'.get? e=some u):Un fs ex H (Zq H x o) h h':=by
 have hx:∀b,H b=none->b≠x:=fun b n z=>by subst z;rw[n]at mu;exact mu
 have hb:∀b,H b=none->b≠e:=fun b n z=>by
  subst z
  rcases he with r | r
  ·exact hx b n r
  ·rw[n]at r;cases r
 have hm:∀b u,H b=some u->¬Zk4 (some u)->b≠x:=fun b u q nm z=>by subst z;rw[q]at mu;exact nm mu
 refine⟨fun b u q n _ _=>k b u (hb b n) q,fun b u q n _ _=>⟨u.slots,k b u (hb b n) q⟩,fun b u q n _=>by rw[Zt (hx b n)];exact n,fun b u q _=>?_,
  fun b xs q=>by rw[Zt (hm b _ q fun z=>z)];exact q,fun b u xs q=>by rw[Zt (hm b _ q fun z=>z)];exact q,fun b ps q=>⟨#[],by rw[Zt (hm b _ q fun z=>z),q];simp⟩⟩
 by_cases hbe:b=e
 ·subst hbe;exact heo
 ·exact⟨u,k b u hbe q⟩
end
def Zju(h:Heap)(H:Hp):List Addr:=(List.range h.objs.size).filter fun a=>(H a).isSome
def Z64(h:Heap)(H:Hp):Heap:=W.hideAll h (Zju h H)
theorem Za1(h:Heap)(H:Hp):(Z64 h H).objs.size=h.objs.size:=W.hideAll_size _ _
theorem Zbp{h:Heap}{H:Hp}{b:Addr}{o:Obj}(e:h.get? b=some o)(n:H b=none):(Z64 h H).get? b=some o :=
 W.hideAll_get _ e fun hm=>by
  have q:(H b).isSome=true:=(List.mem_filter.mp hm).2
  rw[n]at q;simp at q
theorem Zeg{h:Heap}{H:Hp}{b:Addr}{o:Obj}(e:(Z64 h H).get? b=some o):h.get? b=some o/\H b=none:=by
 have e':h.get? b=some o:=W.of_hideAll (Zju h H) e
 refine⟨e',?_⟩
 cases q:H b with
 |none=>rfl
 |some x =>
  have hm:b∈Zju h H:=List.mem_filter.mpr ⟨List.mem_range.mpr (Heap.lt_size e'),by simp[q]⟩
  have z:(Z64 h H).get? b=none:=W.hideAll_none (Zju h H) hm
  rw[z]at e;cases e
def Zez(g h:Heap)(L:Addr):List (Addr×Obj):=(List.range h.objs.size).filterMap fun a=>if a=L∨(g.get? a).isSome=true then none else(h.get? a).map fun o=>(a,o)
def rest(g h:Heap)(L d:Addr):List (Addr×Obj):=(Zez g h L).filter fun p=>decide (p.1≠d)
structure Mod(K:W.Frag)(mg:Str->Option Value)(base:Heap):Prop where
 kin:K.In base
 glob:base.Ns mainGlobals mg
 blt:∃mb,base.Ns builtinsNs mb/\∀x:Str,x≠"__name__"->mb x=bootBuiltins x
 nolimit:base.NoLimit
structure Cx where
 prog:Program
 w:World
 K:W.Frag
 mg:Str->Option Value
 base:Heap
 A:Around
 N:List Str
 s₀:Shared
 H₀:Hp
 env:Env
 outer:List Env
 stack:List Env
 ex:List Addr
 fn:Str->Bool
 calm:Bool
 pn:List (Addr×Obj)
 xe:Value->Shared->Prop
def Z2r(l:List Env):List Addr:=l.filterMap (·.frame)
abbrev Cx.fs(X:Cx):List Addr:=Z2r X.outer
def Zk0(sc:Scope)(x:Str):Prop:=sc.names.lookup x=some .local∨sc.names.lookup x=some .cell∨sc.names.lookup x=some .free
def Zi6(sc:Scope)(x:Str):Prop:=sc.names.lookup x=some .local∨sc.names.lookup x=some .cell
def Zkz(env:Env)(h:Heap)(m:Str->Option Value)(x:Str)(u:Value):Prop :=
 (env.kindOf x=some .local/\m x=some u)∨((env.kindOf x=some .cell∨env.kindOf x=some .free)/\∃c,env.cells.lookup x=some c/\h.IsCell c (some u))
structure Cx.Ok(X:Cx):Prop where
 mod:Mod X.K X.mg X.base
 kind:X.env.scope.kind=.function
 glob:X.env.globals=mainGlobals
 blt:X.env.builtins=builtinsNs
 above:X.s₀.heap.objs.size<=X.env.locals
 inj:∀x y c,X.env.cells.lookup x=some c->X.env.cells.lookup y=some c->x=y
 has:∀x,(X.env.kindOf x=some .cell∨X.env.kindOf x=some .free)->∃c,X.env.cells.lookup x=some c
 cab:∀x c,X.fn x=true->X.env.cells.lookup x=some c->X.s₀.heap.objs.size<=c
 hd:X.calm=true->X.A.handled=none
 frames:X.A.frames=some X.stack
 stk:X.stack=X.outer∨(X.stack=X.env::X.outer/\X.env.frame=some X.env.locals)
 exf:∀b∈X.ex,b≠X.env.locals/\∀x c,X.env.cells.lookup x=some c->c≠b
 bs:∀b o,X.base.get? b=some o->X.s₀.heap.get? b=some o/\X.H₀ b=none
 bsz:X.base.objs.size<=X.s₀.heap.objs.size
 noex:∀b o,X.base.get? b=some o->b∉X.ex
 exfs:∀b∈X.ex,b∉X.fs
 funs:X.s₀.heap.FunFrames X.base X.outer
 frf:∀b∈X.fs,X.H₀ b=none
structure Inv(X:Cx)(Z4:List (Addr×Obj))(σ:List (Option V))(H:Hp)(s:Shared):Prop where
 ok:X.Ok
 os:s.os=X.s₀.os
 bare:AllBare s.gens
 base:Un X.fs X.ex X.H₀ H X.s₀.heap s.heap
 loc:∃m,s.heap.Ns X.env.locals m/\∀(i:Nat) (x:Str) (v:V),X.N[i]? = some x->σ[i]? = some (some v)->Zk0 X.env.scope x->∃u,RelV v u/\Zkz X.env s.heap m x u
 cell:∀x c,X.env.cells.lookup x=some c->∃v,s.heap.IsCell c v
 free:H X.env.locals=none
 freeC:∀x c,X.env.cells.lookup x=some c->H c=none
 pin:∀p∈X.pn++Z4,s.heap.get? p.1=some p.2/\H p.1=none/\p.1≠X.env.locals/\p.1∉X.fs/\∀v,p.2.data≠.cell v
 hok:HOk X.prog X.w H s.heap
 len:σ.length=X.N.length
section
variable{X:Cx}{Z4:List (Addr×Obj)}{σ:List (Option V)}{H H':Hp}{s:Shared}{h':Heap}
theorem Cx.Ok.nofr(ok:X.Ok){b:Addr}{o:Obj}(e:X.base.get? b=some o):b∉X.fs:=fun hb=>by
 have:=(ok.funs.mem hb).1
 rw[e]at this;cases this
theorem Inv.bs(I:Inv X Z4 σ H s):∀b o,X.base.get? b=some o->s.heap.get? b=some o/\H b=none:=fun b o e =>
 ⟨I.base.keep b o (I.ok.bs b o e).1 (I.ok.bs b o e).2 (I.ok.nofr e) (I.ok.noex b o e),I.base.free b o (I.ok.bs b o e).1 (I.ok.bs b o e).2 (I.ok.noex b o e)⟩
theorem Inv.bk(I:Inv X Z4 σ H s):∀b o,X.base.get? b=some o->s.heap.get? b=some o:=fun b o e=>(I.bs b o e).1
theorem Inv.mod(I:Inv X Z4 σ H s):Mod X.K X.mg X.base:=I.ok.mod
theorem Inv.kIn(I:Inv X Z4 σ H s):X.K.In s.heap:=I.ok.mod.kin.keeps I.bk
theorem Inv.fr(I:Inv X Z4 σ H s):∃m,Fr X.base X.env.locals s.heap m :=
 let⟨m,hn,_⟩:=I.loc
 ⟨m,hn,I.bk,Nat.le_trans I.ok.bsz I.ok.above⟩
theorem Inv.lt(I:Inv X Z4 σ H s):X.env.locals<s.heap.objs.size:=let⟨_,hn,_⟩:=I.loc;hn.lt
theorem Inv.sz(I:Inv X Z4 σ H s):X.s₀.heap.objs.size<=s.heap.objs.size:=Nat.le_trans I.ok.above (Nat.le_of_lt I.lt)
theorem Inv.nofs(I:Inv X Z4 σ H s){a:Addr}(h:s.heap.objs.size<=a):a∉X.fs:=fun hb=>by
 obtain⟨_,o,ho,_⟩:=I.ok.funs.mem hb
 exact absurd (Nat.lt_of_lt_of_le (Heap.lt_size ho) (Nat.le_trans I.sz h)) (Nat.lt_irrefl _)
theorem Inv.cne(I:Inv X Z4 σ H s):∀x c,X.env.cells.lookup x=some c->c≠X.env.locals:=fun x c e z=>by
 obtain⟨v,o,ho,hd⟩:=I.cell x c e
 obtain⟨m,⟨o',es,ep,ho',hd',_⟩,_⟩:=I.loc
 rw[z,ho']at ho;cases ho;rw[hd']at hd;cases hd
theorem Inv.funs(I:Inv X Z4 σ H s):s.heap.FunFrames X.base X.outer:=by
 have all:∀(l:List Env),(∀b∈Z2r l,b∈X.fs)->X.s₀.heap.FunFrames X.base l->s.heap.FunFrames X.base l:=by
  intro l
  induction l with
  |nil=>intro _ _;trivial
  |cons env r ih =>
   intro hs hl
   obtain⟨hk,⟨L,o,hf,hn,ho,hd⟩,hr⟩:=hl
   have hL:L∈X.fs:=hs L (by unfold Z2r;rw[List.filterMap_cons,hf];exact List.mem_cons_self)
   obtain⟨sl,e⟩:=I.base.slot L o ho (I.ok.frf L hL) hL fun z=>I.ok.exfs L z hL
   exact⟨hk,⟨L,_,hf,hn,e,hd⟩,ih (fun b hb=>hs b (by unfold Z2r;rw[List.filterMap_cons,hf];exact List.mem_cons_of_mem _ hb)) hr⟩
 exact all X.outer (fun _ hb=>hb) I.ok.funs
theorem Inv.stack(I:Inv X Z4 σ H s):s.heap.FunFrames X.base X.stack:=by
 rcases I.ok.stk with e | ⟨e,hf⟩
 ·rw[e];exact I.funs
 ·rw[e]
  obtain⟨m,hn,_⟩:=I.loc
  refine .cons (by rw[I.ok.kind];decide) hf hn ?_ I.funs
  exact Heap.get?_none_of_le (Nat.le_trans I.ok.bsz I.ok.above)
theorem Inv.stkSub(I:Inv X Z4 σ H s):∀b∈Z2r X.stack,b∈X.env.locals::X.fs:=fun b hb=>by
 rcases I.ok.stk with e | ⟨e,hf⟩
 ·rw[e]at hb;exact List.mem_cons_of_mem _ hb
 ·rw[e]at hb
  unfold Z2r at hb
  rw[List.filterMap_cons,hf]at hb
  exact hb
theorem Inv.stkFree(I:Inv X Z4 σ H s):∀b∈Z2r X.stack,H b=none:=fun b hb=>by
 rcases List.mem_cons.mp (I.stkSub b hb) with e | hb
 ·rw[e];exact I.free
 ·obtain⟨_,o,ho,_⟩:=I.ok.funs.mem hb
  exact I.base.free b o ho (I.ok.frf b hb) fun z=>I.ok.exfs b z hb
theorem Inv.step{g':Array GenState}{t':Nat}{d':Drawn}{ch:List Addr}(I:Inv X Z4 σ H s)
  (hch:∀b∈ch,(b∈X.ex∨X.s₀.heap.objs.size<=b)/\b≠X.env.locals/\(∀x c,X.env.cells.lookup x=some c->c≠b)/\∀p∈X.pn++Z4,p.1≠b)
  (keep:∀b o,b≠X.env.locals->b∉X.fs->b∉ch->s.heap.get? b=some o->H b=none->h'.get? b=some o)
  (slot:∀b o,b≠X.env.locals->b∈X.fs->b∉ch->s.heap.get? b=some o->H b=none->∃sl,h'.get? b=some { o with slots:=sl }) (free:∀b o,b∉ch->s.heap.get? b=some o->H b=none->H' b=none)
  (there:∀b o,b∉ch->s.heap.get? b=some o->∃o',h'.get? b=some o')
  (tups:∀b xs,H b=some (.tup xs)->H' b=some (.tup xs)) (frzs:∀b o u,H b=some (.frz o u)->H' b=some (.frz o u)) (tbls:∀b ps,H b=some (.tbl ps)->∃more,H' b=some (.tbl (ps++more)))
  (ns:∀m,s.heap.Ns X.env.locals m->h'.Ns X.env.locals m) (hok:HOk X.prog X.w H' h') (hg:AllBare g') :
  Inv X Z4 σ H' { s with heap:=h',gens:=g',drawn:=d',toks:=t' }:=by
 have neL:∀b o,X.s₀.heap.get? b=some o->b≠X.env.locals:=fun b o e=>Nat.ne_of_lt (Nat.lt_of_lt_of_le (Heap.lt_size e) I.ok.above)
 have neC:∀b o,X.s₀.heap.get? b=some o->b∉X.ex->b∉ch:=fun b o e hx hb=>by
  rcases(hch b hb).1 with z | z
  ·exact hx z
  ·exact absurd (Nat.lt_of_lt_of_le (Heap.lt_size e) z) (Nat.lt_irrefl _)
 have cellK:∀x c,X.env.cells.lookup x=some c->∀v,s.heap.IsCell c v->h'.IsCell c v:=fun x c e v ⟨o,ho,hd⟩=>by
  have nch:c∉ch:=fun z=>(hch c z).2.2.1 x c e rfl
  by_cases hc:c∈X.fs
  ·obtain⟨sl,q⟩:=slot c o (I.cne x c e) hc nch ho (I.freeC x c e)
   exact⟨_,q,hd⟩
  ·exact⟨o,keep c o (I.cne x c e) hc nch ho (I.freeC x c e),hd⟩
 refine⟨I.ok,I.os,hg,⟨fun b o e n hb hx=>?_,fun b o e n hb hx=>?_,fun b o e n hx=>?_,fun b o e hx=>?_,fun b xs e=>tups b xs (I.base.tups b xs e),fun b o xs e=>frzs b o xs (I.base.frzs b o xs e),fun b ps e=>?_⟩,?_,fun x c e=>?_,?_,fun x c e=>?_,fun p hp=>?_,hok,I.len⟩
 ·exact keep b o (neL b o e) hb (neC b o e hx) (I.base.keep b o e n hb hx) (I.base.free b o e n hx)
 ·obtain⟨sl,e1⟩:=I.base.slot b o e n hb hx
  obtain⟨sl',e2⟩:=slot b _ (neL b o e) hb (neC b o e hx) e1 (I.base.free b o e n hx)
  exact⟨sl',e2⟩
 ·obtain⟨o',e1⟩:=I.base.there b o e hx
  exact free b o' (neC b o e hx) e1 (I.base.free b o e n hx)
 ·obtain⟨o',e1⟩:=I.base.there b o e hx
  exact there b o' (neC b o e hx) e1
 ·obtain⟨m1,e1⟩:=I.base.tbls b ps e
  obtain⟨m2,e2⟩:=tbls b _ e1
  exact⟨m1++m2,by rw[e2,Array.append_assoc]⟩
 ·obtain⟨m,hn,hl⟩:=I.loc
  refine⟨m,ns m hn,fun i x v e1 e2 e3=>?_⟩
  obtain⟨u,r,l⟩:=hl i x v e1 e2 e3
  refine⟨u,r,?_⟩
  rcases l with l | ⟨k,c,e,z⟩
  ·exact .inl l
  ·exact .inr ⟨k,c,e,cellK x c e _ z⟩
 ·obtain⟨v,z⟩:=I.cell x c e
  exact⟨v,cellK x c e v z⟩
 ·obtain⟨m,⟨o,_,_,ho,_⟩,_⟩:=I.loc
  exact free _ o (fun z=>(hch _ z).2.1 rfl) ho I.free
 ·obtain⟨v,o,ho,hd⟩:=I.cell x c e
  exact free c o (fun z=>(hch c z).2.2.1 x c e rfl) ho (I.freeC x c e)
 ·obtain⟨e,n,ne,nf,d⟩:=I.pin p hp
  have nch:p.1∉ch:=fun z=>(hch p.1 z).2.2.2 p hp rfl
  exact⟨keep p.1 p.2 ne nf nch e n,free p.1 p.2 nch e n,ne,nf,d⟩
theorem Inv.un{t':Nat}(I:Inv X Z4 σ H s)(u:Un X.fs [] H H' s.heap h')(hok:HOk X.prog X.w H' h'):Inv X Z4 σ H' { s with heap:=h',toks:=t' }:=by
 obtain⟨m,⟨o,es,ep,ho,r⟩,_⟩:=id I.loc
 obtain⟨sl,hL⟩:=u.any ho I.free (by simp)
 exact I.step (g':=s.gens) (d':=s.drawn) (ch:=[]) (fun _ z=>nomatch z) (fun b o _ hb _ e n=>u.keep b o e n hb (by simp)) (fun b o _ hb _ e n=>u.slot b o e n hb (by simp)) (fun b o _ e n=>u.free b o e n (by simp)) (fun b o _ e=>u.there b o e (by simp)) u.tups u.frzs u.tbls (fun m' hm=>by
  obtain⟨o',es',ep',ho',r'⟩:=hm
  rw[ho]at ho';cases ho'
  exact⟨_,es',ep',hL,r'⟩) hok I.bare
theorem Inv.call{g':Array GenState}{t':Nat}{d':Drawn}{ch:List Addr}(I:Inv X Z4 σ H s)(u:Un (Z2r X.stack) ch H H' s.heap h')(hok:HOk X.prog X.w H' h')(hg:AllBare g')
  (hch:∀b∈ch,(b∈X.ex∨X.s₀.heap.objs.size<=b)/\b≠X.env.locals/\(∀x c,X.env.cells.lookup x=some c->c≠b)/\∀p∈X.pn++Z4,p.1≠b) :
  Inv X Z4 σ H' { s with heap:=h',gens:=g',drawn:=d',toks:=t' }:=by
 obtain⟨m,⟨o,es,ep,ho,r⟩,_⟩:=id I.loc
 obtain⟨sl,hL⟩:=u.any ho I.free fun z=>(hch _ z).2.1 rfl
 exact I.step (ch:=ch) hch (fun b o hL hb hc e n=>u.keep b o e n (fun z=>(List.mem_cons.mp (I.stkSub b z)).elim hL hb) hc) (fun b o _ _ hc e n=>u.any e n hc) (fun b o hc e n=>u.free b o e n hc) (fun b o hc e=>u.there b o e hc) u.tups u.frzs u.tbls (fun m' hm=>by
  obtain⟨o',es',ep',ho',r'⟩:=hm
  rw[ho]at ho';cases ho'
  exact⟨_,es',ep',hL,r'⟩) hok hg
theorem Inv.turned{t':Nat}{it:Addr}(I:Inv X Z4 σ H s)(k:∀b o,b≠it->s.heap.get? b=some o->h'.get? b=some o)(hn:H it=none)(hL:it≠X.env.locals)
  (h1:it∈X.ex∨X.s₀.heap.objs.size<=it) (h2:∀x c,X.env.cells.lookup x=some c->c≠it) (h3:∀p∈X.pn++Z4,p.1≠it):Inv X Z4 σ H { s with heap:=h',toks:=t' }:=by
 have nit:∀b u,H b=some u->b≠it:=fun b u e z=>by rw[z,hn]at e;cases e
 refine I.step (g':=s.gens) (d':=s.drawn) (ch:=[it]) (fun b hb=>?_) (fun b o _ _ hc e _=>k b o (fun z=>hc (by simp[z])) e) (fun b o _ _ hc e _=>⟨o.slots,k b o (fun z=>hc (by simp[z])) e⟩) (fun _ _ _ _ n=>n)
  (fun b o hc e=>⟨o,k b o (fun z=>hc (by simp[z])) e⟩) (fun _ _ e=>e) (fun _ _ _ e=>e) (fun b ps e=>⟨#[],by rw[e];simp⟩) (fun m hm=>?_) (fun b u e=>?_) I.bare
 ·have e:b=it:=by simpa using hb
  subst e
  exact⟨h1,hL,h2,h3⟩
 ·obtain⟨o,es,ep,ho,r⟩:=hm
  exact⟨o,es,ep,k _ o (Ne.symm hL) ho,r⟩
 ·refine(I.hok b u e).stay (fun c v hc q=>k c v ?_ q) (fun _ q=>q) fun _ _ q=>q
  rcases hc with z | z
  ·rw[z];exact nit b u e
  ·exact nit c _ z
theorem Inv.tok(I:Inv X Z4 σ H s)(t:Nat):Inv X Z4 σ H { s with toks:=t }:=I.un (h':=s.heap) (t':=t) Un.refl I.hok
theorem Inv.kept{t':Nat}(I:Inv X Z4 σ H s)(k:∀b u,s.heap.get? b=some u->h'.get? b=some u):Inv X Z4 σ H { s with heap:=h',toks:=t' }:=I.un (Un.kept k) (I.hok.kept k)
theorem Inv.laid{a:Addr}{o:HO}{t':Nat}(I:Inv X Z4 σ H s)(k:∀b u,s.heap.get? b=some u->h'.get? b=some u)(hp:s.heap.objs.size<=a)(new:ObjOk X.prog X.w (Zq H a o) h' a o) :
  Inv X Z4 σ (Zq H a o) { s with heap:=h',toks:=t' }:=I.un (Un.laid k hp (I.hok.fresh hp)) (I.hok.laid k hp new)
theorem Inv.write{x e:Addr}{o:HO}{t':Nat}(I:Inv X Z4 σ H s)(mu:Zk4 (H x))(he:e=x∨H e=some (.own x))(k:∀b u,b≠e->s.heap.get? b=some u->h'.get? b=some u)(heo:∃u,h'.get? e=some u)
  (new:ObjOk X.prog X.w (Zq H x o) h' x o):Inv X Z4 σ (Zq H x o) { s with heap:=h',toks:=t' }:=I.un (Un.write mu he k heo) (I.hok.write mu he k heo new)
theorem Inv.weak{σ':List (Option V)}(I:Inv X Z4 σ H s)(hl:σ'.length=σ.length)(w:∀(i:Nat) v,σ'[i]? = some (some v)->σ[i]? = some (some v)):Inv X Z4 σ' H s :=
 ⟨I.ok,I.os,I.bare,I.base,let⟨m,hn,hl'⟩:=I.loc;⟨m,hn,fun i x v e1 e2 e3=>hl' i x v e1 (w i v e2) e3⟩,I.cell,I.free,I.freeC,I.pin,I.hok,hl.trans I.len⟩
theorem Inv.pins_of{pins':List (Addr×Obj)}(I:Inv X Z4 σ H s)(h:∀p∈pins',s.heap.get? p.1=some p.2/\H p.1=none/\p.1≠X.env.locals/\p.1∉X.fs/\∀v,p.2.data≠.cell v):Inv X pins' σ H s :=
 ⟨I.ok,I.os,I.bare,I.base,I.loc,I.cell,I.free,I.freeC,fun p hp=>(List.mem_append.mp hp).elim (fun z=>I.pin p (List.mem_append_left _ z)) (h p),I.hok,I.len⟩
theorem Z5q{N:List Str}(hN:N.Nodup){i j:Nat}{x:Str}(a:N[i]? = some x)(b:N[j]? = some x):i=j:=by
 obtain⟨h1,e1⟩:=List.getElem?_eq_some_iff.mp a
 obtain⟨h2,e2⟩:=List.getElem?_eq_some_iff.mp b
 exact(List.getElem_inj hN).mp (e1.trans e2.symm)
theorem Z2w{M:Model}{A:Around}{E:Value->Shared->Prop}{i:Nat}{x:Str}{v:V}{u:Value}{Q:Unit->Shared->Prop}(I:Inv X Z4 σ H s)(hN:X.N.Nodup)(hi:X.N[i]? = some x)(hx:Zi6 X.env.scope x)(r:RelV v u)
  (h:∀s',Inv X Z4 (σ.set i (some v)) H s'->(∃a,Heap.SameBut a s.heap s'.heap/\(a=X.env.locals∨X.env.cells.lookup x=some a))->Q () s') (hf:X.fn x=true∨X.env.scope.names.lookup x=some .local:=by first | exact .inl rfl | exact .inr rfl | assumption):wpAny M A (storeName X.env x u) Q E s:=by
 obtain⟨m,hn,hl⟩:=id I.loc
 have hcls:(X.env.scope.kind==.class||(X.env.scope.kind==.module&&X.env.locals != X.env.globals))=false:=by rw[I.ok.kind];rfl
 have hiσ:i<σ.length:=by rw[I.len];exact(List.getElem?_eq_some_iff.mp hi).1
 have cne:=I.cne
 have tracked:∀ {a:Addr} {h':Heap},(∃o,s.heap.get? a=some o/\H a=none)->Heap.SameBut a s.heap h'->HOk X.prog X.w H h':=fun{a h'} ha hs b ob e=>by
  obtain⟨_,_,hfree⟩:=ha
  refine(I.hok b ob e).stay (fun c w' hc q=>(hs.2 c ?_).trans q) (fun _ q=>q) fun _ _ q=>q
  rintro rfl
  rcases hc with rfl | hc
  ·rw[hfree]at e;cases e
  ·rw[hfree]at hc;cases hc
 rcases hx with hk | hk
 ·refine wpAny_storeName_local hk hn (fun h' hn' hs=>?_) hcls
  obtain⟨oL,_,_,hoL,_⟩:=id hn
  refine h _ ⟨I.ok,I.os,I.bare,⟨fun b o e n hb hx=>?_,fun b o e n hb hx=>?_,I.base.free,fun b o e hx=>?_,I.base.tups,I.base.frzs,I.base.tbls⟩,⟨_,hn',fun j y v' e1 e2 e3=>?_⟩,fun y c e=>?_,I.free,I.freeC,fun p hp=>?_,tracked ⟨oL,hoL,I.free⟩ hs,by simpa using I.len⟩ ⟨_,hs,.inl rfl⟩
  ·exact(hs.2 b (Nat.ne_of_lt (Nat.lt_of_lt_of_le (Heap.lt_size e) I.ok.above))).trans (I.base.keep b o e n hb hx)
  ·obtain⟨sl,e1⟩:=I.base.slot b o e n hb hx
   exact⟨sl,(hs.2 b (Nat.ne_of_lt (Nat.lt_of_lt_of_le (Heap.lt_size e) I.ok.above))).trans e1⟩
  ·obtain⟨o',e1⟩:=I.base.there b o e hx
   exact⟨o',(hs.2 b (Nat.ne_of_lt (Nat.lt_of_lt_of_le (Heap.lt_size e) I.ok.above))).trans e1⟩
  ·by_cases hj:j=i
   ·subst hj
    rw[hi]at e1;cases e1
    rw[List.getElem?_set_self hiσ]at e2
    cases e2
    exact⟨u,r,.inl ⟨hk,by simp⟩⟩
   ·rw[List.getElem?_set_ne (Ne.symm hj)]at e2
    obtain⟨u',r',q⟩:=hl j y v' e1 e2 e3
    refine⟨u',r',?_⟩
    rcases q with⟨k,e⟩ | ⟨k,c,e,z⟩
    ·refine .inl ⟨k,?_⟩
     have:y≠x:=fun e=>hj (Z5q hN e1 (e ▸ hi))
     simp[this,e]
    ·exact .inr ⟨k,c,e,z.sameBut hs (cne y c e)⟩
  ·obtain⟨w',z⟩:=I.cell y c e
   exact⟨w',z.sameBut hs (cne y c e)⟩
  ·obtain⟨e,n,ne,nf,d⟩:=I.pin p hp
   exact⟨(hs.2 p.1 ne).trans e,n,ne,nf,d⟩
 ·have hfn:X.fn x=true:=by
   rcases hf with z | z
   ·exact z
   ·rw[z]at hk;cases hk
  obtain⟨c,hc⟩:=I.ok.has x (.inl hk)
  obtain⟨w',z⟩:=I.cell x c hc
  refine wpAny_storeName_cell I.ok.kind hk hc z (fun h' hc' hs=>?_)
  obtain⟨oc,hoc,hocd⟩:=id z
  refine h { s with heap:=h' } ⟨I.ok,I.os,I.bare,⟨fun b o e n hb hx=>?_,fun b o e n hb hx=>?_,I.base.free,fun b o e hx=>?_,I.base.tups,I.base.frzs,I.base.tbls⟩,⟨m,hn.sameBut hs (Ne.symm (cne x c hc)),fun j y v' e1 e2 e3=>?_⟩,fun y c' e=>?_,I.free,I.freeC,fun p hp=>?_,tracked ⟨oc,hoc,I.freeC x c hc⟩ hs,by simpa using I.len⟩ ⟨c,hs,.inr hc⟩
  ·exact(hs.2 b (Nat.ne_of_lt (Nat.lt_of_lt_of_le (Heap.lt_size e) (I.ok.cab x c hfn hc)))).trans (I.base.keep b o e n hb hx)
  ·obtain⟨sl,e1⟩:=I.base.slot b o e n hb hx
   exact⟨sl,(hs.2 b (Nat.ne_of_lt (Nat.lt_of_lt_of_le (Heap.lt_size e) (I.ok.cab x c hfn hc)))).trans e1⟩
  ·obtain⟨o',e1⟩:=I.base.there b o e hx
   exact⟨o',(hs.2 b (Nat.ne_of_lt (Nat.lt_of_lt_of_le (Heap.lt_size e) (I.ok.cab x c hfn hc)))).trans e1⟩
  ·by_cases hj:j=i
   ·subst hj
    rw[hi]at e1;cases e1
    rw[List.getElem?_set_self hiσ]at e2
    cases e2
    exact⟨u,r,.inr ⟨.inl hk,c,hc,hc'⟩⟩
   ·rw[List.getElem?_set_ne (Ne.symm hj)]at e2
    obtain⟨u',r',q⟩:=hl j y v' e1 e2 e3
    refine⟨u',r',?_⟩
    rcases q with q | ⟨k,c',e,z'⟩
    ·exact .inl q
    ·refine .inr ⟨k,c',e,z'.sameBut hs ?_⟩
     rintro rfl
     exact hj (Z5q hN e1 (I.ok.inj _ _ _ e hc ▸ hi))
  ·by_cases hcc:c'=c
   ·subst hcc;exact⟨_,hc'⟩
   ·obtain⟨w2,z2⟩:=I.cell y c' e
    exact⟨w2,z2.sameBut hs hcc⟩
  ·obtain⟨e,n,ne,nf,d⟩:=I.pin p hp
   refine⟨(hs.2 p.1 ?_).trans e,n,ne,nf,d⟩
   intro q
   rw[q,hoc]at e
   have q':oc=p.2:=Option.some.inj e
   exact d w' (by rw[← q'];exact hocd)
theorem Z1v{M:Model}{A:Around}{E:Value->Shared->Prop}{i:Nat}{x:Str}{v:V}{u:Value}{Q:Unit->Shared->Prop}(I:Inv X Z4 σ H s)(hN:X.N.Nodup)(hi:X.N[i]? = some x)(hx:Zi6 X.env.scope x)(r:RelV v u)
  (h:∀s',Inv X Z4 (σ.set i (some v)) H s'->Q () s') (hf:X.fn x=true∨X.env.scope.names.lookup x=some .local:=by first | exact .inl rfl | exact .inr rfl | assumption):wpAny M A (storeName X.env x u) Q E s :=
 Z2w I hN hi hx r (fun s' I' _=>h s' I') hf
theorem Inv.call'{s':Shared}{ch:List Addr}(I:Inv X Z4 σ H s)(ho:s'.os=s.os)(u:Un (Z2r X.stack) ch H H' s.heap s'.heap)(hok:HOk X.prog X.w H' s'.heap)(hg:AllBare s'.gens)
  (hch:∀b∈ch,(b∈X.ex∨X.s₀.heap.objs.size<=b)/\b≠X.env.locals/\(∀x c,X.env.cells.lookup x=some c->c≠b)/\∀p∈X.pn++Z4,p.1≠b):Inv X Z4 σ H' s':=by
 obtain⟨h',g',d',t',o'⟩:=s'
 have e:o'=s.os:=ho
 subst e
 exact I.call (g':=g') (t':=t') (d':=d') u hok hg hch
end
abbrev XK:=Value->Option Addr->Hp->Prop
abbrev St:=List (Option V)
abbrev VK:=V->Hp->Prop
abbrev TE:=St->Hp->VK->Prop
abbrev TT:=St->Hp->(Bool->Hp->Prop)->Prop
abbrev TA:=St->Hp->(List V->Hp->Prop)->Prop
structure Ends where
 nx:St->Hp->Prop
 rt:VK
 bk:St->Hp->Prop:=fun _ _=>False
 ct:St->Hp->Prop:=fun _ _=>False
abbrev TS:=Ends->St->Hp->Prop
def EP(X:Cx)(Z4:List (Addr×Obj))(σ:St)(Q:VK)(u:Value)(s':Shared):Prop:=∃v H',Inv X Z4 σ H' s'/\RelV v u/\Q v H'
def TP(X:Cx)(Z4:List (Addr×Obj))(σ:St)(Q:Bool->Hp->Prop)(b:Bool)(s':Shared):Prop:=∃H',Inv X Z4 σ H' s'/\Q b H'
def AP(X:Cx)(Z4:List (Addr×Obj))(σ:St)(Q:List V->Hp->Prop)(us:List Value)(s':Shared):Prop:=∃vs H',Inv X Z4 σ H' s'/\Vals vs us/\Q vs H'
def SP(X:Cx)(Z4:List (Addr×Obj))(D:Ends)(f:Flow)(s':Shared):Prop :=
 match f with
 |.next=>∃σ' H',Inv X Z4 σ' H' s'/\D.nx σ' H'
 |.brk=>∃σ' H',Inv X Z4 σ' H' s'/\D.bk σ' H'
 |.cont=>∃σ' H',Inv X Z4 σ' H' s'/\D.ct σ' H'
 |.ret u=>∃v σ' H',Inv X Z4 σ' H' s'/\RelV v u/\D.rt v H'
def PE(X:Cx)(e:Expr)(t:TE):Prop :=
 ∀(Z4:List (Addr×Obj)) (s:Shared) (σ:St) (H:Hp) (Q:VK),Inv X Z4 σ H s->t σ H Q->wpAny (model X.prog X.w) X.A (eval e X.env) (EP X Z4 σ Q) X.xe s
def PT(X:Cx)(e:Expr)(t:TT):Prop :=
 ∀(Z4:List (Addr×Obj)) (s:Shared) (σ:St) (H:Hp) (Q:Bool->Hp->Prop),Inv X Z4 σ H s->t σ H Q->wpAny (model X.prog X.w) X.A (isTrue e X.env (eval e X.env)) (TP X Z4 σ Q) X.xe s
def PW(X:Cx)(e:Expr)(t:TT):Prop :=
 ∀(whole:Sem Value) (Z4:List (Addr×Obj)) (s:Shared) (σ:St) (H:Hp) (Q:Bool->Hp->Prop),Inv X Z4 σ H s->t σ H Q->wpAny (model X.prog X.w) X.A (isTrue e X.env whole) (TP X Z4 σ Q) X.xe s
theorem PW.pt{X:Cx}{e:Expr}{t:TT}(h:PW X e t):PT X e t:=h _
def PA(X:Cx)(es:List Expr)(t:TA):Prop :=
 ∀(pos:Pos) (Z4:List (Addr×Obj)) (s:Shared) (σ:St) (H:Hp) (Q:List V->Hp->Prop),Inv X Z4 σ H s->t σ H Q->wpAny (model X.prog X.w) X.A (spliced (backTo pos (starEach es X.env))) (AP X Z4 σ Q) X.xe s
def PS(X:Cx)(st:Stmt)(t:TS):Prop :=
 ∀(Z4:List (Addr×Obj)) (s:Shared) (σ:St) (H:Hp) (D:Ends),Inv X Z4 σ H s->t D σ H->wpAny (model X.prog X.w) X.A (exec st X.env) (SP X Z4 D) X.xe s
def PSs(X:Cx)(st:List Stmt)(t:TS):Prop :=
 ∀(Z4:List (Addr×Obj)) (s:Shared) (σ:St) (H:Hp) (D:Ends),Inv X Z4 σ H s->t D σ H->wpAny (model X.prog X.w) X.A (execs st X.env) (SP X Z4 D) X.xe s
theorem Xr{α:Type}{t:Sem α}{Q Q':α->Shared->Prop}{M:Model}{A:Around}{E:Value->Shared->Prop}{s:Shared}(h:wpAny M A t Q E s)(hQ:∀a s,Q a s->Q' a s):wpAny M A t Q' E s:=wpAny_mono h hQ fun _ _ x=>x
section
variable{X:Cx}
theorem bin{a b:Expr}{ta tb:TE}(ha:PE X a ta)(hb:PE X b tb){Z4:List (Addr×Obj)}{s:Shared}{σ:St}{H:Hp}{R:V->V->Hp->Prop}(I:Inv X Z4 σ H s)(h:ta σ H fun x H1=>tb σ H1 fun y H2=>R x y H2)
  {α:Type} {Q:α->Shared->Prop} {f:Value->Value->Sem α}
  (hf:∀v u s2 x y H2,Inv X Z4 σ H2 s2->RelV x v->RelV y u->R x y H2->wpAny (model X.prog X.w) X.A (f v u) Q X.xe s2) :
  wpAny (model X.prog X.w) X.A (eval a X.env) (fun v s₁=>wpAny (model X.prog X.w) X.A (eval b X.env) (fun u s₂=>wpAny (model X.prog X.w) X.A (f v u) Q X.xe s₂) X.xe s₁) X.xe s:=by
 refine Xr (ha Z4 s σ H _ I h) fun v s1 ⟨x,H1,I1,r1,q1⟩=>?_
 refine Xr (hb Z4 s1 σ H1 _ I1 q1) fun u s2 ⟨y,H2,I2,r2,q2⟩=>?_
 exact hf v u s2 x y H2 I2 r1 r2 q2
def We(i:Nat):TE:=fun σ H Q=>∃v,σ[i]? = some (some v)/\Q v H
def tC(v:V):TE:=fun _ H Q=>Q v H
theorem Zgw{i:Nat}{x:Str}{pos:Pos}(hN:X.N[i]? = some x)(hv:Zk0 X.env.scope x)(hd:(x==("__debug__":Str))=false:=by decide)(hcd:(x==("__classdict__":Str))=false:=by decide):PE X (.Name x pos) (We i):=by
 intro Z4 s σ H Q I h
 obtain⟨v,e,h⟩:=h
 obtain⟨m,hn,hl⟩:=I.loc
 obtain⟨u,r,l⟩:=hl i x v hN e hv
 have fin:EP X Z4 σ Q u s:=⟨v,H,I,r,h⟩
 rcases l with⟨hk,hm⟩ | ⟨hk,c,hc,hcell⟩
 ·exact wpAny_Name (wpAny_loadName_local I.ok.kind hk hn hm fin) hd
 ·rcases hk with hk | hk
  ·exact wpAny_Name (wpAny_loadName_cell I.ok.kind hk hc hcell fin) hd
  ·exact wpAny_Name (wpAny_loadName_free I.ok.kind hk hc hcell fin hcd) hd
theorem Z6{i j pos}:PE X (.Constant (.int i) j pos) (tC (.int i)):=fun _ _ _ H _ I h=>wpAny_Constant_int ⟨.int i,H,I.tok _,⟨_,rfl⟩,h⟩
theorem Wo{b j pos}:PE X (.Constant (.bool b) j pos) (tC (.bl b)):=fun _ _ _ H _ I h=>Constant_bool ⟨.bl b,H,I,rfl,h⟩
theorem Z0q{j pos}:PE X (.Constant .none j pos) (tC .non):=fun _ _ _ H _ I h=>Constant_none ⟨.non,H,I,rfl,h⟩
theorem Zk{x j pos}:PE X (.Constant (.str x) j pos) (tC (.str x)):=fun _ _ _ H _ I h=>Calls.Constant_str ⟨.str x,H,I.tok _,⟨_,rfl⟩,h⟩
def Gl(X:Cx)(x:Str):Prop:=X.env.kindOf x=some .globalImplicit
theorem Jt{E:Value->Shared->Prop}{Z4:List (Addr×Obj)}{s:Shared}{σ:St}{H:Hp}{x:Str}{u:Value}{pos:Pos}{Q:Value->Shared->Prop}(I:Inv X Z4 σ H s)(hg:Gl X x)(hm:X.mg x=some u)(h:Q u s)
  (hd:(x==("__debug__":Str))=false:=by decide):wpAny (model X.prog X.w) X.A (eval (.Name x pos) X.env) Q E s :=
 Calls.Name_function_global I.ok.kind hg (Calls.loadGlobal_global (by rw[I.ok.glob];exact I.mod.glob.keeps I.bk) hm h) hd
theorem Ty{E:Value->Shared->Prop}{Z4:List (Addr×Obj)}{s:Shared}{σ:St}{H:Hp}{x:Str}{u:Value}{pos:Pos}{Q:Value->Shared->Prop}(I:Inv X Z4 σ H s)(hg:Gl X x)(hm:X.mg x=none)(hv:bootBuiltins x=some u)(h:Q u s)
  (hn:x≠"__name__":=by decide) (hd:(x==("__debug__":Str))=false:=by decide):wpAny (model X.prog X.w) X.A (eval (.Name x pos) X.env) Q E s:=by
 obtain⟨mb,h1,h2⟩:=I.mod.blt
 exact Calls.Name_function_global I.ok.kind hg (Calls.loadGlobal_builtin (by rw[I.ok.glob];exact I.mod.glob.keeps I.bk) hm (by rw[I.ok.blt];exact h1.keeps I.bk) ((h2 x hn).trans hv) h) hd
theorem Vk{x:Str}{v:V}{u:Value}{pos:Pos}(hg:Gl X x)(hm:X.mg x=some u)(r:RelV v u)(hd:(x==("__debug__":Str))=false:=by decide):PE X (.Name x pos) (tC v) :=
 fun _ _ _ H _ I h=>Jt I hg hm ⟨v,H,I,r,h⟩ hd
theorem Y9{x:Str}{v:V}{u:Value}{pos:Pos}(hg:Gl X x)(hm:X.mg x=none)(hv:bootBuiltins x=some u)(r:RelV v u)(hn:x≠"__name__":=by decide)(hd:(x==("__debug__":Str))=false:=by decide):PE X (.Name x pos) (tC v) :=
 fun _ _ _ H _ I h=>Ty I hg hm hv ⟨v,H,I,r,h⟩ hn hd
variable{a b:Expr}{ta tb:TE}{pos:Pos}
def PC(X:Cx)(op:CmpOp)(a b:Expr)(t:TE):Prop :=
 ∀(Z4:List (Addr×Obj)) (s:Shared) (σ:St) (H:Hp) (Q:VK),Inv X Z4 σ H s->t σ H Q ->
  wpAny (model X.prog X.w) X.A (eval a X.env) (fun v s₁=>wpAny (model X.prog X.w) X.A (eval b X.env) (fun u s₂=>wpAny (model X.prog X.w) X.A (compareOp op v u) (EP X Z4 σ Q) X.xe s₂) X.xe s₁) X.xe s
theorem Z5r(b:Expr){op:CmpOp}(h:op≠.In)(h2:op≠.NotIn):behindInMarks op b=false:=by
 have e1:(op==CmpOp.In)=false:=by cases op <;> first | rfl | exact absurd rfl h
 have e2:(op==CmpOp.NotIn)=false:=by cases op <;> first | rfl | exact absurd rfl h2
 cases b <;> simp[behindInMarks,e1,e2]
def Zjd(ta:TE):TE:=fun σ H Q=>ta σ H fun x H1=>Q (.bl (decide (x=.non))) H1
def Zih(ta:TE):TE:=fun σ H Q=>ta σ H fun x H1=>Q (.bl (!decide (x=.non))) H1
theorem RelV.none_iff{x:V}{v:Value}(r:RelV x v):(v==Value.none)=decide (x=.non):=by
 cases x with
 |non=>cases r;rfl
 |bl _=>cases r;rfl
 |int _=>obtain⟨t,rfl⟩:=r;rfl
 |str _=>obtain⟨t,rfl⟩:=r;rfl
 |byt _=>obtain⟨t,rfl⟩:=r;rfl
 |flt _=>obtain⟨t,rfl⟩:=r;rfl
 |ref _=>cases r;rfl
 |ty _=>cases r;rfl
theorem Td{j pos'}(ha:PE X a ta):PC X .Is a (.Constant .none j pos') (Zjd ta):=by
 intro Z4 s σ H Q I h
 refine Xr (ha Z4 s σ H _ I h) fun v s1 ⟨x,H1,I1,r1,q1⟩=>?_
 exact Constant_none (is_none_gen ⟨.bl _,H1,I1,by rw[r1.none_iff];rfl,q1⟩)
theorem Z8a{j pos'}(ha:PE X a ta):PC X .IsNot a (.Constant .none j pos') (Zih ta):=by
 intro Z4 s σ H Q I h
 refine Xr (ha Z4 s σ H _ I h) fun v s1 ⟨x,H1,I1,r1,q1⟩=>?_
 exact Constant_none (isnot_none_gen ⟨.bl _,H1,I1,by rw[r1.none_iff];rfl,q1⟩)
def tB(t:TE):TT:=fun σ H Q=>t σ H fun x H1=>∃c,x=.bl c/\Q c H1
theorem Z7q{op:CmpOp}{t:TE}(h:PC X op a b t)(h1:behindInMarks op b=false:=by first | exact Z5r _ (by decide) (by decide) | rfl):PE X (.Compare a [op] [b] pos) t:=fun Z4 s σ H Q I hw=>wpAny_Compare1 (h Z4 s σ H Q I hw) h1
theorem Tv{op:CmpOp}{t:TE}(h:PC X op a b t)(h1:behindInMarks op b=false:=by first | exact Z5r _ (by decide) (by decide) | rfl):PT X (.Compare a [op] [b] pos) (tB t):=by
 intro Z4 s σ H Q I hw
 refine wpAny_isTrue_Compare1 (Xr (h Z4 s σ H _ I hw) fun v s1 h1=>Xr h1 fun u s2 h2=>Xr h2 fun c s3 ⟨x,H1,I1,r1,q1⟩=>?_) h1
 obtain⟨d,rfl,q⟩:=q1
 cases r1
 exact wpAny_truthy_bool ⟨H1,I1,q⟩
theorem Yw{e:Expr}{t:TE}(h:PE X e t)(he:∀whole,isTrue e X.env whole=(do let v ← whole;standAt e.pos;holding [v] (truthy v)):=by intro _;rfl):PT X e (tB t):=by
 intro Z4 s σ H Q I hw
 refine isTrue_plain (Xr (h Z4 s σ H _ I hw) fun v s1 ⟨x,H1,I1,r1,q1⟩=>?_) (he _)
 obtain⟨d,rfl,q⟩:=q1
 cases r1
 exact wpAny_truthy_bool ⟨H1,I1,q⟩
variable{tA tB':TT}{rest:List Expr}
def Zkb(t u:TT):TT:=fun σ H Q=>t σ H fun c H1=>if c=true then u σ H1 Q else Q false H1
def Zl2(t u:TT):TT:=fun σ H Q=>t σ H fun c H1=>if c=true then Q true H1 else u σ H1 Q
def Zk7(t:TT):TT:=fun σ H Q=>t σ H fun c H1=>Q (!c) H1
theorem Jo(ha:PT X a tA):PW X (.BoolOp .And [a] pos) tA:=by
 intro wh Z4 s σ H Q I h
 refine isTrue_and (Xr (ha Z4 s σ H Q I h) fun c s1 e=>?_)
 cases c with
 |true=>exact isTrue_and_nil e
 |false=>exact e
theorem Z2c(ha:PT X a tA):PW X (.BoolOp .Or [a] pos) tA:=by
 intro wh Z4 s σ H Q I h
 refine isTrue_or (Xr (ha Z4 s σ H Q I h) fun c s1 e=>?_)
 cases c with
 |false=>exact isTrue_or_nil e
 |true=>exact e
theorem Z2d(ha:PT X a tA)(hb:PW X (.BoolOp .And (b::rest) pos) tB'):PW X (.BoolOp .And (a::b::rest) pos) (Zkb tA tB'):=by
 intro wh Z4 s σ H Q I h
 refine isTrue_and (Xr (ha Z4 s σ H _ I h) fun c s1 ⟨H1,I1,q1⟩=>?_)
 cases c with
 |true=>exact hb wh Z4 s1 σ H1 Q I1 q1
 |false=>exact⟨H1,I1,q1⟩
theorem Z68(ha:PT X a tA)(hb:PW X (.BoolOp .Or (b::rest) pos) tB'):PW X (.BoolOp .Or (a::b::rest) pos) (Zl2 tA tB'):=by
 intro wh Z4 s σ H Q I h
 refine isTrue_or (Xr (ha Z4 s σ H _ I h) fun c s1 ⟨H1,I1,q1⟩=>?_)
 cases c with
 |true=>exact⟨H1,I1,q1⟩
 |false=>exact hb wh Z4 s1 σ H1 Q I1 q1
theorem Z7o(ha:PT X a tA):PT X (.UnaryOp .Not a pos) (Zk7 tA):=by
 intro Z4 s σ H Q I h
 exact isTrue_not (ha Z4 s σ H (fun c H1=>Q (!c) H1) I h)
def Zil(ta tb:TE):TE:=fun σ H Q=>ta σ H fun x H1=>∃c,x=.bl c/\if c=true then tb σ H1 Q else Q (.bl false) H1
def Zjb(ta tb:TE):TE:=fun σ H Q=>ta σ H fun x H1=>∃c,x=.bl c/\if c=true then Q (.bl true) H1 else tb σ H1 Q
def Zig(ta:TE):TE:=fun σ H Q=>ta σ H fun x H1=>∃c,x=.bl c/\Q (.bl (!c)) H1
theorem Tw{op}{t:TE}(h:PE X a t):PE X (.BoolOp op [a] pos) t:=fun Z4 s σ H Q I hw=>BoolOp_one (h Z4 s σ H Q I hw)
theorem Tc(ha:PE X a ta)(hb:PE X (.BoolOp .And (b::rest) pos) tb):PE X (.BoolOp .And (a::b::rest) pos) (Zil ta tb):=by
 intro Z4 s σ H Q I h
 refine BoolOp_and (Xr (ha Z4 s σ H _ I h) fun v s1 ⟨x,H1,I1,r1,q1⟩=>?_)
 obtain⟨c,rfl,q1⟩:=q1
 cases r1
 refine wpAny_truthy_bool ?_
 cases c with
 |true=>exact hb Z4 s1 σ H1 Q I1 q1
 |false=>exact⟨.bl false,H1,I1,rfl,q1⟩
theorem Zis(ha:PE X a ta)(hb:PE X (.BoolOp .Or (b::rest) pos) tb):PE X (.BoolOp .Or (a::b::rest) pos) (Zjb ta tb):=by
 intro Z4 s σ H Q I h
 refine BoolOp_or (Xr (ha Z4 s σ H _ I h) fun v s1 ⟨x,H1,I1,r1,q1⟩=>?_)
 obtain⟨c,rfl,q1⟩:=q1
 cases r1
 refine wpAny_truthy_bool ?_
 cases c with
 |false=>exact hb Z4 s1 σ H1 Q I1 q1
 |true=>exact⟨.bl true,H1,I1,rfl,q1⟩
theorem Zcb(ha:PE X a ta):PE X (.UnaryOp .Not a pos) (Zig ta):=by
 intro Z4 s σ H Q I h
 refine UnaryOp_ (Xr (ha Z4 s σ H _ I h) fun v s1 ⟨x,H1,I1,r1,q1⟩=>?_)
 obtain⟨c,rfl,q1⟩:=q1
 cases r1
 exact not_of (wpAny_truthy_bool ⟨.bl (!c),H1,I1,rfl,q1⟩)
def Zlb(t:TT)(ta tb:TE):TE:=fun σ H Q=>t σ H fun c H1=>if c=true then ta σ H1 Q else tb σ H1 Q
theorem Xp{c:Expr}(hc:PT X c tA)(ha:PE X a ta)(hb:PE X b tb):PE X (.IfExp c a b pos) (Zlb tA ta tb):=by
 intro Z4 s σ H Q I h
 refine wpAny_IfExp (Xr (hc Z4 s σ H _ I h) fun d s1 ⟨H1,I1,q1⟩=>?_)
 cases d with
 |true=>exact ha Z4 s1 σ H1 Q I1 q1
 |false=>exact hb Z4 s1 σ H1 Q I1 q1
end
def SqL(K:W.Frag)(H:Hp)(a:Addr)(xs:List V):Prop :=
 Rd H a (.lst xs) ∨
  ∃(o:Obj) (its:Array Value) (n:Nat),K.lookup a=some o/\o.cls=.type "list"/\o.dict=none/\o.data=.seq its n/\its.size<=sizeLine/\Vals xs its.toList
def SqT(K:W.Frag)(H:Hp)(a:Addr)(xs:List V):Prop :=
 Rd H a (.tup xs) ∨
  ∃(o:Obj) (its:Array Value) (n:Nat),K.lookup a=some o/\o.cls=.type "tuple"/\o.data=.seq its n/\its.size<=sizeLine/\Vals xs its.toList
def Zky:Value->Option V
 |.none=>some .non
 |.bool b=>some (.bl b)
 |.int i _=>some (.int i)
 |.str x _=>some (.str x)
 |.bytes b _=>some (.byt b)
 |.float b _=>some (.flt b)
 |.ref a=>some (.ref a)
 |.type n=>some (.ty n)
 |_=>none
theorem RelV.abs{x:V}{u:Value}(r:RelV x u):Zky u=some x:=by
 cases x with
 |non=>cases r;rfl
 |bl _=>cases r;rfl
 |int _=>obtain⟨t,rfl⟩:=r;rfl
 |str _=>obtain⟨t,rfl⟩:=r;rfl
 |byt _=>obtain⟨t,rfl⟩:=r;rfl
 |flt _=>obtain⟨t,rfl⟩:=r;rfl
 |ref _=>cases r;rfl
 |ty _=>cases r;rfl
theorem RelV.inj{x y:V}{u:Value}(r:RelV x u)(q:RelV y u):x=y:=Option.some.inj (r.abs.symm.trans q.abs)
theorem Vals.inj:∀ {xs ys:List V} {us:List Value},Vals xs us->Vals ys us->xs=ys
 |_,_,_,.nil,.nil=>rfl
 |_,_,_,.cons r t,.cons r' t'=>by rw[r.inj r',Vals.inj t t']
section
variable{X:Cx}{Z4:List (Addr×Obj)}{σ:St}{H:Hp}{s:Shared}{a:Addr}{xs ys:List V}
theorem SqL.of{K:W.Frag}(h:H a=some (.lst xs)):SqL K H a xs:=.inl (.inl h)
theorem SqT.of{K:W.Frag}(h:H a=some (.tup xs)):SqT K H a xs:=.inl (.inl h)
theorem Inv.list(I:Inv X Z4 σ H s)(h:SqL X.K H a xs):∃its:List Value,Vals xs its/\PlainL s.heap a its.toArray/\xs.length<=sizeLine:=by
 rcases h with h | ⟨o,its,n,hk,hc,hd,hs,hz,r⟩
 ·obtain⟨z,its,n,r,e⟩:=h.ok I.hok
  exact⟨its,r,⟨_,n,e,rfl,rfl,rfl⟩,z⟩
 ·refine⟨its.toList,r,⟨o,n,I.kIn a o hk,hc,hd,by simpa using hs⟩,?_⟩
  have e:=r.length
  simp only[Array.length_toList]at e
  omega
theorem Inv.tuple(I:Inv X Z4 σ H s)(h:SqT X.K H a xs):∃its:List Value,Vals xs its/\IsTup s.heap a its.toArray/\xs.length<=sizeLine:=by
 rcases h with h | ⟨o,its,n,hk,hc,hs,hz,r⟩
 ·obtain⟨z,its,r,p⟩:=h.ok I.hok
  exact⟨its,r,p,z⟩
 ·refine⟨its.toList,r,⟨o,I.kIn a o hk,hc,n,by simpa using hs⟩,?_⟩
  have e:=r.length
  simp only[Array.length_toList]at e
  omega
theorem Inv.list_inj(I:Inv X Z4 σ H s)(h:SqL X.K H a xs)(h':SqL X.K H a ys):xs=ys:=by
 obtain⟨its,r,⟨o,n,e,_,_,d⟩,_⟩:=I.list h
 obtain⟨its',r',⟨o',n',e',_,_,d'⟩,_⟩:=I.list h'
 rw[e]at e';cases e'
 rw[d]at d'
 injection d' with d1 _
 have:its=its':=by simpa using congrArg Array.toList d1
 subst this
 exact r.inj r'
theorem Inv.tuple_inj(I:Inv X Z4 σ H s)(h:SqT X.K H a xs)(h':SqT X.K H a ys):xs=ys:=by
 obtain⟨its,r,⟨o,e,_,n,d⟩,_⟩:=I.tuple h
 obtain⟨its',r',⟨o',e',_,n',d'⟩,_⟩:=I.tuple h'
 rw[e]at e';cases e'
 rw[d]at d'
 injection d' with d1 _
 have:its=its':=by simpa using congrArg Array.toList d1
 subst this
 exact r.inj r'
end
abbrev Cx.wish(X:Cx)(E:Value->Shared->Prop):Cx:={ X with xe:=E }
abbrev Cx.nox(X:Cx):Cx:=X.wish fun _ _=>False
theorem Cx.Ok.wish{X:Cx}(ok:X.Ok)(E:Value->Shared->Prop):(X.wish E).Ok :=
 ⟨ok.mod,ok.kind,ok.glob,ok.blt,ok.above,ok.inj,ok.has,ok.cab,ok.hd,ok.frames,ok.stk,ok.exf,ok.bs,ok.bsz,ok.noex,ok.exfs,ok.funs,ok.frf⟩
theorem Cx.Ok.unwish{X:Cx}{E:Value->Shared->Prop}(ok:(X.wish E).Ok):X.Ok :=
 ⟨ok.mod,ok.kind,ok.glob,ok.blt,ok.above,ok.inj,ok.has,ok.cab,ok.hd,ok.frames,ok.stk,ok.exf,ok.bs,ok.bsz,ok.noex,ok.exfs,ok.funs,ok.frf⟩
section
variable{X:Cx}{Z4:List (Addr×Obj)}{σ:St}{H:Hp}{s:Shared}{E:Value->Shared->Prop}{st:Stmt}{rest:List Stmt}{t u:TS}{e:Expr}{te:TE}{pos:Pos}
theorem Inv.wish(I:Inv X Z4 σ H s)(E:Value->Shared->Prop):Inv (X.wish E) Z4 σ H s:=⟨I.ok.wish E,I.os,I.bare,I.base,I.loc,I.cell,I.free,I.freeC,I.pin,I.hok,I.len⟩
theorem Inv.unwish(I:Inv (X.wish E) Z4 σ H s):Inv X Z4 σ H s:=⟨I.ok.unwish,I.os,I.bare,I.base,I.loc,I.cell,I.free,I.freeC,I.pin,I.hok,I.len⟩
theorem SP.unwish{D:Ends}{f:Flow}{s':Shared}(h:SP (X.wish E) Z4 D f s'):SP X Z4 D f s':=by
 cases f with
 |next=>obtain⟨σ',H',I,q⟩:=h;exact⟨σ',H',I.unwish,q⟩
 |brk=>obtain⟨σ',H',I,q⟩:=h;exact⟨σ',H',I.unwish,q⟩
 |cont=>obtain⟨σ',H',I,q⟩:=h;exact⟨σ',H',I.unwish,q⟩
 |ret u=>obtain⟨v,σ',H',I,r,q⟩:=h;exact⟨v,σ',H',I.unwish,r,q⟩
theorem PSs.nox{st:List Stmt}{t:TS}(h:PSs X.nox st t):PSs X st t:=fun Z4 s σ H D I hw =>
 wpAny_mono (h Z4 s σ H D (I.wish _) hw) (fun _ _ q=>q.unwish) fun _ _ z=>False.elim z
def Zs:TS:=fun D σ H=>D.nx σ H
def Z8(t u:TS):TS:=fun D σ H=>t { D with nx:=u D } σ H
theorem Zm:PSs X [] Zs:=fun _ _ σ H _ I h=>wpAny_execs_nil ⟨σ,H,I,h⟩
theorem Z1(h1:PS X st t)(h2:PSs X rest u):PSs X (st::rest) (Z8 t u):=by
 intro Z4 s σ H D I h
 refine wpAny_execs_cons (Xr (h1 Z4 s σ H { D with nx:=u D } I h) fun f s1 q=>?_)
 cases f with
 |next =>
  obtain⟨σ',H',I',q⟩:=q
  exact h2 Z4 s1 σ' H' D I' q
 |ret v=>exact q
 |brk=>exact q
 |cont=>exact q
theorem Z5(h1:PS X st t):PSs X [st] t:=by
 intro Z4 s σ H D I h
 refine wpAny_execs_cons (Xr (h1 Z4 s σ H D I h) fun f s1 q=>?_)
 cases f with
 |next=>exact wpAny_execs_nil q
 |ret v=>exact q
 |brk=>exact q
 |cont=>exact q
theorem Inv.quiet{Z4:List (Addr×Obj)}{σ:St}{H:Hp}{s:Shared}(I:Inv X Z4 σ H s):interactive X.env=false:=by simp[interactive,I.ok.kind]
def Zij(te:TE):TS:=fun D σ H=>te σ H fun _ H1=>D.nx σ H1
theorem Zf(he:PE X e te)(hs:swapsWith e none pos.line X.env=pure false:=by rfl):PS X (.Expr e pos) (Zij te):=by
 intro Z4 s σ H D I h
 exact wpAny_Expr_any (Xr (he Z4 s σ H _ I h) fun v s1 ⟨x,H1,I1,r1,q1⟩=>⟨σ,H1,I1,q1⟩) I.quiet hs
def Z4m(te:TE):TS:=fun D σ H=>te σ H D.rt
theorem Zo(he:PE X e te):PS X (.Return (some e) pos) (Z4m te):=by
 intro Z4 s σ H D I h
 exact wpAny_Return_some (Xr (he Z4 s σ H _ I h) fun v s1 ⟨x,H1,I1,r1,q1⟩=>⟨x,σ,H1,I1,r1,q1⟩)
def Zif:TS:=fun D _ H=>D.rt .non H
theorem Z85:PS X (.Return none pos) Zif:=fun _ _ σ H _ I h=>wpAny_Return_none ⟨.non,σ,H,I,rfl,h⟩
def Zx(c:TT)(t u:TS):TS:=fun D σ H=>c σ H fun b H1=>if b=true then t D σ H1 else u D σ H1
theorem Y0{c:Expr}{a b:List Stmt}{tc:TT}(hc:PT X c tc)(ha:PSs X a t)(hb:PSs X b u):PS X (.If c a b pos) (Zx tc t u):=by
 intro Z4 s σ H D I h
 refine wpAny_If (Xr (hc Z4 s σ H _ I h) fun d s1 ⟨H1,I1,q1⟩=>?_)
 cases d with
 |true=>exact ha Z4 s1 σ H1 D I1 q1
 |false=>exact hb Z4 s1 σ H1 D I1 q1
end
abbrev TG:=V->St->Hp->(St->Hp->Prop)->Prop
abbrev Zib:=List V->St->Hp->(St->Hp->Prop)->Prop
def PG(X:Cx)(target:Expr)(t:TG):Prop :=
 ∀(Z4:List (Addr×Obj)) (s:Shared) (σ:St) (H:Hp) (v:V) (u:Value) (Q:St->Hp->Prop),Inv X Z4 σ H s->RelV v u->t v σ H Q ->
  wpAny (model X.prog X.w) X.A (assign target X.env u) (fun _ s'=>∃σ' H',Inv X Z4 σ' H' s'/\Q σ' H') X.xe s
def Zk3(X:Cx)(ts:List Expr)(t:Zib):Prop :=
 ∀(Z4:List (Addr×Obj)) (s:Shared) (σ:St) (H:Hp) (vs:List V) (us:List Value) (Q:St->Hp->Prop),Inv X Z4 σ H s->Vals vs us->t vs σ H Q ->
  wpAny (model X.prog X.w) X.A (assignInOrder ((assignEach ts X.env).map (·.2)) us) (fun _ s'=>∃σ' H',Inv X Z4 σ' H' s'/\Q σ' H') X.xe s
abbrev Zi0:=V->V->V->Hp->(Hp->Prop)->Prop
def Zjl(X:Cx)(t:Zi0):Prop :=
 ∀(Z4:List (Addr×Obj)) (s:Shared) (σ:St) (H:Hp) (o i v:V) (ov iv u:Value) (Q:Hp->Prop),Inv X Z4 σ H s->RelV o ov->RelV i iv->RelV v u->t o i v H Q ->
  wpAny (model X.prog X.w) X.A (setItem ov iv u) (fun _ s'=>∃H',Inv X Z4 σ H' s'/\Q H') X.xe s
abbrev Zk1:=V->V->Hp->VK->Prop
def Zle(X:Cx)(op:Operator)(t:Zk1):Prop :=
 ∀(Z4:List (Addr×Obj)) (s:Shared) (σ:St) (H:Hp) (x y:V) (v u:Value) (Q:VK),Inv X Z4 σ H s->RelV x v->RelV y u->t x y H Q ->
  wpAny (model X.prog X.w) X.A (inplaceOp op v u) (EP X Z4 σ Q) X.xe s
section
variable{X:Cx}{pos:Pos}
def Z10(i:Nat):TG:=fun v σ H Q=>Q (σ.set i (some v)) H
theorem Z86{i:Nat}{x:Str}(hN:X.N.Nodup)(hi:X.N[i]? = some x)(hx:Zi6 X.env.scope x)(hf:X.fn x=true∨X.env.scope.names.lookup x=some .local:=by first | exact .inl rfl | exact .inr rfl | assumption):PG X (.Name x pos) (Z10 i):=by
 intro Z4 s σ H v u Q I r h
 exact wpAny_assign_Name (Z1v I hN hi hx r (fun s' I'=>⟨_,H,I',h⟩) hf)
def Zkr:Zib:=fun vs σ H Q=>vs=[]/\Q σ H
def Zj7(t:TG)(u:Zib):Zib:=fun vs σ H Q=>∃v r,vs=v::r/\t v σ H fun σ' H'=>u r σ' H' Q
theorem Z4a:Zk3 X [] Zkr:=by
 intro Z4 s σ H vs us Q I r h
 obtain⟨e,h⟩:=h
 subst e
 cases r
 exact assignInOrder_nil ⟨σ,H,I,h⟩
theorem Vu{e:Expr}{es:List Expr}{t:TG}{u:Zib}(h1:PG X e t)(h2:Zk3 X es u)
  (hs:(assignEach (e::es) X.env).map (·.2)=assign e X.env::(assignEach es X.env).map (·.2):=by rfl):Zk3 X (e::es) (Zj7 t u):=by
 intro Z4 s σ H vs us Q I r h
 obtain⟨v,vr,e1,h⟩:=h
 subst e1
 cases r with
 |cons r rr =>
  rw[hs]
  refine assignInOrder_cons (Xr (h1 Z4 s σ H _ _ _ I r h) fun _ s1 ⟨σ1,H1,I1,q1⟩=>?_)
  exact h2 Z4 s1 σ1 H1 _ _ Q I1 rr q1
def Zkp(K:W.Frag)(n:Nat)(t:Zib):TG:=fun v σ H Q=>∃a xs,v=.ref a/\SqT K H a xs/\xs.length=n/\t xs σ H Q
theorem Z7p{es:List Expr}{k:Nat}{t:Zib}{n:Nat}(hc:X.calm=true)(h:Zk3 X es t)
  (hn:(assignEach es X.env).length=n:=by rfl) (hst:(assignEach es X.env).findIdx? (·.1)=none:=by rfl):PG X (.Tuple es k pos) (Zkp X.K n t):=by
 intro Z4 s σ H v u Q I r hw
 obtain⟨a,xs,e1,hq,hl,hw⟩:=hw
 subst e1
 cases r
 obtain⟨its,rv,ht,hz⟩:=I.tuple hq
 refine assign_Tuple_tuple (I.ok.hd hc) ht (by simp[hn,← hl,rv.length]) hst fun h' hx=>?_
 have I1:Inv X Z4 σ H { s with heap:=h' }:=I.kept (t':=s.toks) fun b o e=>hx b o (Nat.ne_of_lt (Heap.lt_size e)) e
 exact h Z4 _ σ H xs _ Q I1 (by simpa using rv) hw
def Zkq(to ti:TE)(t:Zi0):TG:=fun v σ H Q=>to σ H fun o H1=>ti σ H1 fun i H2=>t o i v H2 fun H3=>Q σ H3
theorem Ta{o i:Expr}{to ti:TE}{t:Zi0}(ho:PE X o to)(hi:PE X i ti)(hs:Zjl X t)
  (ha:∀v,assign (.Subscript o i pos) X.env v=(do
   let ov ← holding [v] (eval o X.env)
   let iv ← holding [v,ov] (eval i X.env)
   standAt pos
   holding [v,ov,iv] (setItem ov iv v)
   release [v,ov,iv] []):=by intro _;rfl):PG X (.Subscript o i pos) (Zkq to ti t):=by
 intro Z4 s σ H v u Q I r h
 rw[ha]
 refine wpAny_bind (wpAny_holding (Xr (ho Z4 s σ H _ I h) fun ov s1 ⟨x,H1,I1,r1,q1⟩=>?_))
 refine wpAny_bind (wpAny_holding (Xr (hi Z4 s1 σ H1 _ I1 q1) fun iv s2 ⟨y,H2,I2,r2,q2⟩=>?_))
 refine wpAny_bind (wpAny_standAt (wpAny_bind (wpAny_holding (Xr (hs Z4 s2 σ H2 x y v ov iv u _ I2 r1 r2 r q2) fun _ s3 ⟨H3,I3,q3⟩=>?_))))
 exact wpAny_release ⟨σ,H3,I3,q3⟩
def Z90(te:TE)(g:TG):TS:=fun D σ H=>te σ H fun x H1=>g x σ H1 D.nx
theorem Uf{tg e:Expr}{te:TE}{g:TG}(he:PE X e te)(hg:PG X tg g)(hs:swapsWithSole [tg] e pos.line X.env=pure false:=by rfl)(hw:swappedStores [tg] e X.env=pure none:=by rfl)
  (h1:(assignEach [tg] X.env).map (·.2)=[assign tg X.env]:=by rfl):PS X (.Assign [tg] e pos) (Z90 te g):=by
 intro Z4 s σ H D I h
 refine wpAny_Assign_stores (Xr (he Z4 s σ H _ I h) fun v s1 ⟨x,H1,I1,r1,q1⟩=>?_) hs hw
 rw[h1]
 exact Xr (hg Z4 s1 σ H1 x v _ I1 r1 q1) fun _ s2 q=>q
theorem Zgr{i:Nat}{x:Str}{e:Expr}{te:TE}{pos':Pos}(hN:X.N.Nodup)(hi:X.N[i]? = some x)(hx:Zi6 X.env.scope x)(he:PE X e te)(hs:swapsWith e (some (.Name x pos')) pos.line X.env=pure false:=by rfl)(hf:X.fn x=true∨X.env.scope.names.lookup x=some .local:=by first | exact .inl rfl | exact .inr rfl | assumption) :
  PS X (.Assign [.Name x pos'] e pos) (Z90 te (Z10 i)):=by
 intro Z4 s σ H D I h
 refine wpAny_Assign_Name (Xr (he Z4 s σ H _ I h) fun v s1 ⟨y,H1,I1,r1,q1⟩=>?_) hs
 exact Z1v I1 hN hi hx r1 (fun s2 I2=>⟨_,H1,I2,q1⟩) hf
def Zka(i:Nat)(te:TE)(ti:Zk1):TS:=fun D σ H=>∃x,σ[i]? = some (some x)/\te σ H fun y H1=>ti x y H1 fun z H2=>D.nx (σ.set i (some z)) H2
theorem Zca{i:Nat}{x:Str}{e:Expr}{te:TE}{op:Operator}{ti:Zk1}{pos':Pos}(hN:X.N.Nodup)(hi:X.N[i]? = some x)(hx:Zi6 X.env.scope x)(he:PE X e te)(ho:Zle X op ti)(hf:X.fn x=true∨X.env.scope.names.lookup x=some .local:=by first | exact .inl rfl | exact .inr rfl | assumption) :
  PS X (.AugAssign (.Name x pos') op e pos) (Zka i te ti):=by
 intro Z4 s σ H D I h
 obtain⟨v,e1,h⟩:=h
 obtain⟨m,hn,hl⟩:=I.loc
 have vis:Zk0 X.env.scope x:=by rcases hx with k | k;exact .inl k;exact .inr (.inl k)
 obtain⟨u,r,l⟩:=hl i x v hi e1 vis
 refine wpAny_AugAssign_Name ?_
 have go:wpAny (model X.prog X.w) X.A (eval e X.env) (fun w s₂=>wpAny (model X.prog X.w) X.A (inplaceOp op u w) (fun r s₃=>wpAny (model X.prog X.w) X.A (storeName X.env x r) (fun _=>SP X Z4 D .next) X.xe s₃) X.xe s₂) X.xe s:=by
  refine Xr (he Z4 s σ H _ I h) fun w s1 ⟨y,H1,I1,r1,q1⟩=>?_
  refine Xr (ho Z4 s1 σ H1 v y u w _ I1 r r1 q1) fun z s2 ⟨zv,H2,I2,r2,q2⟩=>?_
  exact Z1v I2 hN hi hx r2 (fun s3 I3=>⟨_,H2,I3,q2⟩) hf
 rcases l with⟨hk,hm⟩ | ⟨hk,c,hc,hcell⟩
 ·exact wpAny_loadName_local I.ok.kind hk hn hm go
 ·rcases hk with hk | hk
  ·exact wpAny_loadName_cell I.ok.kind hk hc hcell go
  ·rcases hx with k | k
   ·have:X.env.scope.names.lookup x=some .free:=hk
    rw[k]at this;cases this
   ·have:X.env.scope.names.lookup x=some .free:=hk
    rw[k]at this;cases this
def Zlo(f:Int->Int->Int):Zk1:=fun x y H Q=>∃i j,x=.int i/\y=.int j/\Q (.int (f i j)) H
theorem Zch:Zle X .Add (Zlo fun i j=>i+j):=by
 intro Z4 s σ H x y v u Q I r1 r2 h
 obtain⟨i,j,e1,e2,q⟩:=h
 subst e1;subst e2
 obtain⟨t,rfl⟩:=r1
 obtain⟨t',rfl⟩:=r2
 exact iadd_int ⟨.int _,H,I.tok _,⟨_,rfl⟩,q⟩
def Vp(c:TT)(tb:TS):TS:=fun D σ H=>∃W:Nat->St->Hp->Prop,(∃m,W m σ H)/\∀m σ H,W m σ H ->
 c σ H fun b H1=>if b=true then ∃N:St->Hp->Prop,(∀σ' H',N σ' H'->∃m',m'<m/\W m' σ' H')/\tb { D with nx:=N,ct:=N,bk:=D.nx } σ H1 else D.nx σ H1
theorem Jg{c:Expr}{body:List Stmt}{tc:TT}{tb:TS}(hp:PassesOwn (model X.prog X.w) X.A X.env X.xe)(hc:PT X c tc)(hb:PSs X body tb):PS X (.While c body [] pos) (Vp tc tb):=by
 intro Z4 s σ H D I h
 obtain⟨W,⟨m0,w0⟩,turn⟩:=h
 refine wpAny_While (codeAny_whileLoop (fun n s'=>∃σ' H',Inv X Z4 σ' H' s'/\W n σ' H') ?_ m0 ⟨σ,H,I,w0⟩)
 rintro n s1 ⟨σ1,H1,I1,w1⟩
 refine wpAny_passesOwn hp (Xr (hc Z4 s1 σ1 H1 _ I1 (turn n σ1 H1 w1)) fun b s2 ⟨H2,I2,q2⟩=>?_)
 cases b with
 |true =>
  obtain⟨N,hN,q2⟩:=q2
  rw[if_pos rfl]
  refine wpAny_passesOwn hp (Xr (hb Z4 s2 σ1 H2 _ I2 q2) fun f s3 q3=>?_)
  cases f with
  |next =>
   obtain⟨σ3,H3,I3,n3⟩:=q3
   obtain⟨m',hm,w3⟩:=hN σ3 H3 n3
   exact⟨m',hm,σ3,H3,I3,w3⟩
  |cont =>
   obtain⟨σ3,H3,I3,n3⟩:=q3
   obtain⟨m',hm,w3⟩:=hN σ3 H3 n3
   exact⟨m',hm,σ3,H3,I3,w3⟩
  |brk=>exact q3
  |ret v=>exact q3
 |false =>
  rw[if_neg Bool.false_ne_true]
  exact wpAny_execs_nil ⟨σ1,H2,I2,q2⟩
end
structure It where
 go:Nat->Hp->Prop
 yld:Nat->Hp->V->Hp->Prop
 stop:Nat->Hp->Prop
def Z14(X:Cx)(Z4:List (Addr×Obj))(H:Hp)(b:Addr):Prop :=
 H b=none/\b≠X.env.locals/\b∉X.fs/\(b∈X.ex∨X.s₀.heap.objs.size<=b)/\(∀x c,X.env.cells.lookup x=some c->c≠b)/\∀p∈X.pn++Z4,p.1≠b
theorem Inv.fpOk{X:Cx}{Z4:List (Addr×Obj)}{σ:St}{H H':Hp}{s:Shared}{b:Addr}(I:Inv X Z4 σ H s)(hb:s.heap.objs.size<=b)(hn:H' b=none):Z14 X Z4 H' b:=by
 refine⟨hn,Nat.ne_of_gt (Nat.lt_of_lt_of_le I.lt hb),I.nofs hb,.inr (Nat.le_trans I.sz hb),fun x c e z=>?_,fun p hp z=>?_⟩
 ·obtain⟨v,q⟩:=I.cell x c e
  exact absurd (Nat.lt_of_lt_of_le q.lt (by rw[z];exact hb)) (Nat.lt_irrefl _)
 ·exact absurd (Nat.lt_of_lt_of_le (Heap.lt_size (I.pin p hp).1) (by rw[z];exact hb)) (Nat.lt_irrefl _)
structure Turn(P:Program)(w:World)(K:W.Frag)(tg:Expr)(J:It)(fp:List Addr)(it:Addr)(tn:Nat->Heap->Prop):Prop where
 mem:it∈fp
 obj:∀i h,tn i h->∀b∈fp,∃o,h.get? b=some o/\∀v,o.data≠.cell v
 keep:∀i h h',tn i h->(∀b∈fp,∀o,h.get? b=some o->h'.get? b=some o)->tn i h'
 item:∀(X:Cx),X.prog=P->X.w=w->X.K=K->X.calm=true->∀(i:Nat) (Z4:List (Addr×Obj)) (s:Shared) (σ:St) (H:Hp) (E:Value->Shared->Prop),Inv X Z4 σ H s->(∀b∈fp,Z14 X Z4 H b)->tn i s.heap->J.go i H ->
  wpAny (model P w) X.A (pyNext (.ref it)) (fun r s1=>∃u,r=some u /\
   wpAny (model P w) X.A (letOwnedTupleGo tg (.ref it) u) (fun _ s2=>∃x H',Inv X Z4 σ H' s2/\RelV x u/\J.yld i H x H'/\tn (i+1) s2.heap/\∀b∈fp,H' b=none) E s1) E s
 done:∀(X:Cx),X.prog=P->X.w=w->X.K=K->X.calm=true->∀(i:Nat) (Z4:List (Addr×Obj)) (s:Shared) (σ:St) (H:Hp) (E:Value->Shared->Prop),Inv X Z4 σ H s->(∀b∈fp,Z14 X Z4 H b)->tn i s.heap->J.stop i H ->
  wpAny (model P w) X.A (pyNext (.ref it)) (fun r s1=>r=none/\Inv X Z4 σ H s1) E s
 self:∀(A:Around) (i:Nat) (s:Shared) (Q:Value->Shared->Prop) (E:Value->Shared->Prop),tn i s.heap->Q (.ref it) s->wpAny (model P w) A (pyIter (.ref it)) Q E s
abbrev TI:=St->Hp->(It->Hp->Prop)->Prop
def Zlf(X:Cx)(Z4:List (Addr×Obj))(σ:St)(tg:Expr)(R:It->Hp->Prop)(itv:Value)(s2:Shared):Prop :=
 ∃(it:Addr) (fp:List Addr) (tn:Nat->Heap->Prop) (J:It) (H':Hp),itv=.ref it/\Inv X Z4 σ H' s2/\Turn X.prog X.w X.K tg J fp it tn/\tn 0 s2.heap/\(∀b∈fp,Z14 X Z4 H' b)/\R J H'
def PI(X:Cx)(tg iter:Expr)(wi:TI):Prop :=
 ∀(Z4:List (Addr×Obj)) (s:Shared) (σ:St) (H:Hp) (R:It->Hp->Prop),Inv X Z4 σ H s->wi σ H R ->
  wpAny (model X.prog X.w) X.A (eval iter X.env) (fun v s1=>wpAny (model X.prog X.w) X.A (pyIter v) (Zlf X Z4 σ tg R) X.xe s1) X.xe s
theorem Zcw {M : Model} {A : Around} {E : Value → Shared → Prop} {s : Shared} {tg : Expr} {it : Addr} {u : Value} {o : Obj} {n : String} {vs : Array Value} {Q : Unit → Shared → Prop} (ho : s.heap.get? it = some o) (hc : o.cls = .type n) (hd : o.data = .fields vs)
    (hn : ["enumerate", "zip", "dict_itemiterator", "dict_reverseitemiterator", "odict_iterator", "itertools.zip_longest", "itertools.pairwise"].contains n = false) (hQ : Q () s) : wpAny M A (letOwnedTupleGo tg (.ref it) u) Q E s := by
  unfold letOwnedTupleGo
  cases tg <;> first
    | exact wpAny_pure hQ
    | (cases u <;> first
        | exact wpAny_pure hQ
        | (refine wpAny_bind (wpAny_load ho ?_)
           rw [hc, hd]
           show wpAny M A (if (["enumerate", "zip", "dict_itemiterator", "dict_reverseitemiterator", "odict_iterator", "itertools.zip_longest", "itertools.pairwise"].contains n && vs[0]? == some (rawInt _)) = true then _ else _) Q E s
           rw [if_neg (by intro h; rw [hn, Bool.false_and] at h; cases h)]
           exact wpAny_pure hQ))
def Zjo(K:W.Frag)(a:Addr):It :=
 ⟨fun i H=>∃xs x,SqL K H a xs/\xs[i]? = some x,fun i H x H'=>H'=H/\∀xs,SqL K H a xs->xs[i]? = some x,fun i H=>∃xs,SqL K H a xs/\xs.length<=i⟩
def Zjn(K:W.Frag)(a:Addr):It :=
 ⟨fun i H=>∃xs x,SqT K H a xs/\xs[i]? = some x,fun i H x H'=>H'=H/\∀xs,SqT K H a xs->xs[i]? = some x,fun i H=>∃xs,SqT K H a xs/\xs.length<=i⟩
def Zhu(lo:Int)(n:Nat):It:=⟨fun i _=>i<n,fun i H x H'=>H'=H/\x=.int (lo+i),fun i _=>n<=i⟩
theorem Z98{P:Program}{w:World}{K:W.Frag}{tg:Expr}(a it:Addr):Turn P w K tg (Zjo K a) [it] it (fun i h=>h.IsListIter it a i) where
 mem:=by simp
 obj:=fun i h st b hb=>by
  have e:b=it:=by simpa using hb
  subst e
  obtain⟨o,e,c,d⟩:=st
  exact⟨o,e,fun v z=>by rw[d]at z;cases z⟩
 keep:=fun i h h' st k=>st.at fun o e=>k it (by simp) o e
 item:=by
  intro X hP hw hK hc i Z4 s σ H E I hf st hg
  subst hP hw hK
  obtain⟨xs,x,hq,hx⟩:=hg
  obtain⟨its,rv,p,hz⟩:=I.list hq
  obtain⟨u,hu,ru⟩:=rv.get hx
  obtain⟨f0,f1,f2,f3,f4,f5⟩:=hf it (by simp)
  refine wpAny_pyNext_list_item st p.isList (x:=u) (by simpa using hu) fun h' st' sb=>?_
  have I1:Inv X Z4 σ H { s with heap:=h' }:=I.turned (t':=s.toks) (fun b o hb e=>(sb.2 b hb).trans e) f0 f1 f3 f4 f5
  obtain⟨o,e,c,d⟩:=id st'
  exact⟨u,rfl,Zcw (s:={ s with heap:=h' }) e c d (by decide) ⟨x,H,I1,ru,⟨rfl,fun ys hy=>by rw[I.list_inj hy hq];exact hx⟩,st',fun b hb=>(hf b hb).1⟩⟩
 done:=by
  intro X hP hw hK hc i Z4 s σ H E I hf st hg
  subst hP hw hK
  obtain⟨xs,hq,hx⟩:=hg
  obtain⟨its,rv,p,hz⟩:=I.list hq
  obtain⟨f0,f1,f2,f3,f4,f5⟩:=hf it (by simp)
  have hl:=rv.length
  exact wpAny_pyNext_list_end (I.ok.hd hc) st p.isList (by simp;omega) fun h' eb=>⟨rfl,I.turned (t':=s.toks) (fun b o hb e=>eb b o hb e) f0 f1 f3 f4 f5⟩
 self:=fun _ _ _ _ _ st h=>wpAny_pyIter_listiter st h
theorem Z6f{P:Program}{w:World}{K:W.Frag}{tg:Expr}(a it:Addr):Turn P w K tg (Zjn K a) [it] it (fun i h=>h.IsTupleIter it a i) where
 mem:=by simp
 obj:=fun i h st b hb=>by
  have e:b=it:=by simpa using hb
  subst e
  obtain⟨o,e,c,d⟩:=st
  exact⟨o,e,fun v z=>by rw[d]at z;cases z⟩
 keep:=fun i h h' st k=>st.at fun o e=>k it (by simp) o e
 item:=by
  intro X hP hw hK hc i Z4 s σ H E I hf st hg
  subst hP hw hK
  obtain⟨xs,x,hq,hx⟩:=hg
  obtain⟨its,rv,p,hz⟩:=I.tuple hq
  obtain⟨u,hu,ru⟩:=rv.get hx
  obtain⟨f0,f1,f2,f3,f4,f5⟩:=hf it (by simp)
  refine wpAny_pyNext_tuple_item st (show s.heap.IsTuple a its.toArray from p) (x:=u) (by simpa using hu) fun h' st' sb=>?_
  have I1:Inv X Z4 σ H { s with heap:=h' }:=I.turned (t':=s.toks) (fun b o hb e=>(sb.2 b hb).trans e) f0 f1 f3 f4 f5
  obtain⟨o,e,c,d⟩:=id st'
  exact⟨u,rfl,Zcw (s:={ s with heap:=h' }) e c d (by decide) ⟨x,H,I1,ru,⟨rfl,fun ys hy=>by rw[I.tuple_inj hy hq];exact hx⟩,st',fun b hb=>(hf b hb).1⟩⟩
 done:=by
  intro X hP hw hK hc i Z4 s σ H E I hf st hg
  subst hP hw hK
  obtain⟨xs,hq,hx⟩:=hg
  obtain⟨its,rv,p,hz⟩:=I.tuple hq
  obtain⟨f0,f1,f2,f3,f4,f5⟩:=hf it (by simp)
  have hl:=rv.length
  exact wpAny_pyNext_tuple_end (I.ok.hd hc) st (show s.heap.IsTuple a its.toArray from p) (by simp;omega) fun h' eb=>⟨rfl,I.turned (t':=s.toks) (fun b o hb e=>eb b o hb e) f0 f1 f3 f4 f5⟩
 self:=fun _ _ _ _ _ st h=>wpAny_pyIter_tupleiter st h
theorem Z6g{P:Program}{w:World}{K:W.Frag}{tg:Expr}(it:Addr)(lo:Int)(n:Nat):Turn P w K tg (Zhu lo n) [it] it (fun i h=>IsRangeIter h it (lo+(i:Nat)*1) ((n:Int)-(i:Nat)) 1) where
 mem:=by simp
 obj:=fun i h st b hb=>by
  have e:b=it:=by simpa using hb
  subst e
  exact⟨_,st,fun v z=>by
   have z':Data.fields _=Data.cell v:=z
   cases z'⟩
 keep:=fun i h h' st k=>k it (by simp) _ st
 item:=by
  intro X hP hw hK hc i Z4 s σ H E I hf st hg
  subst hP hw hK
  obtain⟨f0,f1,f2,f3,f4,f5⟩:=hf it (by simp)
  have W:=Walks.range (prog:=X.prog) (w:=X.w) (I.ok.hd hc) it lo 1 n
  refine W.item i s _ _ hg st fun v h' tk hv st' kk=>?_
  obtain⟨t,rfl⟩:=hv
  have I1:Inv X Z4 σ H { s with heap:=h',toks:=tk }:=I.turned (fun b o hb e=>kk b o (by simpa using hb) e) f0 f1 f3 f4 f5
  refine⟨_,rfl,Zcw (s:={ s with heap:=h',toks:=tk }) (n:="range_iterator") st' rfl rfl (by decide) ⟨.int (lo+i),H,I1,⟨t,?_⟩,⟨rfl,rfl⟩,st',fun b hb=>(hf b hb).1⟩⟩
  rw[Int.mul_one]
 done:=by
  intro X hP hw hK hc i Z4 s σ H E I hf st hg
  subst hP hw hK
  obtain⟨f0,f1,f2,f3,f4,f5⟩:=hf it (by simp)
  exact wpAny_pyNext_range_end (I.ok.hd hc) st (by have:n<=i:=hg;omega) fun h' eb=>⟨rfl,I.turned (t':=s.toks) (fun b o hb e=>eb b o hb e) f0 f1 f3 f4 f5⟩
 self:=fun _ _ _ _ _ st h=>wpAny_pyIter_rangeiter st h
section
variable{X:Cx}{tg:Expr}
def Zj4(K:W.Frag)(tl:TE):TI:=fun σ H R=>tl σ H fun x H1=>∃a,x=.ref a/\(∃xs,SqL K H1 a xs)/\R (Zjo K a) H1
def Zkn(K:W.Frag)(tl:TE):TI:=fun σ H R=>tl σ H fun x H1=>∃a,x=.ref a/\(∃xs,SqT K H1 a xs)/\R (Zjn K a) H1
theorem Jr{l:Expr}{tl:TE}(hl:PE X l tl):PI X tg l (Zj4 X.K tl):=by
 intro Z4 s σ H R I h
 refine Xr (hl Z4 s σ H _ I h) fun v s1 ⟨x,H1,I1,r1,q1⟩=>?_
 obtain⟨a,e,⟨xs,hq⟩,q⟩:=q1
 subst e
 cases r1
 obtain⟨its,rv,p,hz⟩:=I1.list hq
 refine wpAny_pyIter_list p.isList ?_
 refine⟨s1.heap.objs.size,[s1.heap.objs.size],_,_,H1,rfl,I1.kept (t':=s1.toks) fun b o e=>Heap.get?_push_of_some _ e,Z98 a _,⟨_,Heap.get?_push_size _ rfl,rfl,rfl⟩,fun b hb=>?_,q⟩
 have e:b=s1.heap.objs.size:=by simpa using hb
 subst e
 exact I1.fpOk (Nat.le_refl _) (I1.hok.fresh (Nat.le_refl _))
theorem Z2e{l:Expr}{tl:TE}(hl:PE X l tl):PI X tg l (Zkn X.K tl):=by
 intro Z4 s σ H R I h
 refine Xr (hl Z4 s σ H _ I h) fun v s1 ⟨x,H1,I1,r1,q1⟩=>?_
 obtain⟨a,e,⟨xs,hq⟩,q⟩:=q1
 subst e
 cases r1
 obtain⟨its,rv,p,hz⟩:=I1.tuple hq
 refine wpAny_pyIter_tuple (show s1.heap.IsTuple a its.toArray from p) ?_
 refine⟨s1.heap.objs.size,[s1.heap.objs.size],_,_,H1,rfl,I1.kept (t':=s1.toks) fun b o e=>Heap.get?_push_of_some _ e,Z6f a _,⟨_,Heap.get?_push_size _ rfl,rfl,rfl⟩,fun b hb=>?_,q⟩
 have e:b=s1.heap.objs.size:=by simpa using hb
 subst e
 exact I1.fpOk (Nat.le_refl _) (I1.hok.fresh (Nat.le_refl _))
theorem Z5k{Z4:List (Addr×Obj)}{σ:St}{H:Hp}{s:Shared}{R:It->Hp->Prop}{E:Value->Shared->Prop}{lo hi:Int}{t u v:Tok}{tk:Nat}(I:Inv X Z4 σ H s)(h1:-(2 ^ 62)<=lo)(h2:lo<2 ^ 62)(h3:-(2 ^ 62)<=hi)(h4:hi<2 ^ 62)
  (q:R (Zhu lo (hi-lo).toNat) H):wpAny (model X.prog X.w) X.A (pyIter (.ref s.heap.objs.size)) (Zlf X Z4 σ tg R) E { s with heap:=s.heap.push { cls:=.type "range",data:=.fields #[.int lo t,.int hi u,.int 1 v] },toks:=tk }:=by
 refine wpAny_pyIter_range (IsRange.new ..) (small_one h1 h2 h3 h4) ?_
 have I1:Inv X Z4 σ H { s with heap:=s.heap.push { cls:=.type "range",data:=.fields #[.int lo t,.int hi u,.int 1 v] },toks:=tk }:=I.kept fun b o e=>Heap.get?_push_of_some _ e
 refine⟨(s.heap.push { cls:=.type "range",data:=.fields #[.int lo t,.int hi u,.int 1 v] }).objs.size,[(s.heap.push { cls:=.type "range",data:=.fields #[.int lo t,.int hi u,.int 1 v] }).objs.size],_,_,H,rfl,
  I1.kept (t':=tk) fun b o e=>Heap.get?_push_of_some _ e,Z6g _ lo (hi-lo).toNat,?_,fun b hb=>?_,q⟩
 ·have e1:lo+((0:Nat):Int)*1=lo:=by simp
  have e2:(((hi-lo).toNat:Nat):Int)-((0:Nat):Int)=Builtin.Range.rangeSize lo hi 1:=by rw[rangeSize_one];split <;> omega
  show IsRangeIter _ _ (lo+((0:Nat):Int)*1) ((((hi-lo).toNat:Nat):Int)-((0:Nat):Int)) 1
  rw[e1,e2]
  exact Heap.get?_push_size _ rfl
 ·have e:b=(s.heap.push { cls:=.type "range",data:=.fields #[.int lo t,.int hi u,.int 1 v] }).objs.size:=by simpa using hb
  subst e
  exact I1.fpOk (Nat.le_refl _) (I1.hok.fresh (Nat.le_refl _))
def Zj3(ta:TA):TI:=fun σ H R=>ta σ H fun vs H1=>∃j:Int,vs=[.int j]/\-(2 ^ 62)<=j/\j<2 ^ 62/\R (Zhu 0 j.toNat) H1
def Zj2(ta:TA):TI:=fun σ H R=>ta σ H fun vs H1=>∃i j:Int,vs=[.int i,.int j]/\(-(2 ^ 62)<=i/\i<2 ^ 62/\-(2 ^ 62)<=j/\j<2 ^ 62)/\R (Zhu i (j-i).toNat) H1
theorem V5{a:Expr}{ta:TA}{p pos:Pos}(hg:Gl X "range")(hm:X.mg "range" = none)(ha:PA X [a] ta)(hs:starEach [a] X.env=[(false,eval a X.env)]:=by rfl):PI X tg (.Call (.Name "range" p) [a] [] pos) (Zj3 ta):=by
 intro Z4 s σ H R I h
 refine Call_ (Ty I hg hm boot_range (PyProof.Rows.callWith_type1 (Xr (ha pos Z4 s σ H _ I h) fun us s1 ⟨vs,H1,I1,r1,q1⟩=>?_) hs rfl))
 obtain⟨j,e,q1,q2,q⟩:=q1
 subst e
 cases r1 with
 |cons r rr =>
  cases rr
  obtain⟨t,rfl⟩:=r
  exact call_range_1 (Z5k I1 (by omega) (by omega) q1 q2 (by simpa using q))
theorem Z36{a b:Expr}{ta:TA}{p pos:Pos}(hg:Gl X "range")(hm:X.mg "range" = none)(ha:PA X [a,b] ta)(hs:starEach [a,b] X.env=[(false,eval a X.env),(false,eval b X.env)]:=by rfl)(hs2:starEach [b] X.env=[(false,eval b X.env)]:=by rfl) :
  PI X tg (.Call (.Name "range" p) [a,b] [] pos) (Zj2 ta):=by
 intro Z4 s σ H R I h
 refine Call_ (Ty I hg hm boot_range (PyProof.Rows.callWith_type1 (Xr (ha pos Z4 s σ H _ I h) fun us s1 ⟨vs,H1,I1,r1,q1⟩=>?_) (by rw[hs,hs2]) (by rw[hs2];rfl)))
 obtain⟨i,j,e,⟨q1,q2,q3,q4⟩,q⟩:=q1
 subst e
 cases r1 with
 |cons r rr =>
  cases rr with
  |cons r' rr =>
   cases rr
   obtain⟨t,rfl⟩:=r
   obtain⟨t',rfl⟩:=r'
   exact call_range_2 (Z5k I1 q1 q2 q3 q4 q)
def Ud(wi:TI)(g:TG)(tb:TS):TS:=fun D σ H=>wi σ H fun J H1=>∃W:Nat->Nat->St->Hp->Prop,(∃m,W 0 m σ H1)/\∀i m σ H,W i m σ H ->
 (J.stop i H/\D.nx σ H)∨(J.go i H/\∃N:St->Hp->Prop,(∀σ' H',N σ' H'->∃m',m'<m/\W (i+1) m' σ' H')/\∀x H',J.yld i H x H'->g x σ H' fun σ2 H2=>tb { D with nx:=N,ct:=N,bk:=D.nx } σ2 H2)
def Z0o(fp:List Addr)(h:Heap):List (Addr×Obj):=fp.filterMap fun b=>(h.get? b).map fun o=>(b,o)
theorem U5{fp:List Addr}{h:Heap}{b:Addr}{o:Obj}(hb:b∈fp)(e:h.get? b=some o):(b,o)∈Z0o fp h:=List.mem_filterMap.mpr ⟨b,hb,by rw[e];rfl⟩
theorem Z9v{fp:List Addr}{h:Heap}{p:Addr×Obj}(hp:p∈Z0o fp h):p.1∈fp/\h.get? p.1=some p.2:=by
 obtain⟨b,hb,e⟩:=List.mem_filterMap.mp hp
 cases q:h.get? b with
 |none=>rw[q]at e;cases e
 |some o =>
  rw[q]at e
  have e':(b,o)=p:=Option.some.inj e
  subst e'
  exact⟨hb,q⟩
theorem Inv.pinned{Z4:List (Addr×Obj)}{σ:St}{H:Hp}{s:Shared}{fp:List Addr}(I:Inv X Z4 σ H s)(hf:∀b∈fp,Z14 X Z4 H b)(ho:∀b∈fp,∃o,s.heap.get? b=some o/\∀v,o.data≠.cell v):Inv X (Z4++Z0o fp s.heap) σ H s :=
 I.pins_of fun p hp=>(List.mem_append.mp hp).elim (fun z=>I.pin p (List.mem_append_right _ z)) fun z=>by
  obtain⟨hb,e⟩:=Z9v z
  obtain⟨f0,f1,f2,_⟩:=hf p.1 hb
  obtain⟨o,e',d⟩:=ho p.1 hb
  rw[e]at e';cases e'
  exact⟨e,f0,f1,f2,d⟩
theorem Inv.unpinned{Z4 pl:List (Addr×Obj)}{σ:St}{H:Hp}{s:Shared}(I:Inv X (Z4++pl) σ H s):Inv X Z4 σ H s:=I.pins_of fun p hp=>I.pin p (List.mem_append_right _ (List.mem_append_left _ hp))
theorem Vb{iter:Expr}{body:List Stmt}{wi:TI}{g:TG}{tb:TS}{pos:Pos}(hp:PassesOwn (model X.prog X.w) X.A X.env X.xe)(hc:X.calm=true)(hi:PI X tg iter wi)(hg:PG X tg g)(hb:PSs X body tb)
  (hs:∀x,foldedSetIterable iter X.env x=pure x:=by intro _;rfl):PS X (.For tg iter body [] pos) (Ud wi g tb):=by
 intro Z4 s σ H D I h
 refine wpAny_For (Xr (hi Z4 s σ H _ I h) fun v s1 h1=>Xr h1 fun itv s2 h2=>?_) hs
 obtain⟨it,fp,tn,J,H2,e,I2,T,st2,f2,W,⟨m0,w0⟩,turn⟩:=h2
 subst e
 have stat:∀ {H':Hp},(∀b∈fp,H' b=none)->∀b∈fp,Z14 X Z4 H' b:=fun hn b hb=>⟨hn b hb,(f2 b hb).2⟩
 refine codeAny_forLoop_any (fun n s'=>∃i σ' H',Inv X Z4 σ' H' s'/\tn i s'.heap/\(∀b∈fp,H' b=none)/\W i n σ' H') ?_ m0 ⟨0,σ,H2,I2,st2,fun b hb=>(f2 b hb).1,w0⟩
 rintro n s3 ⟨i,σ3,H3,I3,st3,fr3,w3⟩
 rcases turn i n σ3 H3 w3 with⟨stop,qn⟩ | ⟨go,N,hN,step⟩
 ·refine wpAny_passesOwn hp (Xr (T.done X rfl rfl rfl hc i Z4 s3 σ3 H3 X.xe I3 (stat fr3) st3 stop) fun r s4 ⟨hr,I4⟩=>?_)
  subst hr
  exact wpAny_execs_nil ⟨σ3,H3,I4,qn⟩
 ·refine wpAny_passesOwn hp (Xr (T.item X rfl rfl rfl hc i Z4 s3 σ3 H3 X.xe I3 (stat fr3) st3 go) fun r s4 ⟨u,hr,h4⟩=>?_)
  subst hr
  refine wpAny_passesOwn hp (Xr h4 fun _ s5 ⟨x,H5,I5,r5,y5,st5,fr5⟩=>?_)
  have I5':=I5.pinned (stat fr5) (T.obj _ _ st5)
  refine wpAny_passesOwn hp (Xr (hg _ s5 σ3 H5 x u _ I5' r5 (step x H5 y5)) fun _ s6 ⟨σ6,H6,I6,q6⟩=>?_)
  refine wpAny_passesOwn hp (Xr (hb _ s6 σ6 H6 _ I6 q6) fun f s7 q7=>?_)
  have again:∀ {σ7:St} {H7:Hp},Inv X (Z4++Z0o fp s5.heap) σ7 H7 s7->N σ7 H7->∃m,m<n/\∃i σ' H',Inv X Z4 σ' H' s7/\tn i s7.heap/\(∀b∈fp,H' b=none)/\W i m σ' H':=fun{σ7 H7} I7 n7=>by
   obtain⟨m',hm,w7⟩:=hN σ7 H7 n7
   refine⟨m',hm,i+1,σ7,H7,I7.unpinned,T.keep _ _ _ st5 fun b hb o e=>(I7.pin (b,o) (List.mem_append_right _ (List.mem_append_right _ (U5 hb e)))).1,fun b hb=>?_,w7⟩
   obtain⟨o,e,d⟩:=T.obj _ _ st5 b hb
   exact(I7.pin (b,o) (List.mem_append_right _ (List.mem_append_right _ (U5 hb e)))).2.1
  cases f with
  |next=>obtain⟨σ7,H7,I7,n7⟩:=q7;exact again I7 n7
  |cont=>obtain⟨σ7,H7,I7,n7⟩:=q7;exact again I7 n7
  |brk=>obtain⟨σ7,H7,I7,q7⟩:=q7;exact⟨σ7,H7,I7.unpinned,q7⟩
  |ret v=>obtain⟨x7,σ7,H7,I7,r7,q7⟩:=q7;exact⟨x7,σ7,H7,I7.unpinned,r7,q7⟩
end
theorem Z21{K:W.Frag}{a:Addr}{xs:List V}{g:TG}{tb:TS}{D:Ends}{σ:St}{H:Hp}(Pv:Nat->St->Hp->Prop)(h0:Pv 0 σ H)(hl:∀i σ H,i<=xs.length->Pv i σ H->SqL K H a xs)
  (hs:∀i x σ H,xs[i]? = some x->Pv i σ H->g x σ H fun σ2 H2=>tb { D with nx:=Pv (i+1),ct:=Pv (i+1),bk:=D.nx } σ2 H2) (hd:∀σ H,Pv xs.length σ H->D.nx σ H) :
  ∃W:Nat->Nat->St->Hp->Prop,(∃m,W 0 m σ H)/\∀i m σ H,W i m σ H ->
   ((Zjo K a).stop i H/\D.nx σ H)∨((Zjo K a).go i H/\∃N:St->Hp->Prop,(∀σ' H',N σ' H'->∃m',m'<m/\W (i+1) m' σ' H')/\∀x H',(Zjo K a).yld i H x H'->g x σ H' fun σ2 H2=>tb { D with nx:=N,ct:=N,bk:=D.nx } σ2 H2):=by
 refine⟨fun i m σ H=>m=xs.length-i/\i<=xs.length/\Pv i σ H,⟨xs.length,by simp,Nat.zero_le _,h0⟩,?_⟩
 rintro i m σ H ⟨rfl,hi,p⟩
 have q:=hl i σ H hi p
 by_cases hlt:i<xs.length
 ·refine .inr ⟨⟨xs,xs[i],q,by simp[hlt]⟩,Pv (i+1),fun σ' H' p'=>⟨xs.length-(i+1),by omega,rfl,hlt,p'⟩,fun x H' y=>?_⟩
  obtain⟨e,y⟩:=y
  subst e
  exact hs i x σ _ (y xs q) p
 ·have e:i=xs.length:=by omega
  subst e
  exact .inl ⟨⟨xs,q,Nat.le_refl _⟩,hd σ H p⟩
theorem Z4h{K:W.Frag}{a:Addr}{xs:List V}{g:TG}{tb:TS}{D:Ends}{σ:St}{H:Hp}(Pv:Nat->St->Hp->Prop)(h0:Pv 0 σ H)(hl:∀i σ H,i<=xs.length->Pv i σ H->SqT K H a xs)
  (hs:∀i x σ H,xs[i]? = some x->Pv i σ H->g x σ H fun σ2 H2=>tb { D with nx:=Pv (i+1),ct:=Pv (i+1),bk:=D.nx } σ2 H2) (hd:∀σ H,Pv xs.length σ H->D.nx σ H) :
  ∃W:Nat->Nat->St->Hp->Prop,(∃m,W 0 m σ H)/\∀i m σ H,W i m σ H ->
   ((Zjn K a).stop i H/\D.nx σ H)∨((Zjn K a).go i H/\∃N:St->Hp->Prop,(∀σ' H',N σ' H'->∃m',m'<m/\W (i+1) m' σ' H')/\∀x H',(Zjn K a).yld i H x H'->g x σ H' fun σ2 H2=>tb { D with nx:=N,ct:=N,bk:=D.nx } σ2 H2):=by
 refine⟨fun i m σ H=>m=xs.length-i/\i<=xs.length/\Pv i σ H,⟨xs.length,by simp,Nat.zero_le _,h0⟩,?_⟩
 rintro i m σ H ⟨rfl,hi,p⟩
 have q:=hl i σ H hi p
 by_cases hlt:i<xs.length
 ·refine .inr ⟨⟨xs,xs[i],q,by simp[hlt]⟩,Pv (i+1),fun σ' H' p'=>⟨xs.length-(i+1),by omega,rfl,hlt,p'⟩,fun x H' y=>?_⟩
  obtain⟨e,y⟩:=y
  subst e
  exact hs i x σ _ (y xs q) p
 ·have e:i=xs.length:=by omega
  subst e
  exact .inl ⟨⟨xs,q,Nat.le_refl _⟩,hd σ H p⟩
theorem T6{lo:Int}{n:Nat}{g:TG}{tb:TS}{D:Ends}{σ:St}{H:Hp}(Pv:Nat->St->Hp->Prop)(h0:Pv 0 σ H)
  (hs:∀i σ H,i<n->Pv i σ H->g (.int (lo+i)) σ H fun σ2 H2=>tb { D with nx:=Pv (i+1),ct:=Pv (i+1),bk:=D.nx } σ2 H2) (hd:∀σ H,Pv n σ H->D.nx σ H) :
  ∃W:Nat->Nat->St->Hp->Prop,(∃m,W 0 m σ H)/\∀i m σ H,W i m σ H ->
   ((Zhu lo n).stop i H/\D.nx σ H)∨((Zhu lo n).go i H/\∃N:St->Hp->Prop,(∀σ' H',N σ' H'->∃m',m'<m/\W (i+1) m' σ' H')/\∀x H',(Zhu lo n).yld i H x H'->g x σ H' fun σ2 H2=>tb { D with nx:=N,ct:=N,bk:=D.nx } σ2 H2):=by
 refine⟨fun i m σ H=>m=n-i/\i<=n/\Pv i σ H,⟨n,by simp,Nat.zero_le _,h0⟩,?_⟩
 rintro i m σ H ⟨rfl,hi,p⟩
 by_cases hlt:i<n
 ·refine .inr ⟨hlt,Pv (i+1),fun σ' H' p'=>⟨n-(i+1),by omega,rfl,hlt,p'⟩,fun x H' y=>?_⟩
  obtain⟨e,y⟩:=y
  subst e y
  exact hs i σ _ hlt p
 ·have e:i=n:=by omega
  subst e
  exact .inl ⟨Nat.le_refl _,hd σ H p⟩
theorem Zah{c:TT}{tb:TS}{D:Ends}{σ:St}{H:Hp}(Pv:St->Hp->Prop)(μ:St->Hp->Nat)(h0:Pv σ H)
  (hs:∀σ H,Pv σ H->c σ H fun b H1=>if b=true then tb { D with nx:=fun σ' H'=>Pv σ' H'/\μ σ' H'<μ σ H,ct:=fun σ' H'=>Pv σ' H'/\μ σ' H'<μ σ H,bk:=D.nx } σ H1 else D.nx σ H1)
  (mono:∀σ H Q Q',(∀b H1,Q b H1->Q' b H1)->c σ H Q->c σ H Q'):Vp c tb D σ H:=by
 refine⟨fun m σ H=>m=μ σ H/\Pv σ H,⟨_,rfl,h0⟩,?_⟩
 rintro m σ H ⟨rfl,p⟩
 refine mono σ H _ _ (fun b H1 q=>?_) (hs σ H p)
 cases b with
 |true=>exact⟨_,fun σ' H' ⟨p',l⟩=>⟨_,l,rfl,p'⟩,q⟩
 |false=>exact q
abbrev R2:=V->V->Hp->VK->Prop
def Z4x(X:Cx)(f:Value->Value->Sem Value)(r:R2):Prop :=
 ∀(Z4:List (Addr×Obj)) (s:Shared) (σ:St) (H:Hp) (x y:V) (v u:Value) (Q:VK),Inv X Z4 σ H s->RelV x v->RelV y u->r x y H Q ->
  wpAny (model X.prog X.w) X.A (f v u) (EP X Z4 σ Q) X.xe s
def Zl8(X:Cx)(f:Value->Sem Value)(r:V->Hp->VK->Prop):Prop :=
 ∀(Z4:List (Addr×Obj)) (s:Shared) (σ:St) (H:Hp) (x:V) (v:Value) (Q:VK),Inv X Z4 σ H s->RelV x v->r x H Q ->
  wpAny (model X.prog X.w) X.A (f v) (EP X Z4 σ Q) X.xe s
def Th(X:Cx)(f:Value)(r:List V->Hp->VK->Prop):Prop :=
 ∀(Z4:List (Addr×Obj)) (s:Shared) (σ:St) (H:Hp) (xs:List V) (us:List Value) (Q:VK),Inv X Z4 σ H s->Vals xs us->r xs H Q ->
  wpAny (model X.prog X.w) X.A (call f us) (EP X Z4 σ Q) X.xe s
def Z6c(r:R2)(ta tb:TE):TE:=fun σ H Q=>ta σ H fun x H1=>tb σ H1 fun y H2=>r x y H2 Q
def Zl1(r:V->Hp->VK->Prop)(ta:TE):TE:=fun σ H Q=>ta σ H fun x H1=>r x H1 Q
def rI(C:Int->Int->Prop)(g:Int->Int->V):R2:=fun x y H Q=>∃i j,x=.int i/\y=.int j/\C i j/\Q (g i j) H
def Zhp(g:Int->Int->V):R2:=fun x y H Q=>∃i j,x=.int i/\y=.int j/\Q (g i j) H
def rU(g:Int->V):V->Hp->VK->Prop:=fun x H Q=>∃i,x=.int i/\Q (g i) H
section
variable{X:Cx}{a b c:Expr}{ta tb tc:TE}{pos:Pos}
theorem Zhz(ha:PE X a ta)(hb:PE X b tb){Z4:List (Addr×Obj)}{s:Shared}{σ:St}{H:Hp}{R:V->V->Hp->Prop}(I:Inv X Z4 σ H s)
  (h:ta σ H fun x H1=>tb σ H1 fun y H2=>R x y H2) {Q:Value->Shared->Prop} {f:Value->Value->Sem Value}
  (hf:∀v u s2 x y H2,Inv X Z4 σ H2 s2->RelV x v->RelV y u->R x y H2->wpAny (model X.prog X.w) X.A (f v u) Q X.xe s2) :
  wpAny (model X.prog X.w) X.A (eval a X.env) (fun v s₁=>wpAny (model X.prog X.w) X.A (eval b X.env) (fun u s₂=>wpAny (model X.prog X.w) X.A (f v u) Q X.xe s₂) X.xe s₁) X.xe s:=by
 refine Xr (ha Z4 s σ H _ I h) fun v s1 ⟨x,H1,I1,r1,q1⟩=>?_
 refine Xr (hb Z4 s1 σ H1 _ I1 q1) fun u s2 ⟨y,H2,I2,r2,q2⟩=>?_
 exact hf v u s2 x y H2 I2 r1 r2 q2
theorem Yg{op:Operator}{r:R2}(ho:Z4x X (binaryOp op) r)(ha:PE X a ta)(hb:PE X b tb):PE X (.BinOp a op b pos) (Z6c r ta tb):=by
 intro Z4 s σ H Q I h
 exact wpAny_BinOp (Zhz ha hb I h fun v u s2 x y H2 I2 rx ry q=>ho Z4 s2 σ H2 x y v u Q I2 rx ry q)
theorem Z0z{op:UnaryOp}{r:V->Hp->VK->Prop}(ho:Zl8 X (unaryOp op) r)(ha:PE X a ta):PE X (.UnaryOp op a pos) (Zl1 r ta):=by
 intro Z4 s σ H Q I h
 exact UnaryOp_ (Xr (ha Z4 s σ H _ I h) fun v s1 ⟨x,H1,I1,r1,q1⟩=>ho Z4 s1 σ H1 x v Q I1 r1 q1)
theorem Zld{f:Value->Value->Sem Value}{C:Int->Int->Prop}{g:Int->Int->Int}
  (rule:∀(i j:Int) (t u:Tok) (s:Shared) (Q:Value->Shared->Prop) (E:Value->Shared->Prop),C i j->Q (.int (g i j) s.toks) { s with toks:=s.toks+1 }->wpAny (model X.prog X.w) X.A (f (.int i t) (.int j u)) Q E s) :
  Z4x X f (rI C fun i j=>.int (g i j)):=by
 intro Z4 s σ H x y v u Q I rx ry h
 obtain⟨i,j,rfl,rfl,hc,q⟩:=h
 obtain⟨t,rfl⟩:=rx
 obtain⟨t',rfl⟩:=ry
 exact rule i j t t' s _ _ hc ⟨.int (g i j),H,I.tok _,⟨_,rfl⟩,q⟩
theorem Zjh{f:Value->Value->Sem Value}{g:Int->Int->Int}
  (rule:∀(i j:Int) (t u:Tok) (s:Shared) (Q:Value->Shared->Prop) (E:Value->Shared->Prop),Q (.int (g i j) s.toks) { s with toks:=s.toks+1 }->wpAny (model X.prog X.w) X.A (f (.int i t) (.int j u)) Q E s) :
  Z4x X f (Zhp fun i j=>.int (g i j)):=by
 intro Z4 s σ H x y v u Q I rx ry h
 obtain⟨i,j,rfl,rfl,q⟩:=h
 obtain⟨t,rfl⟩:=rx
 obtain⟨t',rfl⟩:=ry
 exact rule i j t t' s _ _ ⟨.int (g i j),H,I.tok _,⟨_,rfl⟩,q⟩
theorem Zf9{f:Value->Value->Sem Value}{g:Int->Int->Bool}
  (rule:∀(i j:Int) (t u:Tok) (s:Shared) (Q:Value->Shared->Prop) (E:Value->Shared->Prop),Q (.bool (g i j)) s->wpAny (model X.prog X.w) X.A (f (.int i t) (.int j u)) Q E s) :
  Z4x X f (Zhp fun i j=>.bl (g i j)):=by
 intro Z4 s σ H x y v u Q I rx ry h
 obtain⟨i,j,rfl,rfl,q⟩:=h
 obtain⟨t,rfl⟩:=rx
 obtain⟨t',rfl⟩:=ry
 exact rule i j t t' s _ _ ⟨.bl (g i j),H,I,rfl,q⟩
def Zl0(i j:Int):Prop:=0<j/\j<1073741824
theorem Xh:Z4x X (binaryOp .Add) (Zhp fun i j=>.int (i+j)):=Zjh fun _ _ _ _ _ _ _ q=>add_int q
theorem Te:Z4x X (binaryOp .Sub) (Zhp fun i j=>.int (i-j)):=Zjh fun _ _ _ _ _ _ _ q=>sub_int q
theorem Ze0:Z4x X (binaryOp .FloorDiv) (rI Zl0 fun i j=>.int (i / j)):=Zld fun i j _ _ _ _ _ hc q=>by
 have h1:(0:Int)<j:=hc.1
 have h2:j<1073741824:=hc.2
 exact floordiv_int (by omega) (by rw[Int.fdiv_eq_ediv_of_nonneg i (by omega)];exact q) (.inl (PyProof.noPylong_small (by omega)))
theorem Zce:Z4x X (binaryOp .Mod) (rI (fun _ j=>0<j) fun i j=>.int (i % j)):=Zld fun i j _ _ _ _ _ hc q=>by
 have h1:(0:Int)<j:=hc
 exact mod_int' (by omega) (by rw[Int.fmod_eq_emod_of_nonneg i (by omega)];exact q)
theorem Zlh{f:Value->Sem Value}{g:Int->Int}
  (rule:∀(i:Int) (t:Tok) (s:Shared) (Q:Value->Shared->Prop) (E:Value->Shared->Prop),Q (.int (g i) s.toks) { s with toks:=s.toks+1 }->wpAny (model X.prog X.w) X.A (f (.int i t)) Q E s) :
  Zl8 X f (rU fun i=>.int (g i)):=by
 intro Z4 s σ H x v Q I rx h
 obtain⟨i,rfl,q⟩:=h
 obtain⟨t,rfl⟩:=rx
 exact rule i t s _ _ ⟨.int (g i),H,I.tok _,⟨_,rfl⟩,q⟩
theorem T8:Zl8 X (unaryOp .USub) (rU fun i=>.int (-i)):=Zlh fun _ _ _ _ _ q=>neg_int q
end
def Zjf:V->V->Bool
 |.non,.non=>true | .non,.int _=>true | .int _,.non=>true | .non,.bl _=>true | .bl _,.non=>true | .non,.str _=>true | .str _,.non=>true
 |.int _,.int _=>true | .bl _,.bl _=>true | .str _,.str _=>true | .byt _,.byt _=>true
 |.int _,.str _=>true | .str _,.int _=>true | .bl _,.str _=>true | .str _,.bl _=>true
 |_,_=>false
def Zi8:R2:=fun x y H Q=>Zjf x y=true/\Q (.bl (decide (x=y))) H
def Zlk:R2:=fun x y H Q=>Zjf x y=true/\Q (.bl (!decide (x=y))) H
theorem Z8p{i j:Int}:decide (V.int i=V.int j)=(i==j):=by
 rw[Bool.eq_iff_iff]
 simp
theorem Zcm{i j:Bool}:decide (V.bl i=V.bl j)=(i==j):=by
 rw[Bool.eq_iff_iff]
 simp
theorem Z1c{i j:Str}:decide (V.str i=V.str j)=(i==j):=by
 rw[Bool.eq_iff_iff]
 simp
theorem Z8q{i j:Array UInt8}:decide (V.byt i=V.byt j)=(i.toList==j.toList):=by
 rw[Bool.eq_iff_iff]
 cases i
 cases j
 simp
section
variable{X:Cx}{a b c:Expr}{ta tb tc:TE}{pos:Pos}
theorem Y6{Z4:List (Addr×Obj)}{σ:St}{H:Hp}{s:Shared}{Q:VK}{k k':Bool}(I:Inv X Z4 σ H s)(q:Q (.bl k) H)(e:k=k'):EP X Z4 σ Q (.bool k') s:=by
 subst e
 exact⟨.bl k,H,I,rfl,q⟩
theorem Y4:Z4x X (compareOp .Eq) Zi8:=by
 intro Z4 s σ H x y v u Q I rx ry h
 obtain⟨hs,q⟩:=h
 cases x with
 |non =>
  cases rx
  cases y with
  |non=>cases ry;exact PySem.EqNone.eq_none_none (Y6 I q (by simp))
  |bl j=>cases ry;exact PySem.EqNone.eq_none_bool (Y6 I q (by simp))
  |int j=>obtain⟨t',rfl⟩:=ry;exact PySem.EqNone.eq_none_int (Y6 I q (by simp))
  |str j=>obtain⟨t',rfl⟩:=ry;exact PySem.EqNone.eq_none_str (Y6 I q (by simp))
  |_=>exact absurd (show false=true from hs) Bool.false_ne_true
 |bl i =>
  cases rx
  cases y with
  |non=>cases ry;exact PySem.EqNone.eq_bool_none (Y6 I q (by simp))
  |bl j=>cases ry;exact eq_bool (Y6 I q Zcm)
  |str j=>obtain⟨t',rfl⟩:=ry;exact PySem.EqMixed.eq_bool_str (Y6 I q (by simp))
  |_=>exact absurd (show false=true from hs) Bool.false_ne_true
 |int i =>
  obtain⟨t,rfl⟩:=rx
  cases y with
  |non=>cases ry;exact PySem.EqNone.eq_int_none (Y6 I q (by simp))
  |int j=>obtain⟨t',rfl⟩:=ry;exact eq_int (Y6 I q Z8p)
  |str j=>obtain⟨t',rfl⟩:=ry;exact PySem.EqMixed.eq_int_str (Y6 I q (by simp))
  |_=>exact absurd (show false=true from hs) Bool.false_ne_true
 |str i =>
  obtain⟨t,rfl⟩:=rx
  cases y with
  |non=>cases ry;exact PySem.EqNone.eq_str_none (Y6 I q (by simp))
  |bl j=>cases ry;exact PySem.EqMixed.eq_str_bool (Y6 I q (by simp))
  |int j=>obtain⟨t',rfl⟩:=ry;exact PySem.EqMixed.eq_str_int (Y6 I q (by simp))
  |str j=>obtain⟨t',rfl⟩:=ry;exact eq_str (Y6 I q Z1c)
  |_=>exact absurd (show false=true from hs) Bool.false_ne_true
 |byt i =>
  obtain⟨t,rfl⟩:=rx
  cases y with
  |byt j=>obtain⟨t',rfl⟩:=ry;exact W.eq_bytes (Y6 I q Z8q)
  |_=>exact absurd (show false=true from hs) Bool.false_ne_true
 |_=>cases y <;> exact absurd (show false=true from hs) Bool.false_ne_true
theorem Z01:Z4x X (compareOp .NotEq) Zlk:=by
 intro Z4 s σ H x y v u Q I rx ry h
 obtain⟨hs,q⟩:=h
 cases x with
 |non =>
  cases rx
  cases y with
  |non=>cases ry;exact PySem.EqNone.ne_none_none (Y6 I q (by simp))
  |bl j=>cases ry;exact PySem.EqNone.ne_none_bool (Y6 I q (by simp))
  |int j=>obtain⟨t',rfl⟩:=ry;exact PySem.EqNone.ne_none_int (Y6 I q (by simp))
  |str j=>obtain⟨t',rfl⟩:=ry;exact PySem.EqNone.ne_none_str (Y6 I q (by simp))
  |_=>exact absurd (show false=true from hs) Bool.false_ne_true
 |bl i =>
  cases rx
  cases y with
  |non=>cases ry;exact PySem.EqNone.ne_bool_none (Y6 I q (by simp))
  |bl j=>cases ry;exact ne_bool (Y6 I q (congrArg not Zcm))
  |str j=>obtain⟨t',rfl⟩:=ry;exact PySem.EqMixed.ne_bool_str (Y6 I q (by simp))
  |_=>exact absurd (show false=true from hs) Bool.false_ne_true
 |int i =>
  obtain⟨t,rfl⟩:=rx
  cases y with
  |non=>cases ry;exact PySem.EqNone.ne_int_none (Y6 I q (by simp))
  |int j=>obtain⟨t',rfl⟩:=ry;exact ne_int (Y6 I q (congrArg not Z8p))
  |str j=>obtain⟨t',rfl⟩:=ry;exact PySem.EqMixed.ne_int_str (Y6 I q (by simp))
  |_=>exact absurd (show false=true from hs) Bool.false_ne_true
 |str i =>
  obtain⟨t,rfl⟩:=rx
  cases y with
  |non=>cases ry;exact PySem.EqNone.ne_str_none (Y6 I q (by simp))
  |bl j=>cases ry;exact PySem.EqMixed.ne_str_bool (Y6 I q (by simp))
  |int j=>obtain⟨t',rfl⟩:=ry;exact PySem.EqMixed.ne_str_int (Y6 I q (by simp))
  |str j=>obtain⟨t',rfl⟩:=ry;exact ne_str (Y6 I q (congrArg not Z1c))
  |_=>exact absurd (show false=true from hs) Bool.false_ne_true
 |byt i =>
  obtain⟨t,rfl⟩:=rx
  cases y with
  |byt j=>obtain⟨t',rfl⟩:=ry;exact W.ne_bytes (Y6 I q (congrArg not Z8q))
  |_=>exact absurd (show false=true from hs) Bool.false_ne_true
 |_=>cases y <;> exact absurd (show false=true from hs) Bool.false_ne_true
theorem Z6a:Z4x X (compareOp .Lt) (Zhp fun i j=>.bl (decide (i<j))):=Zf9 fun _ _ _ _ _ _ _ q=>lt_int q
theorem Zit:Z4x X (compareOp .LtE) (Zhp fun i j=>.bl (decide (i<=j))):=Zf9 fun _ _ _ _ _ _ _ q=>le_int q
theorem Z96:Z4x X (compareOp .Gt) (Zhp fun i j=>.bl (decide (j<i))):=Zf9 fun _ _ _ _ _ _ _ q=>gt_int q
theorem Zcu:Z4x X (compareOp .GtE) (Zhp fun i j=>.bl (decide (j<=i))):=Zf9 fun _ _ _ _ _ _ _ q=>ge_int q
theorem Z3s:Z4x X (compareOp .NotIn) (fun x y H Q=>∃i j,x=.str i/\y=.str j/\Q (.bl (!(!(Builtin.Str.occurrences j i 0 j.length 1).isEmpty))) H):=by
 intro Z4 s σ H x y v u Q I rx ry h
 obtain⟨i,j,rfl,rfl,q⟩:=h
 obtain⟨t,rfl⟩:=rx
 obtain⟨t',rfl⟩:=ry
 exact notIn_str (Y6 I q rfl)
theorem Zi(b:Expr){op:CmpOp}(h:op≠.In:=by decide)(h2:op≠.NotIn:=by decide):behindInMarks op b=false:=by
 have e1:(op==CmpOp.In)=false:=by cases op <;> first | rfl | exact absurd rfl h
 have e2:(op==CmpOp.NotIn)=false:=by cases op <;> first | rfl | exact absurd rfl h2
 cases b <;> simp[behindInMarks,e1,e2]
theorem Yz{op:CmpOp}{r:R2}(ho:Z4x X (compareOp op) r)(ha:PE X a ta)(hb:PE X b tb)(hm:behindInMarks op b=false):PE X (.Compare a [op] [b] pos) (Z6c r ta tb):=by
 intro Z4 s σ H Q I h
 exact wpAny_Compare1 (Zhz ha hb I h fun v u s2 x y H2 I2 rx ry q=>ho Z4 s2 σ H2 x y v u Q I2 rx ry q) hm
def Z00(t:TE):TT:=fun σ H Q=>t σ H fun x H'=>∃k,x=.bl k/\Q k H'
theorem Ze{op:CmpOp}{r:R2}(ho:Z4x X (compareOp op) r)(ha:PE X a ta)(hb:PE X b tb)(hm:behindInMarks op b=false):PT X (.Compare a [op] [b] pos) (Z00 (Z6c r ta tb)):=by
 intro Z4 s σ H Q I h
 refine wpAny_isTrue_Compare1 (Xr (ha Z4 s σ H _ I h) fun v s1 ⟨x,H1,I1,r1,q1⟩=>Xr (hb Z4 s1 σ H1 _ I1 q1) fun u s2 ⟨y,H2,I2,r2,q2⟩ =>
  Xr (ho Z4 s2 σ H2 x y v u _ I2 r1 r2 q2) fun c s3 ⟨z,H3,I3,r3,k,e,q3⟩=>?_) hm
 subst e
 cases r3
 exact wpAny_truthy_bool ⟨H3,I3,q3⟩
theorem Z0s:(sizeLine:Nat)<2 ^ 63:=by rw[sizeLine_eq];decide
theorem W8:Z4x X (binaryOp .Add) (fun x y H Q=>∃i j,x=.str i/\y=.str j/\i.length+j.length<=sizeLine/\Q (.str (i++j)) H):=by
 intro Z4 s σ H x y v u Q I rx ry h
 obtain⟨i,j,rfl,rfl,hz,q⟩:=h
 obtain⟨t,rfl⟩:=rx
 obtain⟨t',rfl⟩:=ry
 exact add_str (fun t' tk=>⟨.str (i++j),H,I.tok _,⟨_,rfl⟩,q⟩) hz
theorem Ts{x:V}{us:List Value}(r:Vals [x] us):∃u,us=[u]/\RelV x u:=by
 cases r with
 |cons r1 r2=>cases r2;exact⟨_,rfl,r1⟩
theorem Zcq{x y:V}{us:List Value}(r:Vals [x,y] us):∃u w',us=[u,w']/\RelV x u/\RelV y w':=by
 cases r with
 |cons r1 r2 =>
  cases r2 with
  |cons r3 r4=>cases r4;exact⟨_,_,rfl,r1,r3⟩
theorem Za8(hc:X.calm=true):Th X (.builtin "max") (fun xs H Q=>∃i j,xs=[.int i,.int j]/\Q (.int (if j>i then j else i)) H):=by
 intro Z4 s σ H xs us Q I r h
 obtain⟨i,j,rfl,q⟩:=h
 obtain⟨u,w',rfl,⟨t,rfl⟩,⟨t',rfl⟩⟩:=Zcq r
 refine max_two_ints (I.ok.hd hc) fun h' tk k=>⟨_,H,I.kept k,?_,q⟩
 by_cases hj:j>i
 ·rw[if_pos hj,if_pos hj];exact⟨_,rfl⟩
 ·rw[if_neg hj,if_neg hj];exact⟨_,rfl⟩
theorem Z3i:Th X (.type "int") (fun xs H Q=>(∃i,xs=[.int i]/\Q (.int i) H)∨∃k,xs=[.bl k]/\Q (.int (if k then 1 else 0)) H):=by
 intro Z4 s σ H xs us Q I r h
 rcases h with⟨i,rfl,q⟩ | ⟨k,rfl,q⟩
 ·obtain⟨u,rfl,t,rfl⟩:=Ts r
  exact call_int_int ⟨.int i,H,I,⟨_,rfl⟩,q⟩
 ·obtain⟨u,rfl,r1⟩:=Ts r
  cases r1
  exact call_int_bool ⟨.int (if k then 1 else 0),H,I.tok _,⟨_,rfl⟩,q⟩
end
structure ObjM(h:Heap)(x dx C:Addr)(mA:Str->Option Value):Prop where
 obj:h.get? x=some (W.instObj C dx)
 ns:h.Ns1 dx mA
 ne:dx≠x
theorem Z9w{h:Heap}{dx:Addr}{mA:Str->Option Value}(n:h.Ns1 dx mA):∃od,h.get? dx=some od/\∀name,W.lookIn name od=some (mA name):=by
 obtain⟨o,es,ep,ho,hd,hk,_,hm⟩:=n
 refine⟨o,ho,fun name=>?_⟩
 have e:=hm name
 unfold nsFind findBy at e
 rw[← Array.find?_toList]at e
 unfold W.lookIn
 rw[hd]
 dsimp only
 split
 ·rename_i y q
  rw[q]at e
  exact congrArg some e
 ·rename_i q
  rw[q]at e
  have a:es.toList.any (·.refKey)=false:=by
   rw[List.any_eq_false]
   intro y hy
   obtain⟨z,t,hkey⟩:=hk y (Array.mem_toList_iff.mp hy)
   simp[DictEntry.refKey,hkey]
  have a':¬es.toList.any (·.refKey)=true:=by rw[a];exact Bool.false_ne_true
  rw[if_neg a']
  exact congrArg some e
theorem ObjM.look{h:Heap}{x dx C:Addr}{mA:Str->Option Value}(I:ObjM h x dx C mA):∃od,W.InstAt h x (W.instObj C dx) C (some od)/\∀name,W.lookIn name od=some (mA name) :=
 let⟨od,ho,hl⟩:=Z9w I.ns
 ⟨od,⟨I.obj,rfl,rfl,ho⟩,hl⟩
section
variable{prog:Program}{w:World}{A:Around}{E:Value->Shared->Prop}{s:Shared}{K:W.Frag}{x dx C f:Addr}{mA:Str->Option Value}{name:Str}{v:Value}
theorem Zeo{expr:Bool}{Q:Value->Shared->Prop}(X:K.In s.heap)(I:ObjM s.heap x dx C mA)(hg:W.plainGet K C name=true)(hh:W.hasDictIn K C=true)
  (ha:W.findIn K (.ref C) name=some none) (hv:mA name=some v) (hv':W.handedIn v=true) (h:Q v { s with toks:=s.toks+1 }) :
  wpAny (model prog w) A (getAttr (.ref x) name expr) Q E s:=by
 obtain⟨od,J,hl⟩:=I.look
 exact W.get_value X J (W.plainGet_of hg).1 (W.findObj_own hh ha rfl (by rw[hl,hv])) hv' h
theorem Zbr{pl:Sem Bool}{Q:Value×List Value->Shared->Prop}(X:K.In s.heap)(I:ObjM s.heap x dx C mA)(hg:W.plainGet K C name=true)
  (hf:W.findIn K (.ref C) name=some (some (.ref f))) (ht:W.isFn K (.ref f)=true) (hv:mA name=none) (h:Q (.ref f,[.ref x]) s) :
  wpAny (model prog w) A (getMethod (.ref x) name pl) Q E s:=by
 obtain⟨od,J,hl⟩:=I.look
 exact W.method_fn X J (W.plainGet_of hg).1 (W.plainGet_of hg).2 hf (beq_iff_eq.mp ht) (by show(W.lookIn name od).map (·.isSome)=some false;rw[hl,hv];rfl) h
theorem Zdl{ns:List Str}{Q:Unit->Shared->Prop}(X:K.In s.heap)(I:ObjM s.heap x dx C mA)
  (hs:W.findIn K (.ref C) "__setattr__" = some (some (.builtin "object.__setattr__"))) (hp:W.plainOver K C=true) (ht:W.takerIn K C name=some none) (hh:W.hasDictIn K C=true)
  (hw:PySem.Within mA ns) (hsz:ns.length<=sizeLine)
  (h:∀h',ObjM h' x dx C (fun y=>if y=name then some v else mA y)->Heap.SameBut dx s.heap h'->Q () { s with heap:=h',toks:=s.toks+2 }) :
  wpAny (model prog w) A (setAttr (.ref x) name v) Q E s:=by
 obtain⟨od,J,hl⟩:=I.look
 refine W.set_plain X J hs (W.osa_open (s:={ s with toks:=s.toks+1 }) (r:=none) X J hp ht fun b=>?_)
 obtain⟨cd,hc,hd'⟩:=W.any_some hh
 have hx:s.heap.get? x=some ⟨.ref C,some dx,.plain,#[]⟩:=I.obj
 refine wpAny_bind (wpAny_pure (wpAny_bind (wpAny_bind (wpAny_loadPart hx (wpAny_bind (W.Looks.here (s:={ s with toks:=s.toks+1 }) (W.looks_clsIn X hc) ?_))))))
 rw[hd']
 refine wpAny_pure (a:=some dx) (wpAny_bind (wpAny_pure (wpAny_bind ?_)))
 refine wpAny_nsSet1 (s:={ s with toks:=s.toks+1 }) I.ns fun h' hn2 hs2=>?_
 obtain⟨oD,esD,epD,hoD,hdD,hcD⟩:=hn2.count (PySem.Within.cons name v hw)
 refine wpAny_bind (wpAny_lookBehind hoD (by rw[hdD];exact pastItsLine_dict (Nat.le_trans hcD (by rw[List.length_cons];omega))) ?_)
 exact wpAny_pure (h _ ⟨(hs2.2 _ (Ne.symm I.ne)).trans I.obj,hn2,I.ne⟩ hs2)
theorem Zbk{R:Result->Shared->Prop}{vs:List Value}{kw:List (Str×Value)}(X:K.In s.heap)(hm:W.makesIn K C=true)
  (hi:W.findIn K (.ref C) "__init__" = some (some (.ref f))) (hf:W.typeIn K (.ref f)=some (.type "function"))
  (h:codeAny (model prog w) (A.under (.builtin "type.__call__" ⟨.ref C::vs,kw⟩)) (.call (.ref f) ⟨.ref (s.heap.objs.size+1)::vs,kw⟩) (W.InitBack (s.heap.objs.size+1) R)
   { s with heap:=(s.heap.push W.emptyDict).push (W.instObj C s.heap.objs.size) }) :
  codeAny (model prog w) A (.call (.ref C) ⟨vs,kw⟩) R s:=by
 obtain⟨hh,g,d,t,os⟩:=s
 exact W.make_core (W.makes_of X hm) (W.looks_findIn X hi) (fun self=>W.bind_fn X self hf) (.inl rfl) h
end
def Y7(f:Str)(v:V):List (Str×V)->List (Str×V)
 | []=>[(f,v)]
 |(g,x)::r=>if g=f then(g,v)::r else(g,x)::Y7 f v r
theorem Z0j(f g:Str)(v:V):∀fs:List (Str×V),(Y7 f v fs).lookup g=if g=f then some v else fs.lookup g
 | []=>by
  show List.lookup g [(f,v)]=_
  by_cases h:g=f
  ·have hb:(g==f)=true:=beq_iff_eq.mpr h
   simp only[List.lookup,hb,if_pos h]
  ·have hb:(g==f)=false:=beq_eq_false_iff_ne.mpr h
   simp only[List.lookup,hb,if_neg h]
 |(k,x)::r=>by
  have ih:=Z0j f g v r
  rw[show Y7 f v ((k,x)::r)=(if k=f then(k,v)::r else(k,x)::Y7 f v r) from rfl]
  by_cases hk:k=f
  ·rw[if_pos hk]
   by_cases h:g=k
   ·have hb:(g==k)=true:=beq_iff_eq.mpr h
    simp only[List.lookup,hb,if_pos (h.trans hk)]
   ·have hb:(g==k)=false:=beq_eq_false_iff_ne.mpr h
    simp only[List.lookup,hb,if_neg (fun e:g=f=>h (e.trans hk.symm))]
  ·rw[if_neg hk]
   by_cases h:g=k
   ·have hb:(g==k)=true:=beq_iff_eq.mpr h
    simp only[List.lookup,hb,if_neg (fun e:g=f=>hk (h.symm.trans e))]
   ·have hb:(g==k)=false:=beq_eq_false_iff_ne.mpr h
    simp only[List.lookup,hb]
    exact ih
theorem Z08(f:Str)(v:V):∀fs:List (Str×V),f∈(Y7 f v fs).map (·.1)/\∀g,g∈fs.map (·.1)->g∈(Y7 f v fs).map (·.1)
 | []=>⟨by simp[Y7],fun g h=>by simp at h⟩
 |(k,x)::r=>by
  obtain⟨i1,i2⟩:=Z08 f v r
  rw[show Y7 f v ((k,x)::r)=(if k=f then(k,v)::r else(k,x)::Y7 f v r) from rfl]
  by_cases hk:k=f
  ·rw[if_pos hk]
   subst hk
   exact⟨by simp,fun g h=>by simpa using h⟩
  ·rw[if_neg hk]
   refine⟨?_,fun g h=>?_⟩
   ·rw[List.map_cons]
    exact List.mem_cons_of_mem _ i1
   ·rw[List.map_cons]at h ⊢
    rcases List.mem_cons.mp h with e | e
    ·exact List.mem_cons.mpr (.inl e)
    ·exact List.mem_cons_of_mem _ (i2 g e)
theorem Z0k(f:Str)(v:V):∀fs:List (Str×V),(Y7 f v fs).length<=fs.length+1
 | []=>by simp[Y7]
 |(k,x)::r=>by
  have ih:=Z0k f v r
  rw[show Y7 f v ((k,x)::r)=(if k=f then(k,v)::r else(k,x)::Y7 f v r) from rfl]
  by_cases hk:k=f
  ·rw[if_pos hk,List.length_cons,List.length_cons];omega
  ·rw[if_neg hk,List.length_cons,List.length_cons];omega
theorem RelO.some_of{v:V}{o:Option Value}(r:RelO (some v) o):∃u,o=some u/\RelV v u:=by
 cases o with
 |none=>exact(show False from r).elim
 |some u=>exact⟨u,rfl,r⟩
theorem RelO.none_of{o:Option Value}(r:RelO none o):o=none:=by
 cases o with
 |none=>rfl
 |some u=>exact(show False from r).elim
theorem Za2{v:V}{u:Value}(r:RelV v u):W.handedIn u=true:=by
 cases v with
 |non=>cases(show u=Value.none from r);rfl
 |bl b=>cases(show u=Value.bool b from r);rfl
 |int i=>obtain⟨t,e⟩:=(show ∃t,u=Value.int i t from r);cases e;rfl
 |str x=>obtain⟨t,e⟩:=(show ∃t,u=Value.str x t from r);cases e;rfl
 |byt b=>obtain⟨t,e⟩:=(show ∃t,u=Value.bytes b t from r);cases e;rfl
 |flt b=>obtain⟨t,e⟩:=(show ∃t,u=Value.float b t from r);cases e;rfl
 |ref a=>cases(show u=Value.ref a from r);rfl
 |ty n=>cases(show u=Value.type n from r);rfl
section
variable{P:Program}{w:World}{H H':Hp}{h h':Heap}{a C dx:Addr}{fs fs':List (Str×V)}
theorem Z19(hok:HOk P w H h)(e:H a=some (.ins C dx fs)):∃mA,ObjM h a dx C mA/\(∀f,RelO (fs.lookup f) (mA f))/\PySem.Within mA (fs.map (·.1))/\fs.length<=1000/\H dx=some (.own a):=by
 obtain⟨d,z,ne,ob,mA,n,r,q⟩:=(show ObjOk P w H h a (.ins C dx fs) from hok a _ e)
 exact⟨mA,⟨ob,n,ne⟩,r,q,z,d⟩
end
structure Cls(K:W.Frag)(C:Addr):Prop where
 pg:W.plainGet K C Str.empty=true
 hd:W.hasDictIn K C=true
 po:W.plainOver K C=true
 sa:W.findIn K (.ref C) "__setattr__" = some (some (.builtin "object.__setattr__"))
theorem Cls.get{K:W.Frag}{C:Addr}(c:Cls K C)(f:Str):W.plainGet K C f=true:=c.pg
def NoAttr(K:W.Frag)(C:Addr)(f:Str):Prop:=W.findIn K (.ref C) f=some none
theorem NoAttr.taker{K:W.Frag}{C:Addr}{f:Str}(n:NoAttr K C f):W.takerIn K C f=some none:=by
 unfold W.takerIn
 rw[show W.findIn K (.ref C) f=some none from n]
 rfl
structure Meth(K:W.Frag)(C:Addr)(m:Str)(f:Addr):Prop where
 at_:W.findIn K (.ref C) m=some (some (.ref f))
 fn:W.isFn K (.ref f)=true
 kp:W.keepIn K (.ref f)=true
section
variable{X:Cx}{Z4:List (Addr×Obj)}{σ:St}{H:Hp}{s:Shared}{a C dx:Addr}{fs:List (Str×V)}{f:Str}{v:V}{A:Around}{E:Value->Shared->Prop}
theorem Z1p{b:Bool}{Q:Value->Shared->Prop}(I:Inv X Z4 σ H s)(e:H a=some (.ins C dx fs))(c:Cls X.K C)(n:NoAttr X.K C f)(l:fs.lookup f=some v)
  (h:∀u s',Inv X Z4 σ H s'->RelV v u->Q u s'):wpAny (model X.prog X.w) A (getAttr (.ref a) f b) Q E s:=by
 obtain⟨mA,O,r,_,_,_⟩:=Z19 I.hok e
 obtain⟨u,hu,ru⟩:=RelO.some_of (v:=v) (o:=mA f) (by rw[← l];exact r f)
 exact Zeo I.kIn O (c.get f) c.hd n hu (Za2 ru) (h u _ (I.tok _) ru)
theorem Tn{m:Str}{g:Addr}{pl:Sem Bool}{Q:Value×List Value->Shared->Prop}(I:Inv X Z4 σ H s)(e:H a=some (.ins C dx fs))(c:Cls X.K C)(k:Meth X.K C m g)(l:fs.lookup m=none)
  (h:Q (.ref g,[.ref a]) s):wpAny (model X.prog X.w) A (getMethod (.ref a) m pl) Q E s:=by
 obtain⟨mA,O,r,_,_,_⟩:=Z19 I.hok e
 have hn:mA m=none:=RelO.none_of (by rw[← l];exact r m)
 exact Zbr I.kIn O (c.get m) k.at_ k.fn hn h
theorem Z1j{y:V}{u:Value}{Q:Unit->Shared->Prop}(I:Inv X Z4 σ H s)(e:H a=some (.ins C dx fs))(c:Cls X.K C)(n:NoAttr X.K C f)(hl:fs.length<1000)(ry:RelV y u)
  (h:∀s',Inv X Z4 σ (Zq H a (.ins C dx (Y7 f y fs))) s'->Q () s'):wpAny (model X.prog X.w) A (setAttr (.ref a) f u) Q E s:=by
 obtain⟨mA,O,r,wi,_,ho⟩:=Z19 I.hok e
 have hz:(fs.map (·.1)).length<=sizeLine:=by rw[List.length_map,sizeLine_eq];omega
 refine Zdl I.kIn O c.sa c.po n.taker c.hd wi hz fun h' O' sb=>h _ ?_
 have hd:∃o,h'.get? dx=some o:=let⟨o,_,_,e',_⟩:=O'.ns;⟨o,e'⟩
 refine I.write (x:=a) (e:=dx) (by rw[e];exact True.intro) (.inr ho) (fun b q hb z=>(sb.2 b hb).trans z) hd ?_
 refine⟨by rw[Zt O.ne];exact ho,?_,O.ne,O'.obj,_,O'.ns,fun g=>?_,fun g hg=>?_⟩
 ·have:=Z0k f y fs;omega
 ·show RelO ((Y7 f y fs).lookup g) (if g=f then some u else mA g)
  rw[Z0j]
  by_cases q:g=f
  ·rw[if_pos q,if_pos q];exact ry
  ·rw[if_neg q,if_neg q];exact r g
 ·by_cases q:g=f
  ·rw[q];exact(Z08 f y fs).1
  ·refine(Z08 f y fs).2 g (wi g fun z=>hg ?_)
   show(if g=f then some u else mA g)=none
   rw[if_neg q];exact z
theorem Inv.made(I:Inv X Z4 σ H s):Inv X Z4 σ (Zq (Zq H s.heap.objs.size (.own (s.heap.objs.size+1))) (s.heap.objs.size+1) (.ins C s.heap.objs.size []))
  { s with heap:=(s.heap.push W.emptyDict).push (W.instObj C s.heap.objs.size) }:=by
 have e1:(s.heap.push W.emptyDict).get? s.heap.objs.size=some W.emptyDict:=Heap.get?_push_size s.heap rfl
 have e2:((s.heap.push W.emptyDict).push (W.instObj C s.heap.objs.size)).get? (s.heap.objs.size+1)=some (W.instObj C s.heap.objs.size):=by
  have:=Heap.get?_push_size (s.heap.push W.emptyDict) (o:=W.instObj C s.heap.objs.size) rfl
  rwa [Heap.size_push]at this
 have e3:(s.heap.push W.emptyDict).Ns s.heap.objs.size (fun _=>none):=⟨W.emptyDict,#[],_,e1,rfl,(fun e he=>absurd he (by simp)),fun _=>rfl⟩
 have I1:=I.laid (a:=s.heap.objs.size) (o:=.own (s.heap.objs.size+1)) (h':=s.heap.push W.emptyDict) (t':=s.toks) (fun b u q=>Heap.get?_push_of_some _ q) (Nat.le_refl _) ⟨_,e1⟩
 refine I1.laid (a:=s.heap.objs.size+1) (o:=.ins C s.heap.objs.size []) (t':=s.toks) (fun b u q=>Heap.get?_push_of_some _ q) (Nat.le_of_eq (Heap.size_push _ _)) ?_
 have ne:s.heap.objs.size≠s.heap.objs.size+1:=Nat.ne_of_lt (Nat.lt_succ_self _)
 refine⟨by rw[Zt ne,Z3],Nat.zero_le _,ne,e2,fun _=>none,(Heap.Ns1.of_empty e3).at fun o q=>Heap.get?_push_of_some _ q,fun _=>True.intro,fun y hy=>absurd rfl hy⟩
theorem Zex{prog:Program}{w:World}{env:Env}{e:Expr}{f:Str}{pos:Pos}{s:Shared}{Q:Value->Shared->Prop}(hb:attributeBase e f env (eval e env)=eval e env)
  (h:wpAny (model prog w) A (eval e env) (fun o s₁=>wpAny (model prog w) A (getAttr o f true) Q E s₁) E s):wpAny (model prog w) A (eval (.Attribute e f pos) env) Q E s :=
 Attribute_any_ h (by rw[arm_eval_Attribute,hb])
end
def Zje(K:W.Frag)(ta:TE)(f:Str):TE:=fun σ H Q=>ta σ H fun x H1=>∃a C dx fs v,x=.ref a/\H1 a=some (.ins C dx fs)/\Cls K C/\NoAttr K C f/\fs.lookup f=some v/\Q v H1
def Zaa(K:W.Frag)(ta tv:TE)(f:Str):TS:=fun D σ H=>tv σ H fun y H1=>ta σ H1 fun x H2=>∃a C dx fs,x=.ref a/\H2 a=some (.ins C dx fs)/\Cls K C/\NoAttr K C f/\fs.length<1000 /\
 D.nx σ (Zq H2 a (.ins C dx (Y7 f y fs)))
def Zi2(X:Cx)(op:Operator)(rd:V->V->Hp->VK->Prop):Prop :=
 ∀(Z4:List (Addr×Obj)) (s:Shared) (σ:St) (H:Hp) (x y:V) (u v:Value) (Q:VK),Inv X Z4 σ H s->RelV x u->RelV y v->rd x y H Q->wpAny (model X.prog X.w) X.A (inplaceOp op u v) (EP X Z4 σ Q) X.xe s
def Zdp(K:W.Frag)(ta tv:TE)(rd:V->V->Hp->VK->Prop)(f:Str):TS:=fun D σ H=>ta σ H fun x H1=>∃a C dx fs v,x=.ref a/\H1 a=some (.ins C dx fs)/\Cls K C/\NoAttr K C f/\fs.lookup f=some v /\
 tv σ H1 fun y H2=>rd v y H2 fun z H3=>∃dx' fs',H3 a=some (.ins C dx' fs')/\fs'.length<1000/\D.nx σ (Zq H3 a (.ins C dx' (Y7 f z fs')))
section
variable{X:Cx}{o e value:Expr}{f:Str}{pos pos' tpos:Pos}{ta tv:TE}{Z4:List (Addr×Obj)}{σ:St}{H:Hp}{s:Shared}{A:Around}{E Q:Value->Shared->Prop}{c:Value}{b:Bool}
theorem Zn(he:PE X e ta)(hb:attributeBase e f X.env (eval e X.env)=eval e X.env):PE X (.Attribute e f pos) (Zje X.K ta f):=by
 intro Z4 s σ H Q I h
 refine Zex hb (Xr (he Z4 s σ H _ I h) fun u s1 ⟨x,H1,I1,rx,a,C,dx,fs,v,ex,ea,c,n,l,q⟩=>?_)
 subst ex
 obtain rfl:u=Value.ref a:=rx
 exact Z1p I1 ea c n l fun u' s2 I2 ru=>⟨v,H1,I2,ru,q⟩
theorem Ya(ha:PE X o ta)(hv:PE X value tv)(hs:swapsWith value (some (.Attribute o f pos')) pos.line X.env=pure false):PS X (.Assign [.Attribute o f pos'] value pos) (Zaa X.K ta tv f):=by
 intro Z4 s σ H D I h
 refine plainObj_wpAny_Assign_Attribute (Xr (hv Z4 s σ H _ I h) fun u s1 ⟨y,H1,I1,ry,q⟩=>Xr (ha Z4 s1 σ H1 _ I1 q) fun ov s2 ⟨x,H2,I2,rx,a,C,dx,fs,ex,ea,c,n,l,q2⟩=>?_) hs
 subst ex
 obtain rfl:ov=Value.ref a:=rx
 exact Z1j I2 ea c n l ry fun s3 I3=>⟨σ,_,I3,q2⟩
theorem T3{op:Operator}{rd:V->V->Hp->VK->Prop}(ha:PE X o ta)(hv:PE X value tv)(hop:Zi2 X op rd):PS X (.AugAssign (.Attribute o f tpos) op value pos) (Zdp X.K ta tv rd f):=by
 intro Z4 s σ H D I h
 refine wpAny_AugAssign_AttributeAny (Xr (ha Z4 s σ H _ I h) fun ov s1 ⟨x,H1,I1,rx,a,C,dx,fs,v,ex,ea,c,n,l,q⟩=>?_)
 subst ex
 obtain rfl:ov=Value.ref a:=rx
 refine Z1p I1 ea c n l fun u s2 I2 ru=>Xr (hv Z4 s2 σ H1 _ I2 q) fun w3 s3 ⟨y,H2,I3,ry,q3⟩=>Xr (hop Z4 s3 σ H2 v y u w3 _ I3 ru ry q3) fun w4 s4 ⟨z,H3,I4,rz,dx',fs',ea',l',q4⟩=>?_
 exact Z1j I4 ea' c n l' rz fun s5 I5=>⟨σ,_,I5,q4⟩
def Zki:V->V->Hp->VK->Prop:=fun x y H Q=>∃i j,x=.int i/\y=.int j/\Q (.int (i+j)) H
def Zkd:V->V->Hp->VK->Prop:=fun x y H Q=>∃i j,x=.int i/\y=.int j/\Q (.int (i-j)) H
theorem Z7t:Zi2 X .Add Zki:=by
 rintro Z4 s σ H x y u v Q I rx ry ⟨i,j,rfl,rfl,q⟩
 obtain⟨t,rfl⟩:=(show ∃t,u=Value.int i t from rx)
 obtain⟨t',rfl⟩:=(show ∃t',v=Value.int j t' from ry)
 exact PyProof.Rows.iadd_int ⟨.int (i+j),H,I.tok _,⟨_,rfl⟩,q⟩
theorem Zhg:Zi2 X .Sub Zkd:=by
 rintro Z4 s σ H x y u v Q I rx ry ⟨i,j,rfl,rfl,q⟩
 obtain⟨t,rfl⟩:=(show ∃t,u=Value.int i t from rx)
 obtain⟨t',rfl⟩:=(show ∃t',v=Value.int j t' from ry)
 exact PyProof.Rows.isub_int ⟨.int (i-j),H,I.tok _,⟨_,rfl⟩,q⟩
theorem methcall_of{pl:Sem Bool}{m:Str}{apos:Pos}{args:List Expr}{Z4:List (Addr×Obj)}{s:Shared}{σ:St}{H:Hp}{Q:Value->Shared->Prop}{te:TE}(he:PE X e te)(I:Inv X Z4 σ H s)
  (h:te σ H fun x H1=>∃a C dx fs g,x=.ref a/\H1 a=some (.ins C dx fs)/\Cls X.K C/\Meth X.K C m g/\fs.lookup m=none /\
   ∀s1,Inv X Z4 σ H1 s1->wpAny (model X.prog X.w) X.A (callWith pos (.ref g) [.ref a] (backTo pos (starEach args X.env)) (backToKw pos (keywordEach [] X.env))) Q X.xe s1)
  (ht:eval (.Call (.Attribute e m apos) args [] pos) X.env=(do
   let ov ← eval e X.env
   standAt apos.atName
   let(f,first) ← holding [ov] (getMethod ov m pl)
   callWith pos f first (backTo pos (starEach args X.env)) (backToKw pos (keywordEach [] X.env)))) :
  wpAny (model X.prog X.w) X.A (eval (.Call (.Attribute e m apos) args [] pos) X.env) Q X.xe s:=by
 refine W.methodCall_KW (pl:=pl) (Xr (he Z4 s σ H _ I h) fun u s1 ⟨x,H1,I1,rx,a,C,dx,fs,g,ex,ea,c,k,l,q⟩=>?_) ht
 subst ex
 obtain rfl:u=Value.ref a:=rx
 exact Tn I1 ea c k l (q s1 I1)
inductive TyOf(K:W.Frag)(H:Hp):V->Value->Prop where
 |non:TyOf K H .non (.type "NoneType")
 |bl (x:Bool):TyOf K H (.bl x) (.type "bool")
 |int (i:Int):TyOf K H (.int i) (.type "int")
 |str (x:Str):TyOf K H (.str x) (.type "str")
 |flt (x:UInt64):TyOf K H (.flt x) (.type "float")
 |lst {a:Addr} {xs:List V} (e:H a=some (.lst xs)):TyOf K H (.ref a) (.type "list")
 |frz {a:Addr} {o:Obj} {xs:List V} (e:H a=some (.frz o (.lst xs))):TyOf K H (.ref a) (.type "list")
 |tup {a:Addr} {xs:List V} (e:H a=some (.tup xs)):TyOf K H (.ref a) (.type "tuple")
 |dK {a:Addr} {kvs:List (Us×V)} (e:H a=some (.dK kvs)):TyOf K H (.ref a) (.type "dict")
 |dT {a:Addr} {kvs:List (List Us×V)} (e:H a=some (.dT kvs)):TyOf K H (.ref a) (.type "dict")
 |ins {a C dx:Addr} {fs:List (Str×V)} (e:H a=some (.ins C dx fs)) (cl:Cls K C) (ha:W.findIn K (.ref C) "__class__" = some (some (.builtin "object.__class__")))
   (hn:W.specialIn K (.builtin "object.__class__") "__get__" = some (some (.builtin "getset_descriptor.__get__"))) (htk:W.takesIn K (.builtin "object.__class__")=some true)
   (hm:W.mroIn K C (.type "object")=some true):TyOf K H (.ref a) (.ref C)
theorem Z9z{x:V}{u t:Value}(I:Inv X Z4 σ H s)(rx:RelV x u)(ty:TyOf X.K H x t)(e:W.kitOne X.K t c=some b)(h:∀tk,Q (.bool b) { s with toks:=tk }) :
  wpAny (model X.prog X.w) A (call (.builtin "isinstance") [u,c]) Q E s:=by
 cases ty with
 |non=>cases(show u=Value.none from rx);exact W.kia_one W.kitx_none I.kIn True.intro e (fun z=>nomatch z) h
 |bl y=>cases(show u=Value.bool y from rx);exact W.kia_one W.kitx_bool I.kIn True.intro e (fun z=>nomatch z) h
 |int i=>obtain⟨t,q⟩:=(show ∃t,u=Value.int i t from rx);cases q;exact W.kia_one W.kitx_int I.kIn True.intro e (fun z=>nomatch z) h
 |str y=>obtain⟨t,q⟩:=(show ∃t,u=Value.str y t from rx);cases q;exact W.kia_one W.kitx_str I.kIn True.intro e (fun z=>nomatch z) h
 |flt y=>obtain⟨t,q⟩:=(show ∃t,u=Value.float y t from rx);cases q;exact W.kia_one W.kitx_float I.kIn True.intro e (fun z=>nomatch z) h
 | @lst a xs ea =>
  cases(show u=Value.ref a from rx)
  obtain⟨_,_,n,_,h1⟩:=(show ObjOk X.prog X.w H s.heap a (.lst xs) from I.hok a _ ea)
  exact W.kia_one W.kitx_list I.kIn ⟨_,h1,rfl⟩ e (fun z=>nomatch z) h
 | @frz a ob xs ea =>
  cases(show u=Value.ref a from rx)
  obtain⟨_,_,_,n,_,h1⟩:=(show ObjOk X.prog X.w H s.heap a (.frz ob (.lst xs)) from I.hok a _ ea)
  exact W.kia_one W.kitx_list I.kIn ⟨_,h1,rfl⟩ e (fun z=>nomatch z) h
 | @tup a xs ea =>
  cases(show u=Value.ref a from rx)
  obtain⟨_,_,_,p⟩:=(show ObjOk X.prog X.w H s.heap a (.tup xs) from I.hok a _ ea)
  obtain⟨o,h1,h2,_⟩:=p
  exact W.kia_one W.kitx_tuple I.kIn ⟨o,h1,h2⟩ e (fun z=>nomatch z) h
 | @dK a kvs ea =>
  cases(show u=Value.ref a from rx)
  obtain⟨_,_,vs,_,p⟩:=(show ObjOk X.prog X.w H s.heap a (.dK kvs) from I.hok a _ ea)
  obtain⟨o,es,ep,h1,h2,_⟩:=p
  exact W.kia_one W.kitx_dict I.kIn ⟨o,h1,h2.1⟩ e (fun z=>nomatch z) h
 | @dT a kvs ea =>
  cases(show u=Value.ref a from rx)
  obtain⟨_,_,xs,_,o,es,ep,h1,h2,_⟩:=(show ObjOk X.prog X.w H s.heap a (.dT kvs) from I.hok a _ ea)
  exact W.kia_one W.kitx_dict I.kIn ⟨o,h1,h2.1⟩ e (fun z=>nomatch z) h
 | @ins a C dx fs ea cl ha hn htk hm =>
  cases(show u=Value.ref a from rx)
  obtain⟨mA,O,_⟩:=Z19 I.hok ea
  obtain⟨od,J,_⟩:=O.look
  exact W.kia_one (W.kitx_own (cl.get _) cl.hd ha hn htk hm) I.kIn J e (fun z=>nomatch z) h
end
structure Room(k:Nat)(A:Around):Prop where
 hd:A.handled=none
 dp:A.depth+3*k+5<recursionLimit
 un:A.units+16*k+200<cLine
theorem Room.mono{j k:Nat}{A:Around}(r:Room k A)(h:j<=k):Room j A:=⟨r.hd,by have:=r.dp;omega,by have:=r.un;omega⟩
theorem Room.deeper{k:Nat}{A:Around}(r:Room (k+1) A)(env:Env):Room k (A.deeper env) :=
 ⟨r.hd,by have:=r.dp;show A.depth+1+3*k+5<_;omega,by have:=r.un;show A.units+3+16*k+200<_;omega⟩
theorem Z72{A:Around}{C:Addr}{us:List Value}{kw:List (Str×Value)}:(A.under (.builtin "type.__call__" ⟨.ref C::us,kw⟩)).depth=A.depth+1:=by
 first | rfl | simp[Around.under,Code.weight,Code.isCreation,Code.isGuard,Code.isCaller,Code.frames,Code.isFrame,guardIds]
theorem Z71{A:Around}{C:Addr}{us:List Value}{kw:List (Str×Value)}:(A.under (.builtin "type.__call__" ⟨.ref C::us,kw⟩)).units=A.units+1:=by
 first | rfl | simp[Around.under,Code.cUnits,Code.frames,Code.isFrame]
theorem Room.make{k:Nat}{A:Around}(r:Room (k+1) A)(C:Addr)(us:List Value)(kw:List (Str×Value)):Room k (A.under (.builtin "type.__call__" ⟨.ref C::us,kw⟩)) :=
 ⟨r.hd,by have:=r.dp;rw[Z72];omega,by have:=r.un;rw[Z71];omega⟩
theorem Room.depth{k:Nat}{A:Around}(r:Room k A):A.depth<recursionLimit:=by have:=r.dp;omega
theorem Room.units0{k:Nat}{A:Around}(r:Room k A):A.units<cLine:=by have:=r.un;omega
def Z4n:TA:=fun _ H Q=>Q [] H
def Z0x(ta:TE)(tr:TA):TA:=fun σ H Q=>ta σ H fun x H1=>tr σ H1 fun xs H2=>Q (x::xs) H2
section
variable{X:Cx}{e:Expr}{es:List Expr}{te:TE}{t:TA}{pos:Pos}
theorem Z2:PA X [] Z4n:=fun _ _ _ _ H Q I h=>Calls.spliced_nil ⟨[],H,I,.nil,h⟩
theorem Z0(ha:PE X e te)(hr:PA X es t)(hs:starEach (e::es) X.env=(false,eval e X.env)::starEach es X.env:=by rfl):PA X (e::es) (Z0x te t):=by
 intro pos Z4 s σ H Q I h
 rw[hs]
 show wpAny _ _ (spliced ((false,eval e X.env)::backTo pos (starEach es X.env))) _ _ s
 refine Calls.spliced_cons (Xr (ha Z4 s σ H _ I h) fun u s1 ⟨x,H1,I1,r1,q1⟩=>?_)
 exact Xr (hr pos Z4 s1 σ H1 _ I1 q1) fun us s2 ⟨xs,H2,I2,r2,q2⟩=>⟨x::xs,H2,I2,.cons r1 r2,q2⟩
def Zd0(t:TA):TE:=fun σ H Q=>t σ H fun xs H1=>xs.length<=sizeLine/\∀p,H1 p=none->Q (.ref p) (Zq H1 p (.tup xs))
def Zjc(t:TA):TE:=fun σ H Q=>t σ H fun xs H1=>xs.length<=sizeLine/\∀p,H1 p=none->Q (.ref p) (Zq H1 p (.lst xs))
theorem Zr{x1}(h:PA X es t):PE X (.Tuple es x1 pos) (Zd0 t):=by
 intro Z4 s σ H Q I hq
 refine wpAny_Tuple_spliced (Xr (h pos Z4 s σ H _ I hq) fun us s1 ⟨xs,H1,I1,r,z,q⟩=>⟨by rw[← r.length];exact z,?_⟩)
 have hf:H1 s1.heap.objs.size=none:=I1.hok.fresh (Nat.le_refl _)
 refine⟨.ref s1.heap.objs.size,Zq H1 s1.heap.objs.size (.tup xs),I1.laid (t':=s1.toks) (fun b u e=>Heap.get?_push_of_some _ e) (Nat.le_refl _) ?_,rfl,q _ hf⟩
 exact⟨z,us,r,⟨_,Heap.get?_push_size _ rfl,rfl,_,rfl⟩⟩
theorem Xg(h:PA X es t):PE X (.List es pos) (Zjc t):=by
 intro Z4 s σ H Q I hq
 refine wpAny_List_spliced (Xr (h pos Z4 s σ H _ I hq) fun us s1 ⟨xs,H1,I1,r,z,q⟩=>⟨by rw[← r.length];exact z,?_⟩)
 have hf:H1 s1.heap.objs.size=none:=I1.hok.fresh (Nat.le_refl _)
 refine⟨.ref s1.heap.objs.size,Zq H1 s1.heap.objs.size (.lst xs),I1.laid (t':=s1.toks) (fun b u e=>Heap.get?_push_of_some _ e) (Nat.le_refl _) ?_,rfl,q _ hf⟩
 exact⟨z,us,0,r,Heap.get?_push_size _ rfl⟩
end
abbrev Sp:=List V->Hp->VK->XK->Prop
abbrev Zaf:=List Env->Hp->Shared->XK->Value->Shared->Prop
structure Env0(P:Program)(w:World)(K:W.Frag)(mg:Str->Option Value)(base:Heap)(A:Around)(outer:List Env)(s:Shared)(H:Hp):Prop where
 frames:A.frames=some outer
 mod:Mod K mg base
 bs:∀b o,base.get? b=some o->s.heap.get? b=some o/\H b=none
 bsz:base.objs.size<=s.heap.objs.size
 funs:s.heap.FunFrames base outer
 frf:∀b∈Z2r outer,H b=none
 hok:HOk P w H s.heap
 bare:AllBare s.gens
def CE(outer:List Env)(P:Program)(w:World)(H:Hp)(s:Shared)(Q:VK)(u:Value)(s':Shared):Prop :=
 ∃v H',s'.os=s.os/\AllBare s'.gens/\Un (Z2r outer) [] H H' s.heap s'.heap/\HOk P w H' s'.heap/\RelV v u/\Q v H'
def CR(CX:Zaf)(outer:List Env)(P:Program)(w:World)(H:Hp)(s:Shared)(Q:VK)(E:XK)(r:Result)(s':Shared):Prop :=
 match r with
 |.ok (.ret u)=>CE outer P w H s Q u s'
 |.ok _=>False
 |.error e=>CX outer H s E e s'
structure FnOk(P:Program)(w:World)(K:W.Frag)(mg:Str->Option Value)(base:Heap)(CX:Zaf)(k:Nat)(f:Addr)(fd:FuncData)(ps:List Str)(sp:Sp):Prop where
 len:∀vs H Q E,sp vs H Q E->vs.length=ps.length
 run:∀(A:Around) (outer:List Env) (s:Shared) (H:Hp) (args:Args) (us:List Value) (vs:List V) (Q:VK) (E:XK),Room k A->Env0 P w K mg base A outer s H->BindsTo s fd args (ps.zip us)->Vals vs us->sp vs H Q E ->
  codeAny (model P w) A (.call (.ref f) args) (CR CX outer P w H s Q E) s
theorem FnOk.mono{P:Program}{w:World}{K:W.Frag}{mg:Str->Option Value}{base:Heap}{CX:Zaf}{j k:Nat}{f:Addr}{fd:FuncData}{ps:List Str}{sp:Sp}(F:FnOk P w K mg base CX j f fd ps sp)(h:j<=k) :
  FnOk P w K mg base CX k f fd ps sp:=⟨F.len,fun A outer s H args us vs Q E hr=>F.run A outer s H args us vs Q E (hr.mono h)⟩
theorem FnOk.imp{P:Program}{w:World}{K:W.Frag}{mg:Str->Option Value}{base:Heap}{CX:Zaf}{k:Nat}{f:Addr}{fd:FuncData}{ps:List Str}{sp sp':Sp}(F:FnOk P w K mg base CX k f fd ps sp)
  (h:∀vs H Q E,sp' vs H Q E->sp vs H Q E):FnOk P w K mg base CX k f fd ps sp' :=
 ⟨fun vs H Q E q=>F.len vs H Q E (h _ _ _ _ q),fun A outer s H args us vs Q E hr he hb hv hs=>F.run A outer s H args us vs Q E hr he hb hv (h _ _ _ _ hs)⟩
theorem Env0.make{P:Program}{w:World}{K:W.Frag}{mg:Str->Option Value}{base:Heap}{A:Around}{outer:List Env}{s:Shared}{H:Hp}(e:Env0 P w K mg base A outer s H)(C:Addr)(us:List Value)(kw:List (Str×Value)) :
  Env0 P w K mg base (A.under (.builtin "type.__call__" ⟨.ref C::us,kw⟩)) outer s H:=⟨by first | exact e.frames | (simpa[Around.under,Code.envs,Code.isFrame,pushEnvs] using e.frames),e.mod,e.bs,e.bsz,e.funs,e.frf,e.hok,e.bare⟩
section
variable{X:Cx}{Z4:List (Addr×Obj)}{σ:St}{H:Hp}{s s':Shared}
theorem Inv.env0(I:Inv X Z4 σ H s):Env0 X.prog X.w X.K X.mg X.base X.A X.stack s H :=
 ⟨I.ok.frames,I.ok.mod,I.bs,Nat.le_trans I.ok.bsz I.sz,I.stack,I.stkFree,I.hok,I.bare⟩
theorem Inv.after{Q:VK}{u:Value}(I:Inv X Z4 σ H s)(h:CE X.stack X.prog X.w H s Q u s'):EP X Z4 σ Q u s':=by
 obtain⟨v,H',os,bare,un,hok,r,q⟩:=h
 obtain⟨hh,g,d,t,os'⟩:=s'
 obtain rfl:os'=s.os:=os
 exact⟨v,H',I.call (h':=hh) (g':=g) (d':=d) (t':=t) (ch:=[]) un hok bare (fun b z=>absurd z (by simp)),r,q⟩
end
def Zcs(sp:Sp)(dvs:List V)(E:XK)(t:TA):TE:=fun σ H Q=>t σ H fun vs H1=>sp (vs++dvs) H1 Q E
def Z66(C:Addr)(m:Str)(sp:Sp)(dvs:List V)(E:XK)(ta:TE)(t:TA):TE:=fun σ H Q=>ta σ H fun x H1=>∃a dx fs,x=.ref a/\H1 a=some (.ins C dx fs)/\fs.lookup m=none /\
 t σ H1 fun vs H2=>sp (x::(vs++dvs)) H2 Q E
def Zfe(C:Addr)(sp:Sp)(dvs:List V)(E:XK)(t:TA):TE:=fun σ H Q=>t σ H fun vs H1=>∀x dx,H1 x=none->H1 dx=none->dx≠x ->
 sp (.ref x::(vs++dvs)) (Zq (Zq H1 dx (.own x)) x (.ins C dx [])) (fun v H2=>v=.non/\Q (.ref x) H2) E
def Binds(K:W.Frag)(fd:FuncData)(ps:List Str)(ds:List Value):Prop :=
 ∀(s:Shared) (us:List Value),K.In s.heap->(us++ds).length=ps.length->BindsTo s fd ⟨us,[]⟩ (ps.zip (us++ds))
theorem Binds.all{K:W.Frag}{fd:FuncData}{ps:List Str}(h:∀us:List Value,us.length=ps.length->bindArgs fd ⟨us,[]⟩=pure (ps.zip us)):Binds K fd ps []:=fun s us _ hl=>by
 rw[List.append_nil]at hl ⊢
 exact .of_eq (h us hl)
def Ve(CX:Zaf)(X:Cx)(E:XK):Prop:=∀(Z4:List (Addr×Obj)) (σ:St) (H:Hp) (s:Shared) (e:Value) (s':Shared),Inv X Z4 σ H s->CX X.stack H s E e s'->X.xe e s'
section
variable{X:Cx}{CX:Zaf}{k:Nat}{f C:Addr}{fd:FuncData}{ps:List Str}{sp:Sp}{dvs:List V}{ds:List Value}{E:XK}{x m:Str}{p pos apos:Pos}{e o:Expr}{es:List Expr}{ta:TE}{t:TA}
theorem Z4r{Z4:List (Addr×Obj)}{σ:St}{H:Hp}{s:Shared}{Q:VK}{us:List Value}{vs:List V}(F:FnOk X.prog X.w X.K X.mg X.base CX k f fd ps sp)(hr:Room k X.A)(hb:Binds X.K fd ps ds)(hd:Vals dvs ds)(hx:Ve CX X E)
  (I:Inv X Z4 σ H s) (r:Vals vs us) (h:sp (vs++dvs) H Q E):wpAny (model X.prog X.w) X.A (call (.ref f) us) (EP X Z4 σ Q) X.xe s:=by
 have r2:Vals (vs++dvs) (us++ds):=r.append hd
 have hl:(us++ds).length=ps.length:=by rw[← r2.length];exact F.len _ _ _ _ h
 refine wpAny_call (codeAny_mono (F.run X.A X.stack s H ⟨us,[]⟩ (us++ds) (vs++dvs) Q E hr I.env0 (hb s us I.kIn hl) r2 h) fun r s' hq=>?_)
 cases r with
 |error e=>exact hx Z4 σ H s e s' I hq
 |ok fl =>
  cases fl with
  |ret u=>exact I.after hq
  |next=>exact False.elim hq
  |brk=>exact False.elim hq
  |cont=>exact False.elim hq
theorem Z89(F:FnOk X.prog X.w X.K X.mg X.base CX k f fd ps sp)(hr:Room k X.A)(hg:Gl X x)(hm:X.mg x=some (.ref f))(hk:W.keepIn X.K (.ref f)=true)(hb:Binds X.K fd ps ds)(hd:Vals dvs ds)(hx:Ve CX X E)
  (ha:PA X (e::es) t) (hdb:(x==("__debug__":Str))=false:=by decide) (he:starEach (e::es) X.env=(false,eval e X.env)::starEach es X.env:=by rfl) (hpl:(backTo pos (starEach es X.env)).any (·.1)=false:=by rfl) :
  PE X (.Call (.Name x p) (e::es) [] pos) (Zcs sp dvs E t):=by
 intro Z4 s σ H Q I h
 refine wpAny_Call_Name_kw (Jt I hg hm ?_ hdb)
 refine W.callWith_K (h₀:=X.base) I.ok.mod.kin hk (Xr (ha pos Z4 s σ H _ I h) fun us s1 ⟨vs,H1,I1,r,q⟩=>⟨I1.kIn,?_⟩) he hpl
 exact Z4r F hr hb hd hx I1 r q
theorem Z88{pl:Sem Bool}(he:PE X o ta)(c:Cls X.K C)(hm:Meth X.K C m f)(F:FnOk X.prog X.w X.K X.mg X.base CX k f fd ps sp)(hr:Room k X.A)(hb:Binds X.K fd ps ds)(hd:Vals dvs ds)(hx:Ve CX X E)(ha:PA X (e::es) t)
  (hst:starEach (e::es) X.env=(false,eval e X.env)::starEach es X.env:=by rfl) (hpl:(backTo pos (starEach es X.env)).any (·.1)=false:=by rfl)
  (ht:eval (.Call (.Attribute o m apos) (e::es) [] pos) X.env=(do
   let ov ← eval o X.env
   standAt apos.atName
   let(f,first) ← holding [ov] (getMethod ov m pl)
   callWith pos f first (backTo pos (starEach (e::es) X.env)) (backToKw pos (keywordEach [] X.env))):=by rfl) :
  PE X (.Call (.Attribute o m apos) (e::es) [] pos) (Z66 C m sp dvs E ta t):=by
 intro Z4 s σ H Q I h
 refine W.methodCall_KW (pl:=pl) (Xr (he Z4 s σ H _ I h) fun u s1 ⟨x,H1,I1,rx,a,dx,fs,ex,ea,l,q⟩=>?_) ht
 subst ex
 obtain rfl:u=Value.ref a:=rx
 refine Tn I1 ea c hm l ?_
 refine W.callWith_K (first:=[.ref a]) (h₀:=X.base) I.ok.mod.kin hm.kp (Xr (ha pos Z4 s1 σ H1 _ I1 q) fun us s2 ⟨vs,H2,I2,r,q2⟩=>⟨I2.kIn,?_⟩) hst hpl
 exact Z4r (us:=.ref a::us) (vs:=.ref a::vs) F hr hb hd hx I2 (.cons rfl r) q2
theorem Zaw{pl:Sem Bool}(he:PE X o ta)(c:Cls X.K C)(hm:Meth X.K C m f)(F:FnOk X.prog X.w X.K X.mg X.base CX k f fd ps sp)(hr:Room k X.A)(hb:Binds X.K fd ps ds)(hd:Vals dvs ds)(hx:Ve CX X E)
  (ht:eval (.Call (.Attribute o m apos) [] [] pos) X.env=(do
   let ov ← eval o X.env
   standAt apos.atName
   let(f,first) ← holding [ov] (getMethod ov m pl)
   callWith pos f first (backTo pos (starEach [] X.env)) (backToKw pos (keywordEach [] X.env))):=by rfl) :
  PE X (.Call (.Attribute o m apos) [] [] pos) (Z66 C m sp dvs E ta Z4n):=by
 intro Z4 s σ H Q I h
 refine W.methodCall_KW (pl:=pl) (Xr (he Z4 s σ H _ I h) fun u s1 ⟨x,H1,I1,rx,a,dx,fs,ex,ea,l,q⟩=>?_) ht
 subst ex
 obtain rfl:u=Value.ref a:=rx
 refine Tn I1 ea c hm l ?_
 exact W.callWith_K0 (first:=[.ref a]) I1.kIn hm.kp (Z4r (us:=[.ref a]) (vs:=[.ref a]) F hr hb hd hx I1 (.cons rfl .nil) q)
structure Mk(K:W.Frag)(C f:Addr):Prop where
 makes:W.makesIn K C=true
 init:W.findIn K (.ref C) "__init__" = some (some (.ref f))
 fn:W.isFn K (.ref f)=true
 kp:W.keepIn K (.ref C)=true
theorem Zaq{Z4:List (Addr×Obj)}{σ:St}{H:Hp}{s:Shared}{Q:VK}{us:List Value}{vs:List V}(M:Mk X.K C f)(F:FnOk X.prog X.w X.K X.mg X.base CX k f fd ps sp)(hr:Room (k+1) X.A)(hb:Binds X.K fd ps ds)(hd:Vals dvs ds)
  (hx:Ve CX X E) (I:Inv X Z4 σ H s) (r:Vals vs us)
  (h:∀x dx,H x=none->H dx=none->dx≠x->sp (.ref x::(vs++dvs)) (Zq (Zq H dx (.own x)) x (.ins C dx [])) (fun v H2=>v=.non/\Q (.ref x) H2) E) :
  wpAny (model X.prog X.w) X.A (call (.ref C) us) (EP X Z4 σ Q) X.xe s:=by
 have hq:=h (s.heap.objs.size+1) s.heap.objs.size (I.hok.fresh (Nat.le_succ _)) (I.hok.fresh (Nat.le_refl _)) (Nat.ne_of_lt (Nat.lt_succ_self _))
 have I2:=Inv.made (C:=C) I
 have r2:Vals (V.ref (s.heap.objs.size+1)::(vs++dvs)) (Value.ref (s.heap.objs.size+1)::(us++ds)):=.cons rfl (r.append hd)
 have hl:(Value.ref (s.heap.objs.size+1)::us++ds).length=ps.length:=by
  have e:=r2.length
  rw[F.len _ _ _ _ hq]at e
  exact e.symm
 refine wpAny_call (Zbk (f:=f) I.kIn M.makes M.init (beq_iff_eq.mp M.fn) (codeAny_mono (F.run _ X.stack _ _ ⟨Value.ref (s.heap.objs.size+1)::us,[]⟩ (Value.ref (s.heap.objs.size+1)::(us++ds)) _ _ E (hr.make C us [])
  (I2.env0.make C us []) (hb _ (Value.ref (s.heap.objs.size+1)::us) I2.kIn hl) r2 hq) fun r s' hq'=>?_))
 cases r with
 |error e=>exact hx Z4 σ _ _ e s' I2 hq'
 |ok fl =>
  cases fl with
  |ret u =>
   obtain⟨v,H',I3,rv,ev,q3⟩:=I2.after hq'
   subst ev
   exact⟨rv,⟨V.ref (s.heap.objs.size+1),H',I3,rfl,q3⟩⟩
  |next=>exact False.elim hq'
  |brk=>exact False.elim hq'
  |cont=>exact False.elim hq'
theorem Zdw(M:Mk X.K C f)(F:FnOk X.prog X.w X.K X.mg X.base CX k f fd ps sp)(hr:Room (k+1) X.A)(hg:Gl X x)(hm:X.mg x=some (.ref C))(hb:Binds X.K fd ps ds)(hd:Vals dvs ds)(hx:Ve CX X E)
  (ha:PA X (e::es) t) (hdb:(x==("__debug__":Str))=false:=by decide) (he:starEach (e::es) X.env=(false,eval e X.env)::starEach es X.env:=by rfl) (hpl:(backTo pos (starEach es X.env)).any (·.1)=false:=by rfl) :
  PE X (.Call (.Name x p) (e::es) [] pos) (Zfe C sp dvs E t):=by
 intro Z4 s σ H Q I h
 refine wpAny_Call_Name_kw (Jt I hg hm ?_ hdb)
 refine W.callWith_K (h₀:=X.base) I.ok.mod.kin M.kp (Xr (ha pos Z4 s σ H _ I h) fun us s1 ⟨vs,H1,I1,r,q⟩=>⟨I1.kIn,?_⟩) he hpl
 exact Zaq M F hr hb hd hx I1 r q
end
def PK(X:Cx)(kws:List Keyword)(t:TA):Prop :=
 ∀(pos:Pos) (Z4:List (Addr×Obj)) (s:Shared) (σ:St) (H:Hp) (Q:List V->Hp->Prop),Inv X Z4 σ H s->t σ H Q->wpAny (model X.prog X.w) X.A (evalAll ((backToKw pos (keywordEach kws X.env)).map (·.2))) (AP X Z4 σ Q) X.xe s
section
variable{X:Cx}{CX:Zaf}{k:Nat}{f C:Addr}{fd:FuncData}{ps ks:List Str}{sp:Sp}{E:XK}{x m:Str}{p pos apos kpos:Pos}{e o:Expr}{es:List Expr}{kws:List Keyword}{te ta:TE}{t tk:TA}{nm:Option Str}
theorem Zgu:PK X [] Z4n:=fun _ _ _ _ H Q I h=>wpAny_evalAll_nil ⟨[],H,I,.nil,h⟩
theorem Zdt(ha:PE X e te)(hr:PK X kws t):PK X (⟨nm,e,kpos⟩::kws) (Z0x te t):=by
 intro pos Z4 s σ H Q I h
 show wpAny _ _ (evalAll ((do let v ← eval e X.env;standAt pos;pure v)::(backToKw pos (keywordEach kws X.env)).map (·.2))) _ _ s
 refine wpAny_evalAll_cons (wpAny_bind (Xr (ha Z4 s σ H _ I h) fun u s1 ⟨x,H1,I1,r1,q1⟩=>wpAny_bind (wpAny_standAt (wpAny_pure ?_))))
 exact Xr (hr pos Z4 s1 σ H1 _ I1 q1) fun us s2 ⟨xs,H2,I2,r2,q2⟩=>⟨x::xs,H2,I2,.cons r1 r2,q2⟩
variable{g:List Value->List Value->List Value}{gV:List V->List V->List V}
end
structure FnScope(N P:List Str)(sc:Scope):Prop where
 kind:sc.kind=.function
 co:sc.isCoroutine=false
 gen:sc.isGenerator=false
 nd:N.Nodup
 pre:N.take P.length=P
 par:∀x∈P,sc.names.lookup x=some .local∨sc.names.lookup x=some .cell
 nofree:∀y∈sc.names,y.2≠.free
theorem Z3j{kindOf:Str->Option NameKind}{x:Str}:∀ {binds:List (Str×Value)} {m:Str->Option Value},(∀v,(x,v)∉binds)->bindL kindOf binds m x=m x
 | [],_,_=>rfl
 |(n,v)::r,m,h=>by
  unfold bindL
  rw[Z3j fun w hw=>h w (List.mem_cons_of_mem _ hw)]
  split
  ·have:x≠n:=by rintro rfl;exact h v List.mem_cons_self
   simp[this]
  ·rfl
theorem Z3l{kindOf:Str->Option NameKind}{x:Str}:∀ {binds:List (Str×Value)} {m:Str->Option Value},(∀v,(x,v)∉binds)->bindC kindOf binds m x=m x
 | [],_,_=>rfl
 |(n,v)::r,m,h=>by
  unfold bindC
  rw[Z3l fun w hw=>h w (List.mem_cons_of_mem _ hw)]
  split
  ·rfl
  ·have:x≠n:=by rintro rfl;exact h v List.mem_cons_self
   simp[this]
theorem Z3k{kindOf:Str->Option NameKind}{x:Str}{v:Value}:∀ {P:List Str} {vs:List Value} {i:Nat} {m:Str->Option Value},P.Nodup->P[i]? = some x->vs[i]? = some v->kindOf x=some .local ->
  bindL kindOf (P.zip vs) m x=some v
 | [],_,_,_,_,h,_,_=>by simp at h
 |_::_,[],_,_,_,_,h,_=>by simp at h
 |p::P,w::vs,0,m,nd,h1,h2,hk=>by
  simp at h1 h2;subst h1;subst h2
  show bindL kindOf ((p,w)::P.zip vs) m p=_
  unfold bindL
  rw[Z3j fun v hv=>(List.nodup_cons.mp nd).1 (List.of_mem_zip hv).1,if_pos hk]
  simp
 |p::P,w::vs,i+1,m,nd,h1,h2,hk=>by
  show bindL kindOf ((p,w)::P.zip vs) m x=_
  unfold bindL
  exact Z3k (i:=i) (List.nodup_cons.mp nd).2 (by simpa using h1) (by simpa using h2) hk
theorem Z3m{kindOf:Str->Option NameKind}{x:Str}{v:Value}:∀ {P:List Str} {vs:List Value} {i:Nat} {m:Str->Option Value},P.Nodup->P[i]? = some x->vs[i]? = some v->kindOf x≠some .local ->
  bindC kindOf (P.zip vs) m x=some v
 | [],_,_,_,_,h,_,_=>by simp at h
 |_::_,[],_,_,_,_,h,_=>by simp at h
 |p::P,w::vs,0,m,nd,h1,h2,hk=>by
  simp at h1 h2;subst h1;subst h2
  show bindC kindOf ((p,w)::P.zip vs) m p=_
  unfold bindC
  rw[Z3l fun v hv=>(List.nodup_cons.mp nd).1 (List.of_mem_zip hv).1,if_neg hk]
  simp
 |p::P,w::vs,i+1,m,nd,h1,h2,hk=>by
  show bindC kindOf ((p,w)::P.zip vs) m x=_
  unfold bindC
  exact Z3m (i:=i) (List.nodup_cons.mp nd).2 (by simpa using h1) (by simpa using h2) hk
def start(N:List Str)(vs:List V):St:=vs.map some++List.replicate (N.length-vs.length) none
def Z2t(CX:Zaf)(P:Program)(w:World)(K:W.Frag)(mg:Str->Option Value)(base:Heap)(N:List Str)(qual:Str)(scope:Scope)(f:Addr)(cd:Value)(A:Around)(outer:List Env)(s:Shared)(H:Hp)(E:XK):Cx where
 prog:=P
 w:=w
 K:=K
 mg:=mg
 base:=base
 A:=A.deeper (envOfC qual scope s.heap.objs.size f cd)
 N:=N
 s₀:=s
 H₀:=H
 env:=envOfC qual scope s.heap.objs.size f cd
 outer:=outer
 stack:=envOfC qual scope s.heap.objs.size f cd::outer
 ex:=[]
 calm:=true
 fn:=fun _=>true
 pn:=[]
 xe:=fun e s'=>wpAny (model P w) (A.deeper (envOfC qual scope s.heap.objs.size f cd)) (leaving (envOfC qual scope s.heap.objs.size f cd) e) (fun _ s''=>CX outer H s E e s'') (fun e' s''=>CX outer H s E e' s'') s'
theorem Z61{sc:Scope}{n:Nat}{x:Str}(h:sc.names.lookup x=some .cell):∃c,(cellsFrom n sc.names []).lookup x=some c:=by
 have q:=W.cellsFrom_some sc.names n [] (.inl h)
 exact Option.isSome_iff_exists.mp q
theorem Za0{CX:Zaf}{P:Program}{w:World}{K:W.Frag}{mg:Str->Option Value}{base:Heap}{N ps:List Str}{qual:Str}{scope:Scope}{f:Addr}{cd:Value}{A:Around}{outer:List Env}{s s1:Shared}{H:Hp}{E:XK}{us:List Value}{vs:List V}
  (S:FnScope N ps scope) (hd:A.handled=none) (e0:Env0 P w K mg base A outer s H) (hl:vs.length=ps.length) (r:Vals vs us)
  (x:InCallC s s.heap.objs.size (bindL (envOfC qual scope s.heap.objs.size f cd).kindOf (ps.zip us) fun _=>none) (cellsFrom (s.heap.objs.size+1) scope.names []) (bindC (envOfC qual scope s.heap.objs.size f cd).kindOf (ps.zip us) fun _=>none) s1) :
  Inv (Z2t CX P w K mg base N qual scope f cd A outer s H E) [] (start N vs) H s1:=by
 have hpl:ps.length<=N.length:=by have:=congrArg List.length S.pre;rw[List.length_take]at this;omega
 obtain⟨h1,tk,rfl,hk⟩:=x.done
 have noA:∀b:Addr,b∉(Z2t CX P w K mg base N qual scope f cd A outer s H E).ex:=fun b z=>absurd (show b∈([]:List Addr) from z) (by simp)
 refine⟨⟨e0.mod,S.kind,rfl,rfl,Nat.le_refl _,fun y z c h1 h2=>?_,fun y hy=>?_,fun y c _ h=>?_,fun _=>hd,Around.frames_deeper e0.frames,.inr ⟨rfl,rfl⟩,fun b z=>absurd z (noA b),e0.bs,e0.bsz,fun b _ _=>noA b,fun b z=>absurd z (noA b),e0.funs,e0.frf⟩,
  rfl,e0.bare,Un.kept hk,⟨_,x.toInCall.ns,fun i y v h1 h2 h3=>?_⟩,fun y c h=>⟨_,x.cell y c h⟩,e0.hok.fresh (Nat.le_refl _),fun y c h=>?_,fun p hp=>absurd (show p∈([]:List (Addr×Obj)) from hp) (by simp),e0.hok.kept hk,?_⟩
 ·exact name_of_addr x.apart (PySem.mem_of_lookup h1) (PySem.mem_of_lookup h2)
 ·have hy:scope.names.lookup y=some .cell∨scope.names.lookup y=some .free:=hy
  rcases hy with hy | hy
  ·exact Z61 hy
  ·exact absurd rfl (S.nofree _ (PySem.mem_of_lookup hy))
 ·exact Nat.le_of_lt (x.above y c (PySem.mem_of_lookup h))
 ·have hi:i<vs.length:=by
   unfold start at h2
   by_cases hi:i<vs.length
   ·exact hi
   ·rw[List.getElem?_append_right (by simpa using hi)]at h2
    rw[List.getElem?_replicate]at h2
    split at h2 <;> cases h2
  have ha:vs[i]? = some v:=by
   unfold start at h2
   rw[List.getElem?_append_left (by simpa using hi),List.getElem?_map]at h2
   cases e:vs[i]? with
   |none=>rw[e]at h2;cases h2
   |some a=>rw[e]at h2;cases h2;rfl
  obtain⟨u,hu,rv⟩:=r.get ha
  have hp:ps[i]? = some y:=by
   rw[← S.pre,List.getElem?_take_of_lt (by omega)];exact h1
  have ndP:ps.Nodup:=by rw[← S.pre];exact S.nd.sublist (List.take_sublist _ _)
  refine⟨u,rv,?_⟩
  rcases S.par y (List.mem_of_getElem? hp) with k | k
  ·exact .inl ⟨k,Z3k ndP hp hu k⟩
  ·obtain⟨c,e⟩:=Z61 (n:=s.heap.objs.size+1) k
   refine .inr ⟨.inl k,c,e,?_⟩
   have q:=x.cell y c e
   rw[Z3m ndP hp hu (by show scope.names.lookup y≠_;rw[k];decide)]at q
   exact q
 ·exact e0.hok.fresh (Nat.le_of_lt (x.above y c (PySem.mem_of_lookup h)))
 ·unfold start
  show _=N.length
  rw[List.length_append,List.length_map,List.length_replicate]
  omega
theorem Zfl{CX:Zaf}{P:Program}{w:World}{K:W.Frag}{mg:Str->Option Value}{base:Heap}{k:Nat}{f:Addr}{name qual:Str}{params:Arguments}{body:List Stmt}{scope:Scope}{dV kV doc pm cdv ct oc:Value}{an od:Option Addr}
  {osl:Array (Option Value)} {N ps:List Str} {sp:Sp} (lk:K.lookup f=some ⟨oc,od,.func (W.fnOf name qual params body scope dV kV doc pm an cdv ct),osl⟩) (hcd:W.codeIn K cdv qual=true) (S:FnScope N ps scope)
  (len:∀vs H Q E,sp vs H Q E->vs.length=ps.length)
  (hbody:∀(A:Around) (outer:List Env) (s:Shared) (H:Hp) (vs:List V) (Q:VK) (E:XK),Room k (A.deeper (envOfC qual scope s.heap.objs.size f cdv))->sp vs H Q E ->
   ∃t,PSs (Z2t CX P w K mg base N qual scope f cdv A outer s H E) body t/\t { nx:=fun _ H'=>Q .non H',rt:=Q } (start N vs) H) :
  FnOk P w K mg base CX (k+1) f (W.fnOf name qual params body scope dV kV doc pm an cdv ct) ps sp:=by
 refine⟨len,fun A outer s H args us vs Q E hr e0 hb r hsp=>?_⟩
 have hl:=len _ _ _ _ hsp
 have KX:K.In s.heap:=e0.mod.kin.keeps fun b o e=>(e0.bs b o e).1
 have lim:s.heap.NoLimit:=e0.mod.nolimit.keeps fun b o e=>(e0.bs b o e).1
 have hkind:∀y∈ps.zip us,scope.names.lookup y.1=some .local∨(scope.names.lookup y.1=some .cell/\((cellsFrom (s.heap.objs.size+1) scope.names []).lookup y.1).isSome=true):=fun⟨n,v⟩ hy=>by
  rcases S.par n (List.of_mem_zip hy).1 with q | q
  ·exact .inl q
  ·exact .inr ⟨q,W.cellsFrom_some _ _ _ (.inl q)⟩
 refine codeAny_call_function hr.depth (KX _ _ lk) rfl S.co S.gen rfl (W.codeRec_of KX hcd) (hb _ _ _ _ ?_)
 refine wpAny_newFunctionEnv_cells S.kind hkind fun env he s1 x=>?_
 subst he
 refine⟨lim.keeps x.toInCall.keep,codeAny_func ?_⟩
 obtain⟨t,ht,hq⟩:=hbody A outer s H vs Q E (hr.deeper _) hsp
 have I:Inv (Z2t CX P w K mg base N qual scope f cdv A outer s H E) [] (start N vs) H s1:=Za0 S hr.hd e0 hl r x
 refine wpAny_mono (ht [] s1 (start N vs) H _ I hq) (fun fl s' hs=>?_) fun e s' hs=>hs
 have fin:∀ {σ':St} {H':Hp} {v:V} {u:Value},Inv (Z2t CX P w K mg base N qual scope f cdv A outer s H E) [] σ' H' s'->RelV v u->Q v H'->CE outer P w H s Q u s' :=
  fun{σ' H' v u} J rv q=>⟨v,H',J.os,J.bare,J.base,J.hok,rv,q⟩
 cases fl with
 |ret u =>
  obtain⟨v,σ',H',J,rv,q⟩:=hs
  exact fin J rv q
 |next =>
  obtain⟨σ',H',J,q⟩:=hs
  exact fin (v:=V.non) (u:=Value.none) J rfl q
 |brk =>
  obtain⟨_,_,_,q⟩:=hs
  exact False.elim q
 |cont =>
  obtain⟨_,_,_,q⟩:=hs
  exact False.elim q
section
variable{X:Cx}{x:Str}{p pos:Pos}{e:Expr}{es:List Expr}{t:TA}{id T:String}{r:List V->Hp->VK->Prop}
def Zlc(r:List V->Hp->VK->Prop)(t:TA):TE:=fun σ H Q=>t σ H fun vs H1=>r vs H1 Q
theorem Zh(hc:Th X (.builtin id) r)(hg:Gl X x)(hm:X.mg x=none)(hv:bootBuiltins x=some (.builtin id))(ha:PA X (e::es) t)(hn:x≠"__name__":=by decide)(hdb:(x==("__debug__":Str))=false:=by decide)
  (he:starEach (e::es) X.env=(false,eval e X.env)::starEach es X.env:=by rfl) (hpl:(backTo pos (starEach es X.env)).any (·.1)=false:=by rfl):PE X (.Call (.Name x p) (e::es) [] pos) (Zlc r t):=by
 intro Z4 s σ H Q I h
 refine wpAny_Call_Name_kw (Ty I hg hm hv ?_ hn hdb)
 exact PyProof.Rows.callWith_builtin1 (Xr (ha pos Z4 s σ H _ I h) fun us s1 ⟨vs,H1,I1,r1,q1⟩=>hc Z4 s1 σ H1 vs us Q I1 r1 q1) he hpl
theorem Vr(hc:Th X (.type T) r)(hg:Gl X x)(hm:X.mg x=none)(hv:bootBuiltins x=some (.type T))(ha:PA X (e::es) t)(hn:x≠"__name__":=by decide)(hdb:(x==("__debug__":Str))=false:=by decide)
  (he:starEach (e::es) X.env=(false,eval e X.env)::starEach es X.env:=by rfl) (hpl:(backTo pos (starEach es X.env)).any (·.1)=false:=by rfl):PE X (.Call (.Name x p) (e::es) [] pos) (Zlc r t):=by
 intro Z4 s σ H Q I h
 refine wpAny_Call_Name_kw (Ty I hg hm hv ?_ hn hdb)
 exact PyProof.Rows.callWith_type1 (Xr (ha pos Z4 s σ H _ I h) fun us s1 ⟨vs,H1,I1,r1,q1⟩=>hc Z4 s1 σ H1 vs us Q I1 r1 q1) he hpl
end
end L2
namespace HT
open PySem PyProof.Rows
section
open PySem.SeqAt
open PySem.AutoSeq1 (wpAny_loadPart')
open PySem.MeetsSeq PySem.MeetsSeq2 PySem.MeetsSeq3
end
section
variable{prog:Program}{w:World}{A:Around}{E:Value->Shared->Prop}{s:Shared}
theorem cat_tup{t b:Addr}{vs ws:List Value}{Q:Value->Shared->Prop}(ht:IsTup s.heap t vs.toArray)(hb:IsTup s.heap b ws.toArray)(hv:vs≠[])
  (h1:ws=[]->Q (.ref t) s) (h2:ws≠[]->Q (.ref s.heap.objs.size) { s with heap:=s.heap.push { cls:=.type "tuple",data:=.seq (vs++ws).toArray } })
  (hsz:vs.length+ws.length<=sizeLine):wpAny (model prog w) A (binaryOp .Add (.ref t) (.ref b)) Q E s:=by
 obtain⟨⟨cls,dd,data,sl⟩,ho,hc,n,hd⟩:=id ht
 obtain⟨⟨cls2,dd2,data2,sl2⟩,ho2,hc2,n2,hd2⟩:=id hb
 simp only at hc hd hc2 hd2
 subst hc hd hc2 hd2
 have e:vs.toArray++ws.toArray=(vs++ws).toArray:=by simp
 by_cases hw:ws=[]
 ·exact concat_meets ⟨_,ho,rfl⟩ ⟨_,ho2,rfl⟩ noFill_tuple_add seq_tuple_add PySem.F.slot_tuple_add PySem.F.entry_tuple_add (PySem.F.args_tuple_add_2 _ _)
   (tuple_addW1 t b vs.toArray ws.toArray n n2 dd dd2 sl sl2 (by simpa using hv) (by simp[hw])) ⟨ho,ho2,h1 hw⟩
 ·refine concat_meets ⟨_,ho,rfl⟩ ⟨_,ho2,rfl⟩ noFill_tuple_add seq_tuple_add PySem.F.slot_tuple_add PySem.F.entry_tuple_add (PySem.F.args_tuple_add_2 _ _)
   (tuple_addW2 t b vs.toArray ws.toArray n n2 dd dd2 sl sl2 (by simpa using hv) (by simpa using hw) (by rw[List.size_toArray,List.size_toArray];exact hsz)) ⟨ho,ho2,?_⟩
  rw[e]
  exact h2 hw
def sIx(n d:Nat):Option Int->Nat
 |none=>d
 |some v=>if v<0 then(v+(n:Int)).toNat else min v.toNat n
theorem sIx_none(n d:Nat):sIx n d none=d:=rfl
theorem sIx_nat(n d k:Nat):sIx n d (some (k:Int))=min k n:=by
 show(if(k:Int)<0 then((k:Int)+(n:Int)).toNat else min (k:Int).toNat n)=min k n
 rw[if_neg (by omega),Int.toNat_natCast]
theorem Zfv(n d:Nat)(hd:d<=n)(o:Option Int):sIx n d o<=n:=by
 cases o with
 |none=>exact hd
 |some v =>
  show(if v<0 then(v+(n:Int)).toNat else min v.toNat n)<=n
  by_cases hv:v<0
  ·rw[if_pos hv];omega
  ·rw[if_neg hv];exact Nat.min_le_right _ _
theorem Z8s(v:Int)(n d:Nat):(if v<0 then max (v+(n:Int)) 0 else min v (n:Int))=((sIx n d (some v):Nat):Int):=by
 show(if v<0 then max (v+(n:Int)) 0 else min v (n:Int))=(((if v<0 then(v+(n:Int)).toNat else min v.toNat n):Nat):Int)
 by_cases hv:v<0
 ·simp only[if_pos hv];omega
 ·simp only[if_neg hv];omega
theorem Z78(lo hi:Option Int)(n:Nat):Builtin.Slice.sliceAdjust lo hi 1 (n:Int)=(((sIx n 0 lo:Nat):Int),((sIx n n hi:Nat):Int)):=by
 have h1:¬((1:Int)<0):=by omega
 unfold Builtin.Slice.sliceAdjust
 simp only[h1,if_false]
 refine Prod.ext ?_ ?_
 ·cases lo with
  |none=>rfl
  |some v=>exact Z8s v n 0
 ·cases hi with
  |none=>rfl
  |some v=>exact Z8s v n n
theorem Z6p(i j:Nat):Builtin.Slice.slicePlaces (i:Int) (j:Int) 1=j-i:=by
 unfold Builtin.Slice.slicePlaces
 have h1:(1:Int)>0:=by omega
 simp only[h1,if_true,Int.ediv_one]
 split <;> omega
theorem Z1h{v:Value}{o:Option Int}{Q:Option Int->Shared->Prop}(p:IsPart v o)(h:Q o s):wpAny (model prog w) A (Builtin.Slice.slicePartIndex v) Q E s:=by
 cases p with
 |none=>exact slicePart_none h
 |int i t=>exact slicePart_int h
theorem Ju{sl:Addr}{vl vu:Value}{lo hi:Option Int}{n:Nat}{Q:Int×Int×Nat->Shared->Prop}(hs:s.heap.IsSliceOf sl vl vu .none)(pl:IsPart vl lo)(pu:IsPart vu hi)
  (h:Q (((sIx n 0 lo:Nat):Int),1,sIx n n hi-sIx n 0 lo) s):wpAny (model prog w) A (Builtin.Slice.sliceApplied (.ref sl) (pure (n:Int))) Q E s:=by
 obtain⟨os,hos,hcs,hds⟩:=id hs
 unfold Builtin.Slice.sliceApplied Builtin.Slice.sliceFields
 refine wpAny_bind (wpAny_bind (wpAny_field hos hds (x:=vl) rfl (wpAny_bind (wpAny_field hos hds (x:=vu) rfl (wpAny_bind (wpAny_field hos hds (x:=.none) rfl (wpAny_pure ?_)))))))
 refine wpAny_bind (slicePart_none ?_)
 show wpAny _ _ (if((1:Int)==0)=true then _ else _) _ _ s
 rw[if_neg (by decide)]
 refine wpAny_bind (Z1h pl (wpAny_bind (Z1h pu (wpAny_bind (wpAny_pure ?_)))))
 show wpAny _ _ (match Builtin.Slice.sliceAdjust lo hi 1 (n:Int) with | (lo,hi)=>pure (lo,(1:Int),Builtin.Slice.slicePlaces lo hi 1)) _ _ s
 rw[Z78 lo hi n]
 show wpAny _ _ (pure (((sIx n 0 lo:Nat):Int),(1:Int),Builtin.Slice.slicePlaces ((sIx n 0 lo:Nat):Int) ((sIx n n hi:Nat):Int) 1)) _ _ s
 rw[Z6p]
 exact wpAny_pure h
theorem Zau(xs:Array Value)(i k:Nat):((List.range k).filterMap fun(m:Nat)=>xs[((i:Int)+(m:Int)*1).toNat]?).toArray=((xs.toList.drop i).take k).toArray:=by
 have e:(fun(m:Nat)=>xs[((i:Int)+(m:Int)*1).toNat]?)=fun m=>xs[i+m]?:=by
  funext m
  have:((i:Int)+(m:Int)*1).toNat=i+m:=by omega
  rw[this]
 rw[e]
 have:=pick_run xs i k
 rw[List.filterMap_map]at this
 have e2:((fun x=>xs[x]?) ∘ fun x=>i+x)=fun m=>xs[i+m]?:=rfl
 rw[e2]at this
 rw[this]
theorem getItem_tuple_cut{t sl:Addr}{items:Array Value}{vl vu:Value}{lo hi:Option Int}{Q:Value->Shared->Prop}(ht:IsTup s.heap t items)(hs:s.heap.IsSliceOf sl vl vu .none)(pl:IsPart vl lo)(pu:IsPart vu hi)
  (hw:¬(sIx items.size 0 lo=0/\sIx items.size items.size hi=items.size))
  (h:Q (.ref s.heap.objs.size) { s with heap:=s.heap.push { cls:=.type "tuple",data:=.seq ((items.toList.drop (sIx items.size 0 lo)).take (sIx items.size items.size hi-sIx items.size 0 lo)).toArray } })
  (hsz:items.size<=sizeLine):wpAny (model prog w) A (getItem (.ref t) (.ref sl)) Q E s:=by
 have htake:sizeOk (.seq ((items.toList.drop (sIx items.size 0 lo)).take (sIx items.size items.size hi-sIx items.size 0 lo)).toArray):=by
  show((items.toList.drop (sIx items.size 0 lo)).take (sIx items.size items.size hi-sIx items.size 0 lo)).toArray.size<=sizeLine
  rw[List.size_toArray,List.length_take,List.length_drop,Array.length_toList]
  omega
 have hj:sIx items.size items.size hi<=items.size:=Zfv _ _ (Nat.le_refl _) hi
 obtain⟨os,hos,hcs,hds⟩:=id hs
 have hTs:s.TypeIs (.ref sl) "slice":=⟨os,hos,hcs⟩
 unfold getItem
 try with_reducible refine wpAny_holding ?_
 first | refine wpAny_bind (wpAny_pure ?_) | skip
 refine wpAny_bind (wpAny_sequenceKey ht.typeIs (by decide) ?_)
 refine wpAny_bind (wpAny_callSpecial?_slot (name:=Str.ofString "__getitem__") ht.typeIs PyProof.Rows.slot_tuple_getitem
  (wpAny_call_entry PyProof.Rows.slot_tuple_getitem ht.typeIs entry_tuple_getitem ?_ (args_tuple_getitem _ _)))
 show wpAny _ _ (Builtin.Tuple.tupleItemsOf (.ref t) >>= _) _ _ s
 refine wpAny_bind (tupleItemsOf_ ht ?_)
 refine wpAny_bind (wpAny_typeOf hTs ?_)
 rw[if_pos (by decide)]
 refine wpAny_bind (Ju hs pl pu ?_)
 have hno:¬((((sIx items.size 0 lo:Nat):Int)==0&&(1:Int)==1&&(sIx items.size items.size hi-sIx items.size 0 lo)==items.size)=true):=by
  intro q
  rw[Bool.and_eq_true,Bool.and_eq_true]at q
  have q1:((sIx items.size 0 lo:Nat):Int)=0:=eq_of_beq q.1.1
  have q2:sIx items.size items.size hi-sIx items.size 0 lo=items.size:=eq_of_beq q.2
  exact hw ⟨by omega,by omega⟩
 show wpAny _ _ (if(((sIx items.size 0 lo:Nat):Int)==0&&(1:Int)==1&&(sIx items.size items.size hi-sIx items.size 0 lo)==items.size)=true then _ else _) _ _ s
 rw[if_neg hno,Zau]
 first
  |exact wpAny_bind (m:=Builtin.Tuple.tupleExact _) (wpAny_newObj_type (wpAny_pure ⟨_,rfl,wpAny_pure h⟩) htake)
  |exact wpAny_bind (m:=Builtin.Tuple.tupleExact _) (wpAny_newObj_type (wpAny_bind (wpAny_pure (wpAny_pure ⟨_,rfl,wpAny_pure h⟩))) htake)
  |exact wpAny_bind (wpAny_bind (m:=Builtin.Tuple.tupleExact _) (wpAny_newObj_type (wpAny_pure (wpAny_pure ⟨_,rfl,wpAny_pure h⟩)) htake))
  |exact wpAny_bind (wpAny_bind (m:=Builtin.Tuple.tupleExact _) (wpAny_newObj_type (wpAny_pure ⟨_,rfl,wpAny_pure h⟩) htake))
end
end HT
namespace L2
open PySem PySem.Spec PyProof.Rows
abbrev TO:=St->Hp->(Option Int->Hp->Prop)->Prop
def PO(X:Cx)(e:Option Expr)(t:TO):Prop :=
 ∀(Z4:List (Addr×Obj)) (s:Shared) (σ:St) (H:Hp) (Q:Option Int->Hp->Prop),Inv X Z4 σ H s->t σ H Q ->
  wpAny (model X.prog X.w) X.A (evalPart e X.env) (fun u s'=>∃o H',Inv X Z4 σ H' s'/\IsPart u o/\Q o H') X.xe s
def Jj:TO:=fun _ H Q=>Q none H
def Z65(t:TE):TO:=fun σ H Q=>t σ H fun x H1=>∃i,x=.int i/\Q (some i) H1
section
variable{X:Cx}{e:Expr}{te:TE}{lo hi:Option Expr}{tl th:TO}{pos p2:Pos}
theorem Wz:PO X none Jj:=by
 intro Z4 s σ H Q I h
 rw[evalPart_none]
 exact wpAny_pure ⟨none,H,I,.none,h⟩
theorem Y2(h:PE X e te):PO X (some e) (Z65 te):=by
 intro Z4 s σ H Q I hw
 rw[evalPart_some]
 refine Xr (h Z4 s σ H _ I hw) fun u s1 ⟨x,H1,I1,r1,q1⟩=>?_
 obtain⟨i,rfl,q⟩:=q1
 obtain⟨t,rfl⟩:=r1
 exact⟨some i,H1,I1,.int i t,q⟩
def Zk2(X:Cx)(r:V->Option Int->Option Int->Hp->VK->Prop):Prop :=
 ∀(Z4:List (Addr×Obj)) (s:Shared) (σ:St) (H:Hp) (x:V) (v vl vu:Value) (lo hi:Option Int) (sl:Addr) (Q:VK),Inv X Z4 σ H s->RelV x v->s.heap.IsSliceOf sl vl vu .none->IsPart vl lo->IsPart vu hi->r x lo hi H Q ->
  ∃T id,typeLookup (.type T) "__getitem__" = pure (some (.builtin id))/\s.TypeIs v T/\wpAny (model X.prog X.w) X.A (getItem v (.ref sl)) (EP X Z4 σ Q) X.xe s
def Zjp(r:V->Option Int->Option Int->Hp->VK->Prop)(te:TE)(tl th:TO):TE:=fun σ H Q=>te σ H fun x H1=>tl σ H1 fun l H2=>th σ H2 fun u H3=>r x l u H3 Q
theorem Y8{r:V->Option Int->Option Int->Hp->VK->Prop}(hr:Zk2 X r)(he:PE X e te)(hl:PO X lo tl)(hu:PO X hi th):PE X (.Subscript e (.Slice lo hi none p2) pos) (Zjp r te tl th):=by
 intro Z4 s σ H Q I h
 refine Subscript_ (Xr (he Z4 s σ H _ I h) fun v s1 ⟨x,H1,I1,r1,q1⟩=>?_)
 refine wpAny_Slice (Xr (hl Z4 s1 σ H1 _ I1 q1) fun vl s2 ⟨l,H2,I2,pl,q2⟩=>Xr (hu Z4 s2 σ H2 _ I2 q2) fun vu s3 ⟨u,H3,I3,pu,q3⟩=>?_)
 rw[evalPart_none]
 refine wpAny_pure ?_
 have I4:Inv X Z4 σ H3 { s3 with heap:=s3.heap.push { cls:=.type "slice",data:=.fields #[vl,vu,.none] } }:=I3.kept (t':=s3.toks) fun b ob q=>Heap.get?_push_of_some _ q
 obtain⟨T,id,hT,ht,hg⟩:=hr Z4 { s3 with heap:=s3.heap.push { cls:=.type "slice",data:=.fields #[vl,vu,.none] } } σ H3 x v vl vu l u s3.heap.objs.size Q I4 r1 (Heap.IsSliceOf.new ..) pl pu q3
 show wpAny (model X.prog X.w) X.A (subscriptTail e (.Slice lo hi none p2) v (.ref s3.heap.objs.size)) (EP X Z4 σ Q) X.xe { s3 with heap:=s3.heap.push { cls:=.type "slice",data:=.fields #[vl,vu,.none] } }
 exact tail_any (ops:=[.ref s3.heap.objs.size,v]) ht hT hg (by with_unfolding_all rfl)
def Jz(xs:List V)(lo hi:Option Int):List V:=(xs.drop (HT.sIx xs.length 0 lo)).take (HT.sIx xs.length xs.length hi-HT.sIx xs.length 0 lo)
theorem Z0m(xs:List V)(lo hi:Option Int):(Jz xs lo hi).length<=xs.length:=by
 unfold Jz
 rw[List.length_take,List.length_drop]
 omega
def Zd1(K:W.Frag):V->Option Int->Option Int->Hp->VK->Prop:=fun x lo hi H Q=>∃a xs,x=.ref a/\SqT K H a xs /\
 ¬(HT.sIx xs.length 0 lo=0/\HT.sIx xs.length xs.length hi=xs.length)/\∀p,H p=none->Q (.ref p) (Zq H p (.tup (Jz xs lo hi)))
theorem Z26:Zk2 X (Zd1 X.K):=by
 intro Z4 s σ H x v vl vu lo hi sl Q I rx hs pl pu h
 obtain⟨a,xs,rfl,hx,hw,q⟩:=h
 cases rx
 obtain⟨its,r,ht,hz⟩:=I.tuple hx
 have hlen:its.toArray.size=xs.length:=by rw[List.size_toArray];exact r.length.symm
 refine⟨"tuple",_,PyProof.Rows.slot_tuple_getitem.lookup,ht.typeIs,?_⟩
 refine HT.getItem_tuple_cut ht hs pl pu (by rw[hlen];exact hw) ?_ (by rw[hlen];exact hz)
 rw[hlen]
 refine⟨.ref s.heap.objs.size,_,I.laid (t':=s.toks) (o:=.tup (Jz xs lo hi)) (fun b ob q=>Heap.get?_push_of_some _ q) (Nat.le_refl _) ?_,rfl,q _ (I.hok.fresh (Nat.le_refl _))⟩
 exact⟨Nat.le_trans (Z0m xs lo hi) hz,_,(r.drop (HT.sIx xs.length 0 lo)).take (HT.sIx xs.length xs.length hi-HT.sIx xs.length 0 lo),IsTup.new _ _⟩
def Zip(K:W.Frag):R2:=fun x y H Q=>∃a b xs ys,x=.ref a/\y=.ref b/\SqT K H a xs/\SqT K H b ys/\xs≠[]/\xs.length+ys.length<=sizeLine /\
 (ys=[]->Q (.ref a) H)/\(ys≠[]->∀p,H p=none->Q (.ref p) (Zq H p (.tup (xs++ys))))
theorem Vals.nil_iff{xs:List V}{us:List Value}(r:Vals xs us):us=[]↔xs=[]:=by
 cases r with
 |nil=>simp
 |cons _ _=>simp
theorem Ze1:Z4x X (binaryOp .Add) (Zip X.K):=by
 intro Z4 s σ H x y v u Q I rx ry h
 obtain⟨a,b,xs,ys,rfl,rfl,ha,hb,hx,hz,q1,q2⟩:=h
 cases rx
 cases ry
 obtain⟨its,r1,p1,_⟩:=I.tuple ha
 obtain⟨its2,r2,p2,_⟩:=I.tuple hb
 refine HT.cat_tup p1 p2 (fun z=>hx (r1.nil_iff.mp z)) (fun z=>⟨.ref a,H,I,rfl,q1 (r2.nil_iff.mp z)⟩) (fun z=>?_) (by rw[← r1.length,← r2.length];exact hz)
 refine⟨.ref s.heap.objs.size,_,I.laid (t':=s.toks) (o:=.tup (xs++ys)) (fun b ob q=>Heap.get?_push_of_some _ q) (Nat.le_refl _) ?_,rfl,q2 (fun w=>z (r2.nil_iff.mpr w)) _ (I.hok.fresh (Nat.le_refl _))⟩
 exact⟨by rw[List.length_append];exact hz,_,r1.append r2,IsTup.new _ _⟩
end
def Zcy(n:Nat)(i:Int):Option Nat:=if 0<=i then(if i<n then some i.toNat else none) else if -(n:Int)<=i then some (i+n).toNat else none
def Z6e{α:Type}(xs:List α)(i:Int):Option α:=(Zcy xs.length i).bind fun j=>xs[j]?
theorem Z8m{n:Nat}{i:Int}{j:Nat}(h:Zcy n i=some j):seqIndex? i n=some j/\j<n/\-(n:Int)<=i/\i<n:=by
 unfold Zcy at h
 by_cases h0:0<=i
 ·rw[if_pos h0]at h
  by_cases h1:i<n
  ·rw[if_pos h1]at h
   have e:i.toNat=j:=Option.some.inj h
   exact⟨by rw[seqIndex_of h0 h1,e],by omega,by omega,h1⟩
  ·rw[if_neg h1]at h;cases h
 ·rw[if_neg h0]at h
  by_cases h1:-(n:Int)<=i
  ·rw[if_pos h1]at h
   have e:(i+n).toNat=j:=Option.some.inj h
   exact⟨by rw[seqIndex_neg (by omega) h1,e],by omega,h1,by omega⟩
  ·rw[if_neg h1]at h;cases h
theorem Z4k{α:Type}{xs:List α}{i:Int}{v:α}(h:Z6e xs i=some v):∃j,seqIndex? i xs.length=some j/\xs[j]? = some v/\j<xs.length/\-(xs.length:Int)<=i/\i<xs.length:=by
 unfold Z6e at h
 cases e:Zcy xs.length i with
 |none=>rw[e]at h;cases h
 |some j =>
  rw[e]at h
  obtain⟨h1,h2,h3,h4⟩:=Z8m e
  exact⟨j,h1,h,h2,h3,h4⟩
theorem Wm{α:Type}{xs:List α}{j:Nat}{v:α}(h:xs[j]? = some v):Z6e xs (j:Int)=some v:=by
 have hj:j<xs.length:=(List.getElem?_eq_some_iff.mp h).1
 have e:Zcy xs.length (j:Int)=some j:=by
  unfold Zcy
  rw[if_pos (by omega),if_pos (by omega)];simp
 unfold Z6e;rw[e];exact h
def Zf2(b:Expr):Prop:=∀o i,subscripted b false o i=operate [o,i] (getItem o i)
def Zk5(X:Cx)(r:R2):Prop :=
 ∀(value slice:Expr) (Z4:List (Addr×Obj)) (s:Shared) (σ:St) (H:Hp) (x y:V) (v u:Value) (Q:VK),Inv X Z4 σ H s->RelV x v->RelV y u->r x y H Q ->
  subscripted slice false v u=operate [v,u] (getItem v u)->wpAny (model X.prog X.w) X.A (subscriptTail value slice v u) (EP X Z4 σ Q) X.xe s
def Zl9(X:Cx)(id:String)(r:V->List V->Hp->VK->Prop):Prop :=
 ∀(Z4:List (Addr×Obj)) (s:Shared) (σ:St) (H:Hp) (x:V) (xs:List V) (v:Value) (us:List Value) (Q:VK),Inv X Z4 σ H s->RelV x v->Vals xs us->r x xs H Q ->
  wpAny (model X.prog X.w) X.A (call (.builtin id) (v::us)) (EP X Z4 σ Q) X.xe s
section
variable{X:Cx}{a b:Expr}{ta tb:TE}{pos:Pos}
theorem Zg{r:R2}(hr:Zk5 X r)(ha:PE X a ta)(hb:PE X b tb)(hs:Zf2 b):PE X (.Subscript a b pos) (Z6c r ta tb):=by
 intro Z4 s σ H Q I h
 exact Subscript_ (Zhz ha hb I h fun v u s2 x y H2 I2 rx ry q=>hr a b Z4 s2 σ H2 x y v u Q I2 rx ry q (hs _ _))
def Zf7(K:W.Frag):R2:=fun x y H Q=>∃p xs i v,x=.ref p/\y=.int i/\SqL K H p xs/\Z6e xs i=some v/\Q v H
def Z2h(K:W.Frag):R2:=fun x y H Q=>∃p xs i v,x=.ref p/\y=.int i/\SqT K H p xs/\Z6e xs i=some v/\Q v H
def Zkh:R2:=fun x y H Q=>∃z i c,x=.str z/\y=.int i/\z.length<=sizeLine/\Z6e z.cps.toList i=some c/\Q (.str ⟨#[c]⟩) H
theorem X3:Zk5 X (Zf7 X.K):=by
 intro value slice Z4 s σ H x y v u Q I rx ry h hs
 obtain⟨p,xs,i,z,rfl,rfl,hq,he,q⟩:=h
 cases rx
 obtain⟨t,rfl⟩:=ry
 obtain⟨its,r,pl,hz⟩:=I.list hq
 obtain⟨j,h1,h2,h3,h4,h5⟩:=Z4k he
 obtain⟨w,ew,rw'⟩:=r.get h2
 have hl:=r.length
 have hn:=Z0s
 have fin:EP X Z4 σ Q w s:=⟨z,H,I,rw',q⟩
 by_cases h0:0<=i
 ·have hj:i.toNat=j:=by
   rw[seqIndex_of h0 h5]at h1
   exact Option.some.inj h1
  exact item_listR pl.isList h0 (by omega) (by rw[hj];simpa using ew) fin hs
 ·have hj:(i+(its.toArray.size:Int)).toNat=j:=by
   rw[seqIndex_neg (by omega) h4]at h1
   rw[List.size_toArray,← hl]
   exact Option.some.inj h1
  exact subscriptTail_builtinR (x:=w) pl.isList.typeIs slot_list_getitem.lookup
   (wpAny_getItem_list_neg (Q:=fun r s'=>r=w/\EP X Z4 σ Q r s') pl.isList (by omega) (by rw[List.size_toArray] <;> omega) (by omega) (by rw[hj];simpa using ew) ⟨rfl,fin⟩) hs
theorem Zd:Zk5 X (Z2h X.K):=by
 intro value slice Z4 s σ H x y v u Q I rx ry h hs
 obtain⟨p,xs,i,z,rfl,rfl,hq,he,q⟩:=h
 cases rx
 obtain⟨t,rfl⟩:=ry
 obtain⟨its,r,pl,hz⟩:=I.tuple hq
 obtain⟨j,h1,h2,h3,h4,h5⟩:=Z4k he
 obtain⟨w,ew,rw'⟩:=r.get h2
 have hl:=r.length
 have hn:=Z0s
 have fin:EP X Z4 σ Q w s:=⟨z,H,I,rw',q⟩
 exact subscriptTail_builtinR (x:=w) pl.typeIs slot_tuple_getitem.lookup
  (getItem_tuple (j:=j) (Q:=fun r s'=>r=w/\EP X Z4 σ Q r s') pl (by omega) (by omega) (by rw[List.size_toArray,← hl];exact h1) (by simpa using ew) ⟨rfl,fin⟩) hs
theorem Tz:Zk5 X Zkh:=by
 intro value slice Z4 s σ H x y v u Q I rx ry h hs
 obtain⟨z,i,c,rfl,rfl,hz,he,q⟩:=h
 obtain⟨t,rfl⟩:=rx
 obtain⟨t',rfl⟩:=ry
 obtain⟨j,h1,h2,h3,h4,h5⟩:=Z4k he
 have hl:z.cps.toList.length=z.length:=by simp[Str.length]
 rw[hl]at h1 h4 h5
 have hn:=Z0s
 exact tail_any (typeIs_str s z t) slot_str_getitem.lookup (getItem_str (c:=c) (by
  have e1:decide (i < -(2 ^ 63:Int))=false:=decide_eq_false (by omega)
  have e2:decide (i≥2 ^ 63)=false:=decide_eq_false (by omega)
  rw[e1,e2,Bool.or_false]) (by rw[h1];simpa using h2) ⟨.str ⟨#[c]⟩,H,I.tok _,⟨_,rfl⟩,q⟩) hs
theorem Z70(its:List Value)(n j:Nat)(u:Value):Obj.mapSeq (·.setIfInBounds j u) { cls:=.type "list",data:=.seq its.toArray n } = { cls:=.type "list",data:=.seq (its.set j u).toArray n }:=by
 simp[Obj.mapSeq]
theorem Inv.lst{Z4:List (Addr×Obj)}{σ:St}{H:Hp}{s:Shared}{p:Addr}{xs:List V}(I:Inv X Z4 σ H s)(h:H p=some (.lst xs)) :
  ∃(its:List Value) (n:Nat),Vals xs its/\s.heap.get? p=some { cls:=.type "list",data:=.seq its.toArray n }/\xs.length<=sizeLine:=by
 obtain⟨z,its,n,r,e⟩:=I.hok p _ h
 exact⟨its,n,r,e,z⟩
theorem Inv.lstUpd{Z4:List (Addr×Obj)}{σ:St}{H:Hp}{s:Shared}{p:Addr}{xs ys:List V}{its its':List Value}{n n':Nat}{f:Obj->Obj}(I:Inv X Z4 σ H s)(h:H p=some (.lst xs))
  (ho:s.heap.get? p=some { cls:=.type "list",data:=.seq its.toArray n }) (hf:f { cls:=.type "list",data:=.seq its.toArray n } = { cls:=.type "list",data:=.seq its'.toArray n' }) (r:Vals ys its') (hz:ys.length<=sizeLine) (t:Nat) :
  Inv X Z4 σ (Zq H p (.lst ys)) { s with heap:=s.heap.update p f,toks:=t }:=by
 have e:(s.heap.update p f).get? p=some { cls:=.type "list",data:=.seq its'.toArray n' }:=by
  rw[Heap.get?_update_self f ho (by rw[hf] <;> rfl),hf]
 refine I.write (x:=p) (e:=p) (by rw[h];trivial) (.inl rfl) (fun b u hb q=>(Heap.get?_update_other _ _ (Ne.symm hb)).trans q) ⟨_,e⟩ ?_
 exact⟨hz,its',n',r,e⟩
def Zim:V->V->V->Hp->(Hp->Prop)->Prop:=fun o i v H Q=>∃p xs k j,o=.ref p/\i=.int k/\H p=some (.lst xs)/\Zcy xs.length k=some j/\Q (Zq H p (.lst (xs.set j v)))
theorem Wn:Zjl X Zim:=by
 intro Z4 s σ H o i v ov iv u Q I ro ri rv h
 obtain⟨p,xs,k,j,rfl,rfl,hp,hj,q⟩:=h
 cases ro
 obtain⟨t,rfl⟩:=ri
 obtain⟨its,n,r,ho,hz⟩:=I.lst hp
 obtain⟨h1,h2,h3,h4⟩:=Z8m hj
 have hl:=r.length
 have hn:=Z0s
 have I':Inv X Z4 σ (Zq H p (.lst (xs.set j v))) { s with heap:=s.heap.update p (Obj.mapSeq (·.setIfInBounds j u)) } :=
  I.lstUpd hp ho (Z70 its n j u) (r.set rv j) (by rw[List.length_set];exact hz) s.toks
 by_cases h0:0<=k
 ·have hk:k.toNat=j:=by
   rw[seqIndex_of h0 h4]at h1
   exact Option.some.inj h1
  exact W.ki_setAt ho h0 (by omega) (by rw[List.size_toArray,← hl];exact h4) (by rw[hk];exact⟨_,I',q⟩)
 ·have hk:(k+(its.toArray.size:Int)).toNat=j:=by
   rw[seqIndex_neg (by omega) h3]at h1
   rw[List.size_toArray,← hl]
   exact Option.some.inj h1
  exact W.ki_setBack ho (by omega) (by rw[List.size_toArray,← hl];exact h3) (by omega) (by rw[hk];exact⟨_,I',q⟩)
theorem Z3q(lo hi:Option Int)(n:Nat):(sliceBounds lo hi none n).1=((HT.sIx n 0 lo:Nat):Int)/\(sliceBounds lo hi none n).2.1=((HT.sIx n n hi:Nat):Int)/\(sliceBounds lo hi none n).2.2=1:=by
 refine⟨?_,?_,rfl⟩
 ·cases lo with
  |none=>simp[sliceBounds,HT.sIx]
  |some i =>
   simp only[sliceBounds,HT.sIx,Option.getD_none,show(1:Int)>0 by decide,if_true]
   by_cases h:i<0
   ·simp only[h,if_true] <;> omega
   ·simp only[h,if_false] <;> omega
 ·cases hi with
  |none=>simp[sliceBounds,HT.sIx]
  |some i =>
   simp only[sliceBounds,HT.sIx,Option.getD_none,show(1:Int)>0 by decide,if_true]
   by_cases h:i<0
   ·simp only[h,if_true] <;> omega
   ·simp only[h,if_false] <;> omega
theorem Z2l(its:List Value)(lo hi:Option Int):slicePick its.toArray lo hi none=((its.drop (HT.sIx its.length 0 lo)).take (HT.sIx its.length its.length hi-HT.sIx its.length 0 lo)).toArray:=by
 obtain⟨h1,h2,h3⟩:=Z3q lo hi its.toArray.size
 unfold slicePick
 rw[h1,h2,h3]
 simp only[sliceRange_one,pick_run,List.size_toArray] <;> rfl
def Zkf(K:W.Frag):V->Option Int->Option Int->Hp->VK->Prop:=fun x lo hi H Q=>∃a xs,x=.ref a/\SqL K H a xs/\∀p,H p=none->Q (.ref p) (Zq H p (.lst (Jz xs lo hi)))
theorem Zdh:Zk2 X (Zkf X.K):=by
 intro Z4 s σ H x v vl vu lo hi sl Q I rx hs pl pu h
 obtain⟨a,xs,rfl,hx,q⟩:=h
 cases rx
 obtain⟨its,r,ht,hz⟩:=I.list hx
 have hlen:=r.length
 refine⟨"list",_,slot_list_getitem.lookup,ht.isList.typeIs,?_⟩
 refine wpAny_getItem_list_slice ht.isList hs pl pu .none (by simp) ?_ (by rw[List.size_toArray] <;> omega)
 rw[Z2l,← hlen]
 refine⟨.ref s.heap.objs.size,_,I.laid (t':=s.toks) (o:=.lst (Jz xs lo hi)) (fun b ob q=>Heap.get?_push_of_some _ q) (Nat.le_refl _) ?_,rfl,q _ (I.hok.fresh (Nat.le_refl _))⟩
 exact⟨Nat.le_trans (Z0m xs lo hi) hz,_,0,(r.drop (HT.sIx xs.length 0 lo)).take (HT.sIx xs.length xs.length hi-HT.sIx xs.length 0 lo),Heap.get?_push_size _ rfl⟩
def Z11:V->Bool
 |.non=>true
 |.bl _=>true
 |.int _=>true
 |.str _=>true
 |_=>false
def Zi5:V->V->Bool
 |.non,.non=>true
 |.bl a,.bl b=>a==b
 |.bl a,.int b=>(if a then 1 else 0)==b
 |.int a,.bl b=>a==(if b then 1 else 0)
 |.int a,.int b=>a==b
 |.str a,.str b=>a==b
 |_,_=>false
theorem Zhj{A:Around}{s:Shared}{y x:V}{u v:Value}(ry:RelV y u)(rx:RelV x v)(fy:Z11 y=true)(fx:Z11 x=true):SeqAt.EqAt A s u v (Zi5 y x):=by
 cases y with
 |non =>
  cases ry
  cases x with
  |non=>cases rx;exact SeqAt.EqAt.same _
  |bl b=>cases rx;exact SeqAt.EqAt.none_bool b
  |int b=>obtain⟨t,rfl⟩:=rx;exact SeqAt.EqAt.none_int b t
  |str b=>obtain⟨t,rfl⟩:=rx;exact SeqAt.EqAt.none_str b t
  |_=>exact absurd (show false=true from fx) Bool.false_ne_true
 |bl a =>
  cases ry
  cases x with
  |non=>cases rx;exact SeqAt.EqAt.bool_none a
  |bl b=>cases rx;exact SeqAt.EqAt.bool_bool a b
  |int b=>obtain⟨t,rfl⟩:=rx;exact SeqAt.EqAt.bool_int a b t
  |str b=>obtain⟨t,rfl⟩:=rx;exact SeqAt.EqAt.bool_str a b t
  |_=>exact absurd (show false=true from fx) Bool.false_ne_true
 |int a =>
  obtain⟨t',rfl⟩:=ry
  cases x with
  |non=>cases rx;exact SeqAt.EqAt.int_none a t'
  |bl b=>cases rx;exact SeqAt.EqAt.int_bool a t' b
  |int b=>obtain⟨t,rfl⟩:=rx;exact SeqAt.EqAt.int_int a t' b t
  |str b=>obtain⟨t,rfl⟩:=rx;exact SeqAt.EqAt.int_str a t' b t
  |_=>exact absurd (show false=true from fx) Bool.false_ne_true
 |str a =>
  obtain⟨t',rfl⟩:=ry
  cases x with
  |non=>cases rx;exact SeqAt.EqAt.str_none a t'
  |bl b=>cases rx;exact SeqAt.EqAt.str_bool a t' b
  |int b=>obtain⟨t,rfl⟩:=rx;exact SeqAt.EqAt.str_int a t' b t
  |str b=>obtain⟨t,rfl⟩:=rx;exact SeqAt.EqAt.str_str a t' b t
  |_=>exact absurd (show false=true from fx) Bool.false_ne_true
 |_=>exact absurd (show false=true from fy) Bool.false_ne_true
def Zht(x:V)(u:Value):Bool:=match u with
 |.none=>Zi5 .non x
 |.bool b=>Zi5 (.bl b) x
 |.int i _=>Zi5 (.int i) x
 |.str z _=>Zi5 (.str z) x
 |_=>false
theorem Zck{x y:V}{u:Value}(r:RelV y u)(f:Z11 y=true):Zht x u=Zi5 y x:=by
 cases y with
 |non=>cases r;rfl
 |bl b=>cases r;rfl
 |int i=>obtain⟨t,rfl⟩:=r;rfl
 |str z=>obtain⟨t,rfl⟩:=r;rfl
 |_=>exact absurd (show false=true from f) Bool.false_ne_true
theorem Z4l{x:V}:∀ {xs:List V} {us:List Value},Vals xs us->xs.all Z11=true->us.any (Zht x)=xs.any fun y=>Zi5 y x
 |_,_,.nil,_=>rfl
 |y::xs,u::us,.cons r t,f=>by
  rw[List.all_cons,Bool.and_eq_true]at f
  rw[List.any_cons,List.any_cons,Zck r f.1,Z4l t f.2]
theorem Z1z{A:Around}{s:Shared}{x:V}{v:Value}(rx:RelV x v)(fx:Z11 x=true):∀ {xs:List V} {us:List Value},Vals xs us->xs.all Z11=true->∀u∈us,SeqAt.EqAt A s u v (Zht x u)
 |_,_,.nil,_=>fun u hu=>by cases hu
 |y::xs,u::us,.cons r t,f=>fun u' hu=>by
  rw[List.all_cons,Bool.and_eq_true]at f
  rcases List.mem_cons.mp hu with rfl | hu
  ·rw[Zck r f.1];exact Zhj r rx f.1 fx
  ·exact Z1z rx fx t f.2 u' hu
def Zfm(x:V)(xs:List V):Bool:=xs.any fun y=>Zi5 y x
def Zl3(K:W.Frag)(neg:Bool):R2:=fun x y H Q=>∃p xs,y=.ref p/\(SqL K H p xs∨SqT K H p xs)/\Z11 x=true/\xs.all Z11=true/\Q (.bl (if neg then !Zfm x xs else Zfm x xs)) H
theorem T4:Z4x X (compareOp .In) (Zl3 X.K false):=by
 intro Z4 s σ H x y v u Q I rx ry h
 obtain⟨p,xs,rfl,hq,fx,fs,q⟩:=h
 cases ry
 rcases hq with hq | hq
 ·obtain⟨its,r,pl,hz⟩:=I.list hq
  refine SeqAt.in_listAt (Zht x) pl.isList (fun w hw=>Z1z rx fx r fs w (by simpa using hw)) ⟨.bl _,H,I,rfl,?_⟩
  rw[show its.toArray.any (Zht x)=its.any (Zht x) by simp,Z4l r fs]
  exact q
 ·obtain⟨its,r,pl,hz⟩:=I.tuple hq
  refine SeqAt.in_tupleAt (Zht x) pl (fun w hw=>Z1z rx fx r fs w (by simpa using hw)) ⟨.bl _,H,I,rfl,?_⟩
  rw[show its.toArray.any (Zht x)=its.any (Zht x) by simp,Z4l r fs]
  exact q
theorem Zv:Th X (.builtin "len") (fun xs H Q=>∃p ys,xs=[.ref p]/\(SqL X.K H p ys∨SqT X.K H p ys)/\Q (.int ys.length) H):=by
 intro Z4 s σ H xs us Q I r h
 obtain⟨p,ys,rfl,hq,q⟩:=h
 obtain⟨u,rfl,rx⟩:=Ts r
 cases rx
 have hn:=Z0s
 rcases hq with hq | hq
 ·obtain⟨its,r',pl,hz⟩:=I.list hq
  have hlen:=r'.length
  exact Calls.call_len_list pl.isList (by simp only[List.size_toArray] <;> omega) ⟨.int ys.length,H,I.tok _,⟨s.toks+1,by rw[List.size_toArray,hlen]⟩,q⟩
 ·obtain⟨its,r',pl,hz⟩:=I.tuple hq
  have hlen:=r'.length
  exact len_tuple pl (by simp only[List.size_toArray] <;> omega) ⟨.int ys.length,H,I.tok _,⟨s.toks+1,by rw[List.size_toArray,hlen]⟩,q⟩
theorem Xd:Th X (.builtin "len") (fun xs H Q=>∃z,xs=[.str z]/\z.length<=sizeLine/\Q (.int z.length) H):=by
 intro Z4 s σ H xs us Q I r h
 obtain⟨z,rfl,hz,q⟩:=h
 obtain⟨u,rfl,t,rfl⟩:=Ts r
 have hn:=Z0s
 exact len_str (by omega) ⟨.int z.length,H,I.tok _,⟨_,rfl⟩,q⟩
theorem Z3x:Th X (.type "list") (fun xs H Q=>∃p ys,xs=[.ref p]/\(SqL X.K H p ys∨SqT X.K H p ys)/\∀l,H l=none->Q (.ref l) (Zq H l (.lst ys))):=by
 intro Z4 s σ H xs us Q I r h
 obtain⟨p,ys,rfl,hq,q⟩:=h
 obtain⟨u,rfl,rx⟩:=Ts r
 cases rx
 have fin:∀(its:List Value),Vals ys its->ys.length<=sizeLine->∀(h':Heap) (c':Nat),(∀b o',s.heap.get? b=some o'->h'.get? b=some o') ->
   h'.get? s.heap.objs.size=some { cls:=.type "list",dict:=none,data:=.seq its.toArray c',slots:=#[] }->EP X Z4 σ Q (.ref s.heap.objs.size) { s with heap:=h' }:=fun its r' hz h' c' kp e =>
  ⟨.ref s.heap.objs.size,_,I.laid (t':=s.toks) kp (Nat.le_refl _) (show ObjOk X.prog X.w _ h' _ (.lst ys) from⟨hz,its,c',r',e⟩),rfl,q _ (I.hok.fresh (Nat.le_refl _))⟩
 rcases hq with hq | hq
 ·obtain⟨its,r',pl,hz⟩:=I.list hq
  have hlen:=r'.length
  obtain⟨o,ho,hc,n,hd⟩:=pl.isList
  exact call_list_seq p (.inl rfl) ho hc hd (fun h' c' kp e=>fin its r' hz h' c' kp e) (by simp only[List.size_toArray] <;> omega)
 ·obtain⟨its,r',pl,hz⟩:=I.tuple hq
  have hlen:=r'.length
  obtain⟨o,ho,hc,n,hd⟩:=pl
  exact call_list_seq p (.inr rfl) ho hc hd (fun h' c' kp e=>fin its r' hz h' c' kp e) (by simp only[List.size_toArray] <;> omega)
theorem Z2q:Th X (.type "tuple") (fun xs H Q=>∃p ys,xs=[.ref p]/\((SqL X.K H p ys/\∀l,H l=none->Q (.ref l) (Zq H l (.tup ys)))∨(SqT X.K H p ys/\Q (.ref p) H))):=by
 intro Z4 s σ H xs us Q I r h
 obtain⟨p,ys,rfl,h⟩:=h
 obtain⟨u,rfl,rx⟩:=Ts r
 cases rx
 rcases h with⟨hq,q⟩ | ⟨hq,q⟩
 ·obtain⟨its,r',pl,hz⟩:=I.list hq
  have hlen:=r'.length
  refine call_tuple_list pl.isList (fun h' kp=>?_) (by simp only[List.size_toArray] <;> omega)
  have I1:Inv X Z4 σ H { s with heap:=h' }:=I.kept (t':=s.toks) kp
  have I2:Inv X Z4 σ (Zq H h'.objs.size (.tup ys)) { s with heap:=h'.push { cls:=.type "tuple",data:=.seq its.toArray } } :=
   I1.laid (t':=s.toks) (fun b o e=>Heap.get?_push_of_some _ e) (Nat.le_refl _) (show ObjOk X.prog X.w _ _ _ (.tup ys) from⟨hz,its,r',IsTup.new _ _⟩)
  exact⟨.ref h'.objs.size,_,I2,rfl,q _ (I1.hok.fresh (Nat.le_refl _))⟩
 ·obtain⟨its,r',pl,hz⟩:=I.tuple hq
  exact call_tuple_same pl ⟨.ref p,H,I,rfl,q⟩
def Zjt(K:W.Frag)(T:String)(x:V)(H:Hp):Prop:=match x with
 |.str _=>T="str"
 |.int _=>T="int"
 |.ref p=>(T="list"/\∃xs,SqL K H p xs)∨(T="tuple"/\∃o,K.lookup p=some o/\o.cls=.type "tuple"/\o.dict=none) ∨
   (T="dict"/\((∃kvs,H p=some (.dK kvs))∨∃kvs,H p=some (.dT kvs)))∨(T="set"/\∃S n,H p=some (.set S n))
 |_=>False
theorem Zbz{Z4:List (Addr×Obj)}{σ:St}{H:Hp}{s:Shared}{T:String}{x:V}{v:Value}(I:Inv X Z4 σ H s)(r:RelV x v)(ty:Zjt X.K T x H) :
  s.TypeIs v T/\∀a,v=.ref a->∃ob,s.heap.get? a=some ob/\ob.dict=none:=by
 cases x with
 |str z =>
  obtain⟨t,rfl⟩:=r
  cases(show T="str" from ty)
  exact⟨typeIs_str s z t,fun _ e=>nomatch e⟩
 |int i =>
  obtain⟨t,rfl⟩:=r
  cases(show T="int" from ty)
  exact⟨typeIs_int s i t,fun _ e=>nomatch e⟩
 |ref p =>
  cases r
  rcases ty with⟨rfl,xs,hq⟩ | ⟨rfl,o,hk,hc,hd⟩ | ⟨rfl,hk⟩ | ⟨rfl,S,n,hk⟩
  ·obtain⟨its,_,pl,_⟩:=I.list hq
   refine⟨pl.isList.typeIs,fun a e=>?_⟩
   cases e
   obtain⟨o,n,e,c,hd,_⟩:=pl
   exact⟨o,e,hd⟩
  ·refine⟨⟨o,I.kIn p o hk,hc⟩,fun a e=>?_⟩
   cases e
   exact⟨o,I.kIn _ o hk,hd⟩
  ·have z:∃o,s.heap.get? p=some o/\o.ExactDict:=by
    rcases hk with⟨kvs,hk⟩ | ⟨kvs,hk⟩
    ·obtain⟨_,_,_,_,o,_,_,e,ex,_⟩:=I.hok p _ hk
     exact⟨o,e,ex⟩
    ·obtain⟨_,_,_,_,o,_,_,e,ex,_⟩:=I.hok p _ hk
     exact⟨o,e,ex⟩
   obtain⟨o,e,ex⟩:=z
   refine⟨⟨o,e,ex.1⟩,fun a e2=>?_⟩
   cases e2
   exact⟨o,e,ex.2.1⟩
  ·obtain⟨o,_,_,_,e,ex,_⟩:=I.hok p _ hk
   refine⟨⟨o,e,ex.1⟩,fun a e2=>?_⟩
   cases e2
   exact⟨o,e,ex.2.1⟩
 |_=>exact False.elim ty
def Zk9(K:W.Frag)(T:String)(r:V->List V->Hp->VK->Prop)(to:TE):TE:=fun σ H Q=>to σ H fun x H1=>Zjt K T x H1/\r x [] H1 Q
def Zli(K:W.Frag)(T:String)(r:V->List V->Hp->VK->Prop)(to:TE)(t:TA):TE:=fun σ H Q=>to σ H fun x H1=>Zjt K T x H1/\t σ H1 fun xs H2=>r x xs H2 Q
variable{o e:Expr}{es:List Expr}{to:TE}{t:TA}{name:Str}{apos cpos:Pos}{T id:String}{r:V->List V->Hp->VK->Prop}
theorem Zcc(pa:PlainAttrs T)(slot:Slot T name id)(hty:typeOf (.builtin id)=pure (.type "method_descriptor"))(hm:Zl9 X id r)(ho:PE X o to)
  (hbase:attributeBase o name X.env (eval o X.env)=eval o X.env:=by rfl) (hline:(apos.endLine==cpos.line)=true:=by rfl):PE X (.Call (.Attribute o name apos) [] [] cpos) (Zk9 X.K T r to):=by
 intro Z4 s σ H Q I h
 refine wpAny_Call_method0_late hbase hline (Xr (ho Z4 s σ H _ I h) fun v s1 ⟨x,H1,I1,r1,ty,q1⟩=>?_)
 obtain⟨h1,h2⟩:=Zbz I1 r1 ty
 exact⟨T,id,pa,slot,hty,h1,h2,Calls.callWith_builtin rfl (PySem.evalArgs_none (hm Z4 s1 σ H1 x [] v [] Q I1 r1 .nil q1))⟩
theorem Yr(pa:PlainAttrs T)(slot:Slot T name id)(hty:typeOf (.builtin id)=pure (.type "method_descriptor"))(hm:Zl9 X id r)(ho:PE X o to)(ha:PA X (e::es) t)
  (hbase:attributeBase o name X.env (eval o X.env)=eval o X.env:=by rfl)
  (hfew:((backTo cpos (starEach (e::es) X.env)).all (fun x=>!x.1)&&(backToKw cpos (keywordEach [] X.env)).all (fun x=>x.1.isSome)
   && decide ((e::es).length+([]:List Keyword).length+(if([]:List Keyword).isEmpty then 0 else 1)<30))=true:=by rfl)
  (hline:(apos.endLine==cpos.line)=true:=by rfl) (hs:starEach (e::es) X.env=(false,eval e X.env)::starEach es X.env:=by rfl) (hplain:(backTo cpos (starEach es X.env)).any (·.1)=false:=by rfl) :
  PE X (.Call (.Attribute o name apos) (e::es) [] cpos) (Zli X.K T r to t):=by
 intro Z4 s σ H Q I h
 refine wpAny_Call_method_late hbase hfew hline rfl (Xr (ho Z4 s σ H _ I h) fun v s1 ⟨x,H1,I1,r1,ty,q1⟩=>?_)
 obtain⟨h1,h2⟩:=Zbz I1 r1 ty
 refine⟨T,id,pa,slot,hty,h1,h2,?_⟩
 have hA:=ha cpos Z4 s1 σ H1 _ I1 q1
 rw[hs]at hA ⊢
 refine Calls.callWith_builtin (by show(false||(backTo cpos (starEach es X.env)).any (·.1))=false;rw[hplain] <;> rfl) (Calls.evalArgs_plain ?_)
 exact Xr hA fun us s2 ⟨vs,H2,I2,r2,q2⟩=>hm Z4 s2 σ H2 x vs v us Q I2 r1 r2 q2
end
def Zla(X:Cx)(id:String)(r:V->List V->Hp->VK->Prop):Prop :=
 ∀(Z4:List (Addr×Obj)) (s:Shared) (σ:St) (H:Hp) (x:V) (xs:List V) (v:Value) (us:List Value) (Q:VK),Inv X Z4 σ H s->RelV x v->Vals xs us->r x xs H Q ->
  wpAny (model X.prog X.w) X.A (call (.builtin id) (v::us)) (EP X Z4 σ Q) X.xe s
theorem Vals.one:∀ {x:V} {us:List Value},Vals [x] us->∃u,us=[u]/\RelV x u
 |_,_,.cons r .nil=>⟨_,rfl,r⟩
theorem Vals.zero:∀ {us:List Value},Vals [] us->us=[]
 |_,.nil=>rfl
theorem Vals.dropLast{xs:List V}{us:List Value}(h:Vals xs us):Vals xs.dropLast us.dropLast:=by
 induction h with
 |nil=>exact .nil
 |cons r t ih =>
  cases t with
  |nil=>exact .nil
  |cons q t'=>exact .cons r ih
theorem Vals.eraseIdx:∀ {xs:List V} {us:List Value} (i:Nat),Vals xs us->Vals (xs.eraseIdx i) (us.eraseIdx i)
 |_,_,_,.nil=>.nil
 |_,_,0,.cons _ t=>t
 |_,_,i+1,.cons r t=>.cons r (Vals.eraseIdx i t)
theorem Vals.rep{xs:List V}{us:List Value}(h:Vals xs us):∀k:Nat,Vals (List.replicate k xs).flatten (List.replicate k us).flatten
 |0=>.nil
 |k+1=>by
  rw[List.replicate_succ,List.replicate_succ,List.flatten_cons,List.flatten_cons]
  exact Vals.append h (Vals.rep h k)
theorem Z74{α:Type}(l:List α):l.eraseIdx (l.length-1)=l.dropLast:=by
 induction l with
 |nil=>rfl
 |cons a r ih =>
  cases r with
  |nil=>rfl
  |cons b r =>
   have e:(a::b::r).length-1=((b::r).length-1)+1:=by
    have h1:(a::b::r).length=r.length+2:=rfl
    have h2:(b::r).length=r.length+1:=rfl
    omega
   rw[e,List.eraseIdx_cons_succ,ih]
   all_goals rfl
theorem Z3c{α:Type}:∀(l:List α) (i:Nat),(l.eraseIdx i).length<=l.length
 | [],_=>Nat.le_refl _
 |_::_,0=>Nat.le_succ _
 |_::r,i+1=>Nat.succ_le_succ (Z3c r i)
theorem Z3g(its:List Value):∀(k:Nat) (acc:List Value),
  List.foldl (fun x1 x2=>x1++x2) acc.toArray (List.replicate k its.toArray)=(acc++(List.replicate k its).flatten).toArray
 |0,acc=>by simp
 |k+1,acc=>by
  have e:acc.toArray++its.toArray=(acc++its).toArray:=by simp
  have e2:(acc++its)++(List.replicate k its).flatten=acc++(List.replicate (k+1) its).flatten:=by
   rw[List.replicate_succ,List.flatten_cons,List.append_assoc]
  rw[← e2,← Z3g its k (acc++its),← e,List.replicate_succ,List.foldl_cons]
section
variable{X:Cx}{Z4:List (Addr×Obj)}{σ:St}{H:Hp}{s:Shared}{l b:Addr}{xs ys zs:List V}{prog:Program}{w:World}{A:Around}{E:Value->Shared->Prop}
theorem Inv.lset{its its':List Value}{n:Nat}{f:Array Value->Array Value}{t':Nat}(I:Inv X Z4 σ H s)(hH:H l=some (.lst xs))
  (e:s.heap.get? l=some { cls:=.type "list",data:=.seq its.toArray n }) (hf:f its.toArray=its'.toArray) (hv:Vals ys its') (hz:ys.length<=sizeLine) :
  Inv X Z4 σ (Zq H l (.lst ys)) { s with heap:=s.heap.update l (Obj.mapSeq f),toks:=t' }:=by
 have q:=PySem.IsL.update e f
 rw[hf]at q
 refine I.write (x:=l) (e:=l) (by rw[hH];exact trivial) (.inl rfl) (fun b' u hb hu=>(Heap.get?_update_other s.heap (Obj.mapSeq f) (Ne.symm hb)).trans hu) ⟨_,q⟩ ?_
 exact⟨hz,its',_,hv,q⟩
theorem Inv.lstM(I:Inv X Z4 σ H s)(hH:H l=some (.lst xs)):xs.length<=sizeLine/\∃(its:List Value) (n:Nat),Vals xs its/\xs.length=its.length/\s.heap.get? l=some { cls:=.type "list",data:=.seq its.toArray n }:=by
 obtain⟨z,its,n,r,e⟩:=I.hok l _ hH
 exact⟨z,its,n,r,r.length,e⟩
def Zdr:V->List V->Hp->VK->Prop:=fun x vs H Q=>∃l xs y,x=.ref l/\vs=[y]/\H l=some (.lst xs)/\xs.length<sizeLine/\Q .non (Zq H l (.lst (xs++[y])))
theorem Zw:Zla X "list.append" Zdr:=by
 intro Z4 s σ H x vs v us Q I rx rv h
 obtain⟨l,xs,y,rfl,rfl,hH,hz,q⟩:=h
 cases rx
 obtain⟨u,rfl,ru⟩:=rv.one
 obtain⟨z,its,n,r,hl,e⟩:=I.lstM hH
 refine call_meets F.slot_list_append ⟨_,e,rfl⟩ F.entry_list_append (F.args_list_append_2 _ _) (PySem.list_append l its.toArray n u (by rw[List.size_toArray];omega)) ⟨e,?_⟩
 refine⟨.non,_,I.lset (its':=its++[u]) hH e (by simp) (r.append (.cons ru .nil)) ?_,rfl,q⟩
 rw[List.length_append,List.length_singleton]
 omega
def Zkg:V->List V->Hp->VK->Prop:=fun x vs H Q=>∃l xs y,x=.ref l/\vs=[]/\H l=some (.lst xs)/\xs[xs.length-1]? = some y/\Q y (Zq H l (.lst xs.dropLast))
theorem Zcg:Zla X "list.pop" Zkg:=by
 intro Z4 s σ H x vs v us Q I rx rv h
 obtain⟨l,xs,y,rfl,rfl,hH,hy,q⟩:=h
 cases rx
 have hus:=rv.zero
 subst hus
 obtain⟨z,its,n,r,hl,e⟩:=I.lstM hH
 obtain⟨u,hu,ru⟩:=r.get hy
 have hy':its.toArray[its.toArray.size-1]? = some u:=by
  show its.toArray[its.length-1]? = some u
  rw[← Array.getElem?_toList,← hl]
  exact hu
 refine call_meets F.slot_list_pop ⟨_,e,rfl⟩ F.entry_list_pop (F.args_list_pop_1 _) (MeetsSeq.list_pop_last l its.toArray n u hy' (by rw[List.size_toArray];omega)) ⟨e,?_⟩
 refine⟨y,_,I.lset (its':=its.dropLast) hH e ?_ r.dropLast ?_,ru,q⟩
 ·show its.toArray.eraseIdxIfInBounds (its.toArray.size-1)=its.dropLast.toArray
  rw[List.size_toArray,List.eraseIdxIfInBounds_toArray,Z74]
 ·rw[List.length_dropLast]
  omega
def Zc6:V->List V->Hp->VK->Prop:=fun x vs H Q=>∃l xs i k y,x=.ref l/\vs=[.int i]/\H l=some (.lst xs)/\-(2 ^ 63)<=i/\i<2 ^ 63/\seqIndex? i xs.length=some k/\xs[k]? = some y/\Q y (Zq H l (.lst (xs.eraseIdx k)))
theorem Zbh:Zla X "list.pop" Zc6:=by
 intro Z4 s σ H x vs v us Q I rx rv h
 obtain⟨l,xs,i,k,y,rfl,rfl,hH,h1,h2,hk,hy,q⟩:=h
 cases rx
 obtain⟨u,rfl,ru⟩:=rv.one
 obtain⟨t,rfl⟩:=ru
 obtain⟨z,its,n,r,hl,e⟩:=I.lstM hH
 obtain⟨w,hw,rw'⟩:=r.get hy
 refine call_meets F.slot_list_pop ⟨_,e,rfl⟩ F.entry_list_pop (F.args_list_pop_2 _ _)
  (MeetsSeq.list_pop_at l its.toArray n i t k w (fitsIndex_both h1 h2) (by rw[List.size_toArray,← hl];exact hk) (by rw[← Array.getElem?_toList];exact hw) (by rw[List.size_toArray];omega)) ⟨e,?_⟩
 refine⟨y,_,I.lset (its':=its.eraseIdx k) hH e ?_ (r.eraseIdx k) ?_,rw',q⟩
 ·show its.toArray.eraseIdxIfInBounds k=(its.eraseIdx k).toArray
  rw[List.eraseIdxIfInBounds_toArray]
 ·have:=Z3c xs k
  omega
theorem Z8i{α:Type}(xs:List α)(k:Nat):(List.replicate k xs).flatten.length=k*xs.length:=by
 induction k with
 |zero=>simp
 |succ k ih=>rw[List.replicate_succ,List.flatten_cons,List.length_append,ih,Nat.succ_mul,Nat.add_comm]
end
end L2
namespace Att
open PySem PySem.W PySem.Calls PyProof.Rows
theorem Z0v{P:Params}{h:Heap}:∀(ns:List Int) (vs:List Value),WellAll P h vs (ns.map WData.int)->IntsAre vs ns:=by
 intro ns
 induction ns with
 |nil =>
  intro vs w
  rw[List.map_nil]at w
  cases w
  exact .nil
 |cons n ns ih =>
  intro vs w
  rw[List.map_cons]at w
  cases w with
  |cons a b =>
   cases a
   exact .cons _ _ (ih _ b)
theorem Z9a{l:OpenLaw}{n:Nat}(hn:l.most=some n){P:Params}{h:Heap}{args:List WData}{vals:List Value}
  (hpre:l.row.toRowW.claim.pre args=true) (hwl:WellAll P h vals args) :
  ∃a vs ns,vals=[Value.ref a]/\args=[WData.list (ns.map WData.int)]/\h.get? a=some { cls:=.type "list",data:=.seq vs.toArray }/\IntsAre vs ns/\ns.length<=n:=by
 have hsh:WShape.hasAll [] args [.list .int]=true:=(pre_splitW hpre).1
 have hc:l.pre.holds [] { args:=args }=true:=(pre_splitW hpre).2
 obtain⟨d,r,rfl,h1,h2⟩:=hasAllW_cons hsh
 obtain rfl:=hasAllW_nil h2
 obtain⟨xs,rfl,h3⟩:=hasW_list h1
 obtain⟨ns,rfl⟩:=items_int h3
 have hlen:ns.length<=n:=by
  unfold OpenLaw.pre at hc
  have h4:(WTm.not (.lt (.lit (.int (n:Int))) (.len (.arg 0)))).holds [] { args:=[.list (ns.map .int)] }=true:=by
   have h4:=(holds_andW hc).1
   rw[hn]at h4
   exact h4
  have h5:=condW_of h4 (w_not (w_lt w_lit (w_len_list (w_arg rfl))))
  rw[List.length_map]at h5
  refine Nat.le_of_not_lt fun q=>?_
  have q':(n:Int)<((ns.length:Nat):Int):=by omega
  first
   |(rw[decide_eq_true q']at h5;exact absurd h5 (by decide))
   |(simp at h5;omega)
 cases hwl with
 |cons w1 w2 =>
  cases w2
  cases w1 with
  |list ho hall=>exact⟨_,_,ns,rfl,rfl,ho,Z0v ns _ hall,hlen⟩
theorem Z9k(l:OpenLaw)(args:List WData):l.row.toRowW.claim.post args (.bool true) args=true :=
 postW_of (r:=l.row.toRowW) (X:=(true==true))
  (show WShape.has [] (.bool true) .bool=true by first | rfl | decide | simp[WShape.has,WShape.arms,WShape.armsAll])
  (show(WTm.eq .res (.lit (.bool true))).value [] { args:=args,res:=some (.bool true),after:=args }=some (.bool (true==true)) from w_eq_bool (w_res rfl) w_lit) rfl
theorem attach_call{l:OpenLaw}{n:Nat}{q:Program}{loose:List Str}{XP:(Str->Option Value)->Heap->Prop}{YP:World->Heap->Prop}{d:DefRec}
  (hn:l.most=some n) (hdf:d.params.defaults=[])
  (call:∀(w:World) (s₀ s₁:Shared) (mg mb:Str->Option Value) (fa:Addr) (o:Obj) (pm cd doc:Value) (a:Addr) (vs:List Value) (ns:List Int),
   Ground q loose [] XP w s₀ mg mb s₁.heap->YP w s₁.heap ->
   s₁.heap.get? fa=some o->o.data=.func (docDef d.name d.params d.body d.scope pm cd doc)->s₁.heap.CodeRec cd d.name->mg d.name=some (.ref fa) ->
   s₁.heap.get? a=some { cls:=.type "list",data:=.seq vs.toArray }->IntsAre vs ns->ns.length<=n->s₁.gens = #[] ->
   codeAny (model l.prog w) callerA (.call (.ref fa) ⟨[.ref a],[]⟩) (fun r s'=>r=.ok (.ret (.bool true))/\OldK s₁.heap s'.heap/\s'.os=s₁.os/\AllBare s'.gens) s₁) :
  WalkO q loose XP YP l.row.toRowW d [] (fun f vs=>PySem.call f vs):=by
 intro w s₀ s₁ mg mb G Y fa o pm cd doc dV kV ho hd hcd hD hmg hg args vals as hpre hlay hrd hwl hlo
 obtain rfl:dV=.none:=Dflts.none hD hdf
 obtain rfl:kV=.none:=Dflts.noKw hD
 obtain⟨a,vs,ns,rfl,rfl,hobj,hints,hlen⟩:=Z9a hn hpre hwl
 refine enter_call (codeAny_mono (call w s₀ s₁ mg mb fa o pm cd doc a vs ns G Y ho (fd_plain hd) hcd hmg hobj hints hlen hg) fun r s' hq=>?_)
 obtain⟨rfl,h2,h3,h4⟩:=hq
 exact⟨.inl ⟨.bool true,.bool true,[],rfl,fun _=>rfl,.bool true,Z9k l _,fun _=>⟨List.Pairwise.nil,fun _ hm=>(nomatch hm)⟩⟩,h2,h3,h4⟩
section
variable{prog:Program}{w:World}{A:Around}{E:Value->Shared->Prop}{s:Shared}{K:Frag}
def ledger(h:Heap)(L d:Addr):List (Addr×Obj):=(List.range h.objs.size).filterMap fun a=>if a=L∨a=d then none else(h.get? a).map fun o=>(a,o)
end
end Att
namespace L2
open PySem PySem.Spec PyProof.Rows
theorem Z2u:∀ {vs:List Value} {ns:List Int},IntsAre vs ns->Vals (ns.map V.int) vs
 |_,_,.nil=>.nil
 |_,_,.cons n t h=>.cons ⟨t,rfl⟩ (Z2u h)
def Zi1(H:Hp):Prop:=∀b,H b=none∨∃o xs,H b=some (.frz o (.lst xs))
theorem Zbm{P:Program}{w:World}{K:W.Frag}{mg mb:Str->Option Value}{CX:Zaf}{k:Nat}{fa a:Addr}{fd:FuncData}{x:Str}{sp:Sp}{s₁:Shared}{vs:List Value}{ns:List Int}
  (KX:K.In s₁.heap) (hns:s₁.heap.Ns mainGlobals mg) (hb:s₁.heap.Ns builtinsNs mb) (hbb:∀x:Str,x≠"__name__"->mb x=bootBuiltins x) (hlim:s₁.heap.NoLimit) (hg:s₁.gens = #[])
  (ha:s₁.heap.get? a=some { cls:=.type "list",data:=.seq vs.toArray }) (hi:IntsAre vs ns) (hl:ns.length<=sizeLine) (hr:Room k callerA)
  (F:∀base:Heap,K.In base->base.Ns mainGlobals mg->FnOk P w K mg base CX k fa fd [x] sp) (hbind:∀(s:Shared) (u:Value),BindsTo s fd ⟨[u],[]⟩ [(x,u)])
  (hsp:∀H:Hp,Zi1 H->SqL K H a (ns.map V.int)->sp [.ref a] H (fun v _=>v=.bl true) fun _ _ _=>False)
  (hCX:∀H e s',CX [] H s₁ (fun _ _ _=>False) e s'->False) :
  codeAny (model P w) callerA (.call (.ref fa) ⟨[.ref a],[]⟩) (fun r s'=>r=.ok (.ret (.bool true))/\OldK s₁.heap s'.heap/\s'.os=s₁.os/\AllBare s'.gens) s₁:=by
 have rv:=Z2u hi
 have lenV:=hi.length
 have core:∀H:Hp,Zi1 H->SqL K H a (ns.map V.int)->HOk P w H s₁.heap->(∀b,H b≠none->b=a)->(H a≠none->K.lookup a=none) ->
   codeAny (model P w) callerA (.call (.ref fa) ⟨[.ref a],[]⟩) (fun r s'=>r=.ok (.ret (.bool true))/\OldK s₁.heap s'.heap/\s'.os=s₁.os/\AllBare s'.gens) s₁:=by
  intro H hO hS hok hA hK
  have base_of:∀ {b:Addr} {o:Obj},s₁.heap.get? b=some o->H b=none->(Z64 s₁.heap H).get? b=some o:=fun e n=>Zbp e n
  have noA:∀ {b:Addr} {o:Obj} {es:Array DictEntry} {ep:Nat},s₁.heap.get? b=some o->o.data=.dict es ep->H b=none:=fun{b o es ep} e d=>by
   cases q:H b with
   |none=>rfl
   |some u =>
    have e':b=a:=hA b (by rw[q];simp)
    subst e'
    rw[ha]at e;cases e
    have d':Data.seq vs.toArray _=Data.dict es ep:=d
    cases d'
  have nsK:∀ {b:Addr} {m:Str->Option Value},s₁.heap.Ns b m->(Z64 s₁.heap H).Ns b m:=fun{b m} ⟨o,es,ep,e,d,r⟩=>⟨o,es,ep,base_of e (noA e d),d,r⟩
  have hKb:K.In (Z64 s₁.heap H):=fun b o e=>base_of (KX b o e) (by
   cases q:H b with
   |none=>rfl
   |some u =>
    have e':b=a:=hA b (by rw[q];simp)
    subst e'
    rw[hK (by rw[q];simp)]at e;cases e)
  have hM:Mod K mg (Z64 s₁.heap H):=⟨hKb,nsK hns,⟨mb,nsK hb,hbb⟩,let⟨mc,h1,h2⟩:=hlim;⟨mc,nsK h1,h2⟩⟩
  have e0:Env0 P w K mg (Z64 s₁.heap H) callerA [] s₁ H:=⟨rfl,hM,fun b o e=>Zeg e,Nat.le_of_eq (Za1 _ _),trivial,fun b hb=>absurd (show b∈([]:List Addr) from hb) (by simp),hok,.of_eq hg⟩
  refine codeAny_mono ((F _ hKb (nsK hns)).run callerA [] s₁ H ⟨[.ref a],[]⟩ [.ref a] [.ref a] _ _ hr e0 (hbind s₁ (.ref a)) (.cons rfl .nil) (hsp H hO hS)) fun r s' h=>?_
  cases r with
  |error e=>exact(hCX H e s' h).elim
  |ok fl =>
   cases fl with
   |next=>exact False.elim h
   |brk=>exact False.elim h
   |cont=>exact False.elim h
   |ret u =>
    obtain⟨v,H',os,bare,un,hok',r',q⟩:=h
    have q':v=.bl true:=q
    subst q'
    obtain rfl:u=Value.bool true:=r'
    refine⟨rfl,OldK.of_keep fun b o e=>?_,os,bare⟩
    cases q:H b with
    |none=>exact un.keep b o e q (by intro z;exact absurd (show b∈([]:List Addr) from z) (by simp)) (by simp)
    |some u =>
     rcases hO b with z | ⟨ob,xs,z⟩
     ·rw[q]at z;cases z
     ·have z2:=un.frzs b ob _ z
      obtain⟨e1,_⟩:=hok b _ z
      obtain⟨e2,_⟩:=hok' b _ z2
      rw[e]at e1;cases e1
      exact e2
 cases hk:K.lookup a with
 |some o =>
  have e:=KX a o hk
  rw[ha]at e
  cases e
  refine core (fun _=>none) (fun _=>.inl rfl) (.inr ⟨_,vs.toArray,_,hk,rfl,rfl,rfl,by rw[List.size_toArray,lenV];exact hl,by simpa using rv⟩) (fun b u z=>by have z':(none:Option HO)=some u:=z;cases z') (fun b z=>absurd rfl z) fun z=>absurd rfl z
 |none =>
  refine core (fun b=>if b=a then some (.frz { cls:=.type "list",data:=.seq vs.toArray } (.lst (ns.map V.int))) else none) (fun b=>?_) (.inl (.inr ⟨{ cls:=.type "list",data:=.seq vs.toArray },if_pos rfl⟩)) (fun b u z=>?_) (fun b z=>?_) fun _=>hk
  ·by_cases hb:b=a
   ·exact .inr ⟨_,_,if_pos hb⟩
   ·exact .inl (if_neg hb)
  ·by_cases hb:b=a
   ·have z':=(if_pos hb).symm.trans z
    cases z'
    subst hb
    exact⟨ha,by rw[List.length_map];exact hl,vs,_,rv,ha⟩
   ·have z':=(if_neg hb).symm.trans z
    cases z'
  ·by_cases hb:b=a
   ·exact hb
   ·exact absurd (if_neg hb) z
abbrev Z8z{K:W.Frag}{h:Heap}(_:K.In h):W.Frag:=K
theorem Zda{l:W.OpenLaw}{n k:Nat}{q:Program}{loose:List Str}{XP:(Str->Option Value)->Heap->Prop}{YP:World->Heap->Prop}{d:DefRec}{K:Params->W.Frag}{CX:World->Zaf}{sp:World->Sp}{x:Str}
  (hn:l.most=some n) (hn2:n<=sizeLine) (hdf:d.params.defaults=[]) (hr:Room k callerA)
  (hY:∀(w:World) (h:Heap),YP w h->(K w.params).In h)
  (F:∀(w:World) (mg:Str->Option Value) (fa:Addr) (h:Heap),(K w.params).In h->h.Ns mainGlobals mg->mg d.name=some (.ref fa) ->
   ∃fd:FuncData,(∀(s:Shared) (u:Value),BindsTo s fd ⟨[u],[]⟩ [(x,u)]) /\
    ∀base:Heap,(K w.params).In base->base.Ns mainGlobals mg->FnOk l.prog w (K w.params) mg base (CX w) k fa fd [x] (sp w))
  (hsp:∀(w:World) (H:Hp) (a:Addr) (ns:List Int),ns.length<=n->Zi1 H->SqL (K w.params) H a (ns.map V.int)->sp w [.ref a] H (fun v _=>v=.bl true) fun _ _ _=>False)
  (hCX:∀(w:World) (H:Hp) (s:Shared) (e:Value) (s':Shared),CX w [] H s (fun _ _ _=>False) e s'->False) :
  W.WalkO q loose XP YP l.row.toRowW d [] (fun f vs=>PySem.call f vs):=by
 refine Att.attach_call hn hdf fun w s₀ s₁ mg mb fa o pm cd doc a vs ns G Y ho hd hcd hmg hobj hints hlen hg=>?_
 have KX:=hY w _ Y
 obtain⟨fd,hb,hF⟩:=F w mg fa _ KX G.T.g hmg
 exact Zbm KX G.T.g G.T.b G.T.builtins G.T.nolimit hg hobj hints (Nat.le_trans hlen hn2) hr hF hb (fun H hO hS=>hsp w H a ns hlen hO hS) fun H e s'=>hCX w H s₁ e s'
def Xk(s:Stmt)(j:Nat):Stmt:=match s with
 |.ClassDef _ _ _ body _ _ _ _ _ _ _=>body.getD j (.Pass ⟨0,0,0,0⟩)
 |_=>.Pass ⟨0,0,0,0⟩
def Xt(s:Stmt):Arguments:=match s with
 |.FunctionDef _ a _ _ _ _ _ _ _ _=>a
 |_=>{ posonlyargs:=[],args:=[],vararg:=none,kwonlyargs:=[],kw_defaults:=[],kwarg:=none,defaults:=[] }
def X4(s:Stmt):List Stmt:=match s with
 |.FunctionDef _ _ b _ _ _ _ _ _ _=>b
 |_=>[]
def Z9(s:Stmt):Scope:=match s with
 |.FunctionDef _ _ _ _ _ _ sc _ _ _=>sc
 |_=>{ kind:=.function,names:=[],isGenerator:=false,isCoroutine:=false }
abbrev Wq:Zaf:=fun _ _ _ _ _ _=>False
abbrev E0:XK:=fun _ _ _=>False
theorem Z69{X:Cx}:Ve Wq X E0:=fun _ _ _ _ _ _ _ h=>h.elim
structure Fun(K:W.Frag)(x qual:Str)(st:Stmt)(f:Addr)(fd:FuncData):Prop where
 ex:∃(oc:Value) (od:Option Addr) (kV doc pm:Value) (an:Option Addr) (cdv ct:Value) (osl:Array (Option Value)),
  fd=W.fnOf x qual (Xt st) (X4 st) (Z9 st) .none kV doc pm an cdv ct/\K.lookup f=some ⟨oc,od,.func fd,osl⟩/\W.codeIn K cdv qual=true
 kp:W.keepIn K (.ref f)=true
section
variable{P:Program}{w:World}{K:W.Frag}{mg:Str->Option Value}{base:Heap}
theorem Fun.ok{x qual:Str}{st:Stmt}{f:Addr}{fd:FuncData}{N ps:List Str}{k:Nat}{sp:Sp}(F:Fun K x qual st f fd)(S:FnScope N ps (Z9 st))(len:∀vs H Q E,sp vs H Q E->vs.length=ps.length)
  (hbody:∀(cdv:Value) (A:Around) (outer:List Env) (s:Shared) (H:Hp) (vs:List V) (Q:VK) (E:XK),Room k (A.deeper (envOfC qual (Z9 st) s.heap.objs.size f cdv))->sp vs H Q E ->
   ∃t,PSs (Z2t Wq P w K mg base N qual (Z9 st) f cdv A outer s H E).nox (X4 st) t/\t { nx:=fun _ H'=>Q .non H',rt:=Q } (start N vs) H):FnOk P w K mg base Wq (k+1) f fd ps sp:=by
 obtain⟨oc,od,kV,doc,pm,an,cdv,ct,osl,rfl,lk,hcd⟩:=F.ex
 refine Zfl lk hcd S len fun A outer s H vs Q E hr hsp=>?_
 obtain⟨t,h,q⟩:=hbody cdv A outer s H vs Q E hr hsp
 exact⟨t,h.nox,q⟩
theorem Fun.binds{x qual:Str}{st:Stmt}{f:Addr}{fd:FuncData}{ps:List Str}(F:Fun K x qual st f fd)
  (h:∀(kV doc pm:Value) (an:Option Addr) (cdv ct:Value) (us:List Value),us.length=ps.length->bindArgs (W.fnOf x qual (Xt st) (X4 st) (Z9 st) .none kV doc pm an cdv ct) ⟨us,[]⟩=pure (ps.zip us)):Binds K fd ps []:=by
 obtain⟨oc,od,kV,doc,pm,an,cdv,ct,osl,rfl,lk,hcd⟩:=F.ex
 exact .all (h kV doc pm an cdv ct)
theorem J1{x qual:Str}{st:Stmt}{f:Addr}{oc:Value}{od an:Option Addr}{osl:Array (Option Value)}{kV doc pm cdv ct:Value}(l:K.lookup f=some ⟨oc,od,.func (W.fnOf x qual (Xt st) (X4 st) (Z9 st) .none kV doc pm an cdv ct),osl⟩)
  (c:W.codeIn K cdv qual=true) (k:W.keepIn K (.ref f)=true):Fun K x qual st f (W.fnOf x qual (Xt st) (X4 st) (Z9 st) .none kV doc pm an cdv ct):=⟨⟨oc,od,kV,doc,pm,an,cdv,ct,osl,rfl,l,c⟩,k⟩
end
theorem Yp{n:Nat}(h:n<=1000):n<sizeLine:=Nat.lt_of_le_of_lt h (by decide)
section
variable{X:Cx}
theorem pv(i:Nat){x:Str}{pos:Pos}(hN:X.N[i]? = some x:=by rfl)(hv:Zk0 X.env.scope x:=by first | exact Or.inl rfl | exact Or.inr (Or.inl rfl) | exact Or.inr (Or.inr rfl))(hd:(x==("__debug__":Str))=false:=by decide)
  (hcd:(x==("__classdict__":Str))=false:=by decide):PE X (.Name x pos) (We i):=Zgw hN hv hd hcd
end
theorem Zad{A B:Prop}(h:B):if false=true then A else B:=by
 rw[if_neg Bool.false_ne_true]
 exact h
theorem Z91{A B:Prop}(h:A):if true=true then A else B:=by
 rw[if_pos rfl]
 exact h
theorem V8{c A B:Prop}[Decidable c](h1:c->A)(h2:¬c->B):if c then A else B:=by
 by_cases h:c
 ·rw[if_pos h]
  exact h1 h
 ·rw[if_neg h]
  exact h2 h
def Wx(cells:List (Str×Addr))(cs:List (Str×Addr))(p:Str×NameKind):List (Str×Addr) :=
 if(p.2==.free)=true then(match cells.lookup p.1 with | some c=>(p.1,c)::cs | none=>cs) else cs
def Z7a(names:List (Str×NameKind))(cells:List (Str×Addr)):List (Str×Addr):=names.foldl (Wx cells) []
theorem Z73{α β:Type}{l:List α}{f:α->β->Sem (ForInStep β)}(g:β->α->β):∀(c:β),(∀x∈l,∀c,f x c=pure (.yield (g c x)))->forIn l c f=pure (l.foldl g c):=by
 induction l with
 |nil=>intro c _;rfl
 |cons x l ih =>
  intro c h
  rw[List.forIn_cons,h x List.mem_cons_self,pure_bind]
  exact ih _ fun y hy=>h y (List.mem_cons_of_mem _ hy)
theorem Ti{scope:Scope}{env:Env}(h:∀p∈scope.names,p.2=.free->∃c,env.cells.lookup p.1=some c):closureFor scope env=pure (Z7a scope.names env.cells):=by
 simp only[closureFor]
 rw[Z73 (Wx env.cells) [] (fun p hp c=>by
  obtain⟨n,k⟩:=p
  by_cases hk:k=.free
  ·subst hk
   obtain⟨a,e⟩:=h _ hp rfl
   have e':env.cells.lookup n=some a:=e
   simp[Wx,cellOf,e']
  ·have hb:(k==NameKind.free)=false:=by simpa using hk
   simp[Wx,hb])]
 rfl
theorem Z76{cells:List (Str×Addr)}{cs:List (Str×Addr)}{p:Str×NameKind}(h:∀y c,cs.lookup y=some c->cells.lookup y=some c):∀y c,(Wx cells cs p).lookup y=some c->cells.lookup y=some c:=by
 intro y c e
 unfold Wx at e
 split at e
 ·split at e
  ·rename_i c' hc'
   rw[List.lookup_cons]at e
   split at e
   ·rename_i hy
    have:y=p.1:=by simpa using hy
    rw[this,hc']
    exact e
   ·exact h y c e
  ·exact h y c e
 ·exact h y c e
theorem Z60(names:List (Str×NameKind))(cells:List (Str×Addr)):∀y c,(Z7a names cells).lookup y=some c->cells.lookup y=some c:=by
 have all:∀(names:List (Str×NameKind)) (cs:List (Str×Addr)),(∀y c,cs.lookup y=some c->cells.lookup y=some c)->∀y c,(names.foldl (Wx cells) cs).lookup y=some c->cells.lookup y=some c:=by
  intro names
  induction names with
  |nil=>intro cs h;exact h
  |cons p r ih=>intro cs h;exact ih _ (Z76 h)
 exact all names [] (fun y c e=>by simp at e)
theorem Z5d{cells cs:List (Str×Addr)}{p:Str×NameKind}{y:Str}(h:(cs.lookup y).isSome=true):((Wx cells cs p).lookup y).isSome=true:=by
 unfold Wx
 split
 ·split
  ·rw[List.lookup_cons]
   split
   ·rfl
   ·exact h
  ·exact h
 ·exact h
theorem Zbv{names:List (Str×NameKind)}{cells:List (Str×Addr)}{y:Str}{c:Addr}(hm:(y,NameKind.free)∈names)(hc:cells.lookup y=some c):∃c,(Z7a names cells).lookup y=some c:=by
 have kp:∀(names:List (Str×NameKind)) (cs:List (Str×Addr)),(cs.lookup y).isSome=true->((names.foldl (Wx cells) cs).lookup y).isSome=true:=by
  intro names
  induction names with
  |nil=>intro cs h;exact h
  |cons p r ih=>intro cs h;exact ih _ (Z5d h)
 have all:∀(names:List (Str×NameKind)) (cs:List (Str×Addr)),(y,NameKind.free)∈names->((names.foldl (Wx cells) cs).lookup y).isSome=true:=by
  intro names
  induction names with
  |nil=>intro cs h;cases h
  |cons p r ih =>
   intro cs h
   rcases List.mem_cons.mp h with e | h
   ·subst e
    refine kp r _ ?_
    unfold Wx
    simp[hc]
   ·exact ih _ h
 exact Option.isSome_iff_exists.mp (all names [] hm)
theorem W1(env:Env):∀(names:List (Str×NameKind)) (y:Str),
  (names.map fun(n,k)=>if(k==NameKind.free&&env.scope.kind==.function&&env.kindOf n==some .cell) then(n,NameKind.cell) else(n,k)).lookup y =
   (names.lookup y).map fun k=>if(k==NameKind.free&&env.scope.kind==.function&&env.kindOf y==some .cell) then NameKind.cell else k
 | [],_=>rfl
 |(n,k)::r,y=>by
  have ih:=W1 env r y
  show List.lookup y ((if(k==NameKind.free&&env.scope.kind==.function&&env.kindOf n==some .cell)=true then(n,NameKind.cell) else(n,k))::_)=_
  cases hx:y==n with
  |true =>
   have e:y=n:=by simpa using hx
   subst e
   by_cases hc:(k==NameKind.free&&env.scope.kind==.function&&env.kindOf y==some .cell)=true
   ·rw[if_pos hc];simp only[List.lookup_cons,hx,Option.map_some];rw[if_pos hc]
   ·rw[if_neg hc];simp only[List.lookup_cons,hx,Option.map_some];rw[if_neg hc]
  |false =>
   by_cases hc:(k==NameKind.free&&env.scope.kind==.function&&env.kindOf n==some .cell)=true
   ·rw[if_pos hc];simp only[List.lookup_cons,hx];exact ih
   ·rw[if_neg hc];simp only[List.lookup_cons,hx];exact ih
def W6(X:Cx)(N':List Str)(scope:Scope)(x:Str)(C:Addr)(s:Shared)(H:Hp)(ex:List Addr):Cx :=
 { X with N:=x::N',s₀:=s,H₀:=H,env:=compEnvC scope (Z7a scope.names X.env.cells) C X.env,outer:=X.stack,ex:=ex,fn:=fun _=>false,pn:=[],xe:=fun _ _=>False }
structure CScope3(x:Str)(N N':List Str)(osc scope:Scope):Prop where
 kind:scope.kind=.function
 nd:(x::N').Nodup
 own:scope.names.lookup x=some .local
 nocell:∀y∈scope.names,y.2≠.cell
 names:∀y∈scope.names,y.2=.local->scope.names.lookup y.1=some .local
 free:∀y∈scope.names,y.2=.free->osc.names.lookup y.1=some .cell
 nol:∀y∈N',scope.names.lookup y≠some .local
 len:N'.length=N.length
 hid:∀p∈N'.zip N,p.1=p.2∨scope.names.lookup p.1=none
section
variable{X:Cx}{N':List Str}{Z4:List (Addr×Obj)}{σ:St}{H:Hp}{s:Shared}
theorem CScope3.has{x:Str}{scope:Scope}(S:CScope3 x X.N N' X.env.scope scope)(ok:X.Ok):∀p∈scope.names,p.2=.free->∃c,X.env.cells.lookup p.1=some c:=fun p hp hk =>
 ok.has p.1 (.inl (S.free p hp hk))
theorem Z62{x y:Str}{scope:Scope}{C:Addr}{H₀:Hp}{ex:List Addr}(S:CScope3 x X.N N' X.env.scope scope)(ok:X.Ok)(hk:(W6 X N' scope x C s H₀ ex).env.kindOf y=some .cell∨(W6 X N' scope x C s H₀ ex).env.kindOf y=some .free) :
  X.env.kindOf y=some .cell/\∃c,(Z7a scope.names X.env.cells).lookup y=some c:=by
 have e:(W6 X N' scope x C s H₀ ex).env.kindOf y=(scope.names.lookup y).map fun k=>if(k==NameKind.free&&X.env.scope.kind==.function&&X.env.kindOf y==some .cell) then NameKind.cell else k:=W1 X.env scope.names y
 rw[e]at hk
 cases q:scope.names.lookup y with
 |none=>rw[q]at hk;simp at hk
 |some k =>
  rw[q]at hk
  have hm:=PySem.mem_of_lookup q
  have hfree:k=.free:=by
   cases k with
   |free=>rfl
   |cell=>exact absurd rfl (S.nocell _ hm)
   |_=>simp at hk
  subst hfree
  have h1:=S.free _ hm rfl
  obtain⟨c,hc⟩:=ok.has y (.inl h1)
  exact⟨h1,Zbv hm hc⟩
theorem Z77{x:Str}{scope:Scope}{C acc:Addr}{fp:List Addr}{h':Heap}{t':Nat}{m:Str->Option Value}(S:CScope3 x X.N N' X.env.scope scope)(I:Inv X Z4 σ H s)(hf:∀b∈fp,Z14 X Z4 H b)(ho:∀b∈fp,∃o,s.heap.get? b=some o)
  (hC:s.heap.objs.size<=C) (hn:h'.Ns C m) (old:∀b o,s.heap.get? b=some o->h'.get? b=some o):Inv (W6 X N' scope x C s H fp) [] (none::σ) H { s with heap:=h',toks:=t' }:=by
 have sub:=Z60 scope.names X.env.cells
 refine⟨⟨I.ok.mod,S.kind,I.ok.glob,I.ok.blt,hC,fun y z c h1 h2=>I.ok.inj y z c (sub _ _ h1) (sub _ _ h2),fun y hy=>(Z62 S I.ok hy).2,fun y c z _=>absurd (show false=true from z) Bool.false_ne_true,I.ok.hd,I.ok.frames,.inl rfl,fun b hb=>⟨?_,fun y c e=>?_⟩,I.bs,Nat.le_trans I.ok.bsz I.sz,fun b o e hb=>?_,fun b hb z=>?_,I.stack,I.stkFree⟩,
  rfl,I.bare,Un.kept old,⟨m,hn,fun i y v h1 h2 h3=>?_⟩,fun y c e=>?_,I.hok.fresh hC,fun y c e=>I.freeC y c (sub _ _ e),fun p hp=>absurd (show p∈([]:List (Addr×Obj)) from hp) (by simp),I.hok.kept old,?_⟩
 ·obtain⟨o,e⟩:=ho b hb
  exact Nat.ne_of_lt (Nat.lt_of_lt_of_le (Heap.lt_size e) hC)
 ·exact(hf b hb).2.2.2.2.1 y c (sub _ _ e)
 ·rcases(hf b hb).2.2.2.1 with z | z
  ·exact I.ok.noex b o e z
  ·exact absurd (Nat.lt_of_lt_of_le (Heap.lt_size e) (Nat.le_trans I.ok.bsz z)) (Nat.lt_irrefl _)
 ·rcases List.mem_cons.mp (I.stkSub b z) with e | e
  ·exact(hf b hb).2.1 e
  ·exact(hf b hb).2.2.1 e
 ·cases i with
  |zero=>simp at h2
  |succ i =>
   have h0':N'[i]? = some y:=h1
   have h2':σ[i]? = some (some v):=by simpa using h2
   have hk:(W6 X N' scope x C s H fp).env.kindOf y=some .cell∨(W6 X N' scope x C s H fp).env.kindOf y=some .free:=by
    rcases h3 with h3 | h3
    ·exfalso
     have e:(W6 X N' scope x C s H fp).env.kindOf y=(scope.names.lookup y).map fun k=>if(k==NameKind.free&&X.env.scope.kind==.function&&X.env.kindOf y==some .cell) then NameKind.cell else k:=W1 X.env scope.names y
     have h3':(W6 X N' scope x C s H fp).env.kindOf y=some .local:=h3
     rw[e]at h3'
     cases q:scope.names.lookup y with
     |none=>rw[q]at h3';cases h3'
     |some k =>
      rw[q]at h3'
      rw[Option.map_some]at h3'
      split at h3'
      ·cases h3'
      ·cases h3'
       exact S.nol y (List.mem_of_getElem? h0') q
    ·exact h3
   obtain⟨hk1,c,hc⟩:=Z62 S I.ok hk
   have h1':X.N[i]? = some y:=by
    have hlt:i<N'.length:=(List.getElem?_eq_some_iff.mp h0').1
    have hlt2:i<X.N.length:=by rw[← S.len];exact hlt
    have hz:(y,X.N[i])∈N'.zip X.N:=by
     refine List.mem_iff_getElem?.mpr ⟨i,?_⟩
     rw[List.getElem?_zip_eq_some]
     exact⟨h0',List.getElem?_eq_getElem hlt2⟩
    rcases S.hid _ hz with e | e
    ·have e':y=X.N[i]:=e
     rw[List.getElem?_eq_getElem hlt2,← e']
    ·exfalso
     have e':scope.names.lookup y=none:=e
     have e2:(W6 X N' scope x C s H fp).env.kindOf y=(scope.names.lookup y).map fun k=>if(k==NameKind.free&&X.env.scope.kind==.function&&X.env.kindOf y==some .cell) then NameKind.cell else k:=W1 X.env scope.names y
     rw[e2,e']at hk
     rcases hk with hk | hk <;> cases hk
   obtain⟨m1,hn1,hl⟩:=I.loc
   obtain⟨u,r,l⟩:=hl i y v h1' h2' (.inr (.inl hk1))
   refine⟨u,r,.inr ⟨hk,c,hc,?_⟩⟩
   rcases l with⟨l,_⟩ | ⟨_,c',hc',z⟩
   ·rw[hk1]at l;cases l
   ·have:=sub _ _ hc
    rw[hc']at this
    cases this
    obtain⟨o,e,d⟩:=z
    exact⟨o,old _ _ e,d⟩
 ·obtain⟨v,o,e1,d⟩:=I.cell y c (sub _ _ e)
  exact⟨v,o,old _ _ e1,d⟩
 ·show(none::σ).length=(x::N').length
  simp[I.len,S.len]
def Zic(X:Cx)(ifs:List Expr)(t:TT):Prop :=
 ∀(Z4:List (Addr×Obj)) (s:Shared) (σ:St) (H:Hp) (Q:Bool->Hp->Prop),Inv X Z4 σ H s->t σ H Q ->
  wpAny (model X.prog X.w) X.A (forIn ifs true fun c r=>if r=true then do let ok ← isTrue c X.env (eval c X.env);pure (ForInStep.yield ok) else pure (ForInStep.yield r)) (TP X Z4 σ Q) X.xe s
def Zf6:TT:=fun _ H Q=>Q true H
theorem Jp:Zic X [] Zf6:=fun _ _ _ H _ I h=>wpAny_tests_nil ⟨H,I,h⟩
theorem Z49{c:Expr}{t:TT}(h:PT X c t):Zic X [c] t:=fun Z4 s σ H Q I hq=>wpAny_tests_one (h Z4 s σ H Q I hq)
def Zid(J:It)(σ:St)(tt:TT)(te:TE)(Fin:List V->Hp->Prop)(H1:Hp):Prop:=∃W:Nat->Nat->List V->Hp->Prop,(∃m,W 0 m [] H1)/\∀i m ys H,W i m ys H ->
 (J.stop i H/\Fin ys H)∨(J.go i H/\ys.length<sizeLine/\∃N:List V->Hp->Prop,(∀ys' H',N ys' H'->∃m',m'<m/\W (i+1) m' ys' H')/\∀x H',J.yld i H x H'->tt (some x::σ) H' fun b H2 =>
  if b=true then te (some x::σ) H2 fun y H3=>N (ys++[y]) H3 else N ys H2)
def Zjv(wi:TI)(tt:TT)(te:TE):TE:=fun σ H Q=>wi σ H fun J H1=>Zid J σ tt te (fun ys H=>∀l,H l=none->Q (.ref l) (Zq H l (.lst ys))) H1
theorem Z1r{elt iter:Expr}{x:Str}{px pos:Pos}{scope:Scope}{ifs:List Expr}{tt:TT}{te:TE}{s2:Shared}{it:Addr}{fp:List Addr}{tn:Nat->Heap->Prop}{J:It}{H2:Hp}{E:Value->Shared->Prop}{Fin:List V->Hp->Prop}{RR:Value->Addr->Result->Shared->Prop}
  (hc:X.calm=true) (S:CScope3 x X.N N' X.env.scope scope) (I2:Inv X Z4 σ H2 s2) (T:Turn X.prog X.w X.K (.Name x px) J fp it tn) (st2:tn 0 s2.heap) (f2:∀b∈fp,Z14 X Z4 H2 b) (hw:Zid J σ tt te Fin H2)
  (ht:∀C s H ex,Zic (W6 X N' scope x C s H ex) ifs tt) (he:∀C s H ex,PE (W6 X N' scope x C s H ex) elt te)
  (hRR:∀D C s4 ys H3 m5,Inv X Z4 σ (Zq H3 D (.lst ys)) s4->s4.heap.Ns C m5->Z14 X Z4 (Zq H3 D (.lst ys)) C->H3 D=none->Fin ys H3->RR (.ref D) C (.ok .next) s4) :
  wpAny (model X.prog X.w) X.A (newList []) (fun acc s₃=>wpAny (model X.prog X.w) X.A (newFunctionEnv scope X.env.globals (Z7a scope.names X.env.cells) [] X.env.qual none .none (some X.env)) (fun cenv s₄ =>
   codeAny (model X.prog X.w) X.A (.compStart (.ListComp elt [⟨.Name x px,iter,ifs,0⟩] scope pos) 0 (.ref it) acc { cenv with scope:=relabel scope X.env }) (RR acc cenv.locals) s₄) E s₃) E s2:=by
 obtain⟨W,⟨m0,w0⟩,turn⟩:=hw
 have hob:=T.obj 0 s2.heap st2
 refine wpAny_newObj_type (wpAny_newFunctionEnv S.nocell (by intro y hy;simp at hy) (fun h₁ hns₁ hsb₁=>?_) S.kind)
 dsimp only at hns₁ hsb₁ ⊢
 generalize hG2:s2.heap.push { cls:=.type "list",dict:=none,data:=.seq ([]:List Value).toArray }=G2 at hns₁ hsb₁ ⊢
 have hC:G2.objs.size=s2.heap.objs.size+1:=by rw[← hG2,Heap.size_push]
 have hDC:s2.heap.objs.size≠G2.objs.size:=by rw[hC];exact Nat.ne_of_lt (Nat.lt_succ_self _)
 have hCle:s2.heap.objs.size<=G2.objs.size:=by rw[hC];exact Nat.le_succ _
 have below:∀b,b<s2.heap.objs.size->b≠G2.objs.size/\b≠s2.heap.objs.size:=fun b hb=>⟨by rw[hC];exact Nat.ne_of_lt (Nat.lt_succ_of_lt hb),Nat.ne_of_lt hb⟩
 have old:∀b o,s2.heap.get? b=some o->h₁.get? b=some o:=fun b o e=>hsb₁.extBut b o (below b (Heap.lt_size e)).1 (Heap.get?_push_of_some _ (hG2 ▸ Heap.get?_push_of_some _ e))
 have hacc:h₁.get? s2.heap.objs.size=some { cls:=.type "list",data:=.seq ([]:List Value).toArray 0 }:=hsb₁.extBut _ _ hDC (Heap.get?_push_of_some _ (hG2 ▸ Heap.get?_push_size _ rfl))
 generalize hD:s2.heap.objs.size=D at *
 generalize hCC:G2.objs.size=C at *
 have hDf:D∉fp:=fun hm=>by
  obtain⟨o,e,_⟩:=hob D hm
  exact absurd (Heap.lt_size e) (by rw[hD];exact Nat.lt_irrefl _)
 have I4:Inv (W6 X N' scope x C s2 H2 fp) [] (none::σ) H2 { s2 with heap:=h₁,toks:=s2.toks+([]:List (Str×Value)).length } :=
  Z77 (acc:=D) S I2 f2 (fun b hb=>let⟨o,e,_⟩:=hob b hb;⟨o,e⟩) (by omega) hns₁ old
 have hDn:∀ {σ':St} {H':Hp} {s':Shared},Inv (W6 X N' scope x C s2 H2 fp) [] σ' H' s'->(∀b∈fp,H' b=none)->∀b∈fp,Z14 (W6 X N' scope x C s2 H2 fp) [] H' b:=fun{σ' H' s'} I' hn b hb=>by
  refine⟨hn b hb,(I'.ok.exf b hb).1,I'.ok.exfs b hb,.inl hb,fun y c e=>(I'.ok.exf b hb).2 y c e,fun p hp=>absurd (show p∈([]:List (Addr×Obj)) from hp) (by simp)⟩
 have hDfp:∀ {σ':St} {H':Hp} {s':Shared},Inv (W6 X N' scope x C s2 H2 fp) [] σ' H' s'->H' D=none->Z14 (W6 X N' scope x C s2 H2 fp) [] H' D:=fun{σ' H' s'} I' hn=>by
  refine⟨hn,hDC,fun z=>?_,.inr (by show s2.heap.objs.size<=D;omega),fun y c e=>?_,fun p hp=>absurd (show p∈([]:List (Addr×Obj)) from hp) (by simp)⟩
  ·obtain⟨_,o,e,_⟩:=I'.ok.funs.mem z
   exact absurd (show D<s2.heap.objs.size from Heap.lt_size e) (by rw[hD];exact Nat.lt_irrefl _)
  ·obtain⟨v,z⟩:=I2.cell y c (Z60 _ _ _ _ e)
   intro e2
   exact absurd z.lt (by rw[hD,e2];exact Nat.lt_irrefl _)
 have hgt:∀b o,s2.heap.get? b=some o->b≠C/\b≠D:=fun b o e=>by
  have z:=below b (by rw[← hD];exact Heap.lt_size e)
  exact z
 let LI:Nat->Shared->Prop:=fun n s'=>∃i ys its k σ0 H',Inv (W6 X N' scope x C s2 H2 fp) [] (σ0::σ) H' s'/\tn i s'.heap/\(∀b∈fp,H' b=none)/\H' D=none/\Vals ys its/\ys.length<=sizeLine/\s'.heap.get? D=some { cls:=.type "list",data:=.seq its.toArray k }/\W i n ys H'
 have loop:∀s₃:Shared,s₃ = { s2 with heap:=h₁,toks:=s2.toks+([]:List (Str×Value)).length } ->
   codeAny (model X.prog X.w) X.A (.compLoop (.ListComp elt [⟨.Name x px,iter,ifs,0⟩] scope pos) 0 (.ref it) (.ref D) (compEnvC scope (Z7a scope.names X.env.cells) C X.env))
    (RR (.ref D) C) s₃:=by
  rintro s₃ rfl
  refine codeAny_compLoop_tests LI ?_ m0 ⟨0,[],[],0,none,H2,I4,T.keep _ _ _ st2 (fun b _ o e=>old b o e),fun b hb=>(f2 b hb).1,I2.hok.fresh (by rw[hD];exact Nat.le_refl _),.nil,Nat.zero_le _,hacc,w0⟩
  rintro n s3 ⟨i,ys,its,k,σ0,H3,I3,st3,fr3,frD,rv,hysz,ha3,w3⟩
  have IP:Inv (W6 X N' scope x C s2 H2 fp) [(D,{ cls:=.type "list",data:=.seq its.toArray k })] (σ0::σ) H3 s3:=I3.pins_of fun p hp=>by
   have e:p=(D,{ cls:=.type "list",data:=.seq its.toArray k }):=by simpa using hp
   subst e
   obtain⟨f0,f1,f3,_⟩:=hDfp I3 frD
   exact⟨ha3,f0,f1,f3,fun v z=>by cases z⟩
  have fpP:∀ {H':Hp},(∀b∈fp,H' b=none)->∀b∈fp,Z14 (W6 X N' scope x C s2 H2 fp) [(D,{ cls:=.type "list",data:=.seq its.toArray k })] H' b:=fun{H'} hn b hb=>by
   refine⟨hn b hb,(I3.ok.exf b hb).1,I3.ok.exfs b hb,.inl hb,fun y c e=>(I3.ok.exf b hb).2 y c e,fun p hp=>?_⟩
   have e:p=(D,{ cls:=.type "list",data:=.seq its.toArray k }):=by
    have hp':p∈[(D,({ cls:=.type "list",data:=.seq its.toArray k }:Obj))]:=hp
    simpa using hp'
   subst e
   exact fun z=>hDf (by rw[show D=b from z];exact hb)
  rcases turn i n ys H3 w3 with⟨stop,qn⟩ | ⟨go,hlen,N,hN,step⟩
  ·refine wpAny_mono (T.done (W6 X N' scope x C s2 H2 fp) rfl rfl rfl hc i _ s3 (σ0::σ) H3 (fun _ _=>False) IP (fpP fr3) st3 stop) (fun r s4 ⟨hr,I5⟩=>?_) fun _ _ z=>z.elim
   subst hr
   obtain⟨m5,hn5,_⟩:=I5.loc
   have hD4:=(I5.pin _ (List.mem_append_right _ (List.mem_singleton.mpr rfl))).1
   have hcn:H3 C=none:=I5.free
   have hok':HOk X.prog X.w (Zq H3 D (.lst ys)) s4.heap:=fun b u e=>by
    by_cases hb:b=D
    ·subst hb
     rw[Z3]at e
     cases e
     exact⟨hysz,its,k,rv,hD4⟩
    ·rw[Zt hb]at e
     exact(I5.hok b u e).stay (fun c v hc q=>q) (fun c q=>by rw[Zt (Za q frD)];exact q) fun c xs q=>by rw[Zt (Za q frD)];exact q
   have un':Un (Z2r X.stack) fp H2 (Zq H3 D (.lst ys)) s2.heap s4.heap:=by
    have u:=I5.base
    refine⟨u.keep,u.slot,fun b o q n hx=>?_,u.there,fun b xs q=>?_,fun b o xs q=>?_,fun b ps q=>?_⟩
    ·rw[Zt (hgt b o q).2]
     exact u.free b o q n hx
    ·have e:=u.tups b xs q
     rw[Zt (Za e frD)]
     exact e
    ·have e:=u.frzs b o xs q
     rw[Zt (Za e frD)]
     exact e
    ·obtain⟨more,e⟩:=u.tbls b ps q
     exact⟨more,by rw[Zt (Za e frD)];exact e⟩
   have I6:Inv X Z4 σ (Zq H3 D (.lst ys)) s4:=I2.call' (ch:=fp) I5.os un' hok' I5.bare (fun b hb=>⟨(f2 b hb).2.2.2.1,(f2 b hb).2.1,(f2 b hb).2.2.2.2.1,(f2 b hb).2.2.2.2.2⟩)
   exact hRR D C s4 ys H3 m5 I6 hn5 (I2.fpOk (by rw[hD];exact hCle) (by rw[Zt (Ne.symm hDC)];exact hcn)) frD qn
  ·refine wpAny_mono (T.item (W6 X N' scope x C s2 H2 fp) rfl rfl rfl hc i _ s3 (σ0::σ) H3 (fun _ _=>False) IP (fpP fr3) st3 go) (fun r s4 ⟨u,hr,h4⟩=>?_) fun _ _ z=>z.elim
   subst hr
   show wpAny (model X.prog X.w) X.A (letOwnedTupleGo (.Name x px) (.ref it) u >>= fun _=>assign (.Name x px) (compEnvC scope (Z7a scope.names X.env.cells) C X.env) u) _ _ s4
   refine wpAny_bind (wpAny_mono h4 (fun _ s5 ⟨xv,H5,I5,r5,y5,st5,fr5⟩=>?_) fun _ _ z=>z.elim)
   have I5':=I5.pinned (fpP fr5) (T.obj _ _ st5)
   have hloc:Zi6 (W6 X N' scope x C s2 H2 fp).env.scope x:=.inl (lookup_relabel_local S.own)
   refine wpAny_mono (Z86 (X:=W6 X N' scope x C s2 H2 fp) (i:=0) S.nd rfl hloc (.inr (lookup_relabel_local S.own)) _ s5 (σ0::σ) H5 xv u (fun σ' H'=>σ'=some xv::σ/\H'=H5) I5' r5 ⟨rfl,rfl⟩) (fun _ s6 ⟨σ6,H6,I6,e1,e2⟩=>?_) fun _ _ z=>z.elim
   subst e1 e2
   refine wpAny_mono (ht C s2 H2 fp _ s6 (some xv::σ) H6 _ I6 (step xv H6 y5)) (fun b s7 ⟨H7,I7,q7⟩=>?_) fun _ _ z=>z.elim
   have hpD:∀ {σ':St} {H':Hp} {s':Shared},Inv (W6 X N' scope x C s2 H2 fp) ([(D,{ cls:=.type "list",data:=.seq its.toArray k })]++Z0o fp s5.heap) σ' H' s'->s'.heap.get? D=some { cls:=.type "list",data:=.seq its.toArray k }/\H' D=none:=fun{σ' H' s'} I'=>by
    have z:=I'.pin (D,{ cls:=.type "list",data:=.seq its.toArray k }) (List.mem_append_right _ (List.mem_append_left _ (List.mem_singleton.mpr rfl)))
    exact⟨z.1,z.2.1⟩
   have hpF:∀ {σ':St} {H':Hp} {s':Shared},Inv (W6 X N' scope x C s2 H2 fp) ([(D,{ cls:=.type "list",data:=.seq its.toArray k })]++Z0o fp s5.heap) σ' H' s'->(∀b∈fp,∀o,s5.heap.get? b=some o->s'.heap.get? b=some o)/\∀b∈fp,H' b=none:=fun{σ' H' s'} I'=>by
    refine⟨fun b hb o e=>(I'.pin (b,o) (List.mem_append_right _ (List.mem_append_right _ (U5 hb e)))).1,fun b hb=>?_⟩
    obtain⟨o,e,d⟩:=T.obj _ _ st5 b hb
    exact(I'.pin (b,o) (List.mem_append_right _ (List.mem_append_right _ (U5 hb e)))).2.1
   cases b with
   |false =>
    rw[if_neg Bool.false_ne_true]at q7 ⊢
    obtain⟨m',hm,w7⟩:=hN _ _ q7
    exact⟨m',hm,i+1,ys,its,k,some xv,H7,I7.pins_of (pins':=[]) (fun p hp=>absurd hp (by simp)),T.keep _ _ _ st5 (hpF I7).1,(hpF I7).2,(hpD I7).2,rv,hysz,(hpD I7).1,w7⟩
   |true =>
    rw[if_pos rfl]at q7 ⊢
    refine wpAny_mono (he C s2 H2 fp _ s7 (some xv::σ) H7 _ I7 q7) (fun u8 s8 ⟨y,H8,I8,r8,q8⟩=>?_) fun _ _ z=>z.elim
    obtain⟨m',hm,w8⟩:=hN _ _ q8
    obtain⟨hd1,hd2⟩:=hpD I8
    have hl:=rv.length
    refine append_at hd1 (fun h' hs' e'=>?_) (by rw[List.size_toArray];omega)
    have I9:Inv (W6 X N' scope x C s2 H2 fp) [] (some xv::σ) H8 s8:=I8.pins_of (pins':=[]) (fun p hp=>absurd hp (by simp))
    obtain⟨f0,f1,f3,f4,f5,f6⟩:=hDfp I9 hd2
    refine⟨m',hm,i+1,ys++[y],its++[u8],k+1,some xv,H8,I9.turned (it:=D) (t':=s8.toks) (fun b o hb e=>(hs'.2 b hb).trans e) f0 f1 f4 f5 f6,
     T.keep _ _ _ st5 (fun b hb o e=>(hs'.2 b (fun z=>hDf (by rw[← z];exact hb))).trans ((hpF I8).1 b hb o e)),(hpF I8).2,hd2,rv.append (.cons r8 .nil),by rw[List.length_append,List.length_singleton];omega,?_,w8⟩
    rw[e',List.push_toArray]
 exact codeAny_compStart_list (loop _ rfl) (T.self _ 0 _ _ _ (T.keep _ _ _ st2 (fun b _ o e=>old b o e)) (loop _ rfl))
theorem Z9l{elt iter:Expr}{x:Str}{px pos:Pos}{scope:Scope}{ifs:List Expr}{wi:TI}{tt:TT}{te:TE}(hc:X.calm=true)(S:CScope3 x X.N N' X.env.scope scope)(hi:PI X (.Name x px) iter wi)
  (ht:∀C s H ex,Zic (W6 X N' scope x C s H ex) ifs tt) (he:∀C s H ex,PE (W6 X N' scope x C s H ex) elt te) (hs:∀v,foldedSetIterable iter X.env v=pure v:=by intro _;rfl) :
  PE X (.ListComp elt [⟨.Name x px,iter,ifs,0⟩] scope pos) (Zjv wi tt te):=by
 intro Z4 s σ H Q I h
 rw[eval_ListComp]
 refine wpAny_comprehension_free (use:=none) rfl hs (Ti (S.has I.ok)) S.kind S.names (Xr (hi Z4 s σ H _ I h) fun v s1 h1=>Xr h1 fun itv s2 h2=>?_)
 obtain⟨it,fp,tn,J,H2,e,I2,T,st2,f2,hw⟩:=h2
 subst e
 refine Z1r (RR:=fun acc C=>compPost (model X.prog X.w) X.A X.xe none (EP X Z4 σ Q) acc C) hc S I2 T st2 f2 hw ht he fun D C s4 ys H3 m5 I5 hn5 fC frD qn=>⟨m5,hn5,fun h' hs'=>?_⟩
 obtain⟨f0,f1,f3,f4,f5,f6⟩:=fC
 exact⟨.ref D,_,I5.turned (it:=C) (t':=s4.toks) (fun b o hb e=>(hs'.2 b hb).trans e) f0 f1 f4 f5 f6,rfl,qn D frD⟩
theorem Z33{i:Nat}{y:Str}{elt iter:Expr}{x:Str}{px py pos spos:Pos}{scope:Scope}{ifs:List Expr}{wi:TI}{tt:TT}{te:TE}(hN:X.N.Nodup)(hi':X.N[i]? = some y)(hy:X.env.scope.names.lookup y=some .local)(hc:X.calm=true)(S:CScope3 x X.N N' X.env.scope scope)(hi:PI X (.Name x px) iter wi)
  (ht:∀C s H ex,Zic (W6 X N' scope x C s H ex) ifs tt) (he:∀C s H ex,PE (W6 X N' scope x C s H ex) elt te)
  (hsw:swapsWith (.ListComp elt [⟨.Name x px,iter,ifs,0⟩] scope pos) (some (.Name y py)) spos.line X.env=pure true) (hs:∀v,foldedSetIterable iter X.env v=pure v:=by intro _;rfl) :
  PS X (.Assign [.Name y py] (.ListComp elt [⟨.Name x px,iter,ifs,0⟩] scope pos) spos) (Z90 (Zjv wi tt te) (Z10 i)):=by
 intro Z4 s σ H D0 I h
 rw[exec_Assign_Name_used _ _ _ _ hsw]
 refine wpAny_bind (wpAny_standAt (wpAny_bind ?_))
 show wpAny _ X.A (do let _ ← comprehension (.ListComp elt [⟨.Name x px,iter,ifs,0⟩] scope pos) scope X.env _ (newList []) false (eval iter X.env) (some (assign (.Name y py) X.env))) _ _ s
 refine wpAny_bind (wpAny_mono (wpAny_comprehension_free (use:=some (assign (.Name y py) X.env)) (Q:=fun _ s'=>SP X Z4 D0 .next s') rfl hs (Ti (S.has I.ok)) S.kind S.names
  (Xr (hi Z4 s σ H _ I h) fun v s1 h1=>Xr h1 fun itv s2 h2=>?_)) (fun _ s' hq=>wpAny_pure (wpAny_pure hq)) fun _ _ e=>e)
 obtain⟨it,fp,tn,J,H2,e,I2,T,st2,f2,hw⟩:=h2
 subst e
 refine Z1r (RR:=fun acc C=>compPost (model X.prog X.w) X.A X.xe (some (assign (.Name y py) X.env)) (fun _ s'=>SP X Z4 D0 .next s') acc C) hc S I2 T st2 f2 hw ht he fun D C s4 ys H3 m5 I5 hn5 fC frD qn=>?_
 show wpAny _ X.A (assign (.Name y py) X.env (.ref D)) _ _ _
 obtain⟨f0,f1,f3,f4,f5,f6⟩:=fC
 refine wpAny_assign_Name (Z2w I5 hN hi' (.inl hy) (v:=.ref D) rfl (fun s' I' ⟨a,sb,ha⟩=>?_) (.inr hy))
 have hCa:C≠a:=by
  rcases ha with e | e
  ·rw[e];exact f1
  ·exact Ne.symm (f5 _ _ e)
 refine⟨m5,hn5.sameBut sb hCa,fun h' hs'=>?_⟩
 exact⟨_,_,I'.turned (it:=C) (t':=s'.toks) (fun b o hb e=>(hs'.2 b hb).trans e) f0 f1 f4 f5 f6,qn D frD⟩
abbrev Zjz(X:Cx)(scope:Scope)(x:Str)(C:Addr)(s:Shared)(H:Hp)(ex:List Addr):Cx:=W6 X X.N scope x C s H ex
structure CScope(x:Str)(N:List Str)(osc scope:Scope):Prop where
 kind:scope.kind=.function
 nd:(x::N).Nodup
 own:scope.names.lookup x=some .local
 nocell:∀y∈scope.names,y.2≠.cell
 names:∀y∈scope.names,y.2=.local->scope.names.lookup y.1=some .local
 free:∀y∈scope.names,y.2=.free->osc.names.lookup y.1=some .cell
 nol:∀y∈N,scope.names.lookup y≠some .local
theorem Z5e{α:Type}:∀(l:List α),∀p∈l.zip l,p.1=p.2
 | [],p,h=>by simp at h
 |a::l,p,h=>by
  rw[List.zip_cons_cons]at h
  rcases List.mem_cons.mp h with rfl | h
  ·rfl
  ·exact Z5e l p h
theorem CScope.to3{x:Str}{N:List Str}{osc scope:Scope}(S:CScope x N osc scope):CScope3 x N N osc scope:=⟨S.kind,S.nd,S.own,S.nocell,S.names,S.free,S.nol,rfl,fun p hp=>.inl (Z5e N p hp)⟩
theorem Vv{elt iter:Expr}{x:Str}{px pos:Pos}{scope:Scope}{ifs:List Expr}{wi:TI}{tt:TT}{te:TE}(hc:X.calm=true)(S:CScope x X.N X.env.scope scope)(hi:PI X (.Name x px) iter wi)
  (ht:∀C s H ex,Zic (Zjz X scope x C s H ex) ifs tt) (he:∀C s H ex,PE (Zjz X scope x C s H ex) elt te) (hs:∀v,foldedSetIterable iter X.env v=pure v:=by intro _;rfl) :
  PE X (.ListComp elt [⟨.Name x px,iter,ifs,0⟩] scope pos) (Zjv wi tt te):=Z9l hc S.to3 hi ht he hs
theorem Zat{i:Nat}{y:Str}{elt iter:Expr}{x:Str}{px py pos spos:Pos}{scope:Scope}{ifs:List Expr}{wi:TI}{tt:TT}{te:TE}(hN:X.N.Nodup)(hi':X.N[i]? = some y)(hy:X.env.scope.names.lookup y=some .local)(hc:X.calm=true)(S:CScope x X.N X.env.scope scope)(hi:PI X (.Name x px) iter wi)
  (ht:∀C s H ex,Zic (Zjz X scope x C s H ex) ifs tt) (he:∀C s H ex,PE (Zjz X scope x C s H ex) elt te)
  (hsw:swapsWith (.ListComp elt [⟨.Name x px,iter,ifs,0⟩] scope pos) (some (.Name y py)) spos.line X.env=pure true) (hs:∀v,foldedSetIterable iter X.env v=pure v:=by intro _;rfl) :
  PS X (.Assign [.Name y py] (.ListComp elt [⟨.Name x px,iter,ifs,0⟩] scope pos) spos) (Z90 (Zjv wi tt te) (Z10 i)):=Z33 hN hi' hy hc S.to3 hi ht he hsw hs
theorem Z2f{J:It}{n:Nat}{σ:St}{tt:TT}{te:TE}{Fin:List V->Hp->Prop}{H1:Hp}(Pv:Nat->List V->Hp->Prop)(h0:Pv 0 [] H1)(hz:n<sizeLine)(hlen:∀i ys H,Pv i ys H->ys.length<=i)
  (hgo:∀i ys H,i<n->Pv i ys H->J.go i H) (hst:∀ys H,Pv n ys H->J.stop n H)
  (hs:∀i ys H x H',i<n->Pv i ys H->J.yld i H x H'->tt (some x::σ) H' fun b H2=>if b=true then te (some x::σ) H2 fun y H3=>Pv (i+1) (ys++[y]) H3 else Pv (i+1) ys H2)
  (hd:∀ys H,Pv n ys H->Fin ys H):Zid J σ tt te Fin H1:=by
 refine⟨fun i m ys H=>m=n-i/\i<=n/\Pv i ys H,⟨n,by simp,Nat.zero_le _,h0⟩,?_⟩
 rintro i m ys H ⟨rfl,hi,p⟩
 by_cases hlt:i<n
 ·have hl:=hlen i ys H p
  exact .inr ⟨hgo i ys H hlt p,by omega,fun ys' H'=>Pv (i+1) ys' H',fun ys' H' p'=>⟨n-(i+1),by omega,rfl,hlt,p'⟩,fun x H' y=>hs i ys H x H' hlt p y⟩
 ·have e:i=n:=by omega
  subst e
  exact .inl ⟨hst ys H p,hd ys H p⟩
theorem Zh5{K:W.Frag}{a:Addr}{xs:List V}{σ:St}{te:TE}{Fin:List V->Hp->Prop}{H1:Hp}(Pv:Nat->List V->Hp->Prop)(h0:Pv 0 [] H1)(hz:xs.length<sizeLine)(hlen:∀i ys H,Pv i ys H->ys.length<=i)
  (hl:∀i ys H,Pv i ys H->SqT K H a xs) (hs:∀i ys H x,xs[i]? = some x->Pv i ys H->te (some x::σ) H fun y H3=>Pv (i+1) (ys++[y]) H3) (hd:∀ys H,Pv xs.length ys H->Fin ys H) :
  Zid (Zjn K a) σ Zf6 te Fin H1:=by
 refine Z2f (n:=xs.length) Pv h0 hz hlen (fun i ys H hi p=>⟨xs,xs[i],hl i ys H p,by simp[hi]⟩) (fun ys H p=>⟨xs,hl _ ys H p,Nat.le_refl _⟩) (fun i ys H x H' hi p y=>?_) hd
 obtain⟨e,y⟩:=y
 subst e
 exact hs i ys _ x (y xs (hl i ys _ p)) p
theorem Z8k{K:W.Frag}{a:Addr}{xs:List V}{σ:St}{te:TE}{Fin:List V->Hp->Prop}{H1:Hp}(Pv:Nat->List V->Hp->Prop)(h0:Pv 0 [] H1)(hz:xs.length<sizeLine)(hlen:∀i ys H,Pv i ys H->ys.length<=i)
  (hl:∀i ys H,Pv i ys H->SqL K H a xs) (hs:∀i ys H x,xs[i]? = some x->Pv i ys H->te (some x::σ) H fun y H3=>Pv (i+1) (ys++[y]) H3) (hd:∀ys H,Pv xs.length ys H->Fin ys H) :
  Zid (Zjo K a) σ Zf6 te Fin H1:=by
 refine Z2f (n:=xs.length) Pv h0 hz hlen (fun i ys H hi p=>⟨xs,xs[i],hl i ys H p,by simp[hi]⟩) (fun ys H p=>⟨xs,hl _ ys H p,Nat.le_refl _⟩) (fun i ys H x H' hi p y=>?_) hd
 obtain⟨e,y⟩:=y
 subst e
 exact hs i ys _ x (y xs (hl i ys _ p)) p
theorem Z5u{lo:Int}{n:Nat}{σ:St}{te:TE}{Fin:List V->Hp->Prop}{H1:Hp}(Pv:Nat->List V->Hp->Prop)(h0:Pv 0 [] H1)(hz:n<sizeLine)(hlen:∀i ys H,Pv i ys H->ys.length<=i)
  (hs:∀i ys H,i<n->Pv i ys H->te (some (.int (lo+i))::σ) H fun y H3=>Pv (i+1) (ys++[y]) H3) (hd:∀ys H,Pv n ys H->Fin ys H) :
  Zid (Zhu lo n) σ Zf6 te Fin H1:=by
 refine Z2f (n:=n) Pv h0 hz hlen (fun i ys H hi p=>hi) (fun ys H p=>Nat.le_refl n) (fun i ys H x H' hi p y=>?_) hd
 obtain⟨e,y⟩:=y
 subst e y
 exact hs i ys _ hi p
theorem Z40:∀ {ns:List Int} {us:List Value},Vals (ns.map V.int) us->∃ps:List (Int×Tok),us=ps.map (fun p=>Value.int p.1 p.2)/\ps.map (·.1)=ns
 | [],us,r=>by rw[List.map_nil]at r;cases r;exact⟨[],rfl,rfl⟩
 |n::ns,us,r=>by
  rw[List.map_cons]at r
  cases r with
  |cons r1 r2 =>
   obtain⟨t,e⟩:=r1
   obtain⟨ps,e1,e2⟩:=Z40 r2
   exact⟨(n,t)::ps,by rw[e,e1];rfl,by rw[List.map_cons,e2]⟩
theorem Zbx(hc:X.calm=true):Th X (.builtin "sum") (fun xs H Q=>∃(p:Addr) (ns:List Int),xs=[.ref p]/\SqL X.K H p (ns.map V.int)/\Q (.int ns.sum) H):=by
 intro Z4 s σ H xs us Q I r h
 obtain⟨p,ns,rfl,hq,q⟩:=h
 obtain⟨u,rfl,rx⟩:=Ts r
 cases rx
 obtain⟨its,rv,pl,hz⟩:=I.list hq
 obtain⟨ps,e1,e2⟩:=Z40 rv
 have hl:s.heap.IsList p (intItems ps.toArray):=by
  have e:intItems ps.toArray=its.toArray:=by rw[e1];simp[intItems]
  rw[e];exact pl.isList
 refine sum_intListG (I.ok.hd hc) hl fun h' tk t' hk=>⟨.int ns.sum,H,I.kept hk,⟨t',?_⟩,q⟩
 rw[preSum_eq,List.take_of_length_le (by simp),e2]
theorem Zb3(hu:X.A.units<cLine):Z4x X (compareOp .Eq) (fun x y H Q=>∃(p r:Addr) (xs:List V),x=.ref p/\y=.ref r/\SqL X.K H p xs/\SqL X.K H r []/\Q (.bl xs.isEmpty) H):=by
 intro Z4 s σ H x y v u Q I rx ry h
 obtain⟨p,r,xs,rfl,rfl,hp,hr,q⟩:=h
 cases rx
 cases ry
 obtain⟨its,rv,pl,hz⟩:=I.list hp
 obtain⟨its2,rv2,pl2,hz2⟩:=I.list hr
 cases rv2
 cases rv with
 |nil=>exact SeqAt.eq_listAt (e:=fun _=>true) pl.isList pl2.isList (by simp) hu (fun j h1 h2=>absurd h1 (by simp)) ⟨.bl true,H,I,rfl,q⟩
 |cons r1 r2=>exact SeqAt.eq_list_lengthsAt pl.isList pl2.isList (by simp) hu ⟨.bl false,H,I,rfl,q⟩
theorem Zu{T:String}{f:V->Hp->Bool->Prop}(hf:∀x H b,f x H b->∃t,TyOf X.K H x t/\W.kitOne X.K t (.type T)=some b) :
  Th X (.builtin "isinstance") (fun xs H Q=>∃x b,xs=[x,.ty T]/\f x H b/\Q (.bl b) H):=by
 intro Z4 s σ H xs us Q I r h
 obtain⟨x,b,rfl,hx,q⟩:=h
 obtain⟨u,w',rfl,r1,r2⟩:=Zcq r
 cases(show w'=Value.type T from r2)
 obtain⟨t,ty,e⟩:=hf x H b hx
 exact Z9z I r1 ty e fun tk=>⟨.bl b,H,I.tok _,rfl,q⟩
def Zln(T:String):V->Hp->Bool->Prop:=fun x H b=>match x with
 |.non=>b=(T=="NoneType")
 |.bl _=>b=(T=="bool" || T=="int")
 |.int _=>b=(T=="int")
 |.str _=>b=(T=="str")
 |.ref a=>(∃xs,H a=some (.tup xs)/\b=(T=="tuple"))∨(∃xs,H a=some (.lst xs)/\b=(T=="list"))
 |_=>False
theorem Yo{K:W.Frag}{T:String}(hT:T="bool" ∨ T="int" ∨ T="str" ∨ T="tuple" ∨ T="list"):∀x H b,Zln T x H b->∃t,TyOf K H x t/\W.kitOne K t (.type T)=some b:=by
 intro x H b h
 cases x with
 |non=>refine⟨_,.non,?_⟩;rcases hT with rfl | rfl | rfl | rfl | rfl <;> cases h <;> rfl
 |bl y=>refine⟨_,.bl y,?_⟩;rcases hT with rfl | rfl | rfl | rfl | rfl <;> cases h <;> rfl
 |int i=>refine⟨_,.int i,?_⟩;rcases hT with rfl | rfl | rfl | rfl | rfl <;> cases h <;> rfl
 |str z=>refine⟨_,.str z,?_⟩;rcases hT with rfl | rfl | rfl | rfl | rfl <;> cases h <;> rfl
 |ref a =>
  rcases h with⟨xs,e,h⟩ | ⟨xs,e,h⟩
  ·refine⟨_,.tup e,?_⟩;rcases hT with rfl | rfl | rfl | rfl | rfl <;> cases h <;> rfl
  ·refine⟨_,.lst e,?_⟩;rcases hT with rfl | rfl | rfl | rfl | rfl <;> cases h <;> rfl
 |_=>exact(show False from h).elim
end
end L2
namespace Seek
open PySem PySem.Spec PyProof.Rows L2
structure Own(P:Program)(w:World)(K:W.Frag)(mg:Str->Option Value)(base:Heap)(k:Nat)(x:Str)(ps:List Str)(sp:Sp):Prop where
 ex:∃f fd,FnOk P w K mg base Wq k f fd ps sp/\mg x=some (.ref f)/\W.keepIn K (.ref f)=true/\Binds K fd ps []
theorem Own.mono{P:Program}{w:World}{K:W.Frag}{mg:Str->Option Value}{base:Heap}{j k:Nat}{x:Str}{ps:List Str}{sp:Sp}(O:Own P w K mg base j x ps sp)(h:j<=k):Own P w K mg base k x ps sp:=by
 obtain⟨f,fd,F,r⟩:=O.ex
 exact⟨f,fd,F.mono h,r⟩
theorem Zz{X:Cx}{k:Nat}{x:Str}{ps:List Str}{sp:Sp}{p pos:Pos}{e:Expr}{es:List Expr}{t:TA}(O:Own X.prog X.w X.K X.mg X.base k x ps sp)(hr:Room k X.A)(hg:Gl X x)(ha:PA X (e::es) t)
  (hdb:(x==("__debug__":Str))=false:=by decide) (he:starEach (e::es) X.env=(false,eval e X.env)::starEach es X.env:=by rfl) (hpl:(backTo pos (starEach es X.env)).any (·.1)=false:=by rfl) :
  PE X (.Call (.Name x p) (e::es) [] pos) (Zcs sp [] E0 t):=by
 obtain⟨f,fd,F,hm,hk,hb⟩:=O.ex
 exact Z89 F hr hg hm hk hb .nil Z69 ha hdb he hpl
structure Blt(mg:Str->Option Value):Prop where
 b_len:mg "len" = none
 b_range:mg "range" = none
 b_sum:mg "sum" = none
 b_all:mg "all" = none
 b_ord:mg "ord" = none
 b_max:mg "max" = none
 b_min:mg "min" = none
 b_int:mg "int" = none
 b_list:mg "list" = none
 b_tuple:mg "tuple" = none
 b_str:mg "str" = none
 b_bool:mg "bool" = none
 b_isinstance:mg "isinstance" = none
structure Gro(S:List Addr)(H H':Hp):Prop where
 keep:∀b o,H b=some o->b∉S->H' b=some o
 tups:∀b xs,H b=some (.tup xs)->H' b=some (.tup xs)
theorem Gro.refl{S:List Addr}{H:Hp}:Gro S H H:=⟨fun _ _ h _=>h,fun _ _ h=>h⟩
theorem Gro.trans{S:List Addr}{H H1 H2:Hp}(a:Gro S H H1)(b:Gro S H1 H2):Gro S H H2:=⟨fun c o h hc=>b.keep c o (a.keep c o h hc) hc,fun c xs h=>b.tups c xs (a.tups c xs h)⟩
theorem Gro.mono{S S':List Addr}{H H':Hp}(a:Gro S H H')(h:∀b∈S,b∈S'):Gro S' H H':=⟨fun c o q hc=>a.keep c o q fun z=>hc (h c z),a.tups⟩
theorem Gro.new{S:List Addr}{H:Hp}{p:Addr}(h:H p=none)(o:HO):Gro S H (Zq H p o):=⟨fun b u q _=>by rw[Zt (Za q h)];exact q,fun b xs q=>by rw[Zt (Za q h)];exact q⟩
theorem Gro.set{S:List Addr}{H:Hp}{p:Addr}{xs:List V}(hp:p∈S)(h:H p=some (.lst xs))(o:HO):Gro S H (Zq H p o) :=
 ⟨fun b u q hb=>by rw[Zt (fun z=>hb (by rw[z];exact hp))];exact q,fun b ys q=>by rw[Zt (Zcv q h (by intro z;cases z))];exact q⟩
def BoxAt(H:Hp)(b:Addr):Prop:=∃ns:List Int,H b=some (.lst (ns.map V.int))/\ns.length<=63
theorem BoxAt.gro{S:List Addr}{H H':Hp}{l:Addr}(h:BoxAt H l)(g:Gro S H H')(hl:l∉S):BoxAt H' l:=by
 obtain⟨x,e,r⟩:=h
 exact⟨x,g.keep _ _ e hl,r⟩
theorem BoxAt.new{H:Hp}{l p:Addr}{o:HO}(h:BoxAt H l)(hp:H p=none):BoxAt (Zq H p o) l:=h.gro (S:=[]) (Gro.new hp o) (by simp)
theorem Ye{n:Nat}(h:n<=1000):n<=sizeLine:=Nat.le_of_lt (Yp h)
inductive How where | much | little | keep
 deriving DecidableEq
def How.text:How->Str
 |.much=>"much" |.little=>"little" |.keep=>"keep"
inductive Lk where | once | ahead | notahead | behind | notbehind
 deriving DecidableEq
def Lk.text:Lk->Str
 |.once=>"once" |.ahead=>"ahead" |.notahead=>"notahead" |.behind=>"behind" |.notbehind=>"notbehind"
inductive Hd where
 |sign (s:Str) | any | inn (rs:List (Str×Str)) | out (rs:List (Str×Str)) | beg | fin | row | alt
 |times (lo:Int) (hi:Option Int) (how:How) | grp (k:Int) | again (k:Int) | hav (k:Int) | look (w:Lk)
inductive Pat where
 |node (h:Hd) (ks:List Pat)
def Hd.word:Hd->Str
 |.sign _=>"sign" |.any=>"any" |.inn _=>"in" |.out _=>"out" |.beg=>"begin" |.fin=>"end" |.row=>"row" |.alt=>"or"
 |.times _ _ _=>"times" |.grp _=>"group" |.again _=>"again" |.hav _=>"have" |.look w=>w.text
def Zac:Option Int->V
 |some i=>.int i
 |none=>.non
def RunsAt(H:Hp)(r:Addr)(rs:List (Str×Str)):Prop:=∃vs:List V,H r=some (.tup vs)/\Paired (fun(v:V) (p:Str×Str)=>p.1.length=1/\p.2.length=1/\∃a,v=.ref a/\H a=some (.tup [.str p.1,.str p.2])) vs rs/\rs.length<=20
def Lay(H:Hp)(a:Addr):Hd->List V->Prop
 |.sign s,kv=>kv=[]/\s.length=1/\H a=some (.tup [.str "sign",.str s])
 |.any,kv=>kv=[]/\H a=some (.tup [.str "any"])
 |.inn rs,kv=>kv=[]/\∃r,H a=some (.tup [.str "in",.ref r])/\RunsAt H r rs
 |.out rs,kv=>kv=[]/\∃r,H a=some (.tup [.str "out",.ref r])/\RunsAt H r rs
 |.beg,kv=>kv=[]/\H a=some (.tup [.str "begin"])
 |.fin,kv=>kv=[]/\H a=some (.tup [.str "end"])
 |.row,kv=>kv.length<=10/\∃r,H a=some (.tup [.str "row",.ref r])/\H r=some (.tup kv)
 |.alt,kv=>1<=kv.length/\kv.length<=10/\∃r,H a=some (.tup [.str "or",.ref r])/\H r=some (.tup kv)
 |.times lo hi how,kv=>(0<=lo/\lo<=20/\∀h,hi=some h->0<=h/\h<=20)/\∃k,kv=[k]/\H a=some (.tup [.str "times",.int lo,Zac hi,.str how.text,k])
 |.grp n,kv=>(0<=n/\n<=20)/\∃k,kv=[k]/\H a=some (.tup [.str "group",.int n,k])
 |.again n,kv=>(0<=n/\n<=20)/\kv=[]/\H a=some (.tup [.str "again",.int n])
 |.hav n,kv=>(0<=n/\n<=20)/\∃y z,kv=[y,z]/\H a=some (.tup [.str "have",.int n,y,z])
 |.look w,kv=>∃k,kv=[k]/\H a=some (.tup [.str w.text,k])
def PatAt(H:Hp):Nat->V->Pat->Prop
 |0,_,_=>False
 |d+1,v,.node h ks=>∃a kv,v=.ref a/\Lay H a h kv/\Paired (PatAt H d) kv ks
theorem RunsAt.mono{H H':Hp}(t:∀b xs,H b=some (.tup xs)->H' b=some (.tup xs)){r:Addr}{rs:List (Str×Str)}(h:RunsAt H r rs):RunsAt H' r rs:=by
 obtain⟨vs,e,p,z⟩:=h
 exact⟨vs,t _ _ e,Paired.mapP p fun v q ⟨h1,h2,a,e1,e2⟩=>⟨h1,h2,a,e1,t _ _ e2⟩,z⟩
theorem Lay.mono{H H':Hp}(t:∀b xs,H b=some (.tup xs)->H' b=some (.tup xs)){a:Addr}{kv:List V}:∀ {h:Hd},Lay H a h kv->Lay H' a h kv
 |.sign _,⟨x,y,z⟩=>⟨x,y,t _ _ z⟩
 |.any,⟨x,z⟩=>⟨x,t _ _ z⟩
 |.inn _,⟨x,r,z,q⟩=>⟨x,r,t _ _ z,q.mono t⟩
 |.out _,⟨x,r,z,q⟩=>⟨x,r,t _ _ z,q.mono t⟩
 |.beg,⟨x,z⟩=>⟨x,t _ _ z⟩
 |.fin,⟨x,z⟩=>⟨x,t _ _ z⟩
 |.row,⟨x,r,z,q⟩=>⟨x,r,t _ _ z,t _ _ q⟩
 |.alt,⟨x,y,r,z,q⟩=>⟨x,y,r,t _ _ z,t _ _ q⟩
 |.times _ _ _,⟨x,k,y,z⟩=>⟨x,k,y,t _ _ z⟩
 |.grp _,⟨x,k,y,z⟩=>⟨x,k,y,t _ _ z⟩
 |.again _,⟨x,y,z⟩=>⟨x,y,t _ _ z⟩
 |.hav _,⟨x,k,l,y,z⟩=>⟨x,k,l,y,t _ _ z⟩
 |.look _,⟨k,y,z⟩=>⟨k,y,t _ _ z⟩
theorem PatAt.mono{H H':Hp}(t:∀b xs,H b=some (.tup xs)->H' b=some (.tup xs)):∀ {d:Nat} {v:V} {p:Pat},PatAt H d v p->PatAt H' d v p
 |0,_,_,h=>h.elim
 |d+1,v,.node h ks,⟨a,kv,e,l,p⟩=>⟨a,kv,e,l.mono t,Paired.mapP p fun _ _ q=>PatAt.mono t q⟩
theorem Lay.head{H:Hp}{a:Addr}{kv:List V}:∀ {h:Hd},Lay H a h kv->∃r,H a=some (.tup (.str h.word::r))
 |.sign _,⟨x,y,z⟩=>⟨_,z⟩
 |.any,⟨x,z⟩=>⟨_,z⟩
 |.inn _,⟨x,r,z,q⟩=>⟨_,z⟩
 |.out _,⟨x,r,z,q⟩=>⟨_,z⟩
 |.beg,⟨x,z⟩=>⟨_,z⟩
 |.fin,⟨x,z⟩=>⟨_,z⟩
 |.row,⟨x,r,z,q⟩=>⟨_,z⟩
 |.alt,⟨x,y,r,z,q⟩=>⟨_,z⟩
 |.times _ _ _,⟨x,k,y,z⟩=>⟨_,z⟩
 |.grp _,⟨x,k,y,z⟩=>⟨_,z⟩
 |.again _,⟨x,y,z⟩=>⟨_,z⟩
 |.hav _,⟨x,k,l,y,z⟩=>⟨_,z⟩
 |.look _,⟨k,y,z⟩=>⟨_,z⟩
mutual
def Pat.groups:Pat->Int
 |.node h ks=>(match h with | .grp _=>1 | _=>0)+Xs ks
def Xs:List Pat->Int
 | []=>0
 |k::ks=>k.groups+Xs ks
end
theorem Z1e(xs ys:List Pat):Xs (xs++ys)=Xs xs+Xs ys:=by
 induction xs with
 |nil=>simp[Xs]
 |cons k ks ih=>rw[List.cons_append,Xs,Xs,ih];omega
mutual
def Pat.size:Pat->Nat
 |.node _ ks=>1+Yc ks
def Yc:List Pat->Nat
 | []=>0
 |k::ks=>k.size+Yc ks
end
theorem Z2z(h:Hd)(ks:List Pat):(Pat.node h ks).size=1+Yc ks:=by rw[Pat.size]
theorem J2(xs ys:List Pat):Yc (xs++ys)=Yc xs+Yc ys:=by
 induction xs with
 |nil=>simp[Yc]
 |cons k ks ih=>rw[List.cons_append,Yc,Yc,ih];omega
theorem Vq(p:Pat):Yc [p]=p.size:=by simp[Yc]
def B(n:Nat):Nat:=3 ^ (n+1)
theorem sz{n:Nat}(h:Nat.ble n 1000=true:=by rfl):n<=sizeLine:=Ye (Nat.le_of_ble_eq_true h)
theorem Z0d{x:V}{r:List V}:Z6e (x::r) 0=some x:=Wm (j:=0) rfl
theorem Zlm{x:V}{r:List V}:Zcy (x::r).length 0=some 0:=by
 unfold Zcy
 rw[if_pos (Int.le_refl 0),if_pos (by rw[List.length_cons];omega)]
 rfl
theorem Gro.tup{S:List Addr}{H H':Hp}{p:Addr}{o:HO}(g:Gro S H H')(hp:H' p=none):Gro S H (Zq H' p o):=g.trans (Gro.new hp o)
theorem Paired.snoc1{α β:Type}{F:α->β->Prop}{a:α}{b:β}{l₁:List α}{l₂:List β}(h:Paired F l₁ l₂)(q:F a b):Paired F (l₁++[a]) (l₂++[b]):=h.snoc q
section
variable{K:W.Frag}
end
theorem Jq{X:Cx}{sts:List Stmt}{t:TS}(t2:TS)(h:PSs X sts t)(imp:∀D σ H,t2 D σ H->t D σ H):PSs X sts t2:=fun Z4 s σ H D I q=>h Z4 s σ H D I (imp D σ H q)
theorem Z9m{H H':Hp}{d:Nat}(t:∀b xs,H b=some (.tup xs)->H' b=some (.tup xs)){vs:List V}{ps:List Pat}(h:Paired (PatAt H d) vs ps):Paired (PatAt H' d) vs ps:=Paired.mapP h fun _ _ q=>q.mono t
section
variable{P:Program}{w:World}{K:W.Frag}{mg:Str->Option Value}{base:Heap}{f:Addr}{fd:FuncData}
structure Def(K:W.Frag)(mg:Str->Option Value)(x:Str)(st:Stmt)(ps:List Str):Prop where
 ex:∃f fd,Fun K x x st f fd/\mg x=some (.ref f)/\Binds K fd ps []
theorem Def.own{x:Str}{st:Stmt}{ps:List Str}{k:Nat}{sp:Sp}(D:Def K mg x st ps)(h:∀f fd,Fun K x x st f fd->FnOk P w K mg base Wq k f fd ps sp):Own P w K mg base k x ps sp:=by
 obtain⟨f,fd,F,m,b⟩:=D.ex
 exact⟨f,fd,h f fd F,m,F.kp,b⟩
theorem FnOk.never{ps:List Str}{k:Nat}{sp:Sp}(no:∀vs H Q E,¬sp vs H Q E):FnOk P w K mg base Wq k f fd ps sp :=
 ⟨fun vs H Q E h=>absurd h (no vs H Q E),fun A outer s H args us vs Q E _ _ _ _ h=>absurd h (no vs H Q E)⟩
end
theorem Z0g{α β:Type}{F:α->β->Prop}:∀ {xs:List α} {ys:List β} (n:Nat),Paired F xs ys->Paired F (xs.take n) (ys.take n)
 |_,_,0,_=>.nil
 |_,_,_+1,.nil=>.nil
 |_,_,n+1,.cons r t=>.cons r (Z0g n t)
theorem W5{K:W.Frag}{σ:L2.St}{H:Hp}{Q:VK}{i:Nat}{p:Addr}{xs:List V}{j:Int}{v:V}(h:H p=some (.tup xs))(e:Z6e xs j=some v)(q:Q v H)(hs:σ[i]? = some (some (V.ref p)):=by rfl):Z6c (Z2h K) (We i) (tC (.int j)) σ H Q:=⟨_,hs,p,xs,j,v,rfl,rfl,SqT.of h,e,q⟩
theorem Zjy{K:W.Frag}{σ:L2.St}{H:Hp}{Q:VK}{i:Nat}{p:Addr}{xs:List V}{j:Int}{v:V}(h:H p=some (.lst xs))(e:Z6e xs j=some v)(q:Q v H)(hs:σ[i]? = some (some (V.ref p)):=by rfl):Z6c (Zf7 K) (We i) (tC (.int j)) σ H Q:=⟨_,hs,p,xs,j,v,rfl,rfl,SqL.of h,e,q⟩
theorem Z7{α:Type}{A R:α->Prop}{v:α}(e:A v)(h:R v):∃x,A x/\R x:=⟨v,e,h⟩
theorem Va{α β:Type}{A:α->Prop}{B:β->Prop}{R:α->β->Prop}{a:α}{b:β}(e:A a)(e':B b)(h:R a b):∃x y,A x/\B y/\R x y:=⟨a,b,e,e',h⟩
theorem genD{t:TS}{D':Ends}{σ:L2.St}{H:Hp}{Q:VK}(h:∀D:Ends,D.rt=Q->t D σ H)(e:D'.rt=Q:=by rfl):t D' σ H:=h D' e
theorem pS{X:Cx}(i:Nat){x:Str}{e:PySem.Expr}{te:TE}{pos pos':Pos}(hN:X.N.Nodup)(he:PE X e te)(hi:X.N[i]? = some x:=by rfl)(hx:Zi6 X.env.scope x:=by first | exact .inl rfl | exact .inr rfl)(hs:swapsWith e (some (.Name x pos')) pos.line X.env=pure false:=by rfl)(hf:X.fn x=true∨X.env.scope.names.lookup x=some .local:=by first | exact .inl rfl | exact .inr rfl | assumption):PS X (.Assign [.Name x pos'] e pos) (Z90 te (Z10 i)):=Zgr hN hi hx he hs hf
theorem pN{X:Cx}(i:Nat){x:Str}{pos:Pos}(hN:X.N.Nodup)(hi:X.N[i]? = some x:=by rfl)(hx:Zi6 X.env.scope x:=by first | exact .inl rfl | exact .inr rfl)(hf:X.fn x=true∨X.env.scope.names.lookup x=some .local:=by first | exact .inl rfl | exact .inr rfl | assumption):PG X (.Name x pos) (Z10 i):=Z86 hN hi hx hf
theorem Vm{N P:List Str}{sc:Scope}(a:sc.kind=.function:=by rfl)(b:sc.isCoroutine=false:=by rfl)(c:sc.isGenerator=false:=by rfl)(d:N.Nodup:=by decide +kernel)(e:N.take P.length=P:=by rfl)(f:∀x∈P,sc.names.lookup x=some .local∨sc.names.lookup x=some .cell:=by decide +kernel)(g:∀y∈sc.names,y.2≠.free:=by decide +kernel):FnScope N P sc:=⟨a,b,c,d,e,f,g⟩
theorem Vj{Y:Cx}{b:List Stmt}{D:Ends}{σ:L2.St}{H:Hp}(h:let X:=Y;∃t,PSs X b t/\t D σ H):∃t,PSs Y b t/\t D σ H:=h
inductive Wd where
 |sign | any | inn | out | beg | fin | row | alt | times | grp | again | hav | once | ahead | notahead | behind | notbehind
def Wd.text:Wd->Str
 |.sign=>"sign" |.any=>"any" |.inn=>"in" |.out=>"out" |.beg=>"begin" |.fin=>"end" |.row=>"row" |.alt=>"or" |.times=>"times" |.grp=>"group" |.again=>"again" |.hav=>"have"
 |.once=>"once" |.ahead=>"ahead" |.notahead=>"notahead" |.behind=>"behind" |.notbehind=>"notbehind"
def Hd.wd:Hd->Wd
 |.sign _=>.sign | .any=>.any | .inn _=>.inn | .out _=>.out | .beg=>.beg | .fin=>.fin | .row=>.row | .alt=>.alt
 |.times _ _ _=>.times | .grp _=>.grp | .again _=>.again | .hav _=>.hav | .look .once=>.once | .look .ahead=>.ahead | .look .notahead=>.notahead | .look .behind=>.behind | .look .notbehind=>.notbehind
theorem Hd.word_wd(h:Hd):h.word=h.wd.text:=by
 cases h with
 |look lk=>cases lk <;> rfl
 |_=>rfl
def Z1f(x y:Str):Bool:=decide (V.str x=V.str y)
theorem Zb{c A B:Prop}[Decidable c](h:¬c)(b:B):if c then A else B:=by rw[if_neg h];exact b
theorem Zj{c A B:Prop}[Decidable c](h:c)(a:A):if c then A else B:=by rw[if_pos h];exact a
theorem Y5{α β:Type}{F:α->β->Prop}:∀ {xs:List α} {ys:List β} {i:Nat} {x:α},Paired F xs ys->xs[i]? = some x->∃y,ys[i]? = some y/\F x y
 |_,_,_,_,.nil,e=>by simp at e
 |_,_,0,_,.cons r _,e=>by simp at e;subst e;exact⟨_,rfl,r⟩
 |_,_,i+1,x,.cons _ t,e=>by
  obtain⟨y,h1,h2⟩:=Y5 (i:=i) (x:=x) t (by simpa using e)
  exact⟨y,by simpa using h1,h2⟩
theorem Xu{α:Type}{l:List α}{i:Nat}{x:α}(h:l[i]? = some x):l.take (i+1)=l.take i++[x]:=by rw[List.take_add_one,h];rfl
def Zjw(ns:List Int):Int:=ns.getD (argBest (fun i j=>decide (ns.getD i 0>ns.getD j 0)) (ns.length-1)) 0
theorem Z5p{ps:List (Int×Tok)}{ns:List Int}(e:ps.map (·.1)=ns):numAt ps.toArray=fun i=>ns.getD i 0:=by
 funext i
 subst e
 simp[numAt,List.getD_eq_getElem?_getD,List.getElem?_map]
theorem Zem{ps:List (Int×Tok)}{ns:List Int}(e:ps.map (·.1)=ns){k:Nat}{v:Value}(h:(intItems ps.toArray)[k]? = some v):∃t,v=.int (ns.getD k 0) t:=by
 obtain⟨t,q⟩:=intItems_at h
 rw[Z5p e]at q
 exact⟨t,q⟩
section
variable{X:Cx}
end
def Zgs:V->Bool
 |.non=>true | .bl _=>true | .int _=>true | .str _=>true | _=>false
def Vd(H:Hp):Nat->V->V->Prop
 |0,_,_=>False
 |n+1,x,y=>(x=y/\Zgs x=true)∨(∃(a b:Addr) (xs ys:List V),x=.ref a/\y=.ref b/\H a=some (.tup xs)/\H b=some (.tup ys)/\xs.length<=1000000/\Paired (Vd H n) xs ys)
end Seek
namespace L2
open PySem PySem.Spec PyProof.Rows
section
variable{κ:Type}[DecidableEq κ]
def Z2s(kvs:List (κ×V))(k:κ):Option V:=(kvs.find? fun kv=>decide (kv.1=k)).map (·.2)
theorem Zaj{p:κ×V}{r:List (κ×V)}{k:κ}(e:p.1=k):Z2s (p::r) k=some p.2:=by simp[Z2s,List.find?_cons,e]
theorem Zak{p:κ×V}{r:List (κ×V)}{k:κ}(e:¬p.1=k):Z2s (p::r) k=Z2s r k:=by simp[Z2s,List.find?_cons,e]
theorem RelO.getD{o:Option V}{u:Option Value}{d:V}{d':Value}(r:RelO o u)(rd:RelV d d'):RelV (o.getD d) (u.getD d'):=by
 cases o with
 |none=>cases u with
  |none=>exact rd
  |some _=>exact(show False from r).elim
 |some _=>cases u with
  |none=>exact(show False from r).elim
  |some _=>exact r
theorem KV.val{kvs:List (κ×V)}{vs:List (κ×Value)}(r:KV kvs vs)(k:κ):RelO (Z2s kvs k) (valueAt vs k):=by
 unfold KV at r
 induction r with
 |nil=>exact True.intro
 | @cons p q ps qs h t ih =>
  obtain⟨h1,h2⟩:=h
  by_cases e:p.1=k
  ·have e':q.1=k:=h1.symm.trans e
   have b:valueAt (q::qs) k=some q.2:=by simp[valueAt,List.find?_cons,e']
   rw[Zaj e,b];exact h2
  ·have e':¬q.1=k:=fun z=>e (h1.trans z)
   have b:valueAt (q::qs) k=valueAt qs k:=by simp[valueAt,List.find?_cons,e']
   rw[Zak e,b];exact ih
end
theorem Zj0{P:Program}{w:World}{k:Us}{u:Value}(r:RelV (kV k) u):(V0 P w).is k u=true:=by
 cases k with
 |inl i=>obtain⟨t,e⟩:=(show ∃t,u=Value.int i t from r);subst e;exact Z59 P w i t
 |inr x=>obtain⟨t,e⟩:=(show ∃t,u=Value.str x t from r);subst e;exact Z58 P w x t
section
variable{P:Program}{w:World}{H:Hp}{h:Heap}{a:Addr}{X:Cx}{Z4:List (Addr×Obj)}{σ:St}{s:Shared}{y v:V}{u r:Value}{o:Option V}{A:Around}{E:Value->Shared->Prop}{kvs:List (Us×V)}{k:Us}
end
def Zjm(i:Expr):Prop:=∀ov iv,subscripted i false ov iv=operate [ov,iv] (getItem ov iv)
theorem Zdf{prog:Program}{w:World}{A:Around}{E:Value->Shared->Prop}{s:Shared}{env:Env}{value slice:Expr}{pos:Pos}{T id:String}{Q:Value->Shared->Prop}
  (hl:typeLookup (.type T) "__getitem__" = pure (some (.builtin id))) (hs:Zjm slice)
  (h:wpAny (model prog w) A (eval value env) (fun o s₁=>wpAny (model prog w) A (eval slice env) (fun i s₂=>s₂.TypeIs o T/\wpAny (model prog w) A (getItem o i) Q E s₂) E s₁) E s) :
  wpAny (model prog w) A (eval (.Subscript value slice pos) env) Q E s:=by
 refine Subscript_ (wpAny_mono h (fun o s₁ h₁=>wpAny_mono h₁ (fun i s₂ h₂=>?_) fun _ _ x=>x) fun _ _ x=>x)
 obtain⟨hT,h₂⟩:=h₂
 unfold subscriptTail
 refine wpAny_bind ?_
 rw[getitemInPython_of_ne hT.not_modules]
 refine wpAny_bind (wpAny_specialOf hT hl ?_)
 have fin:wpAny (model prog w) A (subscripted slice false o i) (fun r s₃=>wpAny (model prog w) A (letTemporaryGo value o r >>= fun _=>pure r) Q E s₃) E s₂:=by
  rw[hs o i]
  exact wpAny_operating (wpAny_mono h₂ (fun r s₃ h₃=>wpAny_bind (wpAny_letTemporaryGo (wpAny_pure h₃))) fun _ _ x=>x)
 first
  |exact wpAny_pure (wpAny_bind fin)
  |exact wpAny_bind (wpAny_pure (wpAny_bind fin))
  |exact wpAny_bind fin
section
variable{X:Cx}{o i e value:Expr}{pos pos' tpos:Pos}{td ty tv:TE}
end
def Zd5(w:World)(e:DictEntry)(kv:Us×V):Prop:=Z2k kv.1 e.key=true/\e.hash=Zji w kv.1/\RelV kv.2 e.val
def Zf5(K:W.Frag)(w:World)(a:Addr)(kvs:List (Us×V)):Prop:=(a==sysModules)=false/\∃(o:Obj) (es:Array DictEntry) (ep:Nat),K.lookup a=some o/\o.ExactDict/\o.data=.dict es ep/\Paired (Zd5 w) es.toList kvs/\(kvs.map (·.1)).Nodup
theorem Z1q{P:Program}{w:World}:∀ {es:List DictEntry} {kvs:List (Us×V)},Paired (Zd5 w) es kvs->∃vs:List (Us×Value),KV kvs vs/\PySem.Pairs (V0 P w) es vs/\vs.map (·.1)=kvs.map (·.1)/\∀e∈es,∃k,(V0 P w).is k e.key=true/\e.hash=(V0 P w).hash k
 |_,_,.nil=>⟨[],.nil,.nil,rfl,fun e he=>by simp at he⟩
 |e::es,kv::kvs,.cons ⟨h1,h2,h3⟩ t=>by
  obtain⟨vs,r,p,m,k⟩:=Z1q (P:=P) t
  refine⟨(kv.1,e.val)::vs,.cons ⟨rfl,h3⟩ r,.cons h1 rfl p,by simp[m],fun e' he'=>?_⟩
  rcases List.mem_cons.mp he' with rfl | he'
  ·exact⟨kv.1,h1,h2⟩
  ·exact k e' he'
section
variable{X:Cx}{Z4:List (Addr×Obj)}{σ:St}{H:Hp}{s:Shared}{a:Addr}{kvs:List (Us×V)}
theorem Inv.dcK(I:Inv X Z4 σ H s)(h:Zf5 X.K X.w a kvs):∃vs:List (Us×Value),KV kvs vs/\s.heap.DictOf (V0 X.prog X.w) a vs:=by
 obtain⟨_,o,es,ep,l,x,d,p,nd⟩:=h
 obtain⟨vs,r,pr,m,k⟩:=Z1q (P:=X.prog) p
 exact⟨vs,r,o,es,ep,I.kIn a o l,x,d,fun e he=>k e (by simpa using he),pr,by rw[m];exact nd⟩
end
def Zll(K:W.Frag)(w:World):R2:=fun x y H Q=>∃a kvs k v,x=.ref a/\Zf5 K w a kvs/\y=kV k/\Z2s kvs k=some v/\Q v H
def Zik(K:W.Frag)(w:World)(td ty:TE):TE:=Z6c (Zll K w) td ty
section
variable{X:Cx}{o i:Expr}{pos:Pos}{td ty:TE}
theorem Z4b(ho:PE X o td)(hi:PE X i ty)(hs:Zjm i):PE X (.Subscript o i pos) (Zik X.K X.w td ty):=by
 intro Z4 s σ H Q I h
 refine Zdf PySem.F.slot_dict_getitem.lookup hs (Xr (ho Z4 s σ H _ I h) fun u s1 ⟨x,H1,I1,rx,q1⟩=>Xr (hi Z4 s1 σ H1 _ I1 q1) fun iv s2 ⟨y,H2,I2,ry,a,kvs,k,v,ex,dc,ey,hv,q2⟩=>?_)
 subst ex ey
 obtain rfl:u=Value.ref a:=rx
 obtain⟨vs,rel,dd⟩:=I2.dcK dc
 obtain⟨w',hw,rw'⟩:=RelO.some_of (v:=v) (o:=valueAt vs k) (by rw[← hv];exact rel.val k)
 exact⟨dd.typeIs,wpAny_getItem_of (Zj0 ry) dd.mapOf hw ⟨v,H2,I2.tok _,rw',q2⟩⟩
end
theorem Zcn{K:W.Frag}{w:World}{a:Addr}{es:Array DictEntry}{ep:Nat}{kvs:List (Us×V)}(l:K.lookup a=some ⟨.type "dict",none,.dict es ep,#[]⟩)(hd:(a==sysModules)=false)(p:Paired (Zd5 w) es.toList kvs)(nd:(kvs.map (·.1)).Nodup):Zf5 K w a kvs :=
 ⟨hd,_,es,ep,l,⟨rfl,rfl,rfl⟩,rfl,p,nd⟩
theorem Up{w:World}{h:Int}{x y:Str}{t u:Tok}(e:h=PyData.keyHash w.params x):Zd5 w ⟨h,.str x t,.str y u⟩ (.inr x,.str y):=⟨Z09 x t,e,⟨u,rfl⟩⟩
section
variable{X:Cx}{Z4:List (Addr×Obj)}{σ:St}{H:Hp}{s:Shared}
end
theorem Z1g:∀ {xs:List Str} {us:List Value},Vals (xs.map V.str) us->StrsAre us xs
 | [],_,r=>by cases r;exact .nil
 |x::xs,_,r=>by
  rw[List.map_cons]at r
  cases r with
  |cons q t =>
   obtain⟨k,rfl⟩:=q
   exact .cons x k (Z1g t)
def Zio(K:W.Frag):V->List V->Hp->VK->Prop:=fun x vs H Q=>∃(sep:Str) (l:Addr) (xs:List Str),x=.str sep/\vs=[.ref l]/\SqL K H l (xs.map V.str)/\(xs.map (·.length)).sum+xs.length*sep.length<=16777216/\Q (.str (Txt.join sep xs)) H
section
variable{X:Cx}
theorem Z4f:Zl9 X "str.join" (Zio X.K):=by
 intro Z4 s σ H x vs v us Q I rx rv h
 obtain⟨sep,l,xs,rfl,rfl,hl,hz,q⟩:=h
 obtain⟨t,rfl⟩:=rx
 obtain⟨u,rfl,ru⟩:=Vals.one rv
 obtain rfl:u=Value.ref l:=ru
 obtain⟨its,r,pl,_⟩:=I.list hl
 exact join_list pl.isList (by simpa using Z1g r) hz fun t' k=>⟨.str (Txt.join sep xs),H,I.tok _,⟨_,rfl⟩,q⟩
end
theorem Vl(a b:Str):(a++b).length=a.length+b.length:=by
 show(a.cps++b.cps).size=_
 rw[Array.size_append]
 rfl
theorem Vt(a b c:Str):(a++b)++c=a++(b++c):=by
 show(⟨(a.cps++b.cps)++c.cps⟩:Str)=⟨a.cps++(b.cps++c.cps)⟩
 rw[Array.append_assoc]
open Builtin
theorem Z1d:fillsNumberSlot (.type "tuple") "mul" = pure false :=
 PySem.fillsNumberSlot_seq (id:="tuple.__mul__") (r:=some (.builtin "tuple.__rmul__")) F.slot_tuple_mul.lookup (by decide +kernel) F.slot_tuple_rmul.lookup (by decide +kernel)
theorem Zdq:seqRepeat? (.type "tuple")=pure (some (.builtin "tuple.__mul__")):=by
 unfold seqRepeat?
 rw[PySem.seqSlot_of (T:="tuple") (name:="__mul__") (id:="tuple.__mul__") F.slot_tuple_mul.lookup (by decide +kernel),PySem.seqSlot_of (T:="tuple") (name:="__rmul__") (id:="tuple.__rmul__") F.slot_tuple_rmul.lookup (by decide +kernel)]
 rfl
theorem Zas(a:Int)(t:Tok)(l:Addr)(od:Option Addr)(items:Array Value)(n:Nat)(sl:Array (Option Value)) :
  Meets (Builtin.«int.__rmul__» ⟨[.int a t,.ref l],[]⟩) (fun _ R s=>s.heap.get? l=some ⟨.type "tuple",od,.seq items n,sl⟩/\R (.ok (.ret Value.notImplemented)) s) :=
 .of_wp fun prog w A R s h=>by obtain⟨hp,g,d,tk,os⟩:=s;obtain⟨hl,h⟩:=h;wp_walk;exact⟨_,rfl,h⟩
theorem Zbg(k:Int)(t:Tok)(l:Addr)(od:Option Addr)(items:Array Value)(n:Nat)(sl:Array (Option Value))(h1:¬(decide (k < -(2 ^ 63))||decide (k≥2 ^ 63))=true)(h2:¬(items.isEmpty||k==1)=true)(h3:(decide (k<=0)||items.isEmpty)=true) :
  Meets (Builtin.«tuple.__mul__» ⟨[.ref l,.int k t],[]⟩) (fun _ R s=>s.heap.get? l=some ⟨.type "tuple",od,.seq items n,sl⟩/\R (.ok (.ret (Value.ref s.heap.objs.size))) { s with heap:=s.heap.push { cls:=Value.type "tuple",data:=.seq #[] } }) :=
 .of_wp fun prog w A R s h=>by
  obtain⟨hp,g,d,tk,os⟩:=s;obtain⟨hl,h⟩:=h;have f1:=AutoSeq1.idx_int;wp_walk
  rw[if_neg h1]
  wp_walk
  exact⟨_,rfl,h⟩
theorem Zbf(k:Int)(t:Tok)(l:Addr)(od:Option Addr)(items:Array Value)(n:Nat)(sl:Array (Option Value))(h1:¬(decide (k < -(2 ^ 63))||decide (k≥2 ^ 63))=true)(h2:(items.isEmpty||k==1)=true) :
  Meets (Builtin.«tuple.__mul__» ⟨[.ref l,.int k t],[]⟩) (fun _ R s=>s.heap.get? l=some ⟨.type "tuple",od,.seq items n,sl⟩/\R (.ok (.ret (Value.ref l))) s) :=
 .of_wp fun prog w A R s h=>by
  obtain⟨hp,g,d,tk,os⟩:=s;obtain⟨hl,h⟩:=h;have f1:=AutoSeq1.idx_int;wp_walk
  rw[if_neg h1]
  wp_walk
  exact⟨_,rfl,h⟩
theorem Zbe(k:Int)(t:Tok)(l:Addr)(od:Option Addr)(items:Array Value)(n:Nat)(sl:Array (Option Value))(h1:¬(decide (k < -(2 ^ 63))||decide (k≥2 ^ 63))=true)(h2:¬(items.isEmpty||k==1)=true)(h3:¬(decide (k<=0)||items.isEmpty)=true)
  (h4:¬(items.size:Int)*k>(2 ^ 63-1) / 8) (h5:¬Tuple.tupleTooMany (items.size*k)=true) (h6:(List.foldl (fun x1 x2=>x1++x2) #[] (List.replicate k.toNat items)).size<=sizeLine) :
  Meets (Builtin.«tuple.__mul__» ⟨[.ref l,.int k t],[]⟩) (fun _ R s=>s.heap.get? l=some ⟨.type "tuple",od,.seq items n,sl⟩/\R (.ok (.ret (Value.ref s.heap.objs.size))) { s with heap:=s.heap.push { cls:=Value.type "tuple",data:=.seq (List.foldl (fun x1 x2=>x1++x2) #[] (List.replicate k.toNat items)) } }) :=
 .of_wp fun prog w A R s h=>by
  obtain⟨hp,g,d,tk,os⟩:=s;obtain⟨hl,h⟩:=h;have f1:=AutoSeq1.idx_int;wp_walk
  rw[if_neg h1]
  wp_walk
  rw[if_neg h4]
  wp_walk
  exact⟨_,rfl,h⟩
def Zin:R2:=fun x y H Q=>∃a k xs,x=.ref a/\y=.int k/\H a=some (.tup xs)/\0<=k/\xs.length*k.toNat<=1000/\k<=1000 /\
 (k=1->Q (.ref a) H)/\((xs=[]->k=1)->k≠1->∀p,H p=none->Q (.ref p) (Zq H p (.tup (List.replicate k.toNat xs).flatten)))/\(xs≠[])
section
variable{X:Cx}{prog:Program}{w:World}{A:Around}{R:Result->Shared->Prop}{it:Addr}{fp wr:List Addr}{m:Nat}{P:Nat->Value->Prop}{St:Nat->Heap->Prop}
theorem Zdz:Z4x X (binaryOp .Mult) Zin:=by
 intro Z4 s σ H x y v u Q I rx ry h
 obtain⟨a,k,xs,rfl,rfl,hH,h0,hz,hk,q1,q2,hne⟩:=h
 cases rx
 obtain⟨t,rfl⟩:=ry
 obtain⟨its,r,⟨o,ho,hc,n,hd⟩,_⟩:=I.tuple (SqT.of hH)
 obtain⟨oc,od,odt,osl⟩:=o
 cases hc
 cases hd
 have hl:=r.length
 have hlen:0<its.length:=by
  rw[← hl]
  exact List.length_pos_iff.mpr hne
 have hem:its.toArray.isEmpty=false:=by
  cases its with
  |nil=>simp at hlen
  |cons _ _=>rfl
 have c1:¬(decide (k < -(2 ^ 63))||decide (k≥2 ^ 63))=true:=by simp;omega
 refine wpAny_binaryOp_repeat_ref (T:="tuple") (U:="int") (by decide) ⟨_,ho,rfl⟩ (fun s'=>typeIs_int s' k t) Z1d F.fills_int_mul F.slot_int_rmul Zdq F.slot_int_index.lookup
  (call_meets F.slot_int_rmul (typeIs_int s k t) F.entry_int_rmul (F.args_int_rmul_2 _ _) (Zas k t a od its.toArray n osl) ⟨ho,rfl,⟨_,ho,rfl⟩,?_⟩)
 by_cases e1:k=1
 ·exact call_meets F.slot_tuple_mul ⟨_,ho,rfl⟩ F.entry_tuple_mul (F.args_tuple_mul_2 _ _) (Zbf k t a od its.toArray n osl c1 (by simp[e1])) ⟨ho,.ref a,H,I,rfl,q1 e1⟩
 have c2:¬(its.toArray.isEmpty||k==1)=true:=by rw[hem];simpa using e1
 have q2':=q2 (fun z=>absurd z hne) e1
 by_cases e0:k=0
 ·refine call_meets F.slot_tuple_mul ⟨_,ho,rfl⟩ F.entry_tuple_mul (F.args_tuple_mul_2 _ _) (Zbg k t a od its.toArray n osl c1 c2 (by simp[e0])) ⟨ho,?_⟩
  have hn:=I.hok.fresh (Nat.le_refl s.heap.objs.size)
  have:=q2' _ hn
  rw[e0]at this
  refine⟨.ref s.heap.objs.size,_,I.laid (a:=s.heap.objs.size) (o:=.tup []) (t':=s.toks) (fun _ _ q=>Heap.get?_push_of_some _ q) (Nat.le_refl _) ⟨Nat.zero_le _,[],.nil,⟨_,Heap.get?_push_size _ rfl,rfl,0,rfl⟩⟩,rfl,?_⟩
  exact this
 ·have hrep:List.foldl (fun x1 x2=>x1++x2) #[] (List.replicate k.toNat its.toArray)=(List.replicate k.toNat its).flatten.toArray:=by
   have:=Z3g its k.toNat []
   rw[List.nil_append]at this
   exact this
  have hzi:its.length*k.toNat<=1000:=by rw[← hl];exact hz
  have hzk:(its.length:Int)*k<=1000:=by
   have:((its.length*k.toNat:Nat):Int)<=1000:=by omega
   rw[Int.natCast_mul,Int.toNat_of_nonneg h0]at this
   exact this
  have hsl:(sizeLine:Int)=16777216:=by rw[sizeLine_eq];rfl
  refine call_meets F.slot_tuple_mul ⟨_,ho,rfl⟩ F.entry_tuple_mul (F.args_tuple_mul_2 _ _) (Zbe k t a od its.toArray n osl c1 c2 (by rw[hem];simp;omega) (by rw[List.size_toArray];omega) (by rw[List.size_toArray];unfold Tuple.tupleTooMany;simp;omega) (by rw[hrep,List.size_toArray,Z8i,sizeLine_eq,Nat.mul_comm];omega)) ⟨ho,?_⟩
  have hn:=I.hok.fresh (Nat.le_refl s.heap.objs.size)
  rw[hrep]
  refine⟨.ref s.heap.objs.size,_,I.laid (a:=s.heap.objs.size) (o:=.tup (List.replicate k.toNat xs).flatten) (t':=s.toks) (fun _ _ q=>Heap.get?_push_of_some _ q) (Nat.le_refl _) ⟨by rw[Z8i,sizeLine_eq,Nat.mul_comm];omega,_,r.rep k.toNat,⟨_,Heap.get?_push_size _ rfl,rfl,0,rfl⟩⟩,rfl,q2' _ hn⟩
theorem Z39:Z4x X (compareOp .LtE) (fun x y H Q=>∃i j,x=.str i/\y=.str j/\Q (.bl (!decide (j.cps.toList<i.cps.toList))) H):=by
 intro Z4 s σ H x y v u Q I rx ry h
 obtain⟨i,j,rfl,rfl,q⟩:=h
 obtain⟨t,rfl⟩:=rx
 obtain⟨t',rfl⟩:=ry
 exact PySem.P.le_str (Y6 I q rfl)
def Zk8(P:Program)(w:World)(K:W.Frag)(mg:Str->Option Value)(base:Heap)(k:Nat)(tf:TE)(t:TA):TE:=fun σ H Q=>tf σ H fun x H1=>∃f fd ps sp,x=.ref f/\FnOk P w K mg base Wq k f fd ps sp/\W.keepIn K (.ref f)=true/\Binds K fd ps []/\t σ H1 fun vs H2=>sp vs H2 Q E0
theorem Zgx{k:Nat}{o i e:Expr}{es:List Expr}{p pos:Pos}{tf:TE}{t:TA}(hr:Room k X.A)(hf:PE X (.Subscript o i p) tf)(ha:PA X (e::es) t)(he:starEach (e::es) X.env=(false,eval e X.env)::starEach es X.env:=by rfl)(hpl:(backTo pos (starEach es X.env)).any (·.1)=false:=by rfl) :
  PE X (.Call (.Subscript o i p) (e::es) [] pos) (Zk8 X.prog X.w X.K X.mg X.base k tf t):=by
 intro Z4 s σ H Q I h
 show wpAny _ _ (eval (.Subscript o i p) X.env >>= fun f=>callWith pos f [] (backTo pos (starEach (e::es) X.env)) (backToKw pos (keywordEach [] X.env))) _ _ _
 refine wpAny_bind (Xr (hf Z4 s σ H _ I h) fun u s1 ⟨x,H1,I1,r1,f,fd,ps,sp,ex,F,hk,hb,q1⟩=>?_)
 subst ex
 obtain rfl:u=Value.ref f:=r1
 refine W.callWith_K (h₀:=X.base) I1.ok.mod.kin hk (Xr (ha pos Z4 s1 σ H1 _ I1 q1) fun us s2 ⟨vs,H2,I2,r2,q2⟩=>⟨I2.kIn,?_⟩) he hpl
 exact Z4r F hr hb .nil Z69 I2 r2 (by rw[List.append_nil];exact q2)
theorem Zei{kw:List (Str×Value)}(Wk:Walks prog w A.in1 it fp wr m P St)(bt:Nat->Nat->Bool)(cmp:CmpOf prog w A.in1 .Gt P bt)(B:Addr)(nB:B∉fp) :
  ∀(k j:Nat) (z:Shared) (u:Value) (c:Nat),m-(j+1)=k->j+1<=m->St (j+1) z.heap->P (argBest bt j) u->z.heap.get? B=some ⟨.type "list",none,.seq #[u,u] c,#[]⟩ ->
  (∀v h' tk,P (argBest bt (m-1)) v->(∀b o,b∉wr->b≠B->z.heap.get? b=some o->h'.get? b=some o)->R (.ok (.ret v)) { z with heap:=h',toks:=tk }) ->
  codeAny (model prog w) A (.builtin "max.loop" ⟨[.ref it,.none,.ref B],kw⟩) R z:=by
 have nW:B∉wr:=fun h=>nB (Wk.sub _ h)
 have nm:(toString "max" ++ toString ".loop":String)="max.loop":=by decide
 intro k
 induction k with
 |zero =>
  intro j z u c ek lej sj pj gB fin
  have ej:j+1=m:=by omega
  refine codeAny_builtin PySem.F.entry_max_loop ?_
  rw[Around.under_plainId PySem.F.plain_max_loop _]
  show wpAny _ A.in1 (seqItems? (.ref B) >>= _) _ _ z
  refine wpAny_bind (wpAny_seqItems gB rfl ?_)
  show wpAny _ A.in1 (tryCatch (pyNext (.ref it)) _ >>= _) _ _ z
  refine wpAny_bind (wpAny_tryCatch (Wk.done z _ _ (ej ▸ sj) fun g tk kp=>?_))
  have gB':=kp B _ nW gB
  show wpAny _ A.in1 (updateSeq B (fun _=>#[]) >>= _) _ _ _
  refine wpAny_bind ?_
  refine wpAny_updateSeq gB' rfl (wpAny_bind (wpAny_letGo (wpAny_pure ?_)))
  exact fin u _ tk (by rw[← ej];exact pj) fun b o b1 b2 e=>(Heap.get?_update_other _ _ (Ne.symm b2)).trans (kp b o b1 e)
 |succ k ih =>
  intro j z u c ek lej sj pj gB fin
  have lt:j+1<m:=by omega
  refine codeAny_builtin PySem.F.entry_max_loop ?_
  rw[Around.under_plainId PySem.F.plain_max_loop _]
  show wpAny _ A.in1 (seqItems? (.ref B) >>= _) _ _ z
  refine wpAny_bind (wpAny_seqItems gB rfl ?_)
  show wpAny _ A.in1 (tryCatch (pyNext (.ref it)) _ >>= _) _ _ z
  refine wpAny_bind (wpAny_tryCatch (Wk.item (j+1) z _ _ lt sj fun v g tk pv sv kp=>?_))
  have gB':=kp B _ nW gB
  show wpAny _ A.in1 (tryCatch (holding [v,v] (richCompare .Gt v u >>= _)) _ >>= _) _ _ _
  refine wpAny_bind (wpAny_tryCatch (wpAny_holding (wpAny_bind (cmp (j+1) (argBest bt j) v u _ _ _ pv pj ?_))))
  refine wpAny_bind (wpAny_holding (wpAny_truthy_bool ?_))
  refine wpAny_bind (wpAny_letGo (wpAny_pure ?_))
  cases eb:bt (j+1) (argBest bt j) with
  |true =>
   simp only[if_true]
   refine wpAny_bind ?_
   refine wpAny_updateSeq gB' rfl (wpAny_bind (wpAny_letGo ?_))
   rw[nm]
   refine wpAny_pure ⟨plainId_quiet PySem.F.plain_max_loop _,ih (j+1) _ v _ (by omega) lt (Wk.frame _ _ _ sv fun b bf o e=>?_) (by simp only[argBest,eb,if_true];exact pv) (Heap.get?_update_self _ gB' rfl) fun v' g' tk' p' k'=>?_⟩
   ·exact(Heap.get?_update_other _ _ (fun q:B=b=>nB (by rw[q];exact bf))).trans e
   ·exact fin v' g' tk' p' fun b o b1 b2 e=>k' b o b1 b2 ((Heap.get?_update_other _ _ (Ne.symm b2)).trans (kp b o b1 e))
  |false =>
   simp only[Bool.false_eq_true,if_false]
   refine wpAny_bind (wpAny_letGo ?_)
   rw[nm]
   refine wpAny_pure ⟨plainId_quiet PySem.F.plain_max_loop _,ih (j+1) _ u c (by omega) lt sv (by simp only[argBest,eb,Bool.false_eq_true,if_false];exact pj) gB' fun v' g' tk' p' k'=>?_⟩
   exact fin v' g' tk' p' fun b o b1 b2 e=>k' b o b1 b2 (kp b o b1 e)
theorem Zbd{kw:List (Str×Value)}{d:Value}(hkw:kw=[(("default":Str),d)])(Wk:Walks prog w A.in1 it fp wr m P St)(bt:Nat->Nat->Bool)(cmp:CmpOf prog w A.in1 .Gt P bt)(B:Addr)(nB:B∉fp){z:Shared}{c:Nat}(s0:St 0 z.heap)(gB:z.heap.get? B=some ⟨.type "list",none,.seq #[] c,#[]⟩)
  (fin:∀v h' tk,((m=0/\v=d)∨(0<m/\P (argBest bt (m-1)) v))->(∀b o,b∉wr->b≠B->z.heap.get? b=some o->h'.get? b=some o)->R (.ok (.ret v)) { z with heap:=h',toks:=tk }) :
  codeAny (model prog w) A (.builtin "max.loop" ⟨[.ref it,.none,.ref B],kw⟩) R z:=by
 subst hkw
 have nW:B∉wr:=fun h=>nB (Wk.sub _ h)
 have nm:(toString "max" ++ toString ".loop":String)="max.loop":=by decide
 refine codeAny_builtin PySem.F.entry_max_loop ?_
 rw[Around.under_plainId PySem.F.plain_max_loop _]
 show wpAny _ A.in1 (seqItems? (.ref B) >>= _) _ _ z
 refine wpAny_bind (wpAny_seqItems gB rfl ?_)
 show wpAny _ A.in1 (tryCatch (pyNext (.ref it)) _ >>= _) _ _ z
 by_cases e0:m=0
 ·refine wpAny_bind (wpAny_tryCatch (Wk.done z _ _ (e0 ▸ s0) fun g tk kp=>?_))
  show wpAny _ A.in1 (rule _ >>= _) _ _ _
  refine wpAny_bind (wpAny_rule (wpAny_pure ?_))
  exact fin d g tk (.inl ⟨e0,rfl⟩) fun b o b1 _ e=>kp b o b1 e
 ·refine wpAny_bind (wpAny_tryCatch (Wk.item 0 z _ _ (by omega) s0 fun v g tk pv sv kp=>?_))
  have gB':=kp B _ nW gB
  show wpAny _ A.in1 (updateSeq B (fun _=>#[v,v]) >>= _) _ _ _
  refine wpAny_bind ?_
  refine wpAny_updateSeq gB' rfl ?_
  rw[nm]
  refine wpAny_pure ⟨plainId_quiet PySem.F.plain_max_loop _,Zei Wk bt cmp B nB _ 0 _ v _ rfl (by omega) (Wk.frame _ _ _ sv fun b bf o e=>?_) pv (Heap.get?_update_self _ gB' rfl) fun v' g' tk' p' k'=>?_⟩
  ·exact(Heap.get?_update_other _ _ (fun q:B=b=>nB (by rw[q];exact bf))).trans e
  ·exact fin v' g' tk' (.inr ⟨by omega,p'⟩) fun b o b1 b2 e=>k' b o b1 b2 ((Heap.get?_update_other _ _ (Ne.symm b2)).trans (kp b o b1 e))
theorem Zey(a d:Value):argsOk "max" ⟨[a],[(("default":Str),d)]⟩:=by unfold argsOk;kernel_rfl
theorem Z3w{E:Value->Shared->Prop}{s:Shared}{id:String}{b:Builtin}{as:List Value}{kw:List (Str×Value)}{Q:Value->Shared->Prop}(hk:builtinKind id=none)(hp:plainId id=true)(hb:entryFor table id=some b)(ha:argsOk id ⟨as,kw⟩)
  (hc:wpAny (model prog w) A.in1 (b ⟨as,kw⟩) (fun fin s'=>match fin with
   |.done f=>(match(Except.ok f:Result) with | .ok (.ret v)=>Q v s' | .ok _=>False | .error e=>E e s')
   |.again c=>c.quiet=true/\codeAny (model prog w) A c (fun r s'=>match r with | .ok (.ret v)=>Q v s' | .ok _=>False | .error e=>E e s') s') E s):wpAny (model prog w) A (call (.builtin id) as kw) Q E s:=by
 refine wpAny_call (codeAny_call_builtin hp hb ?_)
 simp only[checkBuiltinCall,hk]
 cases sg:Manifest.signature? id with
 |none=>exact wpAny_pure hc
 |some sig =>
  simp only[argsOk,sg]at ha
  have h2:Bind.checkArgs id sig ⟨as,kw⟩=pure ():=ha
  show wpAny _ A.in1 (Bind.checkArgs id sig ⟨as,kw⟩) _ _ s
  rw[h2]
  exact wpAny_pure hc
theorem Z5a{E:Value->Shared->Prop}{s:Shared}{l:Addr}{xs:Array (Int×Tok)}{d:Value}{Q:Value->Shared->Prop}(hh:A.handled=none)(hl:s.heap.IsList l (intItems xs))
  (h:∀v h' tk,((xs.size=0/\v=d)∨(0<xs.size/\(intItems xs)[argBest (fun i j=>decide (numAt xs i>numAt xs j)) (xs.size-1)]? = some v))->(∀b o,s.heap.get? b=some o->h'.get? b=some o)->Q v { s with heap:=h',toks:=tk }) :
  wpAny (model prog w) A (call (.builtin "max") [.ref l] [(("default":Str),d)]) Q E s:=by
 have nm:(toString "max" ++ toString ".loop":String)="max.loop":=by decide
 refine Z3w PySem.F.kind_max PySem.F.plain_max PySem.F.entry_max (Zey _ _) ?_
 show wpAny _ A.in1 (Builtin.Builtins.bindParams "max" ["key","default"] 0 ⟨[],[(("default":Str),d)]⟩ >>= _) _ _ s
 refine wpAny_bind (wpAny_of_eq (show Builtin.Builtins.bindParams "max" ["key","default"] 0 ⟨[],[(("default":Str),d)]⟩=pure [none,some d] from rfl) ?_)
 refine wpAny_bind (wpAny_pure ?_)
 refine wpAny_bind (iter_intList hl fun s₂ e st hfp hlI=>?_)
 subst e
 refine wpAny_bind (wpAny_newObj_type ?_)
 rw[nm]
 have Wk:=Walks.list (prog:=prog) (w:=w) (A:=A.in1) hh _ l hlI (intItems xs)
 refine wpAny_pure ⟨plainId_quiet PySem.F.plain_max_loop _,Zbd (d:=d) (kw:=[(("default":Str),d)]) rfl Wk (fun i j=>decide (numAt xs i>numAt xs j)) (CmpOf.ints_gt (numAt xs) (fun _ _=>intItems_at)) _ (fun hm=>Nat.lt_irrefl _ (hfp _ hm)) (Wk.frame _ _ _ st fun b _ o e=>Heap.get?_push_of_some _ e) (Heap.get?_push_size _ rfl) ?_⟩
 intro v h' tk hv hk
 refine h v h' tk (by simpa[intItems] using hv) fun b o e=>?_
 have lt:=Heap.lt_size e
 refine hk b o (by simpa using Nat.ne_of_lt lt) ?_ (Heap.get?_push_of_some _ (Heap.get?_push_of_some _ e))
 show b≠(s.heap.push _).objs.size
 rw[Heap.size_push]
 exact Nat.ne_of_lt (Nat.lt_succ_of_lt lt)
end
end L2
namespace Seek
open PySem PySem.Spec PyProof.Rows L2
section
variable{X:Cx}
def Zii(K:W.Frag)(t tk:TA):TE:=fun σ H Q=>t σ H fun vs H1=>tk σ H1 fun zs H2=>∃(l:Addr) (ns:List Int) (z:V),vs=[.ref l]/\zs=[z]/\SqL K H2 l (ns.map V.int)/\Q (if ns=[] then z else .int (Zjw ns)) H2
theorem Zdv{e d:Expr}{t tk:TA}{p pos kp:Pos}(hc:X.calm=true)(hg:Gl X "max")(hm:X.mg "max" = none)(ha:PA X [e] t)(hk:PK X [⟨some "default",d,kp⟩] tk)(he:backTo pos (starEach [e] X.env)=(false,eval e X.env)::backTo pos (starEach [] X.env):=by rfl)(hpl:(backTo pos (starEach [e] X.env)).any (·.1)=false:=by rfl) :
  PE X (.Call (.Name "max" p) [e] [⟨some "default",d,kp⟩] pos) (Zii X.K t tk):=by
 intro Z4 s σ H Q I h
 refine wpAny_Call_Name_kw (Ty I hg hm PyProof.Rows.Boot.«max» ?_)
 refine PyProof.Rows.callWith_kw (Xr (ha pos Z4 s σ H _ I h) fun us s1 ⟨vs,H1,I1,r,q⟩=>Xr (hk pos Z4 s1 σ H1 _ I1 q) fun ws s2 ⟨zs,H2,I2,rz,l,ns,z,ev,ez,hl,q2⟩=>?_) he hpl
 subst ev ez
 obtain⟨u,rfl,ru⟩:=Ts r
 obtain⟨y,rfl,ry⟩:=Ts rz
 obtain rfl:u=Value.ref l:=ru
 obtain⟨its,rv,pl,hz⟩:=I2.list hl
 obtain⟨ps,e1,e2⟩:=Z40 rv
 have hlist:s2.heap.IsList l (intItems ps.toArray):=by
  have e:intItems ps.toArray=its.toArray:=by rw[e1];simp[intItems]
  rw[e];exact pl.isList
 have hlen:ps.length=ns.length:=by rw[← e2,List.length_map]
 refine Z5a (d:=y) (I2.ok.hd hc) hlist fun v h' tk hv hk=>?_
 rcases hv with⟨h0,rfl⟩ | ⟨h0,hv⟩
 ·have hn:ns=[]:=List.length_eq_zero_iff.mp (by rw[← hlen];simpa using h0)
  rw[if_pos hn]at q2
  exact⟨z,H2,I2.kept hk,ry,q2⟩
 ·have hn:ns≠[]:=fun e=>by rw[e]at hlen;simp[hlen]at h0
  rw[if_neg hn]at q2
  obtain⟨t,e⟩:=Zem e2 hv
  rw[Z5p e2,show ps.toArray.size=ns.length by simp[hlen]]at e
  exact⟨.int (Zjw ns),H2,I2.kept hk,⟨t,e⟩,q2⟩
end
structure MS where
 rows:V
 text:Str
 row:Int
 place:Int
 groups:V
 held:V
 choices:Addr
 made:Int
 found:Bool
 ended:Bool
def MS.fs(s:MS):List (Str×V):=[("rows",s.rows),("text",.str s.text),("row",.int s.row),("at",.int s.place),("groups",s.groups),("held",s.held),("choices",.ref s.choices),("made",.int s.made),("found",.bl s.found),("ended",.bl s.ended)]
theorem Zp{x y:Str}{v:V}{l:List (Str×V)}(h:(x==y)=false):((y,v)::l).lookup x=l.lookup x:=by rw[List.lookup_cons,h]
theorem Wl{x:Str}{v:V}{l:List (Str×V)}:((x,v)::l).lookup x=some v:=by simp
theorem Zc{x y:Str}{v u:V}{l:List (Str×V)}(h:¬y=x):Y7 x v ((y,u)::l)=(y,u)::Y7 x v l:=by
 show(if y=x then(y,v)::l else(y,u)::Y7 x v l)=_
 rw[if_neg h]
theorem Tb{x:Str}{v u:V}{l:List (Str×V)}:Y7 x v ((x,u)::l)=(x,v)::l:=by
 show(if x=x then(x,v)::l else(x,u)::Y7 x v l)=_
 rw[if_pos rfl]
theorem Vc{x:Str}{v:V}:Y7 x v []=[(x,v)]:=rfl
theorem Zer(s:MS):s.fs.lookup ("rows":Str)=some s.rows:=Wl
theorem Z1a(s:MS):s.fs.lookup ("text":Str)=some (.str s.text):=by unfold MS.fs;rw[Zp (by decide +kernel),Wl]
theorem Z4t(s:MS):s.fs.lookup ("row":Str)=some (.int s.row):=by unfold MS.fs;rw[Zp (by decide +kernel),Zp (by decide +kernel),Wl]
theorem Wp(s:MS):s.fs.lookup ("at":Str)=some (.int s.place):=by unfold MS.fs;rw[Zp (by decide +kernel),Zp (by decide +kernel),Zp (by decide +kernel),Wl]
theorem Xv(s:MS):s.fs.lookup ("groups":Str)=some s.groups:=by unfold MS.fs;rw[Zp (by decide +kernel),Zp (by decide +kernel),Zp (by decide +kernel),Zp (by decide +kernel),Wl]
theorem Ub(s:MS):s.fs.lookup ("held":Str)=some s.held:=by unfold MS.fs;rw[Zp (by decide +kernel),Zp (by decide +kernel),Zp (by decide +kernel),Zp (by decide +kernel),Zp (by decide +kernel),Wl]
theorem Yt(s:MS):s.fs.lookup ("choices":Str)=some (.ref s.choices):=by unfold MS.fs;rw[Zp (by decide +kernel),Zp (by decide +kernel),Zp (by decide +kernel),Zp (by decide +kernel),Zp (by decide +kernel),Zp (by decide +kernel),Wl]
theorem Z1b(s:MS):s.fs.lookup ("made":Str)=some (.int s.made):=by unfold MS.fs;rw[Zp (by decide +kernel),Zp (by decide +kernel),Zp (by decide +kernel),Zp (by decide +kernel),Zp (by decide +kernel),Zp (by decide +kernel),Zp (by decide +kernel),Wl]
theorem Z5x(s:MS):s.fs.lookup ("found":Str)=some (.bl s.found):=by unfold MS.fs;rw[Zp (by decide +kernel),Zp (by decide +kernel),Zp (by decide +kernel),Zp (by decide +kernel),Zp (by decide +kernel),Zp (by decide +kernel),Zp (by decide +kernel),Zp (by decide +kernel),Wl]
theorem Z5y(s:MS):s.fs.lookup ("ended":Str)=some (.bl s.ended):=by unfold MS.fs;rw[Zp (by decide +kernel),Zp (by decide +kernel),Zp (by decide +kernel),Zp (by decide +kernel),Zp (by decide +kernel),Zp (by decide +kernel),Zp (by decide +kernel),Zp (by decide +kernel),Zp (by decide +kernel),Wl]
theorem Z0p(s:MS)(i:Int):Y7 "row" (.int i) s.fs=({ s with row:=i }:MS).fs:=by unfold MS.fs;rw[Zc (by decide +kernel),Zc (by decide +kernel),Tb]
theorem Z95(s:MS)(i:Int):Y7 "at" (.int i) s.fs=({ s with place:=i }:MS).fs:=by unfold MS.fs;rw[Zc (by decide +kernel),Zc (by decide +kernel),Zc (by decide +kernel),Tb]
theorem Z37(s:MS)(v:V):Y7 "groups" v s.fs=({ s with groups:=v }:MS).fs:=by unfold MS.fs;rw[Zc (by decide +kernel),Zc (by decide +kernel),Zc (by decide +kernel),Zc (by decide +kernel),Tb]
theorem Js(s:MS)(v:V):Y7 "held" v s.fs=({ s with held:=v }:MS).fs:=by unfold MS.fs;rw[Zc (by decide +kernel),Zc (by decide +kernel),Zc (by decide +kernel),Zc (by decide +kernel),Zc (by decide +kernel),Tb]
theorem Zdu(s:MS)(i:Int):Y7 "made" (.int i) s.fs=({ s with made:=i }:MS).fs:=by unfold MS.fs;rw[Zc (by decide +kernel),Zc (by decide +kernel),Zc (by decide +kernel),Zc (by decide +kernel),Zc (by decide +kernel),Zc (by decide +kernel),Zc (by decide +kernel),Tb]
theorem Z5l(s:MS)(b:Bool):Y7 "found" (.bl b) s.fs=({ s with found:=b }:MS).fs:=by unfold MS.fs;rw[Zc (by decide +kernel),Zc (by decide +kernel),Zc (by decide +kernel),Zc (by decide +kernel),Zc (by decide +kernel),Zc (by decide +kernel),Zc (by decide +kernel),Zc (by decide +kernel),Tb]
theorem Zav(s:MS)(b:Bool):Y7 "ended" (.bl b) s.fs=({ s with ended:=b }:MS).fs:=by unfold MS.fs;rw[Zc (by decide +kernel),Zc (by decide +kernel),Zc (by decide +kernel),Zc (by decide +kernel),Zc (by decide +kernel),Zc (by decide +kernel),Zc (by decide +kernel),Zc (by decide +kernel),Zc (by decide +kernel),Tb]
theorem Yx(s:MS):s.fs.length<1000:=by show 10<1000;decide
def Zfn(m:Str):Prop:=∀s:MS,s.fs.lookup m=none
theorem Zhr{m:Str}(h:(m=="rows")=false/\(m=="text")=false/\(m=="row")=false/\(m=="at")=false/\(m=="groups")=false/\(m=="held")=false/\(m=="choices")=false/\(m=="made")=false/\(m=="found")=false/\(m=="ended")=false):Zfn m:=fun s=>by
 obtain⟨h1,h2,h3,h4,h5,h6,h7,h8,h9,h10⟩:=h
 unfold MS.fs
 rw[Zp h1,Zp h2,Zp h3,Zp h4,Zp h5,Zp h6,Zp h7,Zp h8,Zp h9,Zp h10]
 rfl
theorem Ys:Zfn "go_back":=Zhr (by decide +kernel)
theorem Um:Zfn "enter":=Zhr (by decide +kernel)
theorem Zeh:Zfn "move":=Zhr (by decide +kernel)
theorem Zh4:Zfn "way":=Zhr (by decide +kernel)
theorem Z5s:Zfn "moves":=Zhr (by decide +kernel)
theorem Z4d:Zfn "hold":=Zhr (by decide +kernel)
theorem Vs:Zfn "let_go":=Zhr (by decide +kernel)
theorem Z4e:Zfn "drop_choices":=Zhr (by decide +kernel)
theorem Z5t:Zfn "entry":=Zhr (by decide +kernel)
abbrev Zfo:=Int×Int×V×V
def ChAt(H:Hp)(v:V)(q:Zfo):Prop:=∃t,v=.ref t/\H t=some (.tup [.int q.1,.int q.2.1,q.2.2.1,q.2.2.2])
theorem ChAt.mono{H H':Hp}(t:∀b xs,H b=some (.tup xs)->H' b=some (.tup xs)){v:V}{q:Zfo}(h:ChAt H v q):ChAt H' v q:=by
 obtain⟨a,e,h⟩:=h
 exact⟨a,e,t _ _ h⟩
structure MM where
 s:MS
 cs:List Zfo
def MM.enter(M:MM)(q:Zfo):MM:={ M with s:={ M.s with row:=q.1,place:=q.2.1,groups:=q.2.2.1,held:=q.2.2.2 } }
def MM.back(M:MM):MM:=match M.cs.getLast? with
 |none=>{ M with s:={ M.s with ended:=true } }
 |some q=>MM.enter { M with cs:=M.cs.dropLast } q
structure MAt(C:Addr)(H:Hp)(m:Addr)(M:MM):Prop where
 ob:∃dx,H m=some (.ins C dx M.s.fs)
 ch:∃vs,H M.s.choices=some (.lst vs)/\Paired (ChAt H) vs M.cs
theorem MAt.ne{C:Addr}{H:Hp}{m:Addr}{M:MM}(h:MAt C H m M):m≠M.s.choices:=by
 obtain⟨⟨dx,e⟩,vs,e',_⟩:=h
 exact Zcv e e' (by intro z;cases z)
theorem MAt.gro{S:List Addr}{C:Addr}{H H':Hp}{m:Addr}{M:MM}(h:MAt C H m M)(g:Gro S H H')(h1:m∉S)(h2:M.s.choices∉S):MAt C H' m M:=by
 obtain⟨⟨dx,e⟩,vs,e',p⟩:=h
 exact⟨⟨dx,g.keep _ _ e h1⟩,vs,g.keep _ _ e' h2,Paired.mapP p fun _ _ q=>q.mono g.tups⟩
theorem MAt.new{C:Addr}{H:Hp}{m p:Addr}{M:MM}{o:HO}(h:MAt C H m M)(hp:H p=none):MAt C (Zq H p o) m M:=h.gro (S:=[]) (Gro.new hp o) (by simp) (by simp)
theorem Gro.ins{S:List Addr}{H:Hp}{p C dx:Addr}{fs:List (Str×V)}(hp:p∈S)(h:H p=some (.ins C dx fs))(o:HO):Gro S H (Zq H p o) :=
 ⟨fun b u q hb=>by rw[Zt (fun z=>hb (by rw[z];exact hp))];exact q,fun b ys q=>by rw[Zt (Zcv q h (by intro z;cases z))];exact q⟩
theorem MAt.put{C:Addr}{H:Hp}{m dx:Addr}{M:MM}{s':MS}(h:MAt C H m M)(hx:H m=some (.ins C dx M.s.fs))(hc:s'.choices=M.s.choices):MAt C (Zq H m (.ins C dx s'.fs)) m ⟨s',M.cs⟩:=by
 have hne:=h.ne
 obtain⟨_,vs,e',p⟩:=h
 have g:Gro [m] H (Zq H m (.ins C dx s'.fs)):=Gro.ins (by simp) hx _
 refine⟨⟨dx,Z3⟩,vs,?_,Paired.mapP p fun _ _ q=>q.mono g.tups⟩
 show(Zq H m (.ins C dx s'.fs)) s'.choices=_
 rw[hc,Zt (Ne.symm hne)]
 exact e'
structure Txt(K:W.Frag)(mg:Str->Option Value)(C:Addr):Prop where
 cl:Cls K C
 a1:NoAttr K C "rows"
 a2:NoAttr K C "text"
 a3:NoAttr K C "row"
 a4:NoAttr K C "at"
 a5:NoAttr K C "groups"
 a6:NoAttr K C "held"
 a7:NoAttr K C "choices"
 a8:NoAttr K C "made"
 a9:NoAttr K C "found"
 a10:NoAttr K C "ended"
structure OwnM(P:Program)(w:World)(K:W.Frag)(mg:Str->Option Value)(base:Heap)(k:Nat)(C:Addr)(m:Str)(ps:List Str)(sp:Sp):Prop where
 ex:∃f fd,FnOk P w K mg base Wq k f fd ps sp/\Meth K C m f/\Binds K fd ps []
theorem OwnM.mono{P:Program}{w:World}{K:W.Frag}{mg:Str->Option Value}{base:Heap}{j k:Nat}{C:Addr}{x:Str}{ps:List Str}{sp:Sp}(O:OwnM P w K mg base j C x ps sp)(h:j<=k):OwnM P w K mg base k C x ps sp:=by
 obtain⟨f,fd,F,r⟩:=O.ex
 exact⟨f,fd,F.mono h,r⟩
theorem Xi{X:Cx}{k:Nat}{C:Addr}{m:Str}{ps:List Str}{sp:Sp}{o e:Expr}{es:List Expr}{ta:TE}{t:TA}{apos pos:Pos}{pl:Sem Bool}(O:OwnM X.prog X.w X.K X.mg X.base k C m ps sp)(c:Cls X.K C)(hr:Room k X.A)(he:PE X o ta)(ha:PA X (e::es) t)
  (hst:starEach (e::es) X.env=(false,eval e X.env)::starEach es X.env:=by rfl) (hpl:(backTo pos (starEach es X.env)).any (·.1)=false:=by rfl)
  (ht:eval (.Call (.Attribute o m apos) (e::es) [] pos) X.env=(do
   let ov ← eval o X.env
   standAt apos.atName
   let(f,first) ← holding [ov] (getMethod ov m pl)
   callWith pos f first (backTo pos (starEach (e::es) X.env)) (backToKw pos (keywordEach [] X.env))):=by rfl):PE X (.Call (.Attribute o m apos) (e::es) [] pos) (Z66 C m sp [] E0 ta t):=by
 obtain⟨f,fd,F,hm,hb⟩:=O.ex
 exact Z88 he c hm F hr hb .nil Z69 ha hst hpl ht
theorem Yf{X:Cx}{k:Nat}{C:Addr}{m:Str}{ps:List Str}{sp:Sp}{o:Expr}{ta:TE}{apos pos:Pos}{pl:Sem Bool}(O:OwnM X.prog X.w X.K X.mg X.base k C m ps sp)(c:Cls X.K C)(hr:Room k X.A)(he:PE X o ta)
  (ht:eval (.Call (.Attribute o m apos) [] [] pos) X.env=(do
   let ov ← eval o X.env
   standAt apos.atName
   let(f,first) ← holding [ov] (getMethod ov m pl)
   callWith pos f first (backTo pos (starEach [] X.env)) (backToKw pos (keywordEach [] X.env))):=by rfl):PE X (.Call (.Attribute o m apos) [] [] pos) (Z66 C m sp [] E0 ta Z4n):=by
 obtain⟨f,fd,F,hm,hb⟩:=O.ex
 exact Zaw he c hm F hr hb .nil Z69 ht
structure OwnC(P:Program)(w:World)(K:W.Frag)(mg:Str->Option Value)(base:Heap)(k:Nat)(C:Addr)(x:Str)(ps:List Str)(sp:Sp):Prop where
 ex:∃f fd,FnOk P w K mg base Wq k f fd ps sp/\Mk K C f/\mg x=some (.ref C)/\Binds K fd ps []
end Seek
namespace L2
open PySem PySem.Spec PyProof.Rows
section
variable{X:Cx}
theorem Zb2(hu:X.A.units<cLine):Z4x X (compareOp .NotEq) (fun x y H Q=>∃(p r:Addr) (xs:List V),x=.ref p/\y=.ref r/\SqL X.K H p xs/\SqL X.K H r []/\Q (.bl (!xs.isEmpty)) H):=by
 intro Z4 s σ H x y v u Q I rx ry h
 obtain⟨p,r,xs,rfl,rfl,hp,hr,q⟩:=h
 cases rx
 cases ry
 obtain⟨its,rv,pl,hz⟩:=I.list hp
 obtain⟨its2,rv2,pl2,hz2⟩:=I.list hr
 cases rv2
 cases rv with
 |nil=>exact PySem.EqBoolInt.of_rcne (SeqAt.RcNeAt.lists (e:=fun _=>true) pl.isList pl2.isList (by simp) hu (fun j h1 h2=>absurd h1 (by simp))) ⟨.bl false,H,I,rfl,q⟩
 |cons r1 r2=>exact PySem.EqBoolInt.of_rcne (SeqAt.RcNeAt.lists_lengths pl.isList pl2.isList (by simp) hu) ⟨.bl true,H,I,rfl,q⟩
end
end L2
namespace Seek
open PySem PySem.Spec PyProof.Rows L2
theorem OwnC.mono{P:Program}{w:World}{K:W.Frag}{mg:Str->Option Value}{base:Heap}{j k:Nat}{C:Addr}{x:Str}{ps:List Str}{sp:Sp}(O:OwnC P w K mg base j C x ps sp)(h:j<=k):OwnC P w K mg base k C x ps sp:=by
 obtain⟨f,fd,F,r⟩:=O.ex
 exact⟨f,fd,F.mono h,r⟩
theorem Z87{X:Cx}{k:Nat}{C:Addr}{x:Str}{ps:List Str}{sp:Sp}{p pos:Pos}{e:Expr}{es:List Expr}{t:TA}(O:OwnC X.prog X.w X.K X.mg X.base k C x ps sp)(hr:Room (k+1) X.A)(hg:Gl X x)(ha:PA X (e::es) t)
  (hdb:(x==("__debug__":Str))=false:=by decide) (he:starEach (e::es) X.env=(false,eval e X.env)::starEach es X.env:=by rfl) (hpl:(backTo pos (starEach es X.env)).any (·.1)=false:=by rfl) :
  PE X (.Call (.Name x p) (e::es) [] pos) (Zfe C sp [] E0 t):=by
 obtain⟨f,fd,F,M,hm,hb⟩:=O.ex
 exact Zdw M F hr hg hm hb .nil Z69 ha hdb he hpl
end Seek
namespace L2
open PySem PySem.Spec PyProof.Rows
def sub(x:Str)(a b:Nat):Str:=⟨((x.cps.toList.drop a).take (b-a)).toArray⟩
theorem Zj8{k:Int}{L:Nat}(h:0<=k):min k (L:Int)=min ((min k.toNat L:Nat):Int) (L:Int):=by
 obtain⟨a,rfl⟩:=Int.eq_ofNat_of_zero_le h
 rw[Int.toNat_natCast]
 by_cases e:a<=L
 ·rw[Nat.min_eq_left e]
 ·rw[Nat.min_eq_right (Nat.le_of_not_le e),Int.min_eq_right (Int.ofNat_le.mpr (Nat.le_of_not_le e)),Int.min_self]
theorem Z3b{a b L:Nat}(h:¬min a L<=min b L):b<a/\b<L:=by omega
theorem Uv{x:Str}{i j:Int}(h0:0<=i)(h1:0<=j):Txt.slice x (some i) (some j)=sub x i.toNat j.toNat:=by
 have hl:x.cps.toList.length=x.length:=by simp[Str.length]
 have clip:Builtin.Str.strSliceIndices (some i) (some j) 1 x.length=Builtin.Str.strSliceIndices (some ((min i.toNat x.length:Nat):Int)) (some ((min j.toNat x.length:Nat):Int)) 1 x.length:=by
  unfold Builtin.Str.strSliceIndices
  have e1:¬i<0:=by omega
  have e2:¬j<0:=by omega
  have e3:¬((min i.toNat x.length:Nat):Int)<0:=Int.not_lt.mpr (Int.natCast_nonneg _)
  have e4:¬((min j.toNat x.length:Nat):Int)<0:=Int.not_lt.mpr (Int.natCast_nonneg _)
  simp only[e1,e2,e3,e4,if_false,show(1:Int)>0 by decide,if_true]
  congr 1 <;> rw[Zj8 (by assumption)]
 have ed:(x.cps.toList.drop (min i.toNat x.length)).take (min j.toNat x.length-min i.toNat x.length)=(x.cps.toList.drop i.toNat).take (j.toNat-i.toNat):=by
  by_cases hi:i.toNat<=x.length
  ·rw[Nat.min_eq_left hi]
   by_cases hj:j.toNat<=x.length
   ·rw[Nat.min_eq_left hj]
   ·rw[Nat.min_eq_right (by omega),List.take_of_length_le (by rw[List.length_drop];omega),List.take_of_length_le (by rw[List.length_drop];omega)]
  ·have e5:min i.toNat x.length=x.length:=by omega
   rw[e5,List.drop_of_length_le (show x.cps.toList.length<=x.length by omega),List.drop_of_length_le (show x.cps.toList.length<=i.toNat by omega)]
   simp
 by_cases hab:min i.toNat x.length<=min j.toNat x.length
 ·have e:Txt.slice x (some i) (some j)=StrLaws.sliceText x (some ((min i.toNat x.length:Nat):Int)) (some ((min j.toNat x.length:Nat):Int)):=by
   unfold Txt.slice StrLaws.sliceText
   rw[clip]
  rw[e,StrLaws.sliceText_nat x hab (Nat.min_le_right _ _),ed]
  rfl
 ·have em:Builtin.Str.strSliceIndices (some i) (some j) 1 x.length=[]:=by
   rw[clip]
   unfold Builtin.Str.strSliceIndices sliceRange
   have e3:¬((min i.toNat x.length:Nat):Int)<0:=Int.not_lt.mpr (Int.natCast_nonneg _)
   have e4:¬((min j.toNat x.length:Nat):Int)<0:=Int.not_lt.mpr (Int.natCast_nonneg _)
   simp only[e3,e4,if_false,show(1:Int)>0 by decide,if_true]
   rw[if_neg (by omega)]
   rfl
  have hlt:j.toNat-i.toNat=0:=Nat.sub_eq_zero_of_le (Nat.le_of_lt (Z3b hab).1)
  have hp:0<x.length:=Nat.lt_of_le_of_lt (Nat.zero_le _) (Z3b hab).2
  unfold Txt.slice sub
  rw[em,hlt,if_neg (by simp;omega)]
  simp
def Zke:V->Option Int->Option Int->Hp->VK->Prop:=fun x lo hi H Q=>∃z:Str,x=.str z/\z.length<=sizeLine/\Q (.str (Txt.slice z lo hi)) H
section
variable{X:Cx}
theorem Wj:Zk2 X Zke:=by
 intro Z4 s σ H x v vl vu lo hi sl Q I rx hs pl pu h
 obtain⟨z,rfl,hz,q⟩:=h
 obtain⟨t,rfl⟩:=rx
 have part:∀ {v:Value} {o:Option Int},IsPart v o->∃p:Option (Int×Tok),v=partValue p/\p.map (·.1)=o:=by
  intro v o h
  cases h with
  |none=>exact⟨none,rfl,rfl⟩
  |int i t=>exact⟨some (i,t),rfl,rfl⟩
 obtain⟨l,rfl,rfl⟩:=part pl
 obtain⟨u,rfl,rfl⟩:=part pu
 exact⟨"str",_,F.slot_str_getitem.lookup,typeIs_str _ _ _,wpAny_getItem_str_slice (l:=l) (u:=u) (st:=none) hs rfl (post_val_or_str ⟨Nat.le_trans (Txt.slice_le z _ _) hz,fun t' k=>⟨.str _,H,I.tok _,⟨_,rfl⟩,q⟩⟩)⟩
end
end L2
namespace HT
open PySem PySem.Spec PyProof.Rows
section
variable{prog:Program}{w:World}{A:Around}{E:Value->Shared->Prop}{s:Shared}
theorem cat_tup0{t b:Addr}{vs ws:List Value}{Q:Value->Shared->Prop}(ht:IsTup s.heap t vs.toArray)(hb:IsTup s.heap b ws.toArray)(hv:vs=[])(h1:Q (.ref b) s):wpAny (model prog w) A (binaryOp .Add (.ref t) (.ref b)) Q E s:=by
 obtain⟨⟨cls,dd,data,sl⟩,ho,hc,n,hd⟩:=id ht
 obtain⟨⟨cls2,dd2,data2,sl2⟩,ho2,hc2,n2,hd2⟩:=id hb
 simp only at hc hd hc2 hd2
 subst hc hd hc2 hd2
 exact concat_meets ⟨_,ho,rfl⟩ ⟨_,ho2,rfl⟩ noFill_tuple_add seq_tuple_add PySem.F.slot_tuple_add PySem.F.entry_tuple_add (PySem.F.args_tuple_add_2 _ _)
  (tuple_addW0 t b vs.toArray ws.toArray n n2 dd dd2 sl sl2 (by simp[hv])) ⟨ho,ho2,h1⟩
end
end HT
namespace L2
open PySem PySem.Spec PyProof.Rows
section
variable{X:Cx}
def Zfh(K:W.Frag):R2:=fun x y H Q=>∃a b xs ys,x=.ref a/\y=.ref b/\SqT K H a xs/\SqT K H b ys/\xs.length+ys.length<=sizeLine /\
 (xs=[]->Q (.ref b) H)/\(xs≠[]->ys=[]->Q (.ref a) H)/\(xs≠[]->ys≠[]->∀p,H p=none->Q (.ref p) (Zq H p (.tup (xs++ys))))
theorem Z8e:Z4x X (binaryOp .Add) (Zfh X.K):=by
 intro Z4 s σ H x y v u Q I rx ry h
 obtain⟨a,b,xs,ys,e1,e2,ha,hb,hz,q0,q1,q2⟩:=h
 by_cases hx:xs=[]
 ·subst e1 e2
  cases rx
  cases ry
  obtain⟨its,r1,p1,_⟩:=I.tuple ha
  obtain⟨its2,r2,p2,_⟩:=I.tuple hb
  exact HT.cat_tup0 p1 p2 (r1.nil_iff.mpr hx) ⟨.ref b,H,I,rfl,q0 hx⟩
 ·exact Ze1 Z4 s σ H x y v u Q I rx ry ⟨a,b,xs,ys,e1,e2,ha,hb,hx,hz,q1 hx,q2 hx⟩
end
end L2
namespace Seek
open PySem PySem.Spec PyProof.Rows L2
theorem Zhl{xs:List V}{k:Nat}(h:k<=xs.length):Jz xs none (some (k:Int))=xs.take k:=by
 unfold Jz
 rw[HT.sIx_none,HT.sIx_nat,List.drop_zero,Nat.min_eq_left h,Nat.sub_zero]
theorem Zbu{xs:List V}{k:Nat}(h:k<=xs.length):Jz xs (some (k:Int)) none=xs.drop k:=by
 unfold Jz
 rw[HT.sIx_none,HT.sIx_nat,Nat.min_eq_left h]
 exact List.take_of_length_le (by rw[List.length_drop];exact Nat.le_refl _)
inductive Rw where
 |pat (h:Hd) | tup (xs:List V)
abbrev Cd:=Nat->List Rw
def Tq:List Cd->Cd
 | [],_=>[]
 |c::cs,b=>c b++Tq cs (b+(c b).length)
def X5(g:List V):List Cd->Cd
 | [],_=>[]
 | [c],b=>c b
 |c::d::cs,b=>.tup [.str "try",.int ((b:Int)+(c (b+1)).length+2)]::(c (b+1)++.tup g::X5 g (d::cs) (b+(c (b+1)).length+2))
def goes:List Cd->Nat->Nat->List Nat
 | [],_,_=>[]
 | [_],_,_=>[]
 |c::d::cs,b,s=>(s+1+(c (b+1)).length)::goes (d::cs) (b+(c (b+1)).length+2) (s+(c (b+1)).length+2)
def Z0w(lo:Int)(hi:Option Int)(how:Str)(c:Cd):Cd:=fun b =>
 .tup [.str "turns"]::.tup [.str "turn",.int lo,Zac hi,.str how,.int ((b:Int)+3+(c (b+2)).length)]::(c (b+2)++[.tup [.str "next",.int lo,.int ((b:Int)+1)]])
def Tt(lo:Int)(hi:Option Int)(how:How)(c:Cd):Cd:=match how with
 |.keep=>fun b=>.tup [.str "once"]::(Z0w lo hi "much" c (b+1)++[.tup [.str "kept"]])
 |h=>Z0w lo hi h.text c
def Z93(k:Int)(y n:Cd):Cd:=fun b =>
 .tup [.str "have",.int k,.int ((b:Int)+(y (b+1)).length+2)]::(y (b+1)++.tup [.str "go",.int ((b:Int)+(y (b+1)).length+2+(n (b+(y (b+1)).length+2)).length)]::n (b+(y (b+1)).length+2))
def Lk.last:Lk->Str
 |.once=>"kept" |.ahead=>"peeked" |.behind=>"peeked" |.notahead=>"barred" |.notbehind=>"barred"
def Lk.leans:Lk->Bool
 |.behind=>true | .notbehind=>true | _=>false
def Lk.inner(l:Lk)(c:Cd):Cd:=fun b=>match l.leans with
 |true=>.tup [.str "lean"]::(c (b+2)++[.tup [.str "here"]])
 |false=>c (b+1)
def Ui(l:Lk)(c:Cd):Cd:=fun b=>(match l.last=="barred" with
 |true=>Rw.tup [.str "bar",.int ((b:Int)+2+(l.inner c b).length)]
 |false=>.tup [.str "once"])::(l.inner c b++[.tup [.str l.last]])
def Zcz(cs:List Cd):Cd:=cs.headD fun _=>[]
def Zhs(z:Int):List V:=[.str "go",.int z]
def Zhq(cs:List Cd):Cd:=fun b=>X5 (Zhs ((b:Int)+(X5 [] cs b).length)) cs b
def Hd.code(h:Hd)(cs:List Cd):Cd:=match h with
 |.row=>Tq cs
 |.alt=>Zhq cs
 |.times lo hi how=>Tt lo hi how (Zcz cs)
 |.grp k=>fun b=>.tup [.str "open"]::(Zcz cs (b+1)++[.tup [.str "close",.int k]])
 |.hav k=>Z93 k (Zcz cs) (Zcz cs.tail)
 |.look l=>Ui l (Zcz cs)
 |h=>fun _=>[.pat h]
mutual
def Pat.code:Pat->Cd
 |.node h ks=>h.code (Z97 ks)
def Z97:List Pat->List Cd
 | []=>[]
 |k::ks=>k.code::Z97 ks
end
theorem Za6(ks:List Pat):Z97 ks=ks.map Pat.code:=by
 induction ks with
 |nil=>rfl
 |cons k ks ih=>rw[Z97,ih];rfl
theorem Z0c(h:Hd)(ks:List Pat):(Pat.node h ks).code=h.code (ks.map Pat.code):=by rw[Pat.code,Za6]
def Zd3(c:Cd)(n:Nat):Prop:=∀b,(c b).length+2<=7*n
theorem Z23(g:List V):∀(cs:List Cd) (b:Nat),(X5 g cs b).length=(X5 [] cs b).length
 | [],_=>rfl
 | [_],_=>rfl
 |c::d::cs,b=>by
  have:=Z23 g (d::cs) (b+(c (b+1)).length+2)
  simp only[X5,List.length_cons,List.length_append]at this ⊢
  omega
theorem Zdy(cs:List Cd)(b:Nat):(Zhq cs b).length=(X5 [] cs b).length:=Z23 _ cs b
theorem Ut(lo:Int)(hi:Option Int)(how:Str)(c:Cd)(b:Nat):(Z0w lo hi how c b).length=(c (b+2)).length+3:=by simp[Z0w]
theorem Zbo(l:Lk)(c:Cd)(b:Nat):∃j,(l.inner c b).length<=(c j).length+2:=by
 unfold Lk.inner
 cases l.leans
 ·exact⟨_,Nat.le_add_right _ 2⟩
 ·exact⟨b+2,by simp⟩
theorem Z04:∀ {ks:List Pat},(∀k∈ks,Zd3 k.code k.size)->∀b,(Tq (ks.map Pat.code) b).length<=7*Yc ks
 | [],_,b=>by simp[Tq,Yc]
 |k::ks,h,b=>by
  have h1:=h k (by simp) b
  have h2:=Z04 (ks:=ks) (fun z hz=>h z (by simp[hz])) (b+(k.code b).length)
  rw[List.map_cons,Tq,List.length_append,Yc]
  omega
theorem Z3o:∀ {ks:List Pat},(∀k∈ks,Zd3 k.code k.size)->∀b,(X5 [] (ks.map Pat.code) b).length<=7*Yc ks
 | [],_,b=>by simp[X5,Yc]
 | [k],h,b=>by
  have h1:=h k (by simp) b
  simp only[List.map_cons,List.map_nil,X5,Yc]
  omega
 |k::l::ks,h,b=>by
  have h1:=h k (by simp) (b+1)
  have h2:=Z3o (ks:=l::ks) (fun z hz=>h z (by simp at hz;simp[hz])) (b+(k.code (b+1)).length+2)
  simp only[List.map_cons,X5,List.length_cons,List.length_append]at h2 ⊢
  rw[Yc]
  omega
theorem Z5w{ks:List Pat}(h:∀k∈ks,Zd3 k.code k.size):∀b,(Zcz (ks.map Pat.code) b).length+2<=7*Yc ks+2:=fun b=>by
 cases ks with
 |nil=>simp[Zcz]
 |cons k ks =>
  have h1:=h k (by simp) b
  simp only[Zcz,List.map_cons,List.headD_cons,Yc]
  omega
mutual
theorem Pat.code_fits:∀p:Pat,Zd3 p.code p.size
 |.node h ks=>by
  have ih:=Z1s ks
  intro b
  rw[Z0c,Z2z]
  have hh:=Z5w ih
  cases h with
  |row=>have:=Z04 ih b;show(Tq _ b).length+2<=_;omega
  |alt=>have:=Z3o ih b;show(Zhq _ b).length+2<=_;rw[Zdy];omega
  |times lo hi how =>
   show(Tt lo hi how (Zcz (ks.map Pat.code)) b).length+2<=_
   cases how with
   |keep =>
    have:=hh (b+1+2)
    simp only[Tt,List.length_cons,List.length_append,Ut,List.length_nil]
    omega
   |much=>have:=hh (b+2);simp only[Tt,Ut];omega
   |little=>have:=hh (b+2);simp only[Tt,Ut];omega
  |grp k =>
   have:=hh (b+1)
   simp only[Hd.code,List.length_cons,List.length_append,List.length_nil]
   omega
  |hav k =>
   show(Z93 k _ _ b).length+2<=_
   cases ks with
   |nil=>simp[Z93,Zcz,Yc]
   |cons y r =>
    have h1:=ih y (by simp) (b+1)
    have h2:=Z5w (ks:=r) (fun z hz=>ih z (by simp[hz]))
    have h3:=h2 (b+(y.code (b+1)).length+2)
    simp only[Z93,List.map_cons,List.length_cons,List.length_append,Yc,List.tail_cons,Zcz,List.headD_cons]at h3 ⊢
    omega
  |look l =>
   show(Ui l _ b).length+2<=_
   obtain⟨j,hj⟩:=Zbo l (Zcz (ks.map Pat.code)) b
   have:=hh j
   simp only[Ui,List.length_cons,List.length_append,List.length_nil]
   omega
  |_=>simp[Hd.code];omega
theorem Z1s:∀(ks:List Pat),∀k∈ks,Zd3 k.code k.size
 | [],k,hk=>by simp at hk
 |k::ks,z,hz=>by
  rcases List.mem_cons.mp hz with e | hz
  ·rw[e];exact Pat.code_fits k
  ·exact Z1s ks z hz
end
def Ue(G:Rw)(ps:List Nat)(l:List Rw):List Rw:=ps.foldl (fun l p=>l.set p G) l
theorem Zdk(a b:List Rw)(x G:Rw)(p:Nat)(h:p=a.length):(a++x::b).set p G=a++G::b:=by
 subst h
 simp
theorem Z0f(g G:List V):∀(cs:List Cd) (b:Nat) (pre:List Rw),Ue (.tup G) (goes cs b pre.length) (pre++X5 g cs b)=pre++X5 G cs b
 | [],b,pre=>rfl
 | [c],b,pre=>rfl
 |c::d::cs,b,pre=>by
  have ih:=Z0f g G (d::cs) (b+(c (b+1)).length+2) (pre++.tup [.str "try",.int ((b:Int)+(c (b+1)).length+2)]::(c (b+1)++[.tup G]))
  have e:(pre++Rw.tup [.str "try",.int ((b:Int)+(c (b+1)).length+2)]   :: (c (b+1)++[Rw.tup G])).length=pre.length+(c (b+1)).length+2:=by simp;omega
  rw[e]at ih
  simp only[goes,X5]
  show Ue (.tup G) (goes (d::cs) _ _) ((pre++_::(c (b+1)++.tup g::X5 g (d::cs) _)).set _ _)=_
  rw[show pre++Rw.tup [.str "try",.int ((b:Int)+(c (b+1)).length+2)]::(c (b+1)++.tup g::X5 g (d::cs) (b+(c (b+1)).length+2))=(pre++.tup [.str "try",.int ((b:Int)+(c (b+1)).length+2)]::c (b+1))++.tup g::X5 g (d::cs) (b+(c (b+1)).length+2) by simp]
  rw[Zdk _ _ _ _ _ (by simp;omega)]
  simpa using ih
theorem Z8o:∀(cs:List Cd) (b s:Nat),∀p∈goes cs b s,s<=p/\p<s+(X5 [] cs b).length
 | [],_,_,p,h=>by simp[goes]at h
 | [_],_,_,p,h=>by simp[goes]at h
 |c::d::cs,b,s,p,h=>by
  simp only[goes]at h
  simp only[X5,List.length_cons,List.length_append]
  rcases List.mem_cons.mp h with e | h
  ·omega
  ·have:=Z8o (d::cs) _ _ p h
   omega
theorem Z1k(G:Rw):∀(ps:List Nat) (l:List Rw),(Ue G ps l).length=l.length
 | [],_=>rfl
 |p::ps,l=>by
  show(Ue G ps (l.set p G)).length=_
  rw[Z1k,List.length_set]
def RowAt(H:Hp)(v:V):Rw->Prop
 |.pat h=>PatAt H 1 v (.node h [])
 |.tup xs=>∃a,v=.ref a/\H a=some (.tup xs)
theorem RowAt.mono{H H':Hp}(t:∀b xs,H b=some (.tup xs)->H' b=some (.tup xs)){v:V}:∀ {r:Rw},RowAt H v r->RowAt H' v r
 |.pat _,h=>PatAt.mono t h
 |.tup _,⟨a,e,q⟩=>⟨a,e,t _ _ q⟩
theorem Y1{H H':Hp}(t:∀b xs,H b=some (.tup xs)->H' b=some (.tup xs)){vs:List V}{rs:List Rw}(h:Paired (RowAt H) vs rs):Paired (RowAt H') vs rs:=Paired.mapP h fun _ _ q=>q.mono t
theorem Z1l{α β:Type}{F:α->β->Prop}{x:α}{y:β}(q:F x y):∀ {xs:List α} {ys:List β} (i:Nat),Paired F xs ys->Paired F (xs.set i x) (ys.set i y)
 |_,_,_,.nil=>.nil
 |_,_,0,.cons _ t=>.cons q t
 |_,_,i+1,.cons r t=>.cons r (Z1l q i t)
theorem Zy{α β:Type}{F:α->β->Prop}:∀ {xs xs':List α} {ys ys':List β},Paired F xs ys->Paired F xs' ys'->Paired F (xs++xs') (ys++ys')
 |_,_,_,_,.nil,s=>s
 |_,_,_,_,.cons r t,s=>.cons r (Zy t s)
def Wr(g:List V):List Cd->Cd
 | [],_=>[]
 |c::cs,b=>.tup [.str "try",.int ((b:Int)+(c (b+1)).length+2)]::(c (b+1)++.tup g::Wr g cs (b+(c (b+1)).length+2))
def Jy:List Cd->Nat->Nat->List Nat
 | [],_,_=>[]
 |c::cs,b,s=>(s+1+(c (b+1)).length)::Jy cs (b+(c (b+1)).length+2) (s+(c (b+1)).length+2)
theorem Z3n(g:List V):∀(cs:List Cd) (d:Cd) (b:Nat),X5 g (cs++[d]) b=Wr g cs b++d (b+(Wr g cs b).length)
 | [],d,b=>rfl
 | [c],d,b=>by
  simp only[List.cons_append,List.nil_append,X5,Wr,List.append_assoc,List.length_cons,List.length_append,List.length_nil]
  rw[show b+(c (b+1)).length+2=b+((c (b+1)).length+(0+1)+1) by omega]
 |c::e::cs,d,b=>by
  have ih:=Z3n g (e::cs) d (b+(c (b+1)).length+2)
  rw[List.cons_append]at ih
  have e1:Wr g (c::e::cs) b=.tup [.str "try",.int ((b:Int)+(c (b+1)).length+2)]::(c (b+1)++.tup g::Wr g (e::cs) (b+(c (b+1)).length+2)):=rfl
  rw[List.cons_append,List.cons_append,X5,ih,e1]
  generalize Wr g (e::cs) (b+(c (b+1)).length+2)=Z
  simp only[List.cons_append,List.append_assoc,List.length_cons,List.length_append]
  rw[show b+(c (b+1)).length+2+Z.length=b+((c (b+1)).length+(Z.length+1)+1) by omega]
theorem Z3f:∀(cs:List Cd) (d:Cd) (b s:Nat),goes (cs++[d]) b s=Jy cs b s
 | [],d,b,s=>rfl
 | [c],d,b,s=>rfl
 |c::e::cs,d,b,s=>by
  have ih:=Z3f (e::cs) d (b+(c (b+1)).length+2) (s+(c (b+1)).length+2)
  rw[List.cons_append]at ih
  rw[List.cons_append,List.cons_append,goes,ih]
  rfl
theorem Z35(g:List V):∀(cs:List Cd) (c:Cd) (b m:Nat),m=b+(Wr g cs b).length->Wr g (cs++[c]) b=Wr g cs b++(.tup [.str "try",.int ((m:Int)+(c (m+1)).length+2)]::(c (m+1)++[.tup g]))
 | [],c,b,m,h=>by rw[show m=b from h];rfl
 |d::cs,c,b,m,h=>by
  have ih:=Z35 g cs c (b+(d (b+1)).length+2) m (by rw[h];simp only[Wr,List.length_cons,List.length_append];omega)
  rw[List.cons_append,Wr,ih,Wr]
  simp
theorem Z34:∀(cs:List Cd) (c:Cd) (b s m:Nat),m=b+(Wr [] cs b).length->Jy (cs++[c]) b s=Jy cs b s++[s+(Wr [] cs b).length+1+(c (m+1)).length]
 | [],c,b,s,m,h=>by rw[show m=b from h];simp[Jy,Wr]
 |d::cs,c,b,s,m,h=>by
  have ih:=Z34 cs c (b+(d (b+1)).length+2) (s+(d (b+1)).length+2) m (by rw[h];simp only[Wr,List.length_cons,List.length_append];omega)
  rw[List.cons_append,Jy,ih,Jy]
  simp only[List.cons_append,Wr,List.length_cons,List.length_append]
  rw[show s+(d (b+1)).length+2+(Wr [] cs (b+(d (b+1)).length+2)).length+1+(c (m+1)).length=s+((d (b+1)).length+((Wr [] cs (b+(d (b+1)).length+2)).length+1)+1)+1+(c (m+1)).length by omega]
theorem Z06:∀(ks:List Pat) (b:Nat),(Wr [] (ks.map Pat.code) b).length<=7*Yc ks
 | [],b=>by simp[Wr,Yc]
 |k::ks,b=>by
  have h1:=Pat.code_fits k (b+1)
  have h2:=Z06 ks (b+(k.code (b+1)).length+2)
  simp only[List.map_cons,Wr,List.length_cons,List.length_append]at h2 ⊢
  rw[Yc]
  omega
theorem Zbq(cs:List Cd)(b:Nat):∀p∈goes cs b 0,p<(X5 [] cs b).length:=fun p h=>by have:=Z8o cs b 0 p h;omega
abbrev J0:List V:=[.str "sign",.str "any",.str "in",.str "out",.str "begin",.str "end",.str "again"]
abbrev V1:List V:=[.str "behind",.str "notbehind"]
abbrev V9:List (Us×V):=[(.inr "once",.str "kept"),(.inr "ahead",.str "peeked"),(.inr "behind",.str "peeked"),(.inr "notahead",.str "barred"),(.inr "notbehind",.str "barred")]
def Wd.leaf:Wd->Bool
 |.sign=>true | .any=>true | .inn=>true | .out=>true | .beg=>true | .fin=>true | .again=>true | _=>false
theorem Zai(h:Hd):Zfm (.str h.word) J0=h.wd.leaf:=by rw[h.word_wd];cases h.wd <;> decide +kernel
theorem Z8j(l:Lk):Zfm (.str l.text) V1=l.leans:=by cases l <;> decide +kernel
theorem Z8l(l:Lk):Z2s V9 (Sum.inr l.text)=some (.str l.last):=by cases l <;> decide +kernel
theorem Z9x{h:Hd}(e:h.wd.leaf=true)(cs:List Cd)(b:Nat):h.code cs b=[.pat h]:=by
 cases h with
 |look l=>cases l <;> exact absurd e (by decide)
 |row=>exact absurd e (by decide)
 |alt=>exact absurd e (by decide)
 |times _ _ _=>exact absurd e (by simp[Hd.wd,Wd.leaf])
 |grp _=>exact absurd e (by simp[Hd.wd,Wd.leaf])
 |hav _=>exact absurd e (by simp[Hd.wd,Wd.leaf])
 |_=>rfl
theorem PatAt.leafy{H:Hp}{n:Nat}{v:V}{h:Hd}{ks:List Pat}(p:PatAt H (n+1) v (.node h ks))(e:h.wd.leaf=true):PatAt H 1 v (.node h []):=by
 obtain⟨a,kv,rfl,l,k⟩:=p
 have z:kv=[]:=by
  cases h with
  |look lk=>cases lk <;> exact absurd e (by decide)
  |row=>exact absurd e (by decide)
  |alt=>exact absurd e (by decide)
  |times _ _ _=>exact absurd e (by simp[Hd.wd,Wd.leaf])
  |grp _=>exact absurd e (by simp[Hd.wd,Wd.leaf])
  |hav _=>exact absurd e (by simp[Hd.wd,Wd.leaf])
  |again n=>exact l.2.1
  |_=>exact l.1
 subst z
 exact⟨a,[],rfl,l,.nil⟩
theorem Z7v{n:Nat}(h:n<=1000000):n<sizeLine:=Nat.lt_of_le_of_lt h (by rw[sizeLine_eq];decide)
theorem Ua{n j:Nat}(h:j<n):Zcy n (j:Int)=some j:=by
 unfold Zcy
 rw[if_pos (by omega),if_pos (by omega)]
 simp
theorem Xf{H:Hp}{r t:Addr}{xs:List V}{o:HO}(hr:H r=some (.lst xs))(ht:H t=none):(Zq H t o) r=some (.lst xs):=by rw[Zt (Za hr ht)];exact hr
theorem W4{H:Hp}{r t:Addr}{xs zs:List V}{o:HO}(hr:H r=some (.lst xs))(ht:H t=none):Gro [r] H (Zq (Zq H t o) r (.lst zs)):=(Gro.new ht _).trans (Gro.set (by simp) (Xf hr ht) _)
theorem W3{H:Hp}{r t:Addr}{xs ys zs:List V}(hr:H r=some (.lst xs))(ht:H t=none):(Zq (Zq H t (.tup ys)) r (.lst zs)) t=some (.tup ys):=by rw[Zt (Ne.symm (Za hr ht))];exact Z3
theorem T9{a b:List V}{x y:V}{p:Nat}(h:p=a.length):(a++x::b).set p y=a++y::b:=by subst h;simp
theorem Zbt{kv:List V}(h:1<=kv.length):Jz kv none (some (-1))=kv.take (kv.length-1)/\¬(HT.sIx kv.length 0 none=0/\HT.sIx kv.length kv.length (some (-1))=kv.length):=by
 have e0:HT.sIx kv.length 0 none=0:=rfl
 have e1:HT.sIx kv.length kv.length (some (-1))=kv.length-1:=by
  unfold HT.sIx
  simp
  omega
 refine⟨?_,fun z=>?_⟩
 ·unfold Jz
  rw[e0,e1]
  simp
 ·rw[e1]at z
  omega
theorem Z4j{kv:List V}{d:V}(h:kv.getLast? = some d):Z6e kv (-1)=some d:=by
 have hl:kv≠[]:=fun z=>by rw[z]at h;simp at h
 have hp:=List.length_pos_iff.mpr hl
 unfold Z6e Zcy
 rw[if_neg (by decide),if_pos (by omega)]
 rw[List.getLast?_eq_getElem?]at h
 show kv[((-1:Int)+kv.length).toNat]? = some d
 rw[show((-1:Int)+kv.length).toNat=kv.length-1 by omega]
 exact h
def Vo(t:Str)(i:Nat):Str:=⟨#[t.cps.toList.getD i 0]⟩
def Wu(rs:List (Str×Str))(c:Str):Bool:=rs.any fun r=>!decide (c.cps.toList<r.1.cps.toList) && !decide (r.2.cps.toList<c.cps.toList)
def Hd.one:Hd->Bool
 |.sign _=>true | .any=>true | .inn _=>true | .out _=>true | _=>false
def Hd.eats(h:Hd)(c:Str):Bool:=match h with
 |.sign s=>decide (V.str s=V.str c) | .any=>true | .inn rs=>Wu rs c | .out rs=>!Wu rs c | _=>false
def Zl(h:Hd)(t:Str)(i:Int):Bool:=if i<t.length then h.eats (Vo t i.toNat) else false
theorem Z4w{t:Str}{i:Int}(h0:0<=i)(h1:i<t.length):Z6e t.cps.toList i=some (t.cps.toList.getD i.toNat 0):=by
 have hl:i.toNat<t.cps.toList.length:=by
  have:t.cps.toList.length=t.length:=by simp[Str.length]
  omega
 have:=Wm (xs:=t.cps.toList) (j:=i.toNat) (v:=t.cps.toList.getD i.toNat 0) (by rw[List.getD_eq_getElem?_getD,List.getElem?_eq_getElem hl];rfl)
 rw[Int.toNat_of_nonneg h0]at this
 exact this
abbrev En:=Option (Nat×Nat)
abbrev Gs:=List En
abbrev Hl:=List (Nat×Nat)
abbrev Ch:=Nat×Nat×Gs×Hl
abbrev Yb:=Nat×Gs
inductive Op where
 |pat (h:Hd) | try_ (z:Nat) | go (z:Nat) | have_ (k:Int) (z:Nat) | turns | open_ | close (k:Int) | turn (lo:Int) (hi:Option Int) (how:How) (z:Nat) | next (lo:Int) (z:Nat)
 |once | kept | peeked | bar (z:Nat) | barred | lean | here | found
def Op.rw:Op->Rw
 |.pat h=>.pat h
 |.try_ z=>.tup [.str "try",.int z]
 |.go z=>.tup [.str "go",.int z]
 |.have_ k z=>.tup [.str "have",.int k,.int z]
 |.turns=>.tup [.str "turns"]
 |.open_=>.tup [.str "open"]
 |.close k=>.tup [.str "close",.int k]
 |.turn lo hi how z=>.tup [.str "turn",.int lo,Zac hi,.str how.text,.int z]
 |.next lo z=>.tup [.str "next",.int lo,.int z]
 |.once=>.tup [.str "once"]
 |.kept=>.tup [.str "kept"]
 |.peeked=>.tup [.str "peeked"]
 |.bar z=>.tup [.str "bar",.int z]
 |.barred=>.tup [.str "barred"]
 |.lean=>.tup [.str "lean"]
 |.here=>.tup [.str "here"]
 |.found=>.tup [.str "found"]
structure Cg where
 r:Nat
 i:Nat
 g:Gs
 h:Hl
 cs:List Ch
inductive Cf where
 |run (c:Cg) | ended
def bk(cs:List Ch):Cf:=match cs.getLast? with
 |none=>.ended
 |some q=>.run ⟨q.1,q.2.1,q.2.2.1,q.2.2.2,cs.dropLast⟩
theorem Uc(cs:List Ch)(q:Ch):bk (cs++[q])=.run ⟨q.1,q.2.1,q.2.2.1,q.2.2.2,cs⟩:=by
 unfold bk
 rw[List.getLast?_append,List.dropLast_concat]
 rfl
def ent(g:Gs)(k:Int):En:=(g.getD (k-1).toNat none)
def put(g:Gs)(k:Int)(a b:Nat):Gs:=g.take (k-1).toNat++[some (a,b)]++g.drop k.toNat
def Ws(hi:Option Int)(n:Nat):Bool:=match hi with
 |none=>true
 |some h=>decide ((n:Int)<h)
def Op.act(t:Str):Op->Cg->Cf
 |.pat .beg,c=>if c.i=0 then .run c else bk c.cs
 |.pat .fin,c=>if c.i=t.length then .run c else bk c.cs
 |.pat (.again k),c=>match ent c.g k with
  |none=>bk c.cs
  |some p=>if sub t c.i (c.i+(p.2-p.1))=sub t p.1 p.2 then .run { c with i:=c.i+(p.2-p.1) } else bk c.cs
 |.pat h,c=>if Zl h t c.i=true then .run { c with i:=c.i+1 } else bk c.cs
 |.try_ z,c=>.run { c with cs:=c.cs++[(z,c.i,c.g,c.h)] }
 |.go z,c=>.run { c with r:=z }
 |.have_ k z,c=>match ent c.g k with
  |none=>.run { c with r:=z }
  |some _=>.run c
 |.turns,c=>.run { c with h:=(0,c.i)::c.h }
 |.open_,c=>.run { c with h:=(0,c.i)::c.h }
 |.close k,c=>match c.h with
  | []=>.ended
  |p::h=>.run { c with h:=h,g:=put c.g k p.2 c.i }
 |.turn lo hi how z,c=>match c.h with
  | []=>.ended
  |p::h=>if Ws hi p.1=true then
    (if lo<=p.1 then(match how with
     |.little=>.run ⟨z,c.i,c.g,h,c.cs++[(c.r,c.i,c.g,(p.1,c.i)::h)]⟩
     |_=>.run ⟨c.r,c.i,c.g,(p.1,c.i)::h,c.cs++[(z,c.i,c.g,h)]⟩)
    else .run ⟨c.r,c.i,c.g,(p.1,c.i)::h,c.cs⟩)
   else if lo<=p.1 then .run ⟨z,c.i,c.g,h,c.cs⟩ else bk c.cs
 |.next lo z,c=>match c.h with
  | []=>.ended
  |p::h=>if lo<=p.1/\c.i=p.2 then bk c.cs else .run ⟨z,c.i,c.g,(p.1+1,p.2)::h,c.cs⟩
 |.once,c=>.run { c with h:=(c.cs.length,c.i)::c.h }
 |.kept,c=>match c.h with
  | []=>.ended
  |p::h=>.run { c with h:=h,cs:=c.cs.take p.1 }
 |.peeked,c=>match c.h with
  | []=>.ended
  |p::h=>.run { c with i:=p.2,h:=h,cs:=c.cs.take p.1 }
 |.bar z,c=>.run { c with h:=(c.cs.length,c.i)::c.h,cs:=c.cs++[(z,c.i,c.g,c.h)] }
 |.barred,c=>match c.h with
  | []=>.ended
  |p::_=>bk (c.cs.take p.1)
 |.lean,c=>if 0<c.i then .run { c with cs:=c.cs++[(c.r-1,c.i-1,c.g,c.h)] } else .run c
 |.here,c=>match c.h with
  | []=>.ended
  |p::_=>if c.i=p.2 then .run c else bk c.cs
 |.found,c=>.run c
def Op.need(n:Nat)(c:Cg):Op->Prop
 |.close k=>(1<=k/\k<=n)/\c.h≠[]
 |.turn _ _ _ _=>c.h≠[]
 |.next _ _=>c.h≠[]
 |.kept=>c.h≠[]
 |.peeked=>c.h≠[]
 |.barred=>c.h≠[]
 |.here=>c.h≠[]
 |.pat (.again k)=>1<=k/\k<=n
 |.have_ k _=>1<=k/\k<=n
 |.found=>False
 |_=>True
structure GOk(t:Str)(n:Nat)(g:Gs):Prop where
 len:g.length=n
 ok:∀x y,some (x,y)∈g->x<=y/\y<=t.length
structure Lv(es:List Op)(t:Str)(n:Nat)(c:Cg):Prop where
 r:c.r<es.length
 i:c.i<=t.length
 g:GOk t n c.g
 op:(es.getD c.r .found).need n c
def step(es:List Op)(t:Str):Cf->Cf
 |.ended=>.ended
 |.run c=>(es.getD c.r .found).act t { c with r:=c.r+1 }
def run(es:List Op)(t:Str):Nat->Cf->Cf
 |0,M=>M
 |k+1,M=>step es t (run es t k M)
theorem Jm(es:List Op)(t:Str)(a:Nat):∀(b:Nat) (M:Cf),run es t (a+b) M=run es t b (run es t a M)
 |0,M=>rfl
 |b+1,M=>by
  show step es t (run es t (a+b) M)=step es t (run es t b (run es t a M))
  rw[Jm es t a b M]
structure Rc(es:List Op)(t:Str)(n:Nat)(M:Cf)(k:Nat)(M':Cf):Prop where
 live:∀j,j<k->∃c,run es t j M=.run c/\Lv es t n c
 eq:run es t k M=M'
section
variable{es:List Op}{t:Str}{n:Nat}
theorem Rc.refl{M:Cf}:Rc es t n M 0 M:=⟨fun j h=>absurd h (by omega),rfl⟩
theorem Rc.trans{M M1 M2:Cf}{a b:Nat}(h1:Rc es t n M a M1)(h2:Rc es t n M1 b M2):Rc es t n M (a+b) M2:=by
 refine⟨fun j hj=>?_,by rw[Jm,h1.eq,h2.eq]⟩
 by_cases h:j<a
 ·exact h1.live j h
 ·have:=h2.live (j-a) (by omega)
  rw[← h1.eq,← Jm,show a+(j-a)=j by omega]at this
  exact this
theorem Rc.one{c:Cg}{M:Cf}{o:Op}(ho:es[c.r]? = some o)(hi:c.i<=t.length)(hg:GOk t n c.g)(hn:o.need n c)(e:o.act t { c with r:=c.r+1 }=M):Rc es t n (.run c) 1 M:=by
 have hd:es.getD c.r .found=o:=by rw[List.getD_eq_getElem?_getD,ho];rfl
 refine⟨fun j hj=>?_,?_⟩
 ·rw[show j=0 by omega]
  exact⟨c,rfl,(List.getElem?_eq_some_iff.mp ho).1,hi,hg,by rw[hd];exact hn⟩
 ·show(es.getD c.r .found).act t _=M
  rw[hd]
  exact e
inductive Yl(es:List Op)(t:Str)(n:Nat)(e:Nat)(h:Hl)(cs:List Ch):Cf->List Yb->Nat->Prop where
 |nil {M:Cf} {j k:Nat} (r:Rc es t n M j (bk cs)) (hk:j<=k):Yl es t n e h cs M [] k
 |cons {M:Cf} {j k k':Nat} {w:Yb} {ws:List Yb} {xs:List Ch} (r:Rc es t n M j (.run ⟨e,w.1,w.2,h,cs++xs⟩)) (y:Yl es t n e h cs (bk (cs++xs)) ws k') (hk:j+k'<=k):Yl es t n e h cs M (w::ws) k
variable{e:Nat}{h:Hl}{cs:List Ch}
theorem Yl.mono{M:Cf}{ws:List Yb}{k k':Nat}(y:Yl es t n e h cs M ws k)(hk:k<=k'):Yl es t n e h cs M ws k':=by
 cases y with
 |nil r h1=>exact .nil r (by omega)
 |cons r y h1=>exact .cons r y (by omega)
theorem Yl.pre{M M':Cf}{ws:List Yb}{j k:Nat}(r:Rc es t n M j M')(y:Yl es t n e h cs M' ws k):Yl es t n e h cs M ws (j+k):=by
 cases y with
 |nil r' h1=>exact .nil (r.trans r') (by omega)
 |cons r' y h1=>exact .cons (r.trans r') y (by omega)
theorem Yl.one{w:Yb}{xs:List Ch}(hx:xs=[]):Yl es t n e h cs (.run ⟨e,w.1,w.2,h,cs++xs⟩) [w] 0:=by
 subst hx
 refine .cons (xs:=[]) (j:=0) (k':=0) Rc.refl (.nil (j:=0) ?_ (Nat.le_refl _)) (Nat.le_refl _)
 rw[List.append_nil]
 exact Rc.refl
theorem Yl.app{M:Cf}{xs:List Ch}{ws1 ws2:List Yb}{k1 k2:Nat}(y1:Yl es t n e h (cs++xs) M ws1 k1)(y2:Yl es t n e h cs (bk (cs++xs)) ws2 k2):Yl es t n e h cs M (ws1++ws2) (k1+k2):=by
 induction y1 with
 |nil r hk=>exact(y2.pre r).mono (by omega)
 |cons r y hk ih =>
  rename_i M j k k' w ws xs'
  rw[List.append_assoc]at r ih
  have r':Rc es t n M j (.run ⟨e,w.1,w.2,h,cs++(xs++xs')⟩):=r
  have ih':Yl es t n e h cs (bk (cs++(xs++xs'))) (ws++ws2) (k'+k2):=ih
  exact .cons r' ih' (by omega)
theorem Yl.map1{M:Cf}{ws:List Yb}{k e2:Nat}{h2:Hl}{f:Yb->Yb}(y:Yl es t n e h cs M ws k)(hf:∀w∈ws,∀xs,Rc es t n (.run ⟨e,w.1,w.2,h,cs++xs⟩) 1 (.run ⟨e2,(f w).1,(f w).2,h2,cs++xs⟩)) :
  Yl es t n e2 h2 cs M (ws.map f) (k+ws.length):=by
 induction y with
 |nil r hk=>exact .nil r (by simp;omega)
 |cons r y hk ih =>
  rename_i M j k k' w ws xs
  rw[List.map_cons,List.length_cons]
  have ih':=ih fun v hv=>hf v (by simp[hv])
  exact .cons (r.trans (hf w (by simp) xs)) ih' (by omega)
end
def Hd.nm(n:Int):Hd->Prop
 |.grp k=>1<=k/\k<=n | .again k=>1<=k/\k<=n | .hav k=>1<=k/\k<=n | _=>True
mutual
def Pat.nm(n:Int):Pat->Prop
 |.node h ks=>h.nm n/\Zia n ks
def Zia(n:Int):List Pat->Prop
 | []=>True
 |k::ks=>k.nm n/\Zia n ks
end
theorem Z8g{n:Int}:∀ {ks:List Pat},Zia n ks↔∀k∈ks,k.nm n
 | []=>by simp[Zia]
 |k::ks=>by rw[Zia,Z8g (ks:=ks)];simp
theorem nm_node{n:Int}{h:Hd}{ks:List Pat}:(Pat.node h ks).nm n↔h.nm n/\∀k∈ks,k.nm n:=by rw[Pat.nm,Z8g]
abbrev Co:=Nat->List Op
def Z4o:List Co->Co
 | [],_=>[]
 |c::cs,b=>c b++Z4o cs (b+(c b).length)
def Ur(e:Nat):List Co->Co
 | [],_=>[]
 | [c],b=>c b
 |c::d::cs,b=>.try_ (b+(c (b+1)).length+2)::(c (b+1)++.go e::Ur e (d::cs) (b+(c (b+1)).length+2))
def U6(lo:Int)(hi:Option Int)(how:How)(c:Co):Co:=fun b=>.turns::.turn lo hi how (b+3+(c (b+2)).length)::(c (b+2)++[.next lo (b+1)])
def Zfr(lo:Int)(hi:Option Int)(how:How)(c:Co):Co:=match how with
 |.keep=>fun b=>.once::(U6 lo hi .much c (b+1)++[.kept])
 |h=>U6 lo hi h c
def Z79(k:Int)(y n:Co):Co:=fun b=>.have_ k (b+(y (b+1)).length+2)::(y (b+1)++.go (b+(y (b+1)).length+2+(n (b+(y (b+1)).length+2)).length)::n (b+(y (b+1)).length+2))
def Z92(l:Lk)(c:Co):Co:=fun b=>match l.leans with
 |true=>.lean::(c (b+2)++[.here])
 |false=>c (b+1)
def Lk.lastO:Lk->Op
 |.once=>.kept | .ahead=>.peeked | .behind=>.peeked | .notahead=>.barred | .notbehind=>.barred
def Lk.bars:Lk->Bool
 |.notahead=>true | .notbehind=>true | _=>false
def Uh(l:Lk)(c:Co):Co:=fun b=>(if l.bars=true then .bar (b+2+(Z92 l c b).length) else .once)::(Z92 l c b++[l.lastO])
def Za9(cs:List Co):Co:=cs.headD fun _=>[]
def Zl4(cs:List Co):Co:=fun b=>Ur (b+(Ur 0 cs b).length) cs b
def Hd.ops(h:Hd)(cs:List Co):Co:=match h with
 |.row=>Z4o cs
 |.alt=>Zl4 cs
 |.times lo hi how=>Zfr lo hi how (Za9 cs)
 |.grp k=>fun b=>.open_::(Za9 cs (b+1)++[.close k])
 |.hav k=>Z79 k (Za9 cs) (Za9 cs.tail)
 |.look l=>Uh l (Za9 cs)
 |h=>fun _=>[.pat h]
mutual
def Pat.ops:Pat->Co
 |.node h ks=>h.ops (Zf8 ks)
def Zf8:List Pat->List Co
 | []=>[]
 |k::ks=>k.ops::Zf8 ks
end
theorem Zb1(ks:List Pat):Zf8 ks=ks.map Pat.ops:=by
 induction ks with
 |nil=>rfl
 |cons k ks ih=>rw[Zf8,ih];rfl
theorem Z1y(h:Hd)(ks:List Pat):(Pat.node h ks).ops=h.ops (ks.map Pat.ops):=by rw[Pat.ops,Zb1]
def Same2(c:Co)(c':Cd):Prop:=∀b,(c b).map Op.rw=c' b
theorem Same2.len{c:Co}{c':Cd}(h:Same2 c c')(b:Nat):(c' b).length=(c b).length:=by rw[← h b,List.length_map]
theorem Z63(e e':Nat):∀(cs:List Co) (b:Nat),(Ur e cs b).length=(Ur e' cs b).length
 | [],_=>rfl
 | [_],_=>rfl
 |c::d::cs,b=>by
  have:=Z63 e e' (d::cs) (b+(c (b+1)).length+2)
  simp only[Ur,List.length_cons,List.length_append]at this ⊢
  omega
section
variable{ks:List Pat}(ih:∀k∈ks,Same2 k.ops k.code)
include ih
theorem Zap:Same2 (Z4o (ks.map Pat.ops)) (Tq (ks.map Pat.code)):=by
 induction ks with
 |nil=>intro b;rfl
 |cons k ks hk =>
  intro b
  have h1:=ih k (by simp)
  have h2:=hk (fun x hx=>ih x (by simp[hx])) (b+(k.ops b).length)
  simp only[List.map_cons,Z4o,Tq,List.map_append]
  rw[h1.len b,h2,h1 b]
theorem Z5j(e:Nat):∀b,(Ur e (ks.map Pat.ops) b).map Op.rw=X5 (Zhs (e:Int)) (ks.map Pat.code) b:=by
 induction ks with
 |nil=>intro b;rfl
 |cons k ks hk =>
  intro b
  have h1:=ih k (by simp)
  cases ks with
  |nil=>exact h1 b
  |cons l ks =>
   have h2:=hk (fun x hx=>ih x (by simp at hx;simp[hx])) (b+(k.ops (b+1)).length+2)
   simp only[List.map_cons]at h2
   simp only[List.map_cons,Ur,X5,List.map_append]
   rw[h1.len (b+1),h2,h1 (b+1)]
   simp only[Op.rw,Zhs]
   congr 1
theorem Zdm:Same2 (Zl4 (ks.map Pat.ops)) (Zhq (ks.map Pat.code)):=by
 intro b
 have hl:(X5 [] (ks.map Pat.code) b).length=(Ur 0 (ks.map Pat.ops) b).length:=by
  have:=congrArg List.length (Z5j ih 0 b)
  rw[List.length_map,Z23]at this
  exact this.symm
 unfold Zl4 Zhq
 rw[Z5j ih,hl]
 congr 2
theorem Z83:Same2 (Za9 (ks.map Pat.ops)) (Zcz (ks.map Pat.code)):=by
 cases ks with
 |nil=>intro b;rfl
 |cons k ks=>exact ih k (by simp)
end
theorem Z03{lo:Int}{hi:Option Int}{how:How}{c:Co}{c':Cd}(h:Same2 c c'):Same2 (U6 lo hi how c) (Z0w lo hi how.text c'):=by
 intro b
 simp only[U6,Z0w,List.map_cons,List.map_append,List.map_nil,Op.rw]
 rw[h.len (b+2),h (b+2)]
 congr 2
theorem Z9g{l:Lk}{c:Co}{c':Cd}(h:Same2 c c'):Same2 (Uh l c) (Ui l c'):=by
 intro b
 have hin:(Z92 l c b).map Op.rw=l.inner c' b:=by
  unfold Z92 Lk.inner
  cases l.leans
  ·exact h _
  ·simp only[List.map_cons,List.map_append,List.map_nil,Op.rw];rw[h]
 have hil:(l.inner c' b).length=(Z92 l c b).length:=by rw[← hin,List.length_map]
 unfold Uh Ui
 rw[List.map_cons,List.map_append,hin,hil]
 cases l <;> simp[Lk.bars,Lk.last,Lk.lastO,Op.rw] <;> first | rfl | omega | skip
mutual
theorem Pat.ops_rw:∀p:Pat,Same2 p.ops p.code
 |.node h ks=>by
  have ih:=Z8c ks
  rw[Z1y,Z0c]
  have hh:=Z83 ih
  cases h with
  |row=>exact Zap ih
  |alt=>exact Zdm ih
  |times lo hi how =>
   cases how with
   |keep =>
    intro b
    have:=Z03 (lo:=lo) (hi:=hi) (how:=.much) hh (b+1)
    show(Op.once::(U6 lo hi .much _ (b+1)++[.kept])).map Op.rw=_
    rw[List.map_cons,List.map_append,this]
    rfl
   |much=>exact Z03 hh
   |little=>exact Z03 hh
  |grp k =>
   intro b
   show(Op.open_::(Za9 _ (b+1)++[.close k])).map Op.rw=_
   rw[List.map_cons,List.map_append,hh (b+1)]
   rfl
  |hav k =>
   intro b
   have ht:Same2 (Za9 (ks.map Pat.ops).tail) (Zcz (ks.map Pat.code).tail):=by
    cases ks with
    |nil=>intro b;rfl
    |cons y r=>exact Z83 fun z hz=>ih z (by simp[hz])
   show(Z79 k _ _ b).map Op.rw=Z93 k _ _ b
   simp only[Z79,Z93,List.map_cons,List.map_append,Op.rw]
   rw[hh.len (b+1),ht.len,hh (b+1),ht]
   congr 1
  |look l=>exact Z9g hh
  |_=>intro b;rfl
theorem Z8c:∀ks:List Pat,∀k∈ks,Same2 k.ops k.code
 | [],_,hk=>by simp at hk
 |k::ks,x,hx=>by
  rcases List.mem_cons.mp hx with h | h
  ·rw[h]
   exact Pat.ops_rw k
  ·exact Z8c ks x h
end
def Sits(es:List Op)(b:Nat)(l:List Op):Prop:=∃r,es.drop b=l++r
theorem Sits.cons{es:List Op}{b:Nat}{x:Op}{l:List Op}(h:Sits es b (x::l)):es[b]? = some x/\Sits es (b+1) l:=by
 obtain⟨r,e⟩:=h
 refine⟨?_,r,?_⟩
 ·have:(es.drop b)[0]? = some x:=by rw[e];rfl
  rw[List.getElem?_drop]at this
  exact this
 ·rw[← List.drop_drop,e]
  rfl
theorem Sits.app{es:List Op}{b:Nat}{l l':List Op}(h:Sits es b (l++l')):Sits es b l/\Sits es (b+l.length) l':=by
 obtain⟨r,e⟩:=h
 refine⟨⟨l'++r,by rw[e,List.append_assoc]⟩,r,?_⟩
 rw[← List.drop_drop,e,List.append_assoc,List.drop_left']
 rfl
abbrev Wk:=Pat->Nat->Gs->List Yb->Nat->Prop
inductive Ew(W:Wk)(p:Pat):List Yb->List Yb->Nat->Prop where
 |nil:Ew W p [] [] 0
 |cons {w:Yb} {vs us ws:List Yb} {N N':Nat} (h:W p w.1 w.2 ws N) (r:Ew W p vs us N'):Ew W p (w::vs) (ws++us) (N+N')
inductive Rx(W:Wk):List Pat->List Yb->List Yb->Nat->Prop where
 |nil {ws:List Yb}:Rx W [] ws ws 0
 |cons {p:Pat} {ks:List Pat} {ws vs us:List Yb} {N N':Nat} (h:Ew W p ws vs N) (r:Rx W ks vs us N'):Rx W (p::ks) ws us (N+N')
inductive Ax(W:Wk)(i:Nat)(g:Gs):List Pat->List Yb->Nat->Prop where
 |nil:Ax W i g [] [] 0
 |cons {p:Pat} {ks:List Pat} {ws us:List Yb} {N N':Nat} (h:W p i g ws N) (r:Ax W i g ks us N'):Ax W i g (p::ks) (ws++us) (N+N')
inductive Lx(T:Nat->Nat->Gs->List Yb->Nat->Prop)(lo:Int)(m i:Nat):List Yb->List Yb->Nat->Prop where
 |nil:Lx T lo m i [] [] 0
 |go {w:Yb} {vs us ws:List Yb} {N N':Nat} (c:(m:Int)<lo∨i<w.1) (h:T (m+1) w.1 w.2 ws N) (r:Lx T lo m i vs us N'):Lx T lo m i (w::vs) (ws++us) (N+N')
 |skip {w:Yb} {vs us:List Yb} {N:Nat} (c:¬((m:Int)<lo∨i<w.1)) (r:Lx T lo m i vs us N):Lx T lo m i (w::vs) us N
def Tx(W:Wk)(lo:Int)(hi:Option Int)(how:How)(p:Pat):Nat->Nat->Nat->Gs->List Yb->Nat->Prop
 |0=>fun _ _ _ _ _=>False
 |e+1=>fun m i g ws N=>∃on N1,((Ws hi m=true/\∃vs Na Nb,W p i g vs Na/\Lx (Tx W lo hi how p e) lo m i vs on Nb/\N1=Na+Nb)∨(Ws hi m=false/\on=[]/\N1=0))/\N=N1+1 /\
  ws=if(m:Int)<lo then on else if how=.little then(i,g)::on else on++[(i,g)]
inductive Bx(W:Wk)(p:Pat)(i:Nat)(g:Gs):Nat->List Yb->Nat->Prop where
 |here {k:Nat} {vs:List Yb} {N:Nat} (h:W p k g vs N) (c:vs.filter (fun w=>w.1==i)≠[]):Bx W p i g k (vs.filter fun w=>w.1==i) N
 |down {k:Nat} {vs ws:List Yb} {N N':Nat} (h:W p (k+1) g vs N) (c:vs.filter (fun w=>w.1==i)=[]) (r:Bx W p i g k ws N'):Bx W p i g (k+1) ws (N+N')
 |last {vs:List Yb} {N:Nat} (h:W p 0 g vs N) (c:vs.filter (fun w=>w.1==i)=[]):Bx W p i g 0 [] N
def Zl6(t:Str)(i:Nat)(g:Gs)(k:Int):List Yb:=match ent g k with
 |none=>[]
 |some p=>if sub t i (i+(p.2-p.1))=sub t p.1 p.2 then[(i+(p.2-p.1),g)] else[]
def Ziy(l:Lk)(i:Nat)(g:Gs)(us:List Yb):List Yb:=match l with
 |.once=>us.take 1
 |.ahead=>(us.take 1).map fun w=>(i,w.2)
 |.behind=>(us.take 1).map fun w=>(i,w.2)
 |_=>if us.isEmpty=true then[(i,g)] else[]
def Wy(t:Str):Nat->Wk
 |0=>fun _ _ _ _ _=>False
 |d+1=>fun p i g ws N=>match p with
  |.node .beg _=>ws=(if i=0 then[(i,g)] else[])/\N=1
  |.node .fin _=>ws=(if i=t.length then[(i,g)] else[])/\N=1
  |.node (.again k) _=>ws=Zl6 t i g k/\N=1
  |.node .row ks=>∃N',Rx (Wy t d) ks [(i,g)] ws N'/\N=N'+1
  |.node .alt ks=>ks≠[]/\∃N',Ax (Wy t d) i g ks ws N'/\N=N'+1
  |.node (.times lo hi how) ks=>∃p e us N',ks=[p]/\Tx (Wy t d) lo hi how p e 0 i g us N'/\N=N'+1/\ws=if how=.keep then us.take 1 else us
  |.node (.grp k) ks=>∃p us N',ks=[p]/\Wy t d p i g us N'/\N=N'+1/\ws=us.map fun w=>(w.1,put w.2 k i w.1)
  |.node (.hav k) ks=>∃p q N',ks=[p,q]/\Wy t d (if(ent g k).isSome=true then p else q) i g ws N'/\N=N'+1
  |.node (.look l) ks=>∃p us N',ks=[p]/\(if l.leans=true then Bx (Wy t d) p i g i us N' else Wy t d p i g us N')/\N=N'+1/\ws=Ziy l i g us
  |.node h _=>ws=(if Zl h t i=true then[(i+1,g)] else[])/\N=1
structure Gd(t:Str)(n i:Nat)(w:Yb):Prop where
 lo:i<=w.1
 hi:w.1<=t.length
 g:GOk t n w.2
structure Gw(t:Str)(n i:Nat)(ws:List Yb)(N:Nat):Prop where
 all:∀w∈ws,Gd t n i w
 len:ws.length<=N
 pos:1<=N
def GW(t:Str)(n:Nat)(W:Wk):Prop:=∀p i g ws N,p.nm n->i<=t.length->GOk t n g->W p i g ws N->Gw t n i ws N
theorem Gd.trans{t:Str}{n i j:Nat}{w:Yb}(h:Gd t n j w)(hi:i<=j):Gd t n i w:=⟨Nat.le_trans hi h.lo,h.hi,h.g⟩
theorem Zgp{t:Str}{n a b:Nat}{g:Gs}{k:Int}(h:GOk t n g)(h1:1<=k)(h2:k<=n)(ab:a<=b)(hb:b<=t.length):GOk t n (put g k a b):=by
 have hl:=h.len
 refine⟨?_,fun x y hm=>?_⟩
 ·unfold put
  simp only[List.length_append,List.length_take,List.length_drop,List.length_singleton]
  omega
 ·unfold put at hm
  rcases List.mem_append.mp hm with hm | hm
  ·rcases List.mem_append.mp hm with hm | hm
   ·exact h.ok x y (List.mem_of_mem_take hm)
   ·have:=List.mem_singleton.mp hm
    injection this with this
    injection this with e1 e2
    subst e1 e2
    exact⟨ab,hb⟩
  ·exact h.ok x y (List.mem_of_mem_drop hm)
theorem Zcl{t:Str}{n:Nat}{g:Gs}{k:Int}{p:Nat×Nat}(h:GOk t n g)(e:ent g k=some p):p.1<=p.2/\p.2<=t.length:=by
 unfold ent at e
 rw[List.getD_eq_getElem?_getD]at e
 cases hh:g[(k-1).toNat]? with
 |none=>rw[hh]at e;cases e
 |some x =>
  rw[hh]at e
  have:x=some p:=e
  subst this
  exact h.ok p.1 p.2 (List.mem_of_getElem? hh)
section
variable{t:Str}{n:Nat}{W:Wk}(gw:GW t n W)
include gw
theorem Ew.good{p:Pat}{i:Nat}{vs ws:List Yb}{N:Nat}(hp:p.nm n)(h:Ew W p vs ws N)(hv:∀w∈vs,Gd t n i w):(∀w∈ws,Gd t n i w)/\ws.length<=N/\vs.length<=N:=by
 induction h with
 |nil=>exact⟨fun w hw=>by simp at hw,by simp,by simp⟩
 |cons h r ih =>
  rename_i w vs us ws N N'
  have a:=hv w (by simp)
  have b:=gw p w.1 w.2 ws N hp a.hi a.g h
  obtain⟨c1,c2,c3⟩:=ih fun x hx=>hv x (by simp[hx])
  refine⟨fun x hx=>?_,by rw[List.length_append];have:=b.len;omega,by rw[List.length_cons];have:=b.pos;omega⟩
  rcases List.mem_append.mp hx with hx | hx
  ·exact(b.all x hx).trans a.lo
  ·exact c1 x hx
theorem Rx.good{i:Nat}{ks:List Pat}{vs ws:List Yb}{N:Nat}(h:Rx W ks vs ws N)(hk:∀k∈ks,k.nm n)(hv:∀w∈vs,Gd t n i w):(∀w∈ws,Gd t n i w)/\ws.length<=max vs.length N:=by
 induction h with
 |nil=>exact⟨hv,by omega⟩
 |cons h r ih =>
  obtain⟨a1,a2,a3⟩:=h.good gw (hk _ (by simp)) hv
  obtain⟨b1,b2⟩:=ih (fun k hk'=>hk k (by simp[hk'])) a1
  exact⟨b1,by omega⟩
theorem Ax.good{i:Nat}{g:Gs}{ks:List Pat}{ws:List Yb}{N:Nat}(h:Ax W i g ks ws N)(hk:∀k∈ks,k.nm n)(hi:i<=t.length)(hg:GOk t n g):(∀w∈ws,Gd t n i w)/\ws.length<=N/\ks.length<=N:=by
 induction h with
 |nil=>exact⟨fun w hw=>by simp at hw,by simp,by simp⟩
 |cons h r ih =>
  have a:=gw _ i g _ _ (hk _ (by simp)) hi hg h
  obtain⟨b1,b2,b3⟩:=ih fun k hk'=>hk k (by simp[hk'])
  refine⟨fun x hx=>?_,by rw[List.length_append];have:=a.len;omega,by rw[List.length_cons];have:=a.pos;omega⟩
  rcases List.mem_append.mp hx with hx | hx
  ·exact a.all x hx
  ·exact b1 x hx
omit gw in
theorem Lx.good{T:Nat->Nat->Gs->List Yb->Nat->Prop}{lo:Int}{m i:Nat}{vs ws:List Yb}{N:Nat}(gt:∀m i g ws N,i<=t.length->GOk t n g->T m i g ws N->Gw t n i ws N)(h:Lx T lo m i vs ws N)(hv:∀w∈vs,Gd t n i w):(∀w∈ws,Gd t n i w)/\ws.length<=N:=by
 induction h with
 |nil=>exact⟨fun w hw=>by simp at hw,by simp⟩
 |go c h r ih =>
  rename_i w vs us ws N N'
  have a:=hv w (by simp)
  have b:=gt _ _ _ _ _ a.hi a.g h
  obtain⟨c1,c2⟩:=ih fun x hx=>hv x (by simp[hx])
  refine⟨fun x hx=>?_,by rw[List.length_append];have:=b.len;omega⟩
  rcases List.mem_append.mp hx with hx | hx
  ·exact(b.all x hx).trans a.lo
  ·exact c1 x hx
 |skip c r ih=>exact ih fun x hx=>hv x (by simp[hx])
theorem Tx.good{lo:Int}{hi:Option Int}{how:How}{p:Pat}(hp:p.nm n):∀(e:Nat) (m i:Nat) (g:Gs) (ws:List Yb) (N:Nat),i<=t.length->GOk t n g->Tx W lo hi how p e m i g ws N->Gw t n i ws N
 |0,_,_,_,_,_,_,_,h=>h.elim
 |e+1,m,i,g,ws,N,hi',hg,h=>by
  obtain⟨on,N1,hon,rfl,rfl⟩:=h
  have o:(∀w∈on,Gd t n i w)/\on.length<=N1:=by
   rcases hon with⟨_,vs,Na,Nb,h1,h2,rfl⟩ | ⟨_,rfl,rfl⟩
   ·have a:=gw p i g vs Na hp hi' hg h1
    obtain⟨b1,b2⟩:=Lx.good (fun m i g ws N=>Tx.good hp e m i g ws N) h2 a.all
    exact⟨b1,by omega⟩
   ·exact⟨fun w hw=>by simp at hw,by simp⟩
  have me:Gd t n i (i,g):=⟨Nat.le_refl _,hi',hg⟩
  split
  ·exact⟨o.1,by omega,by omega⟩
  ·split
   ·refine⟨fun w hw=>?_,by rw[List.length_cons];omega,by omega⟩
    rcases List.mem_cons.mp hw with rfl | hw
    ·exact me
    ·exact o.1 w hw
   ·refine⟨fun w hw=>?_,by rw[List.length_append,List.length_singleton];omega,by omega⟩
    rcases List.mem_append.mp hw with hw | hw
    ·exact o.1 w hw
    ·rw[List.mem_singleton.mp hw];exact me
theorem Bx.good{p:Pat}{i k:Nat}{g:Gs}{ws:List Yb}{N:Nat}(hp:p.nm n)(hg:GOk t n g)(h:Bx W p i g k ws N)(hk:k<=t.length):(∀w∈ws,w.1=i/\w.1<=t.length/\GOk t n w.2)/\ws.length<=N/\1<=N:=by
 induction h with
 |here h c =>
  have a:=gw p _ g _ _ hp hk hg h
  refine⟨fun w hw=>?_,Nat.le_trans (List.length_filter_le _ _) a.len,a.pos⟩
  obtain⟨h1,h2⟩:=List.mem_filter.mp hw
  have b:=a.all w h1
  exact⟨by simpa using h2,b.hi,b.g⟩
 |down h c r ih =>
  obtain⟨b1,b2,b3⟩:=ih (by omega)
  exact⟨b1,by omega,by omega⟩
 |last h c =>
  have a:=gw p _ g _ _ hp hk hg h
  exact⟨fun w hw=>by simp at hw,by simp,a.pos⟩
end
theorem Zan{h:Hd}{t:Str}{i:Nat}(e:Zl h t i=true):i<t.length:=by
 unfold Zl at e
 split at e
 ·omega
 ·cases e
theorem Wy.good{t:Str}{n:Nat}:∀d,GW t n (Wy t d)
 |0=>fun _ _ _ _ _ _ _ _ h=>h.elim
 |d+1=>by
  intro p i g ws N hp hi hg h
  have ih:=Wy.good (t:=t) (n:=n) d
  obtain⟨hd,ks⟩:=p
  have hp':=nm_node.mp hp
  have one:∀c:Prop,[Decidable c]->∀w:Yb,(c->Gd t n i w)->Gw t n i (if c then[w] else[]) 1:=fun c _ w hw=>by
   split
   ·rename_i hc
    exact⟨fun x hx=>by rw[List.mem_singleton.mp hx];exact hw hc,by simp,by omega⟩
   ·exact⟨fun x hx=>by simp at hx,by simp,by omega⟩
  have me:Gd t n i (i,g):=⟨Nat.le_refl _,hi,hg⟩
  have sg:∀h:Hd,ws=(if Zl h t i=true then[(i+1,g)] else[])->N=1->Gw t n i ws N:=fun h e1 e2=>by
   rw[e1,e2]
   exact one _ (i+1,g) fun e=>⟨by show i<=i+1;omega,by have:=Zan e;show i+1<=_;omega,hg⟩
  cases hd with
  |beg=>obtain⟨rfl,rfl⟩:=h;exact one _ _ fun _=>me
  |fin=>obtain⟨rfl,rfl⟩:=h;exact one _ _ fun _=>me
  |sign s=>exact sg _ h.1 h.2
  |any=>exact sg _ h.1 h.2
  |inn s=>exact sg _ h.1 h.2
  |out s=>exact sg _ h.1 h.2
  |again k =>
   obtain⟨rfl,rfl⟩:=h
   unfold Zl6
   cases he:ent g k with
   |none=>exact⟨fun x hx=>by simp at hx,by simp,by omega⟩
   |some q =>
    obtain⟨q1,q2⟩:=Zcl hg he
    refine one _ _ fun e=>⟨by show i<=i+_;omega,?_,hg⟩
    have h1:(sub t q.1 q.2).length=q.2-q.1:=by
     show((t.cps.toList.drop q.1).take (q.2-q.1)).toArray.size=_
     have:t.cps.toList.length=t.length:=by simp[Str.length]
     rw[List.size_toArray,List.length_take,List.length_drop]
     omega
    have h2:(sub t i (i+(q.2-q.1))).length<=t.length-i:=by
     show((t.cps.toList.drop i).take _).toArray.size<=_
     have:t.cps.toList.length=t.length:=by simp[Str.length]
     rw[List.size_toArray,List.length_take,List.length_drop]
     omega
    rw[e,h1]at h2
    show i+(q.2-q.1)<=t.length
    omega
  |row =>
   obtain⟨N',h,rfl⟩:=h
   obtain⟨a,b⟩:=h.good ih hp'.2 (i:=i) fun w hw=>by rw[List.mem_singleton.mp hw];exact me
   exact⟨a,by simp at b;omega,by omega⟩
  |alt =>
   obtain⟨_,N',h,rfl⟩:=h
   obtain⟨a,b,_⟩:=h.good ih hp'.2 hi hg
   exact⟨a,by omega,by omega⟩
  |times lo hi' how =>
   obtain⟨q,e,us,N',rfl,h,rfl,rfl⟩:=h
   have a:=Tx.good ih (hp'.2 q (by simp)) e 0 i g us N' hi hg h
   split
   ·exact⟨fun w hw=>a.all w (List.mem_of_mem_take hw),by rw[List.length_take];have:=a.len;omega,by omega⟩
   ·exact⟨a.all,by have:=a.len;omega,by omega⟩
  |grp k =>
   obtain⟨q,us,N',rfl,h,rfl,rfl⟩:=h
   have a:=ih q i g us N' (hp'.2 q (by simp)) hi hg h
   refine⟨fun w hw=>?_,by rw[List.length_map];have:=a.len;omega,by omega⟩
   obtain⟨v,hv,rfl⟩:=List.mem_map.mp hw
   have b:=a.all v hv
   exact⟨b.lo,b.hi,Zgp b.g hp'.1.1 hp'.1.2 b.lo b.hi⟩
  |hav k =>
   obtain⟨q,q',N',rfl,h,rfl⟩:=h
   have hq:(if(ent g k).isSome=true then q else q').nm n:=by
    split
    ·exact hp'.2 q (by simp)
    ·exact hp'.2 q' (by simp)
   have a:=ih _ i g ws N' hq hi hg h
   exact⟨a.all,by have:=a.len;omega,by omega⟩
  |look l =>
   obtain⟨q,us,N',rfl,h,rfl,rfl⟩:=h
   have hq:=hp'.2 q (by simp)
   have a:(∀w∈us,w.1<=t.length/\GOk t n w.2/\i<=w.1)/\us.length<=N':=by
    split at h
    ·obtain⟨b1,b2,_⟩:=Bx.good ih hq hg h hi
     exact⟨fun w hw=>⟨(b1 w hw).2.1,(b1 w hw).2.2,by have:=(b1 w hw).1;omega⟩,b2⟩
    ·have b:=ih q i g us N' hq hi hg h
     exact⟨fun w hw=>⟨(b.all w hw).hi,(b.all w hw).g,(b.all w hw).lo⟩,b.len⟩
   have tk:∀f:Yb->Yb,(∀w∈us,Gd t n i (f w))->Gw t n i ((us.take 1).map f) (N'+1):=fun f hf=>⟨fun w hw=>by
    obtain⟨v,hv,rfl⟩:=List.mem_map.mp hw
    exact hf v (List.mem_of_mem_take hv),by rw[List.length_map,List.length_take];omega,by omega⟩
   have pk:Gw t n i ((us.take 1).map fun w=>(i,w.2)) (N'+1):=tk _ fun w hw=>⟨Nat.le_refl _,hi,(a.1 w hw).2.1⟩
   have br:Gw t n i (if us.isEmpty=true then[(i,g)] else[]) (N'+1):=by
    have:=one (us.isEmpty=true) (i,g) fun _=>me
    exact⟨this.all,by have:=this.len;omega,by omega⟩
   cases l with
   |once =>
    have:=tk id fun w hw=>⟨(a.1 w hw).2.2,(a.1 w hw).1,(a.1 w hw).2.1⟩
    rw[List.map_id]at this
    exact this
   |ahead=>exact pk
   |behind=>exact pk
   |notahead=>exact br
   |notbehind=>exact br
section
variable{es:List Op}{t:Str}{n:Nat}
theorem Yl.to{e e':Nat}{h:Hl}{cs:List Ch}{M:Cf}{ws:List Yb}{k:Nat}(y:Yl es t n e h cs M ws k)(he:e=e'):Yl es t n e' h cs M ws k:=by
 subst he
 exact y
theorem Yl.cut{e e2:Nat}{h h2:Hl}{cs:List Ch}{M:Cf}{ws:List Yb}{k:Nat}{f:Yb->Yb}(y:Yl es t n e h cs M ws k)(hf:∀w∈ws,∀xs,Rc es t n (.run ⟨e,w.1,w.2,h,cs++xs⟩) 1 (.run ⟨e2,(f w).1,(f w).2,h2,cs⟩)) :
  Yl es t n e2 h2 cs M ((ws.take 1).map f) (k+1):=by
 cases y with
 |nil r hk=>exact .nil r (by omega)
 |cons r y hk =>
  rename_i j k' w ws xs
  have y1:Yl es t n e2 h2 cs (.run ⟨e2,(f w).1,(f w).2,h2,cs⟩) [f w] 0:=by
   have:=Yl.one (es:=es) (t:=t) (n:=n) (e:=e2) (h:=h2) (cs:=cs) (w:=f w) (xs:=[]) rfl
   rw[List.append_nil]at this
   exact this
  exact(y1.pre (r.trans (hf w (by simp) xs))).mono (by omega)
theorem Yl.barred{e e2:Nat}{h h2:Hl}{cs:List Ch}{M:Cf}{ws:List Yb}{k:Nat}{w0:Yb}(y:Yl es t n e h (cs++[(e2,w0.1,w0.2,h2)]) M ws k)(hf:∀w∈ws,∀xs,Rc es t n (.run ⟨e,w.1,w.2,h,(cs++[(e2,w0.1,w0.2,h2)])++xs⟩) 1 (bk cs)) :
  Yl es t n e2 h2 cs M (if ws.isEmpty=true then[w0] else[]) (k+1):=by
 cases y with
 |nil r hk =>
  rw[Uc]at r
  have y1:=Yl.one (es:=es) (t:=t) (n:=n) (e:=e2) (h:=h2) (cs:=cs) (w:=w0) (xs:=[]) rfl
  rw[List.append_nil]at y1
  exact(y1.pre r).mono (by omega)
 |cons r y hk =>
  rename_i j k' w ws xs
  exact .nil (r.trans (hf w (by simp) xs)) (by omega)
def YW(es:List Op)(t:Str)(n:Nat)(W:Wk)(A:Nat):Prop:=∀p i g ws N,p.nm n->i<=t.length->GOk t n g->W p i g ws N->∀b h cs,Sits es b (p.ops b)->Yl es t n (b+(p.ops b).length) h cs (.run ⟨b,i,g,h,cs⟩) ws (A*N)
section
variable{W:Wk}{A:Nat}(yw:YW es t n W A)(gw:GW t n W)
include yw gw
theorem Ew.yl{p:Pat}{b k:Nat}{h:Hl}{cs:List Ch}{M:Cf}{vs:List Yb}(hp:p.nm n)(hs:Sits es b (p.ops b))(y:Yl es t n b h cs M vs k)(hv:∀w∈vs,Gd t n 0 w):∀ {ws:List Yb} {N:Nat},Ew W p vs ws N->Yl es t n (b+(p.ops b).length) h cs M ws (k+A*N):=by
 induction y with
 |nil r hk =>
  intro ws N ew
  cases ew
  exact .nil r (by omega)
 |cons r y hk ih =>
  rename_i M j k k' w vs xs
  intro ws N ew
  cases ew with
  |cons hw ew' =>
   rename_i us ws N N'
   have a:=hv w (by simp)
   have y1:=yw p w.1 w.2 ws N hp a.hi a.g hw b h (cs++xs) hs
   have y2:=ih (fun v hv'=>hv v (by simp[hv'])) ew'
   refine((Yl.app y1 y2).pre r).mono ?_
   rw[Nat.mul_add]
   omega
theorem Rx.yl{h:Hl}{cs:List Ch}{M:Cf}{ks:List Pat}{vs ws:List Yb}{N:Nat}(rx:Rx W ks vs ws N):∀ {b k:Nat},(∀x∈ks,x.nm n)->Sits es b (Z4o (ks.map Pat.ops) b)->Yl es t n b h cs M vs k->(∀w∈vs,Gd t n 0 w)->Yl es t n (b+(Z4o (ks.map Pat.ops) b).length) h cs M ws (k+A*N):=by
 induction rx with
 |nil =>
  intro b k _ _ y _
  exact y.mono (by omega)
 |cons ew rx ih =>
  rename_i p ks ws vs us N N'
  intro b k hk hs y hv
  have hp:=hk p (by simp)
  rw[List.map_cons,Z4o]at hs ⊢
  obtain⟨s1,s2⟩:=hs.app
  have y1:=ew.yl yw gw hp s1 y hv
  have g1:=(ew.good gw hp hv).1
  have y2:=ih (fun x hx=>hk x (by simp[hx])) s2 y1 g1
  refine(y2.to (by rw[List.length_append];omega)).mono ?_
  rw[Nat.mul_add]
  omega
theorem Ax.yl{h:Hl}{i e:Nat}{g:Gs}{ks:List Pat}{ws:List Yb}{N:Nat}(ax:Ax W i g ks ws N)(hi:i<=t.length)(hg:GOk t n g):∀ {b:Nat} {cs:List Ch},ks≠[]->(∀x∈ks,x.nm n)->Sits es b (Ur e (ks.map Pat.ops) b)->e=b+(Ur e (ks.map Pat.ops) b).length->Yl es t n e h cs (.run ⟨b,i,g,h,cs⟩) ws ((A+2)*N):=by
 induction ax with
 |nil=>intro b cs h0;exact absurd rfl h0
 |cons hw ax ih =>
  rename_i p ks ws us N N'
  intro b cs _ hk hs he
  have hp:=hk p (by simp)
  have gd:=gw p i g ws N hp hi hg hw
  cases ks with
  |nil =>
   cases ax
   have hs':Sits es b (p.ops b):=hs
   have y:=yw p i g ws N hp hi hg hw b h cs hs'
   rw[List.append_nil]
   refine(y.to he.symm).mono ?_
   exact Nat.mul_le_mul (by omega) (by omega)
  |cons l ks =>
   simp only[List.map_cons,Ur]at hs he
   obtain⟨c0,s1⟩:=hs.cons
   obtain⟨s2,s3⟩:=s1.app
   obtain⟨c1,s4⟩:=s3.cons
   have r0:Rc es t n (.run ⟨b,i,g,h,cs⟩) 1 (.run ⟨b+1,i,g,h,cs++[(b+(p.ops (b+1)).length+2,i,g,h)]⟩):=Rc.one c0 hi hg trivial rfl
   have y1:=yw p i g ws N hp hi hg hw (b+1) h (cs++[(b+(p.ops (b+1)).length+2,i,g,h)]) s2
   have y2:=y1.map1 (e2:=e) (h2:=h) (f:=id) fun w hw' xs=>Rc.one c1 (gd.all w hw').hi (gd.all w hw').g trivial rfl
   rw[List.map_id]at y2
   have y3:=ih (b:=b+(p.ops (b+1)).length+2) (cs:=cs) (by simp) (fun x hx=>hk x (by simp at hx;simp[hx])) (by rw[show b+(p.ops (b+1)).length+2=b+1+(p.ops (b+1)).length+1 by omega]at s4 ⊢;exact s4) (by rw[List.length_cons,List.length_append,List.length_cons]at he;simp only[List.map_cons]at he ⊢;omega)
   have y3':Yl es t n e h cs (bk (cs++[(b+(p.ops (b+1)).length+2,i,g,h)])) us ((A+2)*N'):=by
    rw[Uc]
    exact y3
   refine((Yl.app y2 y3').pre r0).mono ?_
   have:=gd.len
   have:=gd.pos
   have m1:=Nat.add_mul A 2 N
   have m2:=Nat.mul_add (A+2) N N'
   omega
omit yw gw in
theorem Lx.yl{T:Nat->Nat->Gs->List Yb->Nat->Prop}{lo:Int}{m i b e1 z k B:Nat}{h:Hl}{cs:List Ch}{M:Cf}{vs:List Yb}(c1:es[e1]? = some (.next lo b))(hv:∀w∈vs,Gd t n i w)
  (ty:∀i' g ws N,i'<=t.length->GOk t n g->T (m+1) i' g ws N->∀cs,Yl es t n z h cs (.run ⟨b,i',g,(m+1,i)::h,cs⟩) ws (B*N)) (y:Yl es t n e1 ((m,i)::h) cs M vs k):∀ {ws:List Yb} {N:Nat},Lx T lo m i vs ws N->Yl es t n z h cs M ws (k+vs.length+B*N):=by
 induction y with
 |nil r hk =>
  intro ws N lx
  cases lx
  exact .nil r (by omega)
 |cons r y hk ih =>
  rename_i M j k k' w vs xs
  intro ws N lx
  have a:=hv w (by simp)
  have nd:(Op.next lo b).need n ⟨e1,w.1,w.2,(m,i)::h,cs++xs⟩:=by intro z;cases z
  cases lx with
  |go c hw lx' =>
   rename_i us ws N N'
   have r1:Rc es t n (.run ⟨e1,w.1,w.2,(m,i)::h,cs++xs⟩) 1 (.run ⟨b,w.1,w.2,(m+1,i)::h,cs++xs⟩):=Rc.one c1 a.hi a.g nd (by
    show(if lo<=(m:Int)/\w.1=i then _ else _)=_
    rw[if_neg (by omega)])
   have y1:=(ty w.1 w.2 ws N a.hi a.g hw (cs++xs)).pre r1
   have y2:=ih (fun v hv'=>hv v (by simp[hv'])) lx'
   refine((Yl.app y1 y2).pre r).mono ?_
   rw[Nat.mul_add,List.length_cons]
   omega
  |skip c lx' =>
   have r1:Rc es t n (.run ⟨e1,w.1,w.2,(m,i)::h,cs++xs⟩) 1 (bk (cs++xs)):=Rc.one c1 a.hi a.g nd (by
    show(if lo<=(m:Int)/\w.1=i then _ else _)=_
    have:=a.lo
    rw[if_pos (by omega)])
   have y2:=ih (fun v hv'=>hv v (by simp[hv'])) lx'
   refine((y2.pre r1).pre r).mono ?_
   rw[List.length_cons]
   omega
theorem Tx.yl{lo:Int}{hi:Option Int}{how how':How}{p:Pat}{b z:Nat}{h:Hl}(hw:how'=.little↔how=.little)(hp:p.nm n)(c0:es[b]? = some (.turn lo hi how' z))(hs:Sits es (b+1) (p.ops (b+1)))(c1:es[b+1+(p.ops (b+1)).length]? = some (.next lo b))(hz:z=b+1+(p.ops (b+1)).length+1) :
  ∀(e m i:Nat) (g:Gs) (ws:List Yb) (N:Nat),i<=t.length->GOk t n g->Tx W lo hi how p e m i g ws N->∀(a:Nat) (cs:List Ch),Yl es t n z h cs (.run ⟨b,i,g,(m,a)::h,cs⟩) ws ((A+2)*N)
 |0,_,_,_,_,_,_,_,h=>h.elim
 |e+1,m,i,g,ws,N,hi',hg,tx=>by
  intro a cs
  obtain⟨on,N1,hon,rfl,rfl⟩:=tx
  have nd:(Op.turn lo hi how' z).need n ⟨b,i,g,(m,a)::h,cs⟩:=by intro z;cases z
  have one:∀cs,Yl es t n z h cs (.run ⟨z,i,g,h,cs⟩) [(i,g)] 0:=fun cs=>by
   have:=Yl.one (es:=es) (t:=t) (n:=n) (e:=z) (h:=h) (cs:=cs) (w:=(i,g)) (xs:=[]) rfl
   rw[List.append_nil]at this
   exact this
  rcases hon with⟨hgo,vs,Na,Nb,h1,h2,rfl⟩ | ⟨hgo,rfl,rfl⟩
  ·have gd:=gw p i g vs Na hp hi' hg h1
   have inner:∀cs,Yl es t n z h cs (.run ⟨b+1,i,g,(m,i)::h,cs⟩) on (A*Na+vs.length+(A+2)*Nb):=fun cs =>
    Lx.yl (T:=Tx W lo hi how p e) (b:=b) c1 gd.all (fun i' g' ws' N' x1 x2 x3 cs'=>Tx.yl hw hp c0 hs c1 hz e (m+1) i' g' ws' N' x1 x2 x3 i cs') (yw p i g vs Na hp hi' hg h1 (b+1) ((m,i)::h) cs hs) h2
   have Z13:1+(A*Na+vs.length+(A+2)*Nb)+0<=(A+2)*(Na+Nb+1):=by
    have:=gd.len
    have m1:=Nat.add_mul A 2 Na
    have m2:=Nat.mul_add (A+2) (Na+Nb) 1
    have m3:=Nat.mul_add (A+2) Na Nb
    omega
   by_cases hlo:(m:Int)<lo
   ·rw[if_pos hlo]
    have r0:Rc es t n (.run ⟨b,i,g,(m,a)::h,cs⟩) 1 (.run ⟨b+1,i,g,(m,i)::h,cs⟩):=Rc.one c0 hi' hg nd (by
     show(if Ws hi m=true then(if lo<=(m:Int) then _ else _) else _)=_
     rw[if_pos hgo,if_neg (by omega)])
    exact((inner cs).pre r0).mono (by omega)
   ·rw[if_neg hlo]
    by_cases hl:how=.little
    ·rw[if_pos hl]
     have r0:Rc es t n (.run ⟨b,i,g,(m,a)::h,cs⟩) 1 (.run ⟨z,i,g,h,cs++[(b+1,i,g,(m,i)::h)]⟩):=Rc.one c0 hi' hg nd (by
      show(if Ws hi m=true then(if lo<=(m:Int) then(match how' with | .little=>_ | _=>_) else _) else _)=_
      rw[if_pos hgo,if_pos (by omega),hw.mpr hl])
     have y2:Yl es t n z h cs (bk (cs++[(b+1,i,g,(m,i)::h)])) on (A*Na+vs.length+(A+2)*Nb):=by
      rw[Uc]
      exact inner cs
     exact((Yl.app (one _) y2).pre r0).mono (by omega)
    ·rw[if_neg hl]
     have hl':how'≠.little:=fun z=>hl (hw.mp z)
     have r0:Rc es t n (.run ⟨b,i,g,(m,a)::h,cs⟩) 1 (.run ⟨b+1,i,g,(m,i)::h,cs++[(z,i,g,h)]⟩):=Rc.one c0 hi' hg nd (by
      show(if Ws hi m=true then(if lo<=(m:Int) then(match how' with | .little=>_ | _=>_) else _) else _)=_
      rw[if_pos hgo,if_pos (by omega)]
      cases how' with
      |little=>exact absurd rfl hl'
      |much=>rfl
      |keep=>rfl)
     have y2:Yl es t n z h cs (bk (cs++[(z,i,g,h)])) [(i,g)] 0:=by
      rw[Uc]
      exact one cs
     exact((Yl.app (inner _) y2).pre r0).mono (by omega)
  ·have hgo':¬Ws hi m=true:=by rw[hgo];decide
   by_cases hlo:(m:Int)<lo
   ·rw[if_pos hlo]
    refine .nil (j:=1) (Rc.one c0 hi' hg nd (by
     show(if Ws hi m=true then _ else(if lo<=(m:Int) then _ else _))=_
     rw[if_neg hgo',if_neg (by omega)])) ?_
    rw[Nat.zero_add,Nat.mul_one]
    omega
   ·rw[if_neg hlo]
    have r0:Rc es t n (.run ⟨b,i,g,(m,a)::h,cs⟩) 1 (.run ⟨z,i,g,h,cs⟩):=Rc.one c0 hi' hg nd (by
     show(if Ws hi m=true then _ else(if lo<=(m:Int) then _ else _))=_
     rw[if_neg hgo',if_pos (by omega)])
    have y:=((one cs).pre r0).mono (k':=(A+2)*(0+1)) (by rw[Nat.zero_add,Nat.mul_one];omega)
    split
    ·exact y
    ·exact y
end
end
section
variable{es:List Op}{t:Str}{n:Nat}
theorem Yl.filt{e1 i q k:Nat}{h:Hl}{cs:List Ch}{M:Cf}{vs:List Yb}(c1:es[e1]? = some .here)(y:Yl es t n e1 ((q,i)::h) cs M vs k):(∀w∈vs,w.1<=t.length/\GOk t n w.2) ->
  (∃w us xs j,vs.filter (fun w=>w.1==i)=w::us/\Rc es t n M j (.run ⟨e1+1,w.1,w.2,(q,i)::h,cs++xs⟩)/\j<=k+vs.length)∨(vs.filter (fun w=>w.1==i)=[]/\∃j,Rc es t n M j (bk cs)/\j<=k+vs.length):=by
 induction y with
 |nil r hk=>exact fun _=>.inr ⟨rfl,_,r,by omega⟩
 |cons r y hk ih =>
  rename_i M j k k' w vs xs
  intro hv
  have a:=hv w (by simp)
  have nd:Op.here.need n ⟨e1,w.1,w.2,(q,i)::h,cs++xs⟩:=by intro z;cases z
  by_cases e:w.1=i
  ·have r1:Rc es t n (.run ⟨e1,w.1,w.2,(q,i)::h,cs++xs⟩) 1 (.run ⟨e1+1,w.1,w.2,(q,i)::h,cs++xs⟩):=Rc.one c1 a.1 a.2 nd (by
    show(if w.1=i then _ else _)=_
    rw[if_pos e])
   exact .inl ⟨w,vs.filter (fun w=>w.1==i),xs,j+1,by rw[List.filter_cons_of_pos (by simpa using e)],r.trans r1,by rw[List.length_cons];omega⟩
  ·have r1:Rc es t n (.run ⟨e1,w.1,w.2,(q,i)::h,cs++xs⟩) 1 (bk (cs++xs)):=Rc.one c1 a.1 a.2 nd (by
    show(if w.1=i then _ else _)=_
    rw[if_neg e])
   rw[List.filter_cons_of_neg (by simpa using e),List.length_cons]
   rcases ih fun v hv'=>hv v (by simp[hv']) with⟨w',us,xs',j',h1,h2,h3⟩ | ⟨h1,j',h2,h3⟩
   ·exact .inl ⟨w',us,xs',_,h1,(r.trans r1).trans h2,by omega⟩
   ·exact .inr ⟨h1,_,(r.trans r1).trans h2,by omega⟩
theorem Bx.run{W:Wk}{A:Nat}(yw:YW es t n W A)(gw:GW t n W){p:Pat}{i k q b:Nat}{g:Gs}{us:List Yb}{N:Nat}{h:Hl}{cs:List Ch}(hp:p.nm n)(hg:GOk t n g)(c0:es[b]? = some .lean)(hs:Sits es (b+1) (p.ops (b+1)))(c1:es[b+1+(p.ops (b+1)).length]? = some .here)
  (bx:Bx W p i g k us N):k<=t.length->(∃w us' xs j,us=w::us'/\Rc es t n (.run ⟨b,k,g,(q,i)::h,cs⟩) j (.run ⟨b+1+(p.ops (b+1)).length+1,w.1,w.2,(q,i)::h,cs++xs⟩)/\j<=(A+2)*N) ∨
   (us=[]/\∃j,Rc es t n (.run ⟨b,k,g,(q,i)::h,cs⟩) j (bk cs)/\j<=(A+2)*N):=by
 have lean0:Rc es t n (.run ⟨b,0,g,(q,i)::h,cs⟩) 1 (.run ⟨b+1,0,g,(q,i)::h,cs⟩):=Rc.one c0 (Nat.zero_le _) hg trivial rfl
 have leanS:∀k,k+1<=t.length->Rc es t n (.run ⟨b,k+1,g,(q,i)::h,cs⟩) 1 (.run ⟨b+1,k+1,g,(q,i)::h,cs++[(b,k,g,(q,i)::h)]⟩):=fun k hk=>Rc.one c0 hk hg trivial rfl
 have Z13:∀(vs:List Yb) (N:Nat),vs.length<=N->1<=N->1+(A*N+vs.length)<=(A+2)*N:=fun vs N h1 h2=>by
  have:=Nat.add_mul A 2 N
  omega
 have ways:∀(k:Nat) (vs:List Yb) (N:Nat),k<=t.length->W p k g vs N->∃ys:List Ch,(∀k',k=k'+1->ys=[(b,k',g,(q,i)::h)])/\(k=0->ys=[]) /\
   ((∃w us' xs j,vs.filter (fun w=>w.1==i)=w::us'/\Rc es t n (.run ⟨b,k,g,(q,i)::h,cs⟩) j (.run ⟨b+1+(p.ops (b+1)).length+1,w.1,w.2,(q,i)::h,cs++(ys++xs)⟩)/\j<=(A+2)*N) ∨
    (vs.filter (fun w=>w.1==i)=[]/\∃j,Rc es t n (.run ⟨b,k,g,(q,i)::h,cs⟩) j (bk (cs++ys))/\j<=(A+2)*N)):=by
  intro k vs N hk hw
  have gd:=gw p k g vs N hp hk hg hw
  have hv:∀w∈vs,w.1<=t.length/\GOk t n w.2:=fun w hw'=>⟨(gd.all w hw').hi,(gd.all w hw').g⟩
  have c:=Z13 vs N gd.len gd.pos
  cases k with
  |zero =>
   refine⟨[],(fun k' e=>by cases e),(fun _=>rfl),?_⟩
   rcases Yl.filt c1 (yw p 0 g vs N hp hk hg hw (b+1) ((q,i)::h) cs hs) hv with⟨w,us',xs,j,h1,h2,h3⟩ | ⟨h1,j,h2,h3⟩
   ·exact .inl ⟨w,us',xs,_,h1,lean0.trans h2,by omega⟩
   ·refine .inr ⟨h1,_,lean0.trans ?_,(show 1+j<=_ by omega)⟩
    rw[List.append_nil]
    exact h2
  |succ k =>
   refine⟨[(b,k,g,(q,i)::h)],(fun k' e=>by cases e;rfl),(fun e=>by cases e),?_⟩
   rcases Yl.filt c1 (yw p (k+1) g vs N hp hk hg hw (b+1) ((q,i)::h) (cs++[(b,k,g,(q,i)::h)]) hs) hv with⟨w,us',xs,j,h1,h2,h3⟩ | ⟨h1,j,h2,h3⟩
   ·rw[List.append_assoc]at h2
    exact .inl ⟨w,us',xs,_,h1,(leanS k hk).trans h2,by omega⟩
   ·exact .inr ⟨h1,_,(leanS k hk).trans h2,by omega⟩
 induction bx with
 |here hw c =>
  intro hk
  obtain⟨ys,_,_,h1 | h1⟩:=ways _ _ _ hk hw
  ·obtain⟨w,us',xs,j,h1,h2,h3⟩:=h1
   exact .inl ⟨w,us',ys++xs,j,h1,h2,h3⟩
  ·exact absurd h1.1 c
 |down hw c r ih =>
  rename_i k vs ws N N'
  intro hk
  obtain⟨ys,hy,_,h1 | h1⟩:=ways _ _ _ hk hw
  ·obtain⟨w,us',xs,j,h1,h2,h3⟩:=h1
   rw[c]at h1
   cases h1
  ·obtain⟨_,j,h2,h3⟩:=h1
   rw[hy k rfl,Uc]at h2
   have m2:=Nat.mul_add (A+2) N N'
   rcases ih (by omega) with⟨w,us',xs,j',e,h4,h5⟩ | ⟨e,j',h4,h5⟩
   ·exact .inl ⟨w,us',xs,_,e,h2.trans h4,by omega⟩
   ·exact .inr ⟨e,_,h2.trans h4,by omega⟩
 |last hw c =>
  intro hk
  obtain⟨ys,_,hy,h1 | h1⟩:=ways _ _ _ hk hw
  ·obtain⟨w,us',xs,j,h1,h2,h3⟩:=h1
   rw[c]at h1
   cases h1
  ·obtain⟨_,j,h2,h3⟩:=h1
   rw[hy rfl,List.append_nil]at h2
   exact .inr ⟨rfl,j,h2,h3⟩
theorem Zi7{i:Nat}{g:Gs}{b:Nat}{h:Hl}{cs:List Ch}{o:Op}{c:Prop}[Decidable c]{w:Yb}{k:Nat}(c0:es[b]? = some o)(hi:i<=t.length)(hg:GOk t n g)(nd:o.need n ⟨b,i,g,h,cs⟩)(ha:o.act t ⟨b+1,i,g,h,cs⟩=if c then .run ⟨b+1,w.1,w.2,h,cs⟩ else bk cs)(hk:1<=k) :
  Yl es t n (b+1) h cs (.run ⟨b,i,g,h,cs⟩) (if c then[w] else[]) k:=by
 by_cases hc:c
 ·rw[if_pos hc]at ha ⊢
  have y1:=Yl.one (es:=es) (t:=t) (n:=n) (e:=b+1) (h:=h) (cs:=cs) (w:=w) (xs:=[]) rfl
  rw[List.append_nil]at y1
  exact(y1.pre (Rc.one c0 hi hg nd ha)).mono (by omega)
 ·rw[if_neg hc]at ha ⊢
  exact .nil (Rc.one c0 hi hg nd ha) hk
theorem Wy.yl:∀d,YW es t n (Wy t d) (3*d)
 |0=>fun _ _ _ _ _ _ _ _ h=>h.elim
 |d+1=>by
  intro p i g ws N hp hi hg hw b h cs hs
  have yw:YW es t n (Wy t d) (3*d):=Wy.yl d
  have gw:=Wy.good (t:=t) (n:=n) d
  obtain⟨hd,ks⟩:=p
  have hp':=nm_node.mp hp
  rw[Z1y]at hs ⊢
  have A0:∀N',(3*(d+1))*(N'+1)=3*d*N'+3*N'+3*d+3:=fun N'=>by
   rw[show 3*(d+1)=3*d+3 by omega,Nat.mul_add,Nat.add_mul,Nat.mul_one]
   omega
  have hhd:∀q r,Za9 ((q::r).map Pat.ops)=q.ops:=fun q r=>rfl
  cases hd with
  |beg =>
   obtain⟨rfl,rfl⟩:=hw
   exact Zi7 hs.cons.1 hi hg trivial rfl (by omega)
  |fin =>
   obtain⟨rfl,rfl⟩:=hw
   exact Zi7 hs.cons.1 hi hg trivial rfl (by omega)
  |sign s =>
   obtain⟨rfl,rfl⟩:=hw
   exact Zi7 (w:=(i+1,g)) hs.cons.1 hi hg trivial rfl (by omega)
  |any =>
   obtain⟨rfl,rfl⟩:=hw
   exact Zi7 (w:=(i+1,g)) hs.cons.1 hi hg trivial rfl (by omega)
  |inn s =>
   obtain⟨rfl,rfl⟩:=hw
   exact Zi7 (w:=(i+1,g)) hs.cons.1 hi hg trivial rfl (by omega)
  |out s =>
   obtain⟨rfl,rfl⟩:=hw
   exact Zi7 (w:=(i+1,g)) hs.cons.1 hi hg trivial rfl (by omega)
  |again k =>
   obtain⟨rfl,rfl⟩:=hw
   have c0:es[b]? = some (.pat (.again k)):=hs.cons.1
   have nd:(Op.pat (.again k)).need n ⟨b,i,g,h,cs⟩:=hp'.1
   unfold Zl6
   cases he:ent g k with
   |none =>
    refine .nil (j:=1) (Rc.one c0 hi hg nd ?_) (by omega)
    show(match ent g k with | none=>bk cs | some p=>_)=_
    rw[he]
   |some q =>
    refine Zi7 (w:=(i+(q.2-q.1),g)) c0 hi hg nd ?_ (by omega)
    show(match ent g k with | none=>bk cs | some p=>_)=_
    rw[he]
  |row =>
   obtain⟨N',rx,rfl⟩:=hw
   have y0:=Yl.one (es:=es) (t:=t) (n:=n) (e:=b) (h:=h) (cs:=cs) (w:=(i,g)) (xs:=[]) rfl
   rw[List.append_nil]at y0
   have me:∀w∈[((i,g):Yb)],Gd t n 0 w:=fun w hw=>by rw[List.mem_singleton.mp hw];exact⟨Nat.zero_le _,hi,hg⟩
   refine(rx.yl yw gw hp'.2 hs y0 me).mono ?_
   have:=A0 N'
   omega
  |alt =>
   obtain⟨hne,N',ax,rfl⟩:=hw
   have hl:b+(Ur 0 (ks.map Pat.ops) b).length=b+(Ur (b+(Ur 0 (ks.map Pat.ops) b).length) (ks.map Pat.ops) b).length:=congrArg (b + ·) (Z63 0 _ (ks.map Pat.ops) b)
   have y:=ax.yl yw gw (h:=h) (e:=b+(Ur 0 (ks.map Pat.ops) b).length) hi hg (b:=b) (cs:=cs) hne hp'.2 hs hl
   refine(y.to hl).mono ?_
   have:=A0 N'
   have:=Nat.add_mul (3*d) 2 N'
   omega
  |times lo hi' how =>
   obtain⟨q,e,us,N',rfl,tx,rfl,rfl⟩:=hw
   have hq:=hp'.2 q (by simp)
   have gd:=Tx.good gw hq e 0 i g us N' hi hg tx
   have m0:=A0 N'
   have m1:=Nat.add_mul (3*d) 2 N'
   have turns:∀(b0:Nat) (how':How) (h:Hl) (cs:List Ch),(how'=.little↔how=.little)->Sits es b0 (U6 lo hi' how' q.ops b0)->Yl es t n (b0+(U6 lo hi' how' q.ops b0).length) h cs (.run ⟨b0,i,g,h,cs⟩) us (1+(3*d+2)*N'):=by
    intro b0 how' h cs hw hs
    obtain⟨c0,s1⟩:=hs.cons
    obtain⟨c1,s2⟩:=s1.cons
    obtain⟨s3,s4⟩:=s2.app
    have c2:=s4.cons.1
    have r0:Rc es t n (.run ⟨b0,i,g,h,cs⟩) 1 (.run ⟨b0+1,i,g,(0,i)::h,cs⟩):=Rc.one c0 hi hg trivial rfl
    have y:=Tx.yl yw gw (how:=how) (b:=b0+1) (h:=h) hw hq c1 s3 c2 (by show b0+3+(q.ops (b0+2)).length=b0+1+1+(q.ops (b0+2)).length+1;omega) e 0 i g us N' hi hg tx i cs
    refine(y.pre r0).to ?_
    show _=b0+(Op.turns::Op.turn lo hi' how' _::(q.ops (b0+2)++[Op.next lo (b0+1)])).length
    simp only[List.length_cons,List.length_append,List.length_nil]
    omega
   cases how with
   |keep =>
    rw[if_pos rfl]
    have hs':Sits es b (.once::(U6 lo hi' .much q.ops (b+1)++[.kept])):=hs
    obtain⟨c0,s1⟩:=hs'.cons
    obtain⟨s2,s3⟩:=s1.app
    have c1:=s3.cons.1
    have r0:Rc es t n (.run ⟨b,i,g,h,cs⟩) 1 (.run ⟨b+1,i,g,(cs.length,i)::h,cs⟩):=Rc.one c0 hi hg trivial rfl
    have y:=(turns (b+1) .much ((cs.length,i)::h) cs (by simp) s2).cut (e2:=b+1+(U6 lo hi' .much q.ops (b+1)).length+1) (h2:=h) (f:=id) fun w hw xs=>Rc.one c1 (gd.all w hw).hi (gd.all w hw).g (by intro z;cases z) (by
     show Cf.run _=Cf.run _
     congr 1
     congr 1
     exact List.take_left)
    rw[List.map_id]at y
    refine((y.pre r0).to ?_).mono (by omega)
    show _=b+(Op.once::(U6 lo hi' .much q.ops (b+1)++[Op.kept])).length
    simp only[List.length_cons,List.length_append,List.length_nil]
    omega
   |much =>
    rw[if_neg (by decide)]
    exact(turns b .much h cs Iff.rfl hs).mono (by omega)
   |little =>
    rw[if_neg (by decide)]
    exact(turns b .little h cs Iff.rfl hs).mono (by omega)
  |grp k =>
   obtain⟨q,us,N',rfl,hq',rfl,rfl⟩:=hw
   have hq:=hp'.2 q (by simp)
   have gd:=gw q i g us N' hq hi hg hq'
   have hs':Sits es b (.open_::(q.ops (b+1)++[.close k])):=hs
   obtain⟨c0,s1⟩:=hs'.cons
   obtain⟨s2,s3⟩:=s1.app
   have c1:=s3.cons.1
   have r0:Rc es t n (.run ⟨b,i,g,h,cs⟩) 1 (.run ⟨b+1,i,g,(0,i)::h,cs⟩):=Rc.one c0 hi hg trivial rfl
   have y:=(yw q i g us N' hq hi hg hq' (b+1) ((0,i)::h) cs s2).map1 (e2:=b+1+(q.ops (b+1)).length+1) (h2:=h) (f:=fun w=>(w.1,put w.2 k i w.1)) fun w hw xs=>Rc.one c1 (gd.all w hw).hi (gd.all w hw).g ⟨hp'.1,by intro z;cases z⟩ rfl
   refine((y.pre r0).to ?_).mono ?_
   ·show _=b+(Op.open_::(q.ops (b+1)++[Op.close k])).length
    simp only[List.length_cons,List.length_append,List.length_nil]
    omega
   ·have:=A0 N'
    have:=gd.len
    omega
  |hav k =>
   obtain⟨q,q',N',rfl,hq',rfl⟩:=hw
   have hs':Sits es b (Z79 k q.ops q'.ops b):=hs
   obtain⟨c0,s1⟩:=hs'.cons
   obtain⟨s2,s3⟩:=s1.app
   obtain⟨c1,s4⟩:=s3.cons
   have he:b+(Z79 k q.ops q'.ops b).length=b+(q.ops (b+1)).length+2+(q'.ops (b+(q.ops (b+1)).length+2)).length:=by
    simp only[Z79,List.length_cons,List.length_append]
    omega
   have nd:(Op.have_ k (b+(q.ops (b+1)).length+2)).need n ⟨b,i,g,h,cs⟩:=hp'.1
   have m0:=A0 N'
   cases hent:ent g k with
   |none =>
    rw[hent]at hq'
    have r0:Rc es t n (.run ⟨b,i,g,h,cs⟩) 1 (.run ⟨b+(q.ops (b+1)).length+2,i,g,h,cs⟩):=Rc.one c0 hi hg nd (by
     show(match ent g k with | none=>Cf.run _ | some _=>_)=_
     rw[hent])
    have s4':Sits es (b+(q.ops (b+1)).length+2) (q'.ops (b+(q.ops (b+1)).length+2)):=by
     rw[show b+(q.ops (b+1)).length+2=b+1+(q.ops (b+1)).length+1 by omega]at s4 ⊢
     exact s4
    have y:=yw q' i g ws N' (hp'.2 q' (by simp)) hi hg hq' _ h cs s4'
    exact((y.pre r0).to he.symm).mono (by omega)
   |some x =>
    rw[hent]at hq'
    have gd:=gw q i g ws N' (hp'.2 q (by simp)) hi hg hq'
    have r0:Rc es t n (.run ⟨b,i,g,h,cs⟩) 1 (.run ⟨b+1,i,g,h,cs⟩):=Rc.one c0 hi hg nd (by
     show(match ent g k with | none=>Cf.run _ | some _=>_)=_
     rw[hent])
    have y:=(yw q i g ws N' (hp'.2 q (by simp)) hi hg hq' (b+1) h cs s2).map1 (e2:=b+(q.ops (b+1)).length+2+(q'.ops (b+(q.ops (b+1)).length+2)).length) (h2:=h) (f:=id) fun w hw xs=>Rc.one c1 (gd.all w hw).hi (gd.all w hw).g trivial rfl
    rw[List.map_id]at y
    have:=gd.len
    exact((y.pre r0).to he.symm).mono (by omega)
  |look l =>
   obtain⟨q,us,N',rfl,hq',rfl,rfl⟩:=hw
   have hq:=hp'.2 q (by simp)
   have hs':Sits es b (Uh l q.ops b):=hs
   have m0:=A0 N'
   have m1:=Nat.add_mul (3*d) 2 N'
   have one:∀(e:Nat) (w:Yb),Yl es t n e h cs (.run ⟨e,w.1,w.2,h,cs⟩) [w] 0:=fun e w=>by
    have:=Yl.one (es:=es) (t:=t) (n:=n) (e:=e) (h:=h) (cs:=cs) (w:=w) (xs:=[]) rfl
    rw[List.append_nil]at this
    exact this
   have nd1:∀ {e:Nat} {w:Yb} {xs:List Ch},(⟨e,w.1,w.2,(cs.length,i)::h,xs⟩:Cg).h≠[]:=fun{e w xs} z=>by cases z
   have tk:∀xs:List Ch,(cs++xs).take cs.length=cs:=fun xs=>List.take_left
   cases l with
   |once =>
    have hq2:Wy t d q i g us N':=by rw[if_neg (by decide)]at hq';exact hq'
    have gd:=gw q i g us N' hq hi hg hq2
    have hs2:Sits es b (.once::(q.ops (b+1)++[.kept])):=hs'
    obtain⟨c0,s1⟩:=hs2.cons
    obtain⟨s2,s3⟩:=s1.app
    have c1:=s3.cons.1
    have r0:Rc es t n (.run ⟨b,i,g,h,cs⟩) 1 (.run ⟨b+1,i,g,(cs.length,i)::h,cs⟩):=Rc.one c0 hi hg trivial rfl
    have y:=(yw q i g us N' hq hi hg hq2 (b+1) ((cs.length,i)::h) cs s2).cut (e2:=b+1+(q.ops (b+1)).length+1) (h2:=h) (f:=id) fun w hw xs=>Rc.one c1 (gd.all w hw).hi (gd.all w hw).g nd1 (by
     show Cf.run ⟨_,_,_,_,(cs++xs).take cs.length⟩=_
     rw[tk]
     rfl)
    rw[List.map_id]at y
    refine((y.pre r0).to ?_).mono (by omega)
    show _=b+(Op.once::(q.ops (b+1)++[Op.kept])).length
    simp only[List.length_cons,List.length_append,List.length_nil]
    omega
   |ahead =>
    have hq2:Wy t d q i g us N':=by rw[if_neg (by decide)]at hq';exact hq'
    have gd:=gw q i g us N' hq hi hg hq2
    have hs2:Sits es b (.once::(q.ops (b+1)++[.peeked])):=hs'
    obtain⟨c0,s1⟩:=hs2.cons
    obtain⟨s2,s3⟩:=s1.app
    have c1:=s3.cons.1
    have r0:Rc es t n (.run ⟨b,i,g,h,cs⟩) 1 (.run ⟨b+1,i,g,(cs.length,i)::h,cs⟩):=Rc.one c0 hi hg trivial rfl
    have y:=(yw q i g us N' hq hi hg hq2 (b+1) ((cs.length,i)::h) cs s2).cut (e2:=b+1+(q.ops (b+1)).length+1) (h2:=h) (f:=fun w=>(i,w.2)) fun w hw xs=>Rc.one c1 (gd.all w hw).hi (gd.all w hw).g nd1 (by
     show Cf.run ⟨_,_,_,_,(cs++xs).take cs.length⟩=_
     rw[tk])
    refine((y.pre r0).to ?_).mono (by omega)
    show _=b+(Op.once::(q.ops (b+1)++[Op.peeked])).length
    simp only[List.length_cons,List.length_append,List.length_nil]
    omega
   |notahead =>
    have hq2:Wy t d q i g us N':=by rw[if_neg (by decide)]at hq';exact hq'
    have gd:=gw q i g us N' hq hi hg hq2
    have hs2:Sits es b (.bar (b+2+(q.ops (b+1)).length)::(q.ops (b+1)++[.barred])):=hs'
    obtain⟨c0,s1⟩:=hs2.cons
    obtain⟨s2,s3⟩:=s1.app
    have c1:=s3.cons.1
    have r0:Rc es t n (.run ⟨b,i,g,h,cs⟩) 1 (.run ⟨b+1,i,g,(cs.length,i)::h,cs++[(b+2+(q.ops (b+1)).length,i,g,h)]⟩):=Rc.one c0 hi hg trivial rfl
    have y:=(yw q i g us N' hq hi hg hq2 (b+1) ((cs.length,i)::h) (cs++[(b+2+(q.ops (b+1)).length,i,g,h)]) s2).barred (w0:=(i,g)) fun w hw xs=>Rc.one c1 (gd.all w hw).hi (gd.all w hw).g nd1 (by
     show bk (((cs++_)++xs).take cs.length)=_
     rw[List.append_assoc,tk])
    refine((y.pre r0).to ?_).mono (by omega)
    show _=b+(Op.bar _::(q.ops (b+1)++[Op.barred])).length
    simp only[List.length_cons,List.length_append,List.length_nil]
    omega
   |behind =>
    have hq2:Bx (Wy t d) q i g i us N':=by rw[if_pos (by decide)]at hq';exact hq'
    obtain⟨gd,_,_⟩:=Bx.good gw hq hg hq2 hi
    have hs2:Sits es b (.once::((.lean::(q.ops (b+2)++[.here]))++[.peeked])):=hs'
    obtain⟨c0,s1⟩:=hs2.cons
    obtain⟨s2,s3⟩:=s1.app
    have c3:=s3.cons.1
    obtain⟨c1,s4⟩:=s2.cons
    obtain⟨s5,s6⟩:=s4.app
    have c2:=s6.cons.1
    have r0:Rc es t n (.run ⟨b,i,g,h,cs⟩) 1 (.run ⟨b+1,i,g,(cs.length,i)::h,cs⟩):=Rc.one c0 hi hg trivial rfl
    have he:b+1+(Op.lean::(q.ops (b+2)++[Op.here])).length=b+1+1+(q.ops (b+2)).length+1:=by
     simp only[List.length_cons,List.length_append,List.length_nil]
     omega
    rw[he]at c3
    have hend:b+1+1+(q.ops (b+2)).length+1+1=b+(Uh .behind q.ops b).length:=by
     show _=b+(Op.once::((Op.lean::(q.ops (b+2)++[Op.here]))++[Op.peeked])).length
     simp only[List.length_cons,List.length_append,List.length_nil]
     omega
    rcases Bx.run yw gw (q:=cs.length) (h:=h) (cs:=cs) hq hg c1 s5 c2 hq2 hi with⟨w,us',xs,j,rfl,r1,hj⟩ | ⟨rfl,j,r1,hj⟩
    ·have a:=gd w (by simp)
     have r2:Rc es t n (.run ⟨b+1+1+(q.ops (b+2)).length+1,w.1,w.2,(cs.length,i)::h,cs++xs⟩) 1 (.run ⟨b+1+1+(q.ops (b+2)).length+1+1,i,w.2,h,cs⟩):=Rc.one c3 a.2.1 a.2.2 nd1 (by
      show Cf.run ⟨_,_,_,_,(cs++xs).take cs.length⟩=_
      rw[tk])
     exact(((one _ (i,w.2)).pre ((r0.trans r1).trans r2)).to hend).mono (by omega)
    ·exact .nil (r0.trans r1) (by omega)
   |notbehind =>
    have hq2:Bx (Wy t d) q i g i us N':=by rw[if_pos (by decide)]at hq';exact hq'
    obtain⟨gd,_,_⟩:=Bx.good gw hq hg hq2 hi
    have hz:b+2+(Op.lean::(q.ops (b+2)++[Op.here])).length=b+(Uh .notbehind q.ops b).length:=by
     show _=b+(Op.bar _::((Op.lean::(q.ops (b+2)++[Op.here]))++[Op.barred])).length
     simp only[List.length_cons,List.length_append,List.length_nil]
     omega
    have hs2:Sits es b (.bar (b+2+(Op.lean::(q.ops (b+2)++[Op.here])).length)::((.lean::(q.ops (b+2)++[.here]))++[.barred])):=hs'
    rw[hz]at hs2
    obtain⟨c0,s1⟩:=hs2.cons
    obtain⟨s2,s3⟩:=s1.app
    have c3:=s3.cons.1
    obtain⟨c1,s4⟩:=s2.cons
    obtain⟨s5,s6⟩:=s4.app
    have c2:=s6.cons.1
    have r0:Rc es t n (.run ⟨b,i,g,h,cs⟩) 1 (.run ⟨b+1,i,g,(cs.length,i)::h,cs++[(b+(Uh .notbehind q.ops b).length,i,g,h)]⟩):=Rc.one c0 hi hg trivial rfl
    have he:b+1+(Op.lean::(q.ops (b+2)++[Op.here])).length=b+1+1+(q.ops (b+2)).length+1:=by
     simp only[List.length_cons,List.length_append,List.length_nil]
     omega
    rw[he]at c3
    show Yl es t n (b+(Uh .notbehind q.ops b).length) h cs _ _ _
    rcases Bx.run yw gw (q:=cs.length) (h:=h) (cs:=cs++[(b+(Uh .notbehind q.ops b).length,i,g,h)]) hq hg c1 s5 c2 hq2 hi with⟨w,us',xs,j,rfl,r1,hj⟩ | ⟨rfl,j,r1,hj⟩
    ·have a:=gd w (by simp)
     have r2:Rc es t n (.run ⟨b+1+1+(q.ops (b+2)).length+1,w.1,w.2,(cs.length,i)::h,(cs++[(b+(Uh .notbehind q.ops b).length,i,g,h)])++xs⟩) 1 (bk cs):=Rc.one c3 a.2.1 a.2.2 nd1 (by
      show bk (((cs++_)++xs).take cs.length)=_
      rw[List.append_assoc,tk])
     exact .nil ((r0.trans r1).trans r2) (by omega)
    ·rw[Uc]at r1
     exact((one _ (i,g)).pre (r0.trans r1)).mono (by omega)
end
abbrev Tm(H H':Hp):Prop:=∀b xs,H b=some (.tup xs)->H' b=some (.tup xs)
def EnA(H:Hp)(e:V):En->Prop
 |none=>e=.non
 |some p=>∃a,e=.ref a/\H a=some (.tup [.int p.1,.int p.2])
def GsAt(H:Hp)(v:V)(g:Gs):Prop:=∃(a:Addr) (es:List V),v=.ref a/\H a=some (.tup es)/\Paired (EnA H) es g
def HlAt(H:Hp):V->Hl->Prop
 |v,[]=>v=.non
 |v,p::h=>∃(a:Addr) (v':V),v=.ref a/\H a=some (.tup [.int p.1,.int p.2,v'])/\HlAt H v' h
def ChA(H:Hp)(q:Zfo)(c:Ch):Prop:=q.1=c.1/\q.2.1=c.2.1/\GsAt H q.2.2.1 c.2.2.1/\HlAt H q.2.2.2 c.2.2.2
theorem EnA.mono{H H':Hp}(t:Tm H H'){e:V}:∀ {x:En},EnA H e x->EnA H' e x
 |none,h=>h
 |some p,⟨a,e1,e2⟩=>⟨a,e1,t _ _ e2⟩
theorem GsAt.mono{H H':Hp}(t:Tm H H'){v:V}{g:Gs}(h:GsAt H v g):GsAt H' v g:=by
 obtain⟨a,es,e1,e2,e3⟩:=h
 exact⟨a,es,e1,t _ _ e2,Paired.mapP e3 fun _ _ q=>q.mono t⟩
theorem HlAt.mono{H H':Hp}(t:Tm H H'):∀ {h:Hl} {v:V},HlAt H v h->HlAt H' v h
 | [],_,e=>e
 |p::h,_,⟨a,v',e1,e2,e3⟩=>⟨a,v',e1,t _ _ e2,HlAt.mono t e3⟩
theorem ChA.mono{H H':Hp}(t:Tm H H'){q:Zfo}{c:Ch}(h:ChA H q c):ChA H' q c:=⟨h.1,h.2.1,h.2.2.1.mono t,h.2.2.2.mono t⟩
structure Ab(H:Hp)(ra:Addr)(t:Str)(ch:Addr)(M:MM)(c:Cg):Prop where
 rows:M.s.rows=.ref ra
 text:M.s.text=t
 chs:M.s.choices=ch
 en:M.s.ended=false
 row:M.s.row=c.r
 pl:M.s.place=c.i
 gs:GsAt H M.s.groups c.g
 hl:HlAt H M.s.held c.h
 cs:Paired (ChA H) M.cs c.cs
structure AbE(ra:Addr)(t:Str)(ch:Addr)(M:MM):Prop where
 rows:M.s.rows=.ref ra
 text:M.s.text=t
 chs:M.s.choices=ch
 en:M.s.ended=true
 cs:M.cs=[]
def AbF(H:Hp)(ra:Addr)(t:Str)(ch:Addr)(M:MM):Cf->Prop
 |.run c=>Ab H ra t ch M c
 |.ended=>AbE ra t ch M
theorem Ab.mono{H H':Hp}(tm:Tm H H'){ra:Addr}{t:Str}{ch:Addr}{M:MM}{c:Cg}(h:Ab H ra t ch M c):Ab H' ra t ch M c :=
 ⟨h.rows,h.text,h.chs,h.en,h.row,h.pl,h.gs.mono tm,h.hl.mono tm,Paired.mapP h.cs fun _ _ q=>q.mono tm⟩
theorem AbF.mono{H H':Hp}(tm:Tm H H'){ra:Addr}{t:Str}{ch:Addr}{M:MM}:∀ {c:Cf},AbF H ra t ch M c->AbF H' ra t ch M c
 |.run _,h=>Ab.mono tm h
 |.ended,h=>h
theorem J3{α β:Type}{F:α->β->Prop}:∀ {xs:List α} {ys:List β} {y:β},Paired F xs (ys++[y])->∃xs' x,xs=xs'++[x]/\Paired F xs' ys/\F x y
 |_,[],y,.cons h .nil=>⟨[],_,rfl,.nil,h⟩
 |_,z::ys,y,.cons h t=>by
  obtain⟨xs',x,e,p,q⟩:=J3 t
  exact⟨_::xs',x,by rw[e];rfl,.cons h p,q⟩
theorem Ab.back{H:Hp}{ra:Addr}{t:Str}{ch:Addr}{M:MM}{c:Cg}(h:Ab H ra t ch M c):AbF H ra t ch M.back (bk c.cs):=by
 rcases List.eq_nil_or_concat c.cs with e | ⟨xs,q,e⟩
 ·have hc:=h.cs
  rw[e]at hc ⊢
  have:M.cs=[]:=by cases hm:M.cs with
   |nil=>rfl
   |cons a b=>rw[hm]at hc;cases hc
  unfold MM.back
  rw[this]
  exact⟨h.rows,h.text,h.chs,rfl,rfl⟩
 ·rw[List.concat_eq_append]at e
  have hc:=h.cs
  rw[e]at hc ⊢
  obtain⟨xs',x,e',p,hx⟩:=J3 hc
  unfold MM.back
  rw[e',List.getLast?_append,Uc]
  obtain⟨q1,q2,q3,q4⟩:=hx
  refine⟨h.rows,h.text,h.chs,h.en,q1,q2,q3,q4,?_⟩
  show Paired (ChA H) (xs'++[x]).dropLast xs
  rw[List.dropLast_concat]
  exact p
def Op.fd:Op->Bool->Bool
 |.found,_=>true
 |_,b=>b
def Op.word:Op->Str
 |.pat h=>h.word | .try_ _=>"try" |.go _=>"go" |.have_ _ _=>"have" |.turns=>"turns" |.open_=>"open" |.close _=>"close" |.turn _ _ _ _=>"turn" |.next _ _=>"next" |.once=>"once" |.kept=>"kept" |.peeked=>"peeked"
 |.bar _=>"bar" |.barred=>"barred" |.lean=>"lean" |.here=>"here" |.found=>"found"
def Hd.act:Hd->Bool
 |.sign _=>true | .any=>true | .inn _=>true | .out _=>true | .beg=>true | .fin=>true | .again _=>true | _=>false
def Op.ok:Op->Prop
 |.pat h=>h.act=true
 |_=>True
inductive spDoI(C:Addr)(o:Op)(vs:List V)(H:Hp)(Q:VK):Prop
 |mk (m a ra ch:Addr) (t:Str) (n:Nat) (M:MM) (c:Cg) (_:vs=[.ref m,.ref a]) (_:MAt C H m M) (_:Ab H ra t ch M c) (_:RowAt H (.ref a) o.rw) (_:t.length<=1000) (_:c.i<=t.length) (_:GOk t n c.g) (_:n<=900) (_:(o.need n c∨o=.found)) (_:(c.cs.length<=1000000/\1<=c.r)) (_:∀(H':Hp) (M':MM),MAt C H' m M'->AbF H' ra t ch M' (o.act t c)->M'.s.made=M.s.made->M'.s.found=o.fd M.s.found->Gro [m,ch] H H'->Q .non H')
def Tp(C:Addr)(o:Op):Sp:=fun vs H Q _=>spDoI C o vs H Q
theorem Yu(M:MM):M.back.s.made=M.s.made/\M.back.s.found=M.s.found:=by
 unfold MM.back
 split <;> exact⟨rfl,rfl⟩
theorem Wf{α β:Type}{F:α->β->Prop}:∀ {xs:List α} {ys:List β} (k:Nat),Paired F xs ys->Paired F (xs.take k) (ys.take k)
 |_,_,0,_=>by simp;exact .nil
 |_,_,_+1,.nil=>by simp;exact .nil
 |_,_,k+1,.cons h t=>by simp only[List.take_succ_cons];exact .cons h (Wf k t)
theorem Z0l{α β:Type}{F:α->β->Prop}:∀ {xs:List α} {ys:List β} (k:Nat),Paired F xs ys->Paired F (xs.drop k) (ys.drop k)
 |_,_,0,h=>h
 |_,_,_+1,.nil=>by simp;exact .nil
 |_,_,k+1,.cons h t=>by simp only[List.drop_succ_cons];exact Z0l k t
theorem GsAt.len{H:Hp}{v:V}{g:Gs}(h:GsAt H v g):∃(a:Addr) (es:List V),v=.ref a/\H a=some (.tup es)/\es.length=g.length/\Paired (EnA H) es g:=by
 obtain⟨a,es,e1,e2,e3⟩:=h
 exact⟨a,es,e1,e2,Paired.length e3,e3⟩
theorem GsAt.ent{H:Hp}{v:V}{g:Gs}{k:Int}(h:GsAt H v g)(h1:1<=k)(h2:k<=g.length):∃(a:Addr) (es:List V) (e:V),v=.ref a/\H a=some (.tup es)/\es.length=g.length/\Z6e es (k-1)=some e/\EnA H e (ent g k):=by
 obtain⟨a,es,e1,e2,e3,e4⟩:=h.len
 have hl:(k-1).toNat<es.length:=by omega
 have ha:=Wm (List.getElem?_eq_getElem hl)
 rw[show(((k-1).toNat:Nat):Int)=k-1 by omega]at ha
 obtain⟨y,hy,hE⟩:=Y5 e4 (List.getElem?_eq_getElem hl)
 refine⟨a,es,_,e1,e2,e3,ha,?_⟩
 unfold Seek.ent
 rw[List.getD_eq_getElem?_getD,hy]
 exact hE
theorem GsAt.put{H:Hp}{es:List V}{g:Gs}{k:Int}{a b:Nat}{p r:Addr}(h:Paired (EnA H) es g)(hp:H p=some (.tup [.int a,.int b]))(hr:H r=some (.tup (es.take (k-1).toNat++[.ref p]++es.drop k.toNat))):GsAt H (.ref r) (put g k a b) :=
 ⟨r,_,rfl,hr,Zy (Zy (Wf _ h) (.cons ⟨p,rfl,hp⟩ .nil)) (Z0l _ h)⟩
theorem Z8v{K:W.Frag}{a b:Addr}{xs ys:List V}{H:Hp}{Q:VK}(ha:H a=some (.tup xs))(hb:H b=some (.tup ys))(hz:xs.length+ys.length<=1000)(h:∀(r:Addr) (H':Hp),H' r=some (.tup (xs++ys))->Gro [] H H'->Q (.ref r) H'):Zfh K (.ref a) (.ref b) H Q :=
 ⟨a,b,xs,ys,rfl,rfl,SqT.of ha,SqT.of hb,Ye hz,fun e=>h b H (by rw[e];exact hb) Gro.refl,fun _ e=>h a H (by rw[e,List.append_nil];exact ha) Gro.refl,fun _ _ p hp=>h p _ Z3 (Gro.new hp _)⟩
theorem Z84{Pr:Op->Prop}:∀ {cs:List Co},(∀c∈cs,∀b,∀o∈c b,Pr o)->∀b,∀o∈Z4o cs b,Pr o
 | [],_,b,o,ho=>by simp[Z4o]at ho
 |c::cs,h,b,o,ho=>by
  rw[Z4o]at ho
  rcases List.mem_append.mp ho with ho | ho
  ·exact h c (by simp) b o ho
  ·exact Z84 (fun d hd=>h d (by simp[hd])) _ o ho
theorem Z8y{Pr:Op->Prop}(h1:∀z,Pr (.try_ z))(h2:∀z,Pr (.go z)){e:Nat}:∀ {cs:List Co},(∀c∈cs,∀b,∀o∈c b,Pr o)->∀b,∀o∈Ur e cs b,Pr o
 | [],_,b,o,ho=>by simp[Ur]at ho
 | [c],h,b,o,ho=>h c (by simp) b o ho
 |c::d::cs,h,b,o,ho=>by
  rw[Ur]at ho
  rcases List.mem_cons.mp ho with rfl | ho
  ·exact h1 _
  ·rcases List.mem_append.mp ho with ho | ho
   ·exact h c (by simp) _ o ho
   ·rcases List.mem_cons.mp ho with rfl | ho
    ·exact h2 _
    ·exact Z8y h1 h2 (fun x hx=>h x (by simp at hx;simp[hx])) _ o ho
theorem Zci{Pr:Op->Prop}{cs:List Co}(h:∀c∈cs,∀b,∀o∈c b,Pr o)(b:Nat):∀o∈Za9 cs b,Pr o:=by
 cases cs with
 |nil=>intro o ho;simp[Za9]at ho
 |cons c cs=>exact h c (by simp) b
structure Free(Pr:Op->Prop):Prop where
 f1:∀z,Pr (.try_ z)
 f2:∀z,Pr (.go z)
 f3:∀k z,Pr (.have_ k z)
 f4:Pr .turns
 f5:Pr .open_
 f6:∀lo hi how z,Pr (.turn lo hi how z)
 f7:∀lo z,Pr (.next lo z)
 f8:Pr .once
 f9:Pr .kept
 f10:Pr .peeked
 f11:∀z,Pr (.bar z)
 f12:Pr .barred
 f13:Pr .lean
 f14:Pr .here
theorem Z1t{Pr:Op->Prop}(F:Free Pr){lo:Int}{hi:Option Int}{how:How}{c:Co}(h:∀b,∀o∈c b,Pr o)(b:Nat):∀o∈U6 lo hi how c b,Pr o:=by
 intro o ho
 unfold U6 at ho
 rcases List.mem_cons.mp ho with rfl | ho
 ·exact F.f4
 ·rcases List.mem_cons.mp ho with rfl | ho
  ·exact F.f6 _ _ _ _
  ·rcases List.mem_append.mp ho with ho | ho
   ·exact h _ o ho
   ·rw[List.mem_singleton.mp ho];exact F.f7 _ _
theorem Zbc{Pr:Op->Prop}(F:Free Pr){h:Hd}{cs:List Co}(hl:h.act=true->Pr (.pat h))(hc:∀k,h=.grp k->Pr (.close k))(ih:∀c∈cs,∀b,∀o∈c b,Pr o)(b:Nat):∀o∈h.ops cs b,Pr o:=by
 intro o ho
 have hh:=Zci ih
 cases h with
 |row=>exact Z84 ih b o ho
 |alt=>exact Z8y F.f1 F.f2 ih b o ho
 |times lo hi how =>
  cases how with
  |keep =>
   have ho':o∈Op.once::(U6 lo hi .much (Za9 cs) (b+1)++[.kept]):=ho
   rcases List.mem_cons.mp ho' with rfl | ho
   ·exact F.f8
   ·rcases List.mem_append.mp ho with ho | ho
    ·exact Z1t F hh _ o ho
    ·rw[List.mem_singleton.mp ho];exact F.f9
  |much=>exact Z1t F hh b o ho
  |little=>exact Z1t F hh b o ho
 |grp k =>
  have ho':o∈Op.open_::(Za9 cs (b+1)++[.close k]):=ho
  rcases List.mem_cons.mp ho' with rfl | ho
  ·exact F.f5
  ·rcases List.mem_append.mp ho with ho | ho
   ·exact hh _ o ho
   ·rw[List.mem_singleton.mp ho];exact hc k rfl
 |hav k =>
  have ht:∀b,∀o∈Za9 cs.tail b,Pr o:=fun b=>Zci (fun c hc'=>ih c (List.mem_of_mem_tail hc')) b
  have ho':o∈Z79 k (Za9 cs) (Za9 cs.tail) b:=ho
  unfold Z79 at ho'
  rcases List.mem_cons.mp ho' with rfl | ho
  ·exact F.f3 _ _
  ·rcases List.mem_append.mp ho with ho | ho
   ·exact hh _ o ho
   ·rcases List.mem_cons.mp ho with rfl | ho
    ·exact F.f2 _
    ·exact ht _ o ho
 |look l =>
  have hin:∀o∈Z92 l (Za9 cs) b,Pr o:=by
   intro o ho
   unfold Z92 at ho
   split at ho
   ·rcases List.mem_cons.mp ho with rfl | ho
    ·exact F.f13
    ·rcases List.mem_append.mp ho with ho | ho
     ·exact hh _ o ho
     ·rw[List.mem_singleton.mp ho];exact F.f14
   ·exact hh _ o ho
  have ho':o∈Uh l (Za9 cs) b:=ho
  unfold Uh at ho'
  rcases List.mem_cons.mp ho' with e | ho
  ·rw[e]
   split
   ·exact F.f11 _
   ·exact F.f8
  ·rcases List.mem_append.mp ho with ho | ho
   ·exact hin o ho
   ·rw[List.mem_singleton.mp ho]
    cases l with
    |once=>exact F.f9
    |ahead=>exact F.f10
    |behind=>exact F.f10
    |notahead=>exact F.f12
    |notbehind=>exact F.f12
 |_ =>
  rw[List.mem_singleton.mp ho]
  exact hl rfl
mutual
theorem Zcd:∀(p:Pat) (b:Nat),∀o∈p.ops b,o.ok
 |.node h ks,b=>by
  rw[Z1y]
  refine Zbc ⟨fun _=>trivial,fun _=>trivial,fun _ _=>trivial,trivial,trivial,fun _ _ _ _=>trivial,fun _ _=>trivial,trivial,trivial,trivial,fun _=>trivial,trivial,trivial,trivial⟩ (fun e=>e) (fun _ _=>trivial) (fun c hc=>?_) b
  obtain⟨p,hp,rfl⟩:=List.mem_map.mp hc
  exact Z8d ks p hp
theorem Z8d:∀(ks:List Pat),∀p∈ks,∀b,∀o∈p.ops b,o.ok
 | [],_,hp=>by simp at hp
 |k::ks,p,hp=>by
  rcases List.mem_cons.mp hp with h | h
  ·rw[h]
   exact Zcd k
  ·exact Z8d ks p h
end
end Seek
namespace L2
open PySem PySem.Spec PyProof.Rows
section
variable{X:Cx}{Z4:List (Addr×Obj)}{σ:List (Option V)}{H H':Hp}{s:Shared}{h':Heap}
theorem Inv.turnedL{t':Nat}{fp:List Addr}(I:Inv X Z4 σ H s)(k:∀b o,b∉fp->s.heap.get? b=some o->h'.get? b=some o)(hf:∀b∈fp,Z14 X Z4 H b):Inv X Z4 σ H { s with heap:=h',toks:=t' }:=by
 have nit:∀b u,H b=some u->b∉fp:=fun b u e z=>by rw[(hf b z).1]at e;cases e
 refine I.step (g':=s.gens) (d':=s.drawn) (ch:=fp) (fun b hb=>?_) (fun b o _ _ hc e _=>k b o hc e) (fun b o _ _ hc e _=>⟨o.slots,k b o hc e⟩) (fun _ _ _ _ n=>n)
  (fun b o hc e=>⟨o,k b o hc e⟩) (fun _ _ e=>e) (fun _ _ _ e=>e) (fun b ps e=>⟨#[],by rw[e];simp⟩) (fun m hm=>?_) (fun b u e=>?_) I.bare
 ·obtain⟨_,f1,_,f3,f4,f5⟩:=hf b hb
  exact⟨f3,f1,f4,f5⟩
 ·obtain⟨o,es,ep,ho,r⟩:=hm
  exact⟨o,es,ep,k _ o (fun z=>(hf _ z).2.1 rfl) ho,r⟩
 ·refine(I.hok b u e).stay (fun c v hc q=>k c v ?_ q) (fun _ q=>q) fun _ _ q=>q
  rcases hc with z | z
  ·rw[z];exact nit b u e
  ·exact nit c _ z
end
def Zjs (K : PySem.W.Frag) (l1 l2 : Addr) : It :=
  ⟨fun i H => ∃ xs ys x y, SqL K H l1 xs ∧ SqL K H l2 ys ∧ xs[i]? = some x ∧ ys[i]? = some y,
   fun i H v H' => ∃ p, v = .ref p ∧ H p = none ∧ ∀ xs ys x y, SqL K H l1 xs → SqL K H l2 ys → xs[i]? = some x → ys[i]? = some y → H' = Zq H p (.tup [x, y]),
   fun i H => ∃ xs ys, SqL K H l1 xs ∧ SqL K H l2 ys ∧ (xs.length ≤ i ∨ ys.length ≤ i)⟩
structure ZipSt(z TI TO i1 i2 l1 l2:Addr)(i:Nat)(h:Heap):Prop where
 zp:IsZip h z TI TO .none
 ti:IsPair h TI (.ref i1) (.ref i2)
 to:∃a b,IsPair h TO a b
 s1:h.IsListIter i1 l1 i
 s2:h.IsListIter i2 l2 i
theorem Zam{P:Program}{w:World}{K:W.Frag}{elts:List Expr}{x1:Nat}{tp:Pos}{z TI TO i1 i2 l1 l2:Addr}(ap:ZipApart z TI TO i1 i2 l1 l2):Turn P w K (.Tuple elts x1 tp) (Zjs K l1 l2) [z,TI,TO,i1,i2] z (ZipSt z TI TO i1 i2 l1 l2) where
 mem:=by simp
 obj:=fun i h st b hb=>by
  simp at hb
  rcases hb with rfl | rfl | rfl | rfl | rfl
  ·exact⟨_,st.zp,fun v q=>by cases q⟩
  ·exact⟨_,st.ti,fun v q=>by cases q⟩
  ·obtain⟨a,b,e⟩:=st.to
   exact⟨_,e,fun v q=>by cases q⟩
  ·obtain⟨o,e,c,d⟩:=st.s1
   exact⟨o,e,fun v q=>by rw[d]at q;cases q⟩
  ·obtain⟨o,e,c,d⟩:=st.s2
   exact⟨o,e,fun v q=>by rw[d]at q;cases q⟩
 keep:=fun i h h' st k=>by
  obtain⟨a,b,e⟩:=st.to
  exact⟨k z (by simp) _ st.zp,k TI (by simp) _ st.ti,⟨a,b,k TO (by simp) _ e⟩,st.s1.at fun o e=>k i1 (by simp) o e,st.s2.at fun o e=>k i2 (by simp) o e⟩
 item:=by
  intro X hP hw hK hc i Z4 s σ H E I hf st hg
  subst hP hw hK
  obtain⟨xs,ys,x,y,hq1,hq2,hx,hy⟩:=hg
  obtain⟨its1,rv1,p1,hz1⟩:=I.list hq1
  obtain⟨its2,rv2,p2,hz2⟩:=I.list hq2
  obtain⟨u,hu,ru⟩:=rv1.get hx
  obtain⟨v,hv,rv⟩:=rv2.get hy
  obtain⟨a,b,hto⟩:=st.to
  have hlt:∀c∈[z,TI,TO,i1,i2],c<s.heap.objs.size:=fun c hc=>by
   simp at hc
   rcases hc with rfl | rfl | rfl | rfl | rfl
   ·exact Heap.lt_size st.zp
   ·exact Heap.lt_size st.ti
   ·exact Heap.lt_size hto
   ·obtain⟨o,e,_⟩:=st.s1
    exact Heap.lt_size e
   ·obtain⟨o,e,_⟩:=st.s2
    exact Heap.lt_size e
  have hn:=I.hok.fresh (Nat.le_refl s.heap.objs.size)
  refine wpAny_pyNext_zip_item ap st.zp st.ti hto st.s1 st.s2 p1.isList p2.isList (x:=u) (y:=v) (by simpa using hu) (by simpa using hv) fun h' z' to' i1' i2' pr sz kp=>⟨_,rfl,?_⟩
  refine wpAny_letOwnedTupleGo_zip (s:={ s with heap:=h' }) z' fun h2 z2 sb=>?_
  have zl:=hlt z (by simp)
  have I1:Inv X Z4 σ (Zq H s.heap.objs.size (.tup [x,y])) { s with heap:=s.heap.push { cls:=.type "tuple",data:=.seq #[u,v] } } :=
   I.laid (t':=s.toks) (fun _ _ q=>Heap.get?_push_of_some _ q) (Nat.le_refl _) ⟨by rw[sizeLine_eq];show 2<=_;decide,[u,v],.cons ru (.cons rv .nil),⟨_,Heap.get?_push_size _ rfl,rfl,0,rfl⟩⟩
  have fresh:∀c∈[z,TI,TO,i1,i2],Zq H s.heap.objs.size (.tup [x,y]) c=none:=fun c hc=>by rw[Zt (Nat.ne_of_lt (hlt c hc))];exact(hf c hc).1
  have I2:Inv X Z4 σ (Zq H s.heap.objs.size (.tup [x,y])) { s with heap:=h2 }:=by
   refine Inv.turnedL (s:={ s with heap:=s.heap.push { cls:=.type "tuple",data:=.seq #[u,v] } }) (fp:=[z,TI,TO,i1,i2]) (t':=s.toks) I1 (fun c o hc e=>?_) (fun c hc=>⟨fresh c hc,(hf c hc).2⟩)
   simp at hc
   rw[sb.2 c hc.1]
   by_cases hcs:c=s.heap.objs.size
   ·subst hcs
    have e2:(s.heap.push { cls:=.type "tuple",data:=.seq #[u,v] }).get? s.heap.objs.size=some o:=e
    rw[Heap.get?_push_size _ rfl]at e2
    cases e2
    exact pr
   ·have e':s.heap.get? c=some o:=by
     have hlt':c<(s.heap.push { cls:=.type "tuple",data:=.seq #[u,v] }).objs.size:=Heap.lt_size e
     have:c<s.heap.objs.size:=by
      have h9:c<s.heap.objs.size+1:=by simpa[Heap.push] using hlt'
      exact Nat.lt_of_le_of_ne (Nat.le_of_lt_succ h9) hcs
     simpa[Heap.get?,Heap.push,Array.getElem?_push,Nat.ne_of_lt this] using e
    exact kp c o hc.1 hc.2.2.1 hc.2.2.2.1 hc.2.2.2.2 e'
  refine⟨.ref s.heap.objs.size,_,I2,rfl,⟨_,rfl,hn,fun xs' ys' x' y' h1 h2 h3 h4=>?_⟩,⟨z2,?_,⟨u,v,?_⟩,?_,?_⟩,fresh⟩
  ·rw[I.list_inj h1 hq1,hx]at h3
   rw[I.list_inj h2 hq2,hy]at h4
   cases h3
   cases h4
   rfl
  ·show h2.get? TI=_
   rw[sb.2 TI ap.TIz]
   exact kp _ _ ap.TIz ap.TITO ap.TIi1 ap.TIi2 st.ti
  ·show h2.get? TO=_
   rw[sb.2 TO ap.TOz]
   exact to'
  ·exact i1'.at fun o e=>by rw[sb.2 i1 ap.i1z];exact e
  ·exact i2'.at fun o e=>by rw[sb.2 i2 ap.i2z];exact e
 done:=by
  intro X hP hw hK hc i Z4 s σ H E I hf st hg
  subst hP hw hK
  obtain⟨xs,ys,hq1,hq2,hx⟩:=hg
  obtain⟨its1,rv1,p1,hz1⟩:=I.list hq1
  obtain⟨its2,rv2,p2,hz2⟩:=I.list hq2
  obtain⟨a,b,hto⟩:=st.to
  have hl1:=rv1.length
  have hl2:=rv2.length
  refine wpAny_pyNext_zip_end (I.ok.hd hc) ap st.zp st.ti hto st.s1 st.s2 p1.isList p2.isList ?_ fun h' kp=>⟨rfl,I.turnedL (fp:=[z,TI,TO,i1,i2]) (t':=s.toks) (fun c o hc e=>?_) hf⟩
  ·rcases hx with hx | hx
   ·exact .inl (by simp;omega)
   ·exact .inr (by simp;omega)
  ·simp at hc
   exact kp c o hc.1 hc.2.2.1 hc.2.2.2.1 hc.2.2.2.2 e
 self:=fun _ _ _ _ _ st h=>wpAny_pyIter_zip st.zp h
section
variable{X:Cx}
def Zkm(K:W.Frag)(ta:TA):TI:=fun σ H R=>ta σ H fun vs H1=>∃a b,vs=[.ref a,.ref b]/\(∃xs,SqL K H1 a xs)/\(∃ys,SqL K H1 b ys)/\R (Zjs K a b) H1
theorem Zgv{elts:List Expr}{x1:Nat}{tp:Pos}{a b:Expr}{ta:TA}{p pos:Pos}(hg:Gl X "zip")(hm:X.mg "zip" = none)(ha:PA X [a,b] ta)(hs:starEach [a,b] X.env=[(false,eval a X.env),(false,eval b X.env)]:=by rfl)(hs2:starEach [b] X.env=[(false,eval b X.env)]:=by rfl) :
  PI X (.Tuple elts x1 tp) (.Call (.Name "zip" p) [a,b] [] pos) (Zkm X.K ta):=by
 intro Z4 s σ H R I h
 refine Call_ (Ty I hg hm boot_zip (PyProof.Rows.callWith_type1 (Xr (ha pos Z4 s σ H _ I h) fun us s1 ⟨vs,H1,I1,r1,q1⟩=>?_) (by rw[hs,hs2]) (by rw[hs2];rfl)))
 obtain⟨a,b,e,⟨xs,hx⟩,⟨ys,hy⟩,q⟩:=q1
 subst e
 obtain⟨u,w',rfl,ru,rw'⟩:=Zcq r1
 obtain rfl:u=Value.ref a:=ru
 obtain rfl:w'=Value.ref b:=rw'
 obtain⟨its1,rv1,p1,hz1⟩:=I1.list hx
 obtain⟨its2,rv2,p2,hz2⟩:=I1.list hy
 refine call_zip_2 p1.isList p2.isList fun h' z ti to s1' s2' sz kp=>?_
 refine wpAny_pyIter_zip z ?_
 have I2:Inv X Z4 σ H1 { s1 with heap:=h' }:=I1.kept (t':=s1.toks) kp
 have la:a<s1.heap.objs.size:=by obtain⟨o,n,e,_⟩:=p1;exact Heap.lt_size e
 have lb:b<s1.heap.objs.size:=by obtain⟨o,n,e,_⟩:=p2;exact Heap.lt_size e
 refine⟨_,[s1.heap.objs.size+4,s1.heap.objs.size+2,s1.heap.objs.size+3,s1.heap.objs.size,s1.heap.objs.size+1],_,_,H1,rfl,I2,Zam (zipApart_new la lb),⟨z,ti,⟨_,_,to⟩,s1',s2'⟩,fun c hc=>?_,q⟩
 have hc':s1.heap.objs.size<=c:=by
  simp at hc
  rcases hc with rfl | rfl | rfl | rfl | rfl <;> omega
 exact I1.fpOk hc' (I1.hok.fresh hc')
theorem Zes{K:W.Frag}{a b:Addr}{xs ys:List V}{g:TG}{tb:TS}{D:Ends}{σ:St}{H:Hp}(Pv:Nat->St->Hp->Prop)(h0:Pv 0 σ H)(hl:∀i σ H,i<=xs.length->Pv i σ H->SqL K H a xs/\SqL K H b ys)(hxy:ys.length=xs.length)
  (hs:∀i x y σ H p,xs[i]? = some x->ys[i]? = some y->Pv i σ H->H p=none->g (.ref p) σ (Zq H p (.tup [x,y])) fun σ2 H2=>tb { D with nx:=Pv (i+1),ct:=Pv (i+1),bk:=D.nx } σ2 H2) (hd:∀σ H,Pv xs.length σ H->D.nx σ H) :
  ∃W:Nat->Nat->St->Hp->Prop,(∃m,W 0 m σ H)/\∀i m σ H,W i m σ H ->
   ((Zjs K a b).stop i H/\D.nx σ H)∨((Zjs K a b).go i H/\∃N:St->Hp->Prop,(∀σ' H',N σ' H'->∃m',m'<m/\W (i+1) m' σ' H')/\∀x H',(Zjs K a b).yld i H x H'->g x σ H' fun σ2 H2=>tb { D with nx:=N,ct:=N,bk:=D.nx } σ2 H2):=by
 refine⟨fun i m σ H=>m=xs.length-i/\i<=xs.length/\Pv i σ H,⟨xs.length,by simp,Nat.zero_le _,h0⟩,?_⟩
 rintro i m σ H ⟨rfl,hi,p⟩
 obtain⟨ha,hb⟩:=hl i σ H hi p
 by_cases hlt:i<xs.length
 ·have hx:xs[i]? = some xs[i]:=List.getElem?_eq_getElem hlt
  have hy:ys[i]? = some (ys[i]'(by omega)):=List.getElem?_eq_getElem (by omega)
  refine .inr ⟨⟨xs,ys,_,_,ha,hb,hx,hy⟩,Pv (i+1),fun σ' H' p'=>⟨xs.length-(i+1),by omega,rfl,hlt,p'⟩,fun v H' yv=>?_⟩
  obtain⟨q,e,hn,hH⟩:=yv
  subst e
  rw[hH xs ys _ _ ha hb hx hy]
  exact hs i _ _ σ H q hx hy p hn
 ·have e:i=xs.length:=by omega
  subst e
  exact .inl ⟨⟨xs,ys,ha,hb,.inl (Nat.le_refl _)⟩,hd σ H p⟩
theorem Z3y:Th X (.type "int") (fun xs H Q=>∃(x:Str) (n:Int),xs=[.str x]/\PySem.intText? x=some n/\x.length<=640/\Q (.int n) H):=by
 intro Z4 s σ H xs us Q I r h
 obtain⟨x,n,rfl,hi,hz,q⟩:=h
 obtain⟨u,rfl,t,rfl⟩:=Ts r
 exact W.KIN.call_text hi hz ⟨.int n,H,I.tok _,⟨_,rfl⟩,q⟩
end
end L2
namespace Seek
open PySem PySem.Spec PyProof.Rows L2
theorem Z8x(a:Str):a++("":Str)=a:=by
 show(⟨a.cps ++ #[]⟩:Str)=a
 rw[Array.append_empty]
theorem Z8h(a:Str):("":Str)++a=a:=by
 show(⟨#[]++a.cps⟩:Str)=a
 rw[Array.empty_append]
theorem T5(xs:List Str)(y:Str):Txt.join "" (xs++[y])=Txt.join "" xs++y:=by
 cases xs with
 |nil=>exact(Z8h y).symm
 |cons x xs =>
  show(⟨(xs++[y]).foldl (fun a p=>a++("":Str).cps++p.cps) x.cps⟩:Str)=⟨xs.foldl (fun a p=>a++("":Str).cps++p.cps) x.cps++y.cps⟩
  rw[List.foldl_append]
  show(⟨(xs.foldl (fun a p=>a++("":Str).cps++p.cps) x.cps ++ #[])++y.cps⟩:Str)=_
  rw[Array.append_empty]
inductive Pc where
 |tx (s:Str) | nm (k:Nat)
def Zi9:Pc->V
 |.tx s=>.str s
 |.nm k=>.int k
def Zf4(s:Str):Option Nat:=match s.cps.toList with
 | [c]=>if 48<=c/\c<=57 then some (c-48) else none
 |_=>none
inductive Fkd where
 |sign | dollar | num (k:Nat) | bad
def Zd6(f:Str)(p:Nat):Str:=sub f (p+1) (p+2)
def kd(f:Str)(n p:Nat):Fkd:=if Vo f p="$" then(if Zd6 f p="$" then .dollar else match Zf4 (Zd6 f p) with
 |some k=>if k<=n then .num k else .bad
 |none=>.bad) else .sign
def pz(f:Str)(n p:Nat):Option (List Pc) :=
 if p<f.length then(match kd f n p with
  |.sign=>(pz f n (p+1)).map (Pc.tx (Vo f p) :: ·)
  |.dollar=>(pz f n (p+2)).map (Pc.tx "$" :: ·)
  |.num k=>(pz f n (p+2)).map (Pc.nm k :: ·)
  |.bad=>none)
 else some []
termination_by f.length-p
theorem Z2b{f:Str}{n p:Nat}(h:¬p<f.length):pz f n p=some []:=by rw[pz,if_neg h]
theorem Jn{f:Str}{n p:Nat}(h:p<f.length)(k:kd f n p=.sign):pz f n p=(pz f n (p+1)).map (Pc.tx (Vo f p) :: ·):=by rw[pz,if_pos h,k]
theorem Z05{f:Str}{n p:Nat}(h:p<f.length)(k:kd f n p=.dollar):pz f n p=(pz f n (p+2)).map (Pc.tx "$" :: ·):=by rw[pz,if_pos h,k]
theorem Z2a{f:Str}{n p k:Nat}(h:p<f.length)(e:kd f n p=.num k):pz f n p=(pz f n (p+2)).map (Pc.nm k :: ·):=by rw[pz,if_pos h,e]
theorem Z7n{f:Str}{n p:Nat}(h:p<f.length)(k:kd f n p=.bad):pz f n p=none:=by rw[pz,if_pos h,k]
theorem Z7s{f:Str}{n p:Nat}(h:¬Vo f p="$"):kd f n p=.sign:=by unfold kd;rw[if_neg h]
theorem Zhb{f:Str}{n p:Nat}(h:Vo f p="$")(h':Zd6 f p="$"):kd f n p=.dollar:=by unfold kd;rw[if_pos h,if_pos h']
theorem Z7r{f:Str}{n p k:Nat}(h:Vo f p="$")(h':¬Zd6 f p="$")(e:Zf4 (Zd6 f p)=some k)(hk:k<=n):kd f n p=.num k:=by unfold kd;rw[if_pos h,if_neg h',e];show(if k<=n then Fkd.num k else .bad)=_;rw[if_pos hk]
theorem Zek{f:Str}{n p k:Nat}(h:Vo f p="$")(h':¬Zd6 f p="$")(e:Zf4 (Zd6 f p)=some k)(hk:¬k<=n):kd f n p=.bad:=by unfold kd;rw[if_pos h,if_neg h',e];show(if k<=n then Fkd.num k else .bad)=_;rw[if_neg hk]
theorem Zel{f:Str}{n p:Nat}(h:Vo f p="$")(h':¬Zd6 f p="$")(e:Zf4 (Zd6 f p)=none):kd f n p=.bad:=by unfold kd;rw[if_pos h,if_neg h',e]
abbrev digS:Str:="0123456789"
theorem Zgy{s:Str}(h:s.length=1):∃c,s=⟨#[c]⟩:=by
 have hl:s.cps.toList.length=s.length:=by simp[Str.length]
 rw[h]at hl
 match hc:s.cps.toList,hl with
 | [c],_ =>
  refine⟨c,?_⟩
  obtain⟨⟨x⟩⟩:=s
  have:x=[c]:=hc
  rw[this]
theorem Zhk{s:Str}(h:s.length=1):(!(Builtin.Str.occurrences digS s 0 digS.length 1).isEmpty)=(Zf4 s).isSome:=by
 obtain⟨c,rfl⟩:=Zgy h
 rw[PySem.StrLaws.found_one]
 have e:digS.cps.toList=[48,49,50,51,52,53,54,55,56,57]:=by decide +kernel
 rw[e]
 show _=(if 48<=c/\c<=57 then some (c-48) else none).isSome
 by_cases hc:48<=c/\c<=57
 ·rw[if_pos hc]
  refine decide_eq_true ?_
  simp
  omega
 ·rw[if_neg hc]
  refine decide_eq_false ?_
  simp
  omega
theorem Zev{s:Str}{k:Nat}(h:Zf4 s=some k):PySem.intText? s=some (k:Int)/\s.length=1/\k<=9:=by
 unfold Zf4 at h
 split at h
 ·rename_i c hc
  split at h
  ·rename_i hr
   cases h
   have hs:s=⟨#[c]⟩:=by
    obtain⟨⟨x⟩⟩:=s
    have:x=[c]:=hc
    rw[this]
   have:c=48∨c=49∨c=50∨c=51∨c=52∨c=53∨c=54∨c=55∨c=56∨c=57:=by omega
   rcases this with rfl | rfl | rfl | rfl | rfl | rfl | rfl | rfl | rfl | rfl <;> (rw[hs];exact⟨by decide +kernel,rfl,by decide⟩)
  ·cases h
 ·cases h
theorem Zdd(f:Str)(p:Nat):(Zd6 f p).length<=1:=by
 show((f.cps.toList.drop (p+1)).take (p+2-(p+1))).toArray.size<=1
 rw[List.size_toArray,List.length_take]
 omega
theorem Zkj{s:Str}(h:s.length=0):s="":=by
 obtain⟨⟨x⟩⟩:=s
 have:x=[]:=List.eq_nil_of_length_eq_zero h
 rw[this]
 rfl
def Zl5(t:Str):En->Str
 |none=>""
 |some q=>Txt.slice t (some (q.1:Int)) (some (q.2:Int))
def Zi4(t:Str)(x:Nat×Yb):Pc->Str
 |.tx s=>s
 |.nm 0=>Txt.slice t (some (x.1:Int)) (some (x.2.1:Int))
 |.nm (k+1)=>Zl5 t (x.2.2.getD k none)
def Zd8(t:Str)(x:Nat×Yb)(ps:List Pc):Str:=Txt.join "" (ps.map (Zi4 t x))
end Seek
namespace L2
open PySem PySem.Spec PyProof.Rows
structure Kp(fs xs:List Addr)(h h':Heap):Prop where
 keep:∀b o,h.get? b=some o->b∉fs->b∉xs->h'.get? b=some o
 slot:∀b o,h.get? b=some o->b∈fs->b∉xs->∃sl,h'.get? b=some { o with slots:=sl }
 there:∀b o,h.get? b=some o->∃o',h'.get? b=some o'
theorem Kp.trans{fs xs ys zs:List Addr}{h h1 h2:Heap}(a:Kp fs xs h h1)(b:Kp fs ys h1 h2)(hx:∀c∈xs,c∈zs)(hy:∀c∈ys,c∈zs∨h.get? c=none):Kp fs zs h h2:=by
 have ny:∀c o,h.get? c=some o->c∉zs->c∉ys:=fun c o e n z=>by
  rcases hy c z with y | y
  ·exact n y
  ·rw[e]at y;cases y
 refine⟨fun c o e f n=>b.keep c o (a.keep c o e f fun z=>n (hx c z)) f (ny c o e n),fun c o e f n=>?_,fun c o e=>?_⟩
 ·obtain⟨sl,e1⟩:=a.slot c o e f fun z=>n (hx c z)
  obtain⟨sl2,e2⟩:=b.slot c _ e1 f (ny c o e n)
  exact⟨sl2,e2⟩
 ·obtain⟨o1,e1⟩:=a.there c o e
  exact b.there c o1 e1
theorem Kp.weak{fs fs' xs:List Addr}{h h':Heap}(a:Kp fs xs h h')(hf:∀b∈fs,b∈fs'):Kp fs' xs h h':=by
 refine⟨fun c o e f n=>a.keep c o e (fun z=>f (hf c z)) n,fun c o e f n=>?_,a.there⟩
 by_cases z:c∈fs
 ·exact a.slot c o e z n
 ·exact⟨o.slots,a.keep c o e z n⟩
def Tr(h:Heap)(x:Addr)(vs:Array Value)(fl:Value):Option Addr->Prop
 |none=>vs[1]? = some .none
 |some T=>vs[1]? = some (.ref T)/\T≠x/\∃oT ts,h.get? T=some oT/\oT.data=.fields ts/\ts[3]? = some fl
structure Xa(h:Heap)(x:Addr)(cls fl:Value)(To:Option Addr):Prop where
 ex:∃oe vs,h.get? x=some oe/\(oe.cls=cls/\oe.dict=none/\oe.slots = #[])/\oe.data=.fields vs/\1<vs.size/\Tr h x vs fl To
theorem Z3a(o:Obj)(f:Array Value->Array Value):(o.mapFields f).dict=o.dict/\(o.mapFields f).slots=o.slots:=by
 obtain⟨c,d,dt,sl⟩:=o
 cases dt <;> exact⟨rfl,rfl⟩
section
variable{M:Model}{A:Around}{E:Value->Shared->Prop}{s:Shared}{base:Heap}{env:Env}{outer:List Env}{L x:Addr}{cls:Value}{To:Option Addr}{Q:Unit->Shared->Prop}
theorem Za3{h:Heap}{l:List Env}{b:Addr}{o:Obj}{vs:Array Value}(hl:h.FunFrames base l)(e:h.get? b=some o)(d:o.data=.fields vs):b∉Z2r l:=fun hm=>by
 obtain⟨_,o',e',n⟩:=hl.mem hm
 rw[e]at e'
 cases e'
 exact n vs d
theorem Z5z{oe:Obj}{vs:Array Value}{head:Value}{hn:Bool}(hfr:A.frames=some (env::outer))(hl:s.heap.FunFrames base (env::outer))(hf:env.frame=some L)(he:s.heap.get? x=some oe)(hds:oe.dict=none/\oe.slots = #[])(hd:oe.data=.fields vs)(hsz:1<vs.size)
  (h:∀h',Kp (Z2r (env::outer)) [x] s.heap h'->Xa h' x oe.cls (rawInt L) (some s.heap.objs.size)->Q () { s with heap:=h' }) :
  wpAny M A (do let a ← frameOf env;let pl ← entryPlaceOf L hn;let b ← EntryCells.newEntry head a .none (rawInt L) .none pl;setField (.ref x) 1 b) Q E s:=by
 have hxf:=Za3 hl he hd
 refine wpAny_bind (wpAny_frameOf_fun hfr hl hf fun h1 hs=>?_)
 refine wpAny_bind (wpAny_entryPlaceOf fun pl hpl=>?_)
 unfold EntryCells.newEntry newFields
 refine wpAny_bind (wpAny_newObj_type ?_ (hpl.sizeOk5 _ _ _ _ _))
 have e1:h1.get? x=some oe:=(hs.2.1 x hxf).trans he
 have e2:=fun o:Obj=>Heap.get?_push_of_some (h:=h1) o e1
 refine wpAny_setField (e2 _) hd hsz (h _ ?_ ?_)
 ·refine⟨fun b o e f n=>?_,fun b o e f n=>?_,fun b o e=>?_⟩
  ·rw[Heap.get?_update_other _ _ fun z=>n (by simp[z])]
   exact Heap.get?_push_of_some _ ((hs.2.1 b f).trans e)
  ·obtain⟨sl,q⟩:=hs.2.2 b o e
   refine⟨sl,?_⟩
   rw[Heap.get?_update_other _ _ fun z=>n (by simp[z])]
   exact Heap.get?_push_of_some _ q
  ·by_cases z:x=b
   ·subst z
    exact⟨_,Heap.get?_update_self _ (e2 _) (Obj.isFreed_of_fields (Obj.data_mapFields hd _))⟩
   ·obtain⟨sl,q⟩:=hs.2.2 b o e
    exact⟨_,by rw[Heap.get?_update_other _ _ z];exact Heap.get?_push_of_some _ q⟩
 ·have hne:h1.objs.size≠x:=Nat.ne_of_gt (Heap.lt_size e1)
  have hd3:=Obj.data_mapFields hd (·.setIfInBounds 1 (Value.ref h1.objs.size))
  refine⟨_,_,Heap.get?_update_self _ (e2 _) (Obj.isFreed_of_fields hd3),⟨Obj.cls_mapFields _ _,(Z3a _ _).1.trans hds.1,(Z3a _ _).2.trans hds.2⟩,hd3,by rw[Array.size_setIfInBounds];exact hsz,?_⟩
  rw[← hs.1]
  have eN:=fun o:Obj=>fun(z:o.isFreed=false)=>(Heap.get?_update_other (h1.push o) (Obj.mapFields (·.setIfInBounds 1 (Value.ref h1.objs.size))) (Ne.symm hne)).trans (Heap.get?_push_size _ z)
  refine⟨by simp[hsz],hne,_,_,eN _ rfl,rfl,?_⟩
  ·first | (simp;done) | (rcases hpl with rfl | ⟨_,_,_,_,_,_,_,rfl⟩ <;> simp)
theorem Z8f(hfr:A.frames=some (env::outer))(hl:s.heap.FunFrames base (env::outer))(hf:env.frame=some L)(hx:Xa s.heap x cls .none To)
  (h:∀h',Kp (Z2r (env::outer)) (x::To.toList) s.heap h'->Xa h' x cls (rawInt L) (some s.heap.objs.size)->Q () { s with heap:=h' }):wpAny M A (noteFrame (.ref x) env) Q E s:=by
 obtain⟨oe,vs,he,⟨rfl,hds⟩,hd,hsz,tr⟩:=hx.ex
 unfold noteFrame
 simp only[hf]
 cases To with
 |none =>
  have h1:vs[1]? = some Value.none:=tr
  refine wpAny_bind (wpAny_field he hd h1 ?_)
  rw[if_neg (by decide)]
  exact Z5z hfr hl hf he hds hd hsz fun h' k xa=>h h' k xa
 |some T =>
  obtain⟨h1,hne,oT,ts,eT,dT,h3⟩:=tr
  refine wpAny_bind (wpAny_field he hd h1 ?_)
  rw[if_pos (show(Value.ref T != Value.none)=true from by simp)]
  refine wpAny_bind (wpAny_field eT dT h3 ?_)
  rw[if_neg (show ¬((Value.none==rawInt L)=true) from by simp[rawInt])]
  refine wpAny_bind (wpAny_setField eT dT (Array.getElem?_eq_some_iff.mp h3).1 ?_)
  have other:∀b,b≠T->(s.heap.update T (Obj.mapFields (·.setIfInBounds 3 Value.none))).get? b=s.heap.get? b:=fun b hb=>Heap.get?_update_other _ _ (Ne.symm hb)
  have eT2:=Heap.get?_update_self (Obj.mapFields (·.setIfInBounds 3 Value.none)) eT (Obj.isFreed_of_fields (Obj.data_mapFields dT _))
  have k0:Kp (Z2r (env::outer)) [T] s.heap (s.heap.update T (Obj.mapFields (·.setIfInBounds 3 Value.none))):=by
   refine⟨fun b o e f n=>(other b (by simpa using n)).trans e,fun b o e f n=>⟨o.slots,(other b (by simpa using n)).trans e⟩,fun b o e=>?_⟩
   by_cases z:b=T
   ·subst z;exact⟨_,eT2⟩
   ·exact⟨o,(other b z).trans e⟩
  have hl2:(s.heap.update T (Obj.mapFields (·.setIfInBounds 3 Value.none))).FunFrames base (env::outer):=hl.of_keeps fun b o e n=>⟨o,(other b fun z=>by subst z;rw[eT]at e;cases e;exact n ts dT).trans e,rfl⟩
  refine Z5z (s:={ s with heap:=s.heap.update T (Obj.mapFields (·.setIfInBounds 3 Value.none)) }) hfr hl2 hf ((other x (Ne.symm hne)).trans he) hds hd hsz fun h' k xa=>h h' (k0.trans k (by simp) (by simp)) ?_
  have es:(s.heap.update T (Obj.mapFields (·.setIfInBounds 3 Value.none))).objs.size=s.heap.objs.size:=Heap.size_after_update ..
  rw[es]at xa
  exact xa
theorem Z0a{T:Addr}{fl:Value}(hx:Xa s.heap x cls fl (some T))(h:∀h',Kp [] [T] s.heap h'->Xa h' x cls .none (some T)->Q () { s with heap:=h' }):wpAny M A (setFlight (.ref x) none) Q E s:=by
 obtain⟨oe,vs,he,⟨rfl,hds⟩,hd,hsz,h1,hne,oT,ts,eT,dT,h3⟩:=hx.ex
 have h3s:=(Array.getElem?_eq_some_iff.mp h3).1
 unfold setFlight
 refine wpAny_bind (wpAny_field he hd h1 ?_)
 rw[if_pos (show(Value.ref T != Value.none)=true from by simp)]
 refine wpAny_setField eT dT h3s (h _ ?_ ?_)
 ·refine⟨fun b o e f n=>?_,fun b o e f n=>absurd f (by simp),fun b o e=>?_⟩
  ·rw[Heap.get?_update_other _ _ fun z=>n (by simp[z])];exact e
  ·by_cases z:T=b
   ·subst z
    exact⟨_,Heap.get?_update_self _ eT (Obj.isFreed_of_fields (Obj.data_mapFields dT _))⟩
   ·exact⟨o,by rw[Heap.get?_update_other _ _ z];exact e⟩
 ·refine⟨oe,vs,?_,⟨rfl,hds⟩,hd,hsz,h1,hne,_,_,Heap.get?_update_self _ eT (Obj.isFreed_of_fields (Obj.data_mapFields dT _)),Obj.data_mapFields dT _,?_⟩
  ·rw[Heap.get?_update_other _ _ hne];exact he
  ·simp[h3s]
theorem Zbl(hfr:A.frames=some (env::outer))(hl:s.heap.FunFrames base (env::outer))(hf:env.frame=some L)(hx:Xa s.heap x cls .none To)
  (h:∀h' T,s.heap.get? T=none->Kp (Z2r (env::outer)) (x::To.toList) s.heap h'->Xa h' x cls .none (some T)->Q () { s with heap:=h' }):wpAny M A (leaving env (.ref x)) Q E s:=by
 unfold leaving
 have hT:s.heap.get? s.heap.objs.size=none:=Heap.get?_none_of_le (Nat.le_refl _)
 refine wpAny_bind (Z8f hfr hl hf hx fun h1 k1 x1=>?_)
 exact Z0a (s:={ s with heap:=h1 }) x1 fun h2 k2 x2=>h h2 _ hT (k1.trans (k2.weak (by simp)) (fun c hc=>hc) fun c hc=>.inr (by rw[List.mem_singleton.mp hc];exact hT)) x2
end
theorem Ziw{P:Program}{w:World}{H:Hp}{h:Heap}{a:Addr}{o:HO}(x:ObjOk P w H h a o):∃u,h.get? a=some u:=by
 cases o with
 |lst xs=>obtain⟨_,_,_,_,e⟩:=x;exact⟨_,e⟩
 |tup xs=>obtain⟨_,_,_,_,e,_⟩:=x;exact⟨_,e⟩
 |dK kvs=>obtain⟨_,_,_,_,o,_,_,e,_⟩:=x;exact⟨_,e⟩
 |dT kvs=>obtain⟨_,_,_,_,o,_,_,e,_⟩:=x;exact⟨_,e⟩
 |set S n=>obtain⟨o,_,_,_,e,_⟩:=x;exact⟨_,e⟩
 |ins C dx fs=>obtain⟨_,_,_,e,_⟩:=x;exact⟨_,e⟩
 |own y=>exact x
 |xd fs=>obtain⟨_,⟨_,_,_,e,_⟩,_⟩:=x;exact⟨_,e⟩
 |rng lo hi=>obtain⟨_,_,_,e⟩:=x;exact⟨_,e⟩
 |frz ob u=>obtain⟨e,_⟩:=x;exact⟨_,e⟩
 |tbl ps=>exact⟨_,(show h.get? a=some _ from x)⟩
 |met f y=>exact⟨_,(show h.get? a=some _ from x)⟩
 |ext φ=>obtain⟨_,e,_⟩:=x;exact e
theorem HOk.none_of{P:Program}{w:World}{H:Hp}{h:Heap}{a:Addr}(x:HOk P w H h)(e:h.get? a=none):H a=none:=by
 cases q:H a with
 |none=>rfl
 |some u =>
  obtain⟨o,z⟩:=Ziw (x a u q)
  rw[e]at z
  cases z
theorem Z8n{P:Program}{w:World}{H:Hp}{h h':Heap}{fs xs:List Addr}(ok:HOk P w H h)(k:Kp fs xs h h')(hf:∀b∈fs,H b=none)(hx:∀c∈xs,H c=none):HOk P w H h':=fun a o e=>by
 refine(ok a o e).stay (fun b u c q=>?_) (fun _ q=>q) fun _ _ q=>q
 have t:∃o',H b=some o':=by
  rcases c with rfl | c
  ·exact⟨o,e⟩
  ·exact⟨_,c⟩
 obtain⟨o',t⟩:=t
 refine k.keep b u q (fun z=>?_) fun z=>?_
 ·rw[hf b z]at t;cases t
 ·rw[hx b z]at t;cases t
theorem Zby{fs fs' xs:List Addr}{H H':Hp}{h h1 h2:Heap}{L:Addr}(u:Un fs [] H H' h h1)(k:Kp fs' xs h1 h2)(hL:h.get? L=none)(hf:∀b∈fs',b=L∨b∈fs)(hx:∀c∈xs,h.get? c=none):Un fs [] H H' h h2:=by
 have nx:∀b o,h.get? b=some o->b∉xs:=fun b o e z=>by rw[hx b z]at e;cases e
 have nf:∀b o,h.get? b=some o->b∈fs'->b∈fs:=fun b o e z=>by
  rcases hf b z with rfl | z
  ·rw[hL]at e;cases e
  ·exact z
 refine⟨fun b o e n f x=>k.keep b o (u.keep b o e n f x) (fun z=>f (nf b o e z)) (nx b o e),fun b o e n f x=>?_,u.free,fun b o e x=>?_,u.tups,u.frzs,u.tbls⟩
 ·obtain⟨sl,e1⟩:=u.slot b o e n f x
  by_cases z:b∈fs'
  ·obtain⟨sl2,e2⟩:=k.slot b _ e1 z (nx b o e)
   exact⟨sl2,e2⟩
  ·exact⟨sl,k.keep b _ e1 z (nx b o e)⟩
 ·obtain⟨o1,e1⟩:=u.there b o e x
  exact k.there b o1 e1
def Z7w(P:Program)(w:World):Zaf:=fun outer H s E e s'=>∃(x T:Addr) (cls:Value) (H':Hp),e=.ref x/\s'.os=s.os/\AllBare s'.gens/\Un (Z2r outer) [] H H' s.heap s'.heap/\HOk P w H' s'.heap/\Xa s'.heap x cls .none (some T) /\
 s.heap.get? x=none/\s.heap.get? T=none/\H' x=none/\H' T=none/\E cls none H'
structure LeaveX(X:Cx)(E:XK):Prop where
 xe:X.xe=fun e s'=>wpAny (model X.prog X.w) X.A (leaving X.env e) (fun _ s''=>Z7w X.prog X.w X.outer X.H₀ X.s₀ E e s'') (fun e' s''=>Z7w X.prog X.w X.outer X.H₀ X.s₀ E e' s'') s'
 stk:X.stack=X.env::X.outer
 fr:X.env.frame=some X.env.locals
 ex:X.ex=[]
section
variable{X:Cx}{E:XK}
theorem LeaveX.go{Z4:List (Addr×Obj)}{σ:St}{H:Hp}{s:Shared}{x:Addr}{To:Option Addr}{cls:Value}(L:LeaveX X E)(I:Inv X Z4 σ H s)(hx:Xa s.heap x cls .none To)(h0:X.s₀.heap.get? x=none)(hT:∀T,To=some T->X.s₀.heap.get? T=none/\H T=none)(hn:H x=none)(hE:E cls none H):X.xe (.ref x) s:=by
 rw[L.xe]
 have hfr:=I.ok.frames
 have hl:=I.stack
 have hsf:=I.stkFree
 rw[L.stk]at hfr hl hsf
 refine Zbl hfr hl L.fr hx fun h' T' nT k xa=>?_
 have hxs:∀c∈x::To.toList,X.s₀.heap.get? c=none/\H c=none:=fun c hc=>by
  rcases List.mem_cons.mp hc with rfl | hc
  ·exact⟨h0,hn⟩
  ·cases To with
   |none=>simp at hc
   |some T=>rw[show c=T by simpa using hc];exact hT T rfl
 have hu:Un (Z2r X.outer) [] X.H₀ H X.s₀.heap s.heap:=by
  have:=I.base
  rw[L.ex]at this
  exact this
 refine⟨x,T',cls,H,rfl,I.os,I.bare,Zby hu k (L:=X.env.locals) (Heap.get?_none_of_le I.ok.above) (fun b hb=>?_) (fun c hc=>(hxs c hc).1),Z8n I.hok k hsf fun c hc=>(hxs c hc).2,xa,h0,?_,hn,I.hok.none_of nT,hE⟩
 ·have:Z2r (X.env::X.outer)=X.env.locals::Z2r X.outer:=by
   unfold Z2r
   rw[List.filterMap_cons,L.fr]
  rw[this]at hb
  exact List.mem_cons.mp hb
 ·cases q:X.s₀.heap.get? T' with
  |none=>rfl
  |some o =>
   obtain⟨o',z⟩:=hu.there T' o q (by simp)
   rw[nT]at z
   cases z
theorem LeaveX.pass(L:LeaveX X E):Ve (Z7w X.prog X.w) X E:=by
 rintro Z4 σ H s e s' I ⟨x,T,cls,H',rfl,ho,hb,un,ok,xa,nx,nT,hx,hT,hE⟩
 have I1:Inv X Z4 σ H' s':=I.call' ho un ok hb (ch:=[]) (fun b z=>absurd z (by simp))
 have back:∀b,s.heap.get? b=none->X.s₀.heap.get? b=none:=fun b e=>by
  cases q:X.s₀.heap.get? b with
  |none=>rfl
  |some o =>
   obtain⟨o',z⟩:=I.base.there b o q (by rw[L.ex];simp)
   rw[e]at z
   cases z
 exact L.go I1 xa (back x nx) (fun T' e=>by cases e;exact⟨back T nT,hT⟩) hx hE
end
theorem Fun.okX{P:Program}{w:World}{K:W.Frag}{mg:Str->Option Value}{base:Heap}{x qual:Str}{st:Stmt}{f:Addr}{fd:FuncData}{N ps:List Str}{k:Nat}{sp:Sp}(F:Fun K x qual st f fd)(S:FnScope N ps (Z9 st))(len:∀vs H Q E,sp vs H Q E->vs.length=ps.length)
  (hbody:∀(cdv:Value) (A:Around) (outer:List Env) (s:Shared) (H:Hp) (vs:List V) (Q:VK) (E:XK),Room k (A.deeper (envOfC qual (Z9 st) s.heap.objs.size f cdv))->sp vs H Q E ->
   LeaveX (Z2t (Z7w P w) P w K mg base N qual (Z9 st) f cdv A outer s H E) E->∃t,PSs (Z2t (Z7w P w) P w K mg base N qual (Z9 st) f cdv A outer s H E) (X4 st) t/\t { nx:=fun _ H'=>Q .non H',rt:=Q } (start N vs) H):FnOk P w K mg base (Z7w P w) (k+1) f fd ps sp:=by
 obtain⟨oc,od,kV,doc,pm,an,cdv,ct,osl,rfl,lk,hcd⟩:=F.ex
 exact Zfl lk hcd S len fun A outer s H vs Q E hr hsp=>hbody cdv A outer s H vs Q E hr hsp ⟨rfl,rfl,rfl,rfl⟩
theorem LeaveX.own{CX:Zaf}{P:Program}{w:World}{K:W.Frag}{mg:Str->Option Value}{base:Heap}{N:List Str}{qual:Str}{scope:Scope}{f:Addr}{cd:Value}{A:Around}{outer:List Env}{s:Shared}{H:Hp}{E:XK}:PassesOwn (model P w) (Z2t CX P w K mg base N qual scope f cd A outer s H E).A (Z2t CX P w K mg base N qual scope f cd A outer s H E).env (Z2t CX P w K mg base N qual scope f cd A outer s H E).xe:=PassesOwn.leaving
def Zjr:List Value:=[.type "ValueError",.type "Exception",.type "BaseException",.type "object"]
structure XC(K:W.Frag)(mg:Str->Option Value)(x:Str)(C C':Addr):Prop where
 mgx:mg x=some (.ref C)
 ob:∃nm q N bs hdct sn sub ab col dd k0 k1 k2 k3 k5 es,K.lookup C=some (excClassObj nm q C N bs (.ref C'::Zjr) hdct sn sub ab col dd k0 k1 k2 k3 k5 "ValueError.__new__")/\(∀h,K.In h->h.Ns N (nsFind es))/\nsFind es "__init__" = none/\∀h,K.In h->OwnTail h Zjr (.ref C'::Zjr)
def Zfs(C:Addr)(E:XK)(t:TA):TS:=fun D σ H=>t σ H fun vs H1=>vs.length<=sizeLine/\E (.ref C) none H1
theorem Jh{X:Cx}{E:XK}{x:Str}{C C':Addr}{e:Expr}{t:TA}{np cpos pos:Pos}(L:LeaveX X E)(hc:X.calm=true)(xc:XC X.K X.mg x C C')(hg:Gl X x)(ha:PA X [e] t)
  (he:starEach [e] X.env=(false,eval e X.env)::starEach [] X.env:=by rfl) (hdb:(x==("__debug__":Str))=false:=by decide):PS X (.Raise (some (.Call (.Name x np) [e] [] cpos)) none pos) (Zfs C E t):=by
 intro Z4 s σ H D I h
 obtain⟨nm,q,N,bs,hdct,sn,sub,ab,col,dd,k0,k1,k2,k3,k5,es,hC,hN,hi,hT⟩:=xc.ob
 refine wpAny_Raise_call_subT (C:=C) (nm:=nm) (q:=q) (N:=N) (bs:=bs) (bm:=.ref C'::Zjr) (hdct:=hdct) (sn:=sn) (sub:=sub) (ab:=ab) (col:=col) (dd:=dd) (k0:=k0) (k1:=k1) (k2:=k2) (k3:=k3) (k5:=k5) PySem.F.excBase_ValueError (mN:=nsFind es) ((hT _ I.kIn).hasType PySem.F.excBase_ValueError.hasBase) (I.ok.hd hc) (by rw[he];rfl) hi (Jt I hg xc.mgx ⟨rfl,?_⟩ hdb)
 have h1:=ha cpos Z4 s σ H _ I h
 rw[he]at h1 ⊢
 refine Calls.evalArgs_plain (wpAny_mono h1 (fun us s2 h2=>?_) fun _ _ y=>y)
 obtain⟨vs,H1,I1,r,hz,hE⟩:=h2
 refine⟨rfl,?_,I1.kIn _ _ hC,hN _ I1.kIn,hT _ I1.kIn,fun h' x' hm=>?_⟩
 ·show us.length<=_
  rw[← r.length]
  exact hz
 ·obtain⟨t',e',nt,_⟩:=hm.there
  have I2:Inv X Z4 σ H1 { s2 with heap:=h' }:=I1.kept (t':=s2.toks) hm.keeps
  have nx:=hm.new
  refine L.go (To:=none) I2 ⟨_,_,e',⟨rfl,rfl,rfl⟩,rfl,by simp,rfl⟩ ?_ (fun T z=>by cases z) (I1.hok.none_of nx) hE
  cases z:X.s₀.heap.get? x' with
  |none=>rfl
  |some o =>
   obtain⟨o',z'⟩:=I1.base.there x' o z (by rw[L.ex];simp)
   rw[nx]at z'
   cases z'
end L2
namespace Seek
open PySem PySem.Spec PyProof.Rows L2
structure OwnX(P:Program)(w:World)(K:W.Frag)(mg:Str->Option Value)(base:Heap)(k:Nat)(x:Str)(ps:List Str)(sp:Sp):Prop where
 ex:∃f fd,FnOk P w K mg base (Z7w P w) k f fd ps sp/\mg x=some (.ref f)/\W.keepIn K (.ref f)=true/\Binds K fd ps []
theorem OwnX.mono{P:Program}{w:World}{K:W.Frag}{mg:Str->Option Value}{base:Heap}{j k:Nat}{x:Str}{ps:List Str}{sp:Sp}(O:OwnX P w K mg base j x ps sp)(h:j<=k):OwnX P w K mg base k x ps sp:=by
 obtain⟨f,fd,F,r⟩:=O.ex
 exact⟨f,fd,F.mono h,r⟩
theorem U9{X:Cx}{E:XK}{k:Nat}{x:Str}{ps:List Str}{sp:Sp}{p pos:Pos}{e:Expr}{es:List Expr}{t:TA}(hx:Ve (Z7w X.prog X.w) X E)(O:OwnX X.prog X.w X.K X.mg X.base k x ps sp)(hr:Room k X.A)(hg:Gl X x)(ha:PA X (e::es) t)
  (hdb:(x==("__debug__":Str))=false:=by decide) (he:starEach (e::es) X.env=(false,eval e X.env)::starEach es X.env:=by rfl) (hpl:(backTo pos (starEach es X.env)).any (·.1)=false:=by rfl) :
  PE X (.Call (.Name x p) (e::es) [] pos) (Zcs sp [] E t):=by
 obtain⟨f,fd,F,hm,hk,hb⟩:=O.ex
 exact Z89 F hr hg hm hk hb .nil hx ha hdb he hpl
end Seek
namespace L2
open PySem PySem.Spec PyProof.Rows
abbrev Cx.sub(X:Cx)(x:Addr):Cx:={ X with A:=X.A.mark (some (.ref x)),calm:=false,xe:=fun _ _=>False }
theorem Cx.Ok.sub{X:Cx}(ok:X.Ok)(x:Addr):(X.sub x).Ok :=
 ⟨ok.mod,ok.kind,ok.glob,ok.blt,ok.above,ok.inj,ok.has,ok.cab,fun z=>(by cases z),ok.frames,ok.stk,ok.exf,ok.bs,ok.bsz,ok.noex,ok.exfs,ok.funs,ok.frf⟩
section
variable{X:Cx}{Z4:List (Addr×Obj)}{σ:St}{H:Hp}{s:Shared}
theorem Inv.sub(I:Inv X Z4 σ H s)(x:Addr):Inv (X.sub x) Z4 σ H s:=⟨I.ok.sub x,I.os,I.bare,I.base,I.loc,I.cell,I.free,I.freeC,I.pin,I.hok,I.len⟩
theorem Inv.unsub{x:Addr}(ok:X.Ok)(I:Inv (X.sub x) Z4 σ H s):Inv X Z4 σ H s:=⟨ok,I.os,I.bare,I.base,I.loc,I.cell,I.free,I.freeC,I.pin,I.hok,I.len⟩
theorem SP.unsub{x:Addr}{D:Ends}{f:Flow}{s':Shared}(ok:X.Ok)(h:SP (X.sub x) Z4 D f s'):SP X Z4 D f s':=by
 cases f with
 |next=>obtain⟨σ',H',I,q⟩:=h;exact⟨σ',H',I.unsub ok,q⟩
 |brk=>obtain⟨σ',H',I,q⟩:=h;exact⟨σ',H',I.unsub ok,q⟩
 |cont=>obtain⟨σ',H',I,q⟩:=h;exact⟨σ',H',I.unsub ok,q⟩
 |ret u=>obtain⟨v,σ',H',I,r,q⟩:=h;exact⟨v,σ',H',I.unsub ok,r,q⟩
abbrev Cx.bod(X:Cx)(pn:List (Addr×Obj))(xe:Value->Shared->Prop):Cx:={ X with pn:=pn,xe:=xe }
theorem Cx.Ok.bod{X:Cx}(ok:X.Ok){pn:List (Addr×Obj)}{xe:Value->Shared->Prop}:(X.bod pn xe).Ok :=
 ⟨ok.mod,ok.kind,ok.glob,ok.blt,ok.above,ok.inj,ok.has,ok.cab,ok.hd,ok.frames,ok.stk,ok.exf,ok.bs,ok.bsz,ok.noex,ok.exfs,ok.funs,ok.frf⟩
theorem Cx.Ok.unbod{X:Cx}{pn:List (Addr×Obj)}{xe:Value->Shared->Prop}(ok:(X.bod pn xe).Ok):X.Ok :=
 ⟨ok.mod,ok.kind,ok.glob,ok.blt,ok.above,ok.inj,ok.has,ok.cab,ok.hd,ok.frames,ok.stk,ok.exf,ok.bs,ok.bsz,ok.noex,ok.exfs,ok.funs,ok.frf⟩
theorem Inv.bod(I:Inv X Z4 σ H s){xe:Value->Shared->Prop}:Inv (X.bod (X.pn++Z4) xe) [] σ H s:=⟨I.ok.bod,I.os,I.bare,I.base,I.loc,I.cell,I.free,I.freeC,fun p hp=>I.pin p (by simpa using hp),I.hok,I.len⟩
theorem Inv.unbod{xe:Value->Shared->Prop}{pl:List (Addr×Obj)}(I:Inv (X.bod (X.pn++Z4) xe) pl σ H s):Inv X Z4 σ H s:=⟨I.ok.unbod,I.os,I.bare,I.base,I.loc,I.cell,I.free,I.freeC,fun p hp=>I.pin p (List.mem_append.mpr (.inl hp)),I.hok,I.len⟩
theorem SP.unbod{xe:Value->Shared->Prop}{D:Ends}{f:Flow}{s':Shared}{pl:List (Addr×Obj)}(h:SP (X.bod (X.pn++Z4) xe) pl D f s'):SP X Z4 D f s':=by
 cases f with
 |next=>obtain⟨σ',H',I,q⟩:=h;exact⟨σ',H',I.unbod,q⟩
 |brk=>obtain⟨σ',H',I,q⟩:=h;exact⟨σ',H',I.unbod,q⟩
 |cont=>obtain⟨σ',H',I,q⟩:=h;exact⟨σ',H',I.unbod,q⟩
 |ret u=>obtain⟨v,σ',H',I,r,q⟩:=h;exact⟨v,σ',H',I.unbod,r,q⟩
end
def Zl7(K:W.Frag)(C:Addr)(bm:List Value):Prop:=∃nm q N bs hdct sn sub ab col dd k0 k1 k2 k3 k5 newId,K.lookup C=some (excClassObj nm q C N bs bm hdct sn sub ab col dd k0 k1 k2 k3 k5 newId)
theorem XC.co{K:W.Frag}{mg:Str->Option Value}{x:Str}{C C':Addr}(h:XC K mg x C C'):Zl7 K C (.ref C'::Zjr):=by
 obtain⟨nm,q,N,bs,hdct,sn,sub,ab,col,dd,k0,k1,k2,k3,k5,es,hC,_⟩:=h.ob
 exact⟨nm,q,N,bs,hdct,sn,sub,ab,col,dd,k0,k1,k2,k3,k5,_,hC⟩
def Z6b(K:W.Frag)(C Cs:Addr):Prop:=∃bm bs,Zl7 K C bm/\Zl7 K Cs bs/\bs.contains (.type "BaseException")=true/\(C=Cs∨bm.contains (.ref Cs)=true)
theorem XC.catch1{K:W.Frag}{mg:Str->Option Value}{x:Str}{C C':Addr}(h:XC K mg x C C'):Z6b K C C:=⟨_,_,h.co,h.co,rfl,.inl rfl⟩
theorem Zeu{M:Model}{A:Around}{E:Value->Shared->Prop}{K:W.Frag}{s:Shared}{e C Cs:Addr}{oe:Obj}{Q:Bool->Shared->Prop}(X:K.In s.heap)(ca:Z6b K C Cs)(he:s.heap.get? e=some oe)(hcls:oe.cls=.ref C)(hq:Q true s):wpAny M A (excMatches (.ref e) (.ref Cs)) Q E s:=by
 obtain⟨bm,bs,⟨nm,q,N,bs1,hdct,sn,sub,ab,col,dd,k0,k1,k2,k3,k5,newId,lC⟩,⟨nm',q',N',bs',hdct',sn',sub',ab',col',dd',k0',k1',k2',k3',k5',newId',lS⟩,hb,hc⟩:=ca
 have hC:=X _ _ lC
 have hS:=X _ _ lS
 obtain⟨h,g,d,t,os⟩:=s
 by_cases z:C=Cs
 ·subst z
  exact wpAny_excMatches_sub_self hS he hcls hb hq
 ·have hc2:bm.contains (.ref Cs)=true:=by
   rcases hc with y | y
   ·exact absurd y z
   ·exact y
  have hcB:(Value.ref Cs::bs).contains (.type "BaseException")=true:=by rw[List.contains_cons,hb,Bool.or_true]
  have hcC:(Value.ref C::bm).contains (.ref Cs)=true:=by rw[List.contains_cons,hc2,Bool.or_true]
  have f:=tc_notTuple
  unfold excMatches
  repeat (first | (with_reducible refine wpAny_loadPart_at he ?_;rw[hcls]) | with_reducible refine wpAny_loadPart_at hS ?_ | (with_reducible refine wpAny_isSubtype_exc hS ?_;rw[hcB]) | (with_reducible refine wpAny_isSubtype_exc hC ?_;rw[hcC]) | wp_step)
  exact hq
def Zja(K:W.Frag)(Cs:Addr)(n:Nat)(tb:XK->TS)(th:TS):TS:=fun D σ H=>tb (fun cls _ H'=>(∃C,cls=.ref C/\Z6b K C Cs)/\th D (List.replicate n none) H') D σ H
theorem Zgq{X:Cx}{c:Str}{Cs:Addr}{body:List Stmt}{b0:Stmt}{suite:List Stmt}{tb:XK->TS}{th:TS}{np hpos pos:Pos}(hstk:X.stack=X.env::X.outer)(hfrm:X.env.frame=some X.env.locals)(hg:Gl X c)(hm:X.mg c=some (.ref Cs))
  (hb:∀(pn:List (Addr×Obj)) (xe:Value->Shared->Prop) (Eb:XK),Ve (Z7w X.prog X.w) (X.bod pn xe) Eb->PSs (X.bod pn xe) body (tb Eb)) (hs:∀x,PSs (X.sub x) (b0::suite) th) (hdb:(c==("__debug__":Str))=false:=by decide) :
  PS X (.Try body [.ExceptHandler (some (.Name c np)) none (b0::suite) hpos] [] [] pos) (Zja X.K Cs X.N.length tb th):=by
 intro Z4 s σ H D I h
 refine wpAny_Try_except ?_
 refine wpAny_mono (hb (X.pn++Z4) (fun e s1=>wpAny (model X.prog X.w) X.A (noteFrame e X.env) (fun _ s2=>wpAny (model X.prog X.w) X.A (setFlight e none) (fun _ s3=>wpAny (model X.prog X.w) X.A (handleBy e X.env [.ExceptHandler (some (.Name c np)) none (b0::suite) hpos]) (SP X Z4 D) X.xe s3) X.xe s2) X.xe s1) (fun cls _ H'=>(∃C,cls=.ref C/\Z6b X.K C Cs)/\th D (List.replicate X.N.length none) H') ?_ [] s σ H D I.bod h) (fun f s1 h1=>?_) fun e s1 h1=>h1
 ·rintro pl σ1 H1 s1 e s2 I1 ⟨x,T,cls,H',rfl,ho,hbr,un,ok,xa,nx,nT,hx,hT,⟨C,rfl,hca⟩,hth⟩
  have I2:Inv (X.bod (X.pn++Z4) _) pl σ1 H' s2:=I1.call' ho un ok hbr (ch:=[]) (fun b z=>absurd z (by simp))
  have hfr:X.A.frames=some (X.env::X.outer):=by rw[← hstk];exact I2.ok.frames
  have hl:s2.heap.FunFrames X.base (X.env::X.outer):=by have z:s2.heap.FunFrames X.base X.stack:=I2.stack;rw[hstk]at z;exact z
  have hsf:∀b∈Z2r (X.env::X.outer),H' b=none:=by have z:∀b∈Z2r X.stack,H' b=none:=I2.stkFree;rw[hstk]at z;exact z
  have hLn:s1.heap.get? s1.heap.objs.size=none:=Heap.get?_none_of_le (Nat.le_refl _)
  have back:∀b,s2.heap.get? b=none->s1.heap.get? b=none:=fun b e=>by
   cases q:s1.heap.get? b with
   |none=>rfl
   |some o =>
    obtain⟨o',z⟩:=un.there b o q (by simp)
    rw[e]at z
    cases z
  refine Z8f hfr hl hfrm xa fun h3 k3 xa3=>?_
  have nT3:s2.heap.get? s2.heap.objs.size=none:=Heap.get?_none_of_le (Nat.le_refl _)
  refine Z0a (s:={ s2 with heap:=h3 }) xa3 fun h4 k4 xa4=>?_
  have k24:Kp (Z2r (X.env::X.outer)) [x,T] s2.heap h4:=k3.trans (k4.weak (by simp)) (fun c hc=>hc) fun c hc=>.inr (by rw[List.mem_singleton.mp hc];exact nT3)
  have at_:∀(h':Heap) (tk:Nat),Kp (Z2r (X.env::X.outer)) [x,T] s2.heap h'->Inv X Z4 (List.replicate X.N.length none) H' { s2 with heap:=h',toks:=tk }:=fun h' tk k=>by
   have un':Un (Z2r X.stack) [] H1 H' s1.heap h':=Zby un k (L:=s1.heap.objs.size) hLn (fun b hb=>.inr (by show b∈Z2r X.stack;rw[hstk];exact hb)) fun c hc=>by
    rcases List.mem_cons.mp hc with rfl | hc
    ·exact nx
    ·rw[List.mem_singleton.mp hc];exact nT
   have ok':HOk X.prog X.w H' h':=Z8n ok k hsf fun c hc=>by
    rcases List.mem_cons.mp hc with rfl | hc
    ·exact hx
    ·rw[List.mem_singleton.mp hc];exact hT
   have I3:Inv (X.bod (X.pn++Z4) _) pl σ1 H' { s2 with heap:=h',toks:=tk }:=I1.call' (s':={ s2 with heap:=h',toks:=tk }) ho un' ok' hbr (ch:=[]) (fun b z=>absurd z (by simp))
   refine I3.unbod.weak (by rw[List.length_replicate];exact I3.len.symm) fun i v e=>?_
   rw[List.getElem?_replicate]at e
   split at e <;> cases e
  have I4:=at_ h4 s2.toks k24
  refine wpAny_handleBy_cons (codeAny_handlers_test (Jt (X:=X.sub x) (I4.sub x) hg hm ?_ hdb)) (by intro q;cases q)
  obtain⟨oe,vs,he,⟨hcl,_⟩,_⟩:=xa4.ex
  refine Zeu I4.kIn hca he hcl ?_
  refine codeAny_handlers_suite ?_
  refine Z0a (s:={ s2 with heap:=h4 }) xa4 fun h5 k5 xa5=>?_
  have k25:Kp (Z2r (X.env::X.outer)) [x,T] s2.heap h5:=k24.trans (k5.weak (by simp)) (fun c hc=>hc) fun c hc=>.inr (by rw[List.mem_singleton.mp hc];exact nT3)
  have I5:=at_ h5 s2.toks k25
  exact wpAny_mono (hs x Z4 _ _ H' D (I5.sub x) hth) (fun f s6 h6=>h6.unsub I5.ok) fun _ _ z=>False.elim z
 ·cases f with
  |next=>exact wpAny_execs_nil (SP.unbod (f:=.next) h1)
  |brk=>exact SP.unbod (f:=.brk) h1
  |cont=>exact SP.unbod (f:=.cont) h1
  |ret u=>exact SP.unbod (f:=.ret u) h1
section
variable{prog:Program}{w:World}{A:Around}{E:Value->Shared->Prop}{s:Shared}{K:W.Frag}{x C:Addr}
end
end L2
namespace Seek
open PySem PySem.Spec PyProof.Rows L2
structure OwnMX(P:Program)(w:World)(K:W.Frag)(mg:Str->Option Value)(base:Heap)(k:Nat)(C:Addr)(m:Str)(ps:List Str)(sp:Sp):Prop where
 ex:∃f fd,FnOk P w K mg base (Z7w P w) k f fd ps sp/\Meth K C m f/\Binds K fd ps []
theorem OwnMX.mono{P:Program}{w:World}{K:W.Frag}{mg:Str->Option Value}{base:Heap}{j k:Nat}{C:Addr}{x:Str}{ps:List Str}{sp:Sp}(O:OwnMX P w K mg base j C x ps sp)(h:j<=k):OwnMX P w K mg base k C x ps sp:=by
 obtain⟨f,fd,F,r⟩:=O.ex
 exact⟨f,fd,F.mono h,r⟩
theorem Z1w{X:Cx}{E:XK}{k:Nat}{C:Addr}{m:Str}{ps:List Str}{sp:Sp}{o e:Expr}{es:List Expr}{ta:TE}{t:TA}{apos pos:Pos}{pl:Sem Bool}(hx:Ve (Z7w X.prog X.w) X E)(O:OwnMX X.prog X.w X.K X.mg X.base k C m ps sp)(c:Cls X.K C)(hr:Room k X.A)(he:PE X o ta)(ha:PA X (e::es) t)
  (hst:starEach (e::es) X.env=(false,eval e X.env)::starEach es X.env:=by rfl) (hpl:(backTo pos (starEach es X.env)).any (·.1)=false:=by rfl)
  (ht:eval (.Call (.Attribute o m apos) (e::es) [] pos) X.env=(do
   let ov ← eval o X.env
   standAt apos.atName
   let(f,first) ← holding [ov] (getMethod ov m pl)
   callWith pos f first (backTo pos (starEach (e::es) X.env)) (backToKw pos (keywordEach [] X.env))):=by rfl):PE X (.Call (.Attribute o m apos) (e::es) [] pos) (Z66 C m sp [] E ta t):=by
 obtain⟨f,fd,F,hm,hb⟩:=O.ex
 exact Z88 he c hm F hr hb .nil hx ha hst hpl ht
def UW(t:Str)(W:Wk)(q:Pat)(f:Nat->Bool)(sz c:Nat):Prop:=∀i g,i<=t.length->∃N,N<=c/\W q i g (if f i=true then[(i+sz,g)] else[]) N
def tl(lo:Int)(sz:Nat)(g:Gs):Nat->Nat->Nat->List Yb
 |m,i,0=>if lo<=(m:Int) then[(i,g)] else[]
 |m,i,k+1=>(if lo<=(m:Int) then[(i,g)] else[])++tl lo sz g (m+1) (i+sz) k
structure Run(t:Str)(f:Nat->Bool)(sz:Nat)(hi:Option Int)(m i k:Nat):Prop where
 fit:∀j,j<k->f (i+j*sz)=true/\Ws hi (m+j)=true
 stop:f (i+k*sz)=false∨Ws hi (m+k)=false
 le:i+k*sz<=t.length
theorem Run.next{t:Str}{f:Nat->Bool}{sz:Nat}{hi:Option Int}{m i k:Nat}(r:Run t f sz hi m i (k+1)):Run t f sz hi (m+1) (i+sz) k:=by
 have e:∀j,i+sz+j*sz=i+(j+1)*sz:=fun j=>by rw[Nat.add_mul,Nat.one_mul];omega
 refine⟨fun j hj=>?_,?_,?_⟩
 ·rw[e,show m+1+j=m+(j+1) by omega]
  exact r.fit (j+1) (by omega)
 ·rw[e,show m+1+k=m+(k+1) by omega]
  exact r.stop
 ·rw[e]
  exact r.le
theorem Zc0{t:Str}{W:Wk}{q:Pat}{f:Nat->Bool}{sz c:Nat}{lo:Int}{hi:Option Int}{how:How}{g:Gs}(hsz:0<sz)(u:UW t W q f sz c):∀(k m i:Nat),Run t f sz hi m i k ->
  ∃N,N<=(c+1)*(k+1)/\Tx W lo hi how q (k+1) m i g (if how=.little then tl lo sz g m i k else(tl lo sz g m i k).reverse) N
 |0,m,i,r=>by
  have hle:i<=t.length:=by have:=r.le;omega
  have fin:∀N1,N1<=c->((Ws hi m=true/\∃vs Na Nb,W q i g vs Na/\Lx (Tx W lo hi how q 0) lo m i vs [] Nb/\N1=Na+Nb)∨(Ws hi m=false/\([]:List Yb)=[]/\N1=0))->∃N,N<=(c+1)*(0+1)/\Tx W lo hi how q (0+1) m i g (if how=.little then tl lo sz g m i 0 else(tl lo sz g m i 0).reverse) N:=fun N1 hN h=>by
   refine⟨N1+1,by omega,[],N1,h,rfl,?_⟩
   unfold tl
   by_cases hlo:lo<=(m:Int)
   ·have hn:¬(m:Int)<lo:=by omega
    simp only[if_pos hlo,if_neg hn]
    by_cases hh:how=.little
    ·rw[if_pos hh,if_pos hh]
    ·rw[if_neg hh,if_neg hh];rfl
   ·have hn:(m:Int)<lo:=by omega
    simp only[if_neg hlo,if_pos hn]
    by_cases hh:how=.little
    ·rw[if_pos hh]
    ·rw[if_neg hh];rfl
  rcases hm:Ws hi m with _ | _
  ·exact fin 0 (Nat.zero_le _) (.inr ⟨hm,rfl,rfl⟩)
  ·have hf:f i=false:=by
    rcases r.stop with h | h
    ·simpa using h
    ·rw[Nat.add_zero,hm]at h;cases h
   obtain⟨N,hN,hw⟩:=u i g hle
   rw[hf]at hw
   exact fin N hN (.inl ⟨hm,[],N,0,hw,.nil,rfl⟩)
 |k+1,m,i,r=>by
  have hle:i<=t.length:=by have:=r.le;omega
  obtain⟨f0,m0⟩:=r.fit 0 (by omega)
  rw[Nat.zero_mul,Nat.add_zero]at f0
  rw[Nat.add_zero]at m0
  obtain⟨Na,hNa,hw⟩:=u i g hle
  rw[if_pos f0]at hw
  obtain⟨Nb,hNb,hx⟩:=Zc0 (lo:=lo) (how:=how) (g:=g) hsz u k (m+1) (i+sz) r.next
  refine⟨Na+(Nb+0)+1,?_,_,Na+(Nb+0),.inl ⟨m0,_,Na,Nb+0,hw,.go (.inr (by show i<i+sz;omega)) hx .nil,rfl⟩,rfl,?_⟩
  ·have:(c+1)*(k+1+1)=(c+1)*(k+1)+(c+1):=by rw[Nat.mul_add (c+1) (k+1) 1,Nat.mul_one]
   omega
  ·rw[List.append_nil]
   conv=>lhs;rw[tl]
   by_cases hlo:lo<=(m:Int)
   ·have hn:¬(m:Int)<lo:=by omega
    rw[if_pos hlo,if_neg hn]
    by_cases hh:how=.little
    ·rw[if_pos hh,if_pos hh,if_pos hh];rfl
    ·rw[if_neg hh,if_neg hh,if_neg hh,List.reverse_append];rfl
   ·have hn:(m:Int)<lo:=by omega
    rw[if_neg hlo,if_pos hn,List.nil_append]
theorem Zc2{lo:Int}{sz:Nat}{g:Gs}:∀(k m i:Nat),(tl lo sz g m i k).reverse=(List.range (k+1-(lo.toNat-m))).map fun r=>(i+(k-r)*sz,g)
 |0,m,i=>by
  unfold tl
  by_cases h:lo<=(m:Int)
  ·rw[if_pos h,show 0+1-(lo.toNat-m)=1 by omega]
   simp
  ·rw[if_neg h,show 0+1-(lo.toNat-m)=0 by omega]
   rfl
 |k+1,m,i=>by
  have e:∀r,r<=k->i+sz+(k-r)*sz=i+(k+1-r)*sz:=fun r hr=>by
   rw[show k+1-r=(k-r)+1 by omega,Nat.add_mul,Nat.one_mul];omega
  unfold tl
  rw[List.reverse_append,Zc2 k (m+1) (i+sz)]
  by_cases h:lo<=(m:Int)
  ·rw[if_pos h,show k+1-(lo.toNat-(m+1))=k+1 by omega,show k+1+1-(lo.toNat-m)=k+1+1 by omega,List.range_succ (n:=k+1),List.map_append]
   congr 1
   ·refine List.map_congr_left fun r hr=>?_
    rw[e r (by have:=List.mem_range.mp hr;omega)]
   ·simp
  ·rw[if_neg h,show k+1+1-(lo.toNat-m)=k+1-(lo.toNat-(m+1)) by omega]
   rw[List.reverse_nil,List.append_nil]
   refine List.map_congr_left fun r hr=>?_
   rw[e r (by have:=List.mem_range.mp hr;omega)]
def Zhy(i k lo sz:Nat)(g:Gs):List Yb:=(List.range (k+1-lo)).map fun r=>(i+(k-r)*sz,g)
def Zko(how:How)(ws:List Yb):List Yb:=match how with
 |.much=>ws
 |.little=>ws.reverse
 |.keep=>ws.take 1
theorem Zag{t:Str}{d:Nat}{q:Pat}{f:Nat->Bool}{sz c lo k i:Nat}{hi:Option Int}{how:How}{g:Gs}(hsz:0<sz)(u:UW t (Wy t d) q f sz c)(r:Run t f sz hi 0 i k) :
  ∃N,N<=(c+1)*(k+1)+1/\Wy t (d+1) (.node (.times lo hi how) [q]) i g (Zko how (Zhy i k lo sz g)) N:=by
 obtain⟨N,hN,h⟩:=Zc0 (lo:=lo) (how:=how) (g:=g) hsz u k 0 i r
 have e:=Zc2 (lo:=(lo:Int)) (sz:=sz) (g:=g) k 0 i
 rw[show((lo:Int).toNat-0)=lo by omega]at e
 refine⟨N+1,by omega,q,k+1,_,N,rfl,h,rfl,?_⟩
 cases how with
 |much=>rw[if_neg (by decide),if_neg (by decide)];exact e.symm
 |little =>
  rw[if_neg (by decide),if_pos rfl]
  show(Zhy i k lo sz g).reverse=_
  unfold Zhy
  rw[← e,List.reverse_reverse]
 |keep=>rw[if_pos rfl,if_neg (by decide),e];rfl
theorem Zdb{t:Str}{d:Nat}{h:Hd}(h1:h.one=true):UW t (Wy t (d+1)) (.node h []) (fun i=>Zl h t i) 1 1:=fun i g hi=>by
 refine⟨1,Nat.le_refl _,?_⟩
 cases h <;> first | exact⟨rfl,rfl⟩ | cases h1
theorem Zga(h:let E:=D;let A1:=a1;let A2:=a4;let A3:=a5;let A4:=Z8 (Zx c2 A2 Zs) A3;let A5:=Z8 a3 A4;let A6:=Z8 a2 A5;(Z8 (Zx c1 A1 Zs) A6) E σ H):(Z8 (Zx c1 a1 Zs) (Z8 a2 (Z8 a3 (Z8 (Zx c2 a4 Zs) a5)))) D σ H:=h
theorem Z27(h:let E:=D;let A1:=a3;let A2:=Z8 a2 A1;(Z8 a1 A2) E σ H):(Z8 a1 (Z8 a2 a3)) D σ H:=h
theorem Z7m(h:let E:=D;let A1:=a4;let A2:=Z8 a3 A1;let A3:=Z8 a2 A2;(Z8 a1 A3) E σ H):(Z8 a1 (Z8 a2 (Z8 a3 a4))) D σ H:=h
theorem Zc9(h:let E:=D;let A1:=a1;let A2:=a2;(Zx c1 A1 A2) E σ H):(Zx c1 a1 a2) D σ H:=h
theorem Zg5(h:let E:=D;let A1:=a1;let A2:=Zx c1 A1 Zs;let A3:=a2;(Z8 (Ud i1 g1 A2) A3) E σ H):(Z8 (Ud i1 g1 (Zx c1 a1 Zs)) a2) D σ H:=h
theorem Zg7(h:let E:=D;let A1:=a1;let A2:=a3;let A3:=a4;let A4:=a5;let A5:=Z8 (Zx c3 A3 Zs) A4;let A6:=Z8 (Zx c2 A2 Zs) A5;let A7:=Z8 a2 A6;(Z8 (Zx c1 A1 Zs) A7) E σ H):(Z8 (Zx c1 a1 Zs) (Z8 a2 (Z8 (Zx c2 a3 Zs) (Z8 (Zx c3 a4 Zs) a5)))) D σ H:=h
theorem Z29(h:let E:=D;let A1:=a1;(Zx c1 A1 Zs) E σ H):(Zx c1 a1 Zs) D σ H:=h
theorem Zge(h:let E:=D;let A1:=a3;let A2:=Zx c2 A1 Zs;let A3:=Z8 a2 A2;let A4:=a4;let A5:=Z8 (Vp c1 A3) A4;(Z8 a1 A5) E σ H):(Z8 a1 (Z8 (Vp c1 (Z8 a2 (Zx c2 a3 Zs))) a4)) D σ H:=h
theorem Zfz(h:let E:=D;let A1:=a2;let A2:=Z8 a1 A1;let A3:=a3;(Z8 (Zx c1 A2 Zs) A3) E σ H):(Z8 (Zx c1 (Z8 a1 a2) Zs) a3) D σ H:=h
theorem Zgh(h:let E:=D;let A1:=a10;let A2:=Z8 a9 A1;let A3:=Z8 a8 A2;let A4:=Z8 a7 A3;let A5:=Z8 a6 A4;let A6:=Z8 a5 A5;let A7:=Z8 a4 A6;let A8:=Z8 a3 A7;let A9:=Z8 a2 A8;(Z8 a1 A9) E σ H):(Z8 a1 (Z8 a2 (Z8 a3 (Z8 a4 (Z8 a5 (Z8 a6 (Z8 a7 (Z8 a8 (Z8 a9 a10))))))))) D σ H:=h
theorem Zgj(h:let E:=D;let A1:=a1;(Vp c1 A1) E σ H):(Vp c1 a1) D σ H:=h
theorem Zg8(h:let E:=D;let A1:=a3;let A2:=Z8 a2 A1;let A3:=a5;let A4:=a6;let A5:=Zx c2 A3 A4;let A6:=Z8 a4 A5;let A7:=Z8 (Zx c1 A2 Zs) A6;(Z8 a1 A7) E σ H):(Z8 a1 (Z8 (Zx c1 (Z8 a2 a3) Zs) (Z8 a4 (Zx c2 a5 a6)))) D σ H:=h
theorem Z28(h:let E:=D;let A1:=a2;(Z8 a1 A1) E σ H):(Z8 a1 a2) D σ H:=h
theorem Zg9(h:let E:=D;let A1:=a2;let A2:=a4;let A3:=Z8 a3 A2;let A4:=Zx c1 A1 A3;(Z8 a1 A4) E σ H):(Z8 a1 (Zx c1 a2 (Z8 a3 a4))) D σ H:=h
theorem Zgi(h:let E:=D;let A1:=a9;let A2:=Z8 a8 A1;let A3:=Z8 a7 A2;let A4:=a10;let A5:=a11;let A6:=a12;let A7:=Zx c3 A5 A6;let A8:=Zx c2 A4 A7;let A9:=Zx c1 A3 A8;let A10:=Z8 a6 A9;let A11:=Z8 a5 A10;let A12:=Z8 a4 A11;let A13:=Z8 a3 A12;let A14:=Z8 a2 A13;(Z8 a1 A14) E σ H):(Z8 a1 (Z8 a2 (Z8 a3 (Z8 a4 (Z8 a5 (Z8 a6 (Zx c1 (Z8 a7 (Z8 a8 a9)) (Zx c2 a10 (Zx c3 a11 a12))))))))) D σ H:=h
theorem Zg0(h:let E:=D;let A1:=a4;let A2:=Z8 a3 A1;let A3:=Z8 a2 A2;let A4:=Z8 a1 A3;let A5:=a9;let A6:=Z8 a8 A5;let A7:=Z8 a7 A6;let A8:=Z8 a6 A7;let A9:=Z8 a5 A8;(Z8 (Zx c1 A4 Zs) A9) E σ H):(Z8 (Zx c1 (Z8 a1 (Z8 a2 (Z8 a3 a4))) Zs) (Z8 a5 (Z8 a6 (Z8 a7 (Z8 a8 a9))))) D σ H:=h
theorem Zg3(h:let E:=D;let A1:=a6;let A2:=Z8 a5 A1;let A3:=Z8 a4 A2;let A4:=Z8 a3 A3;let A5:=Z8 a2 A4;(Z8 a1 A5) E σ H):(Z8 a1 (Z8 a2 (Z8 a3 (Z8 a4 (Z8 a5 a6))))) D σ H:=h
theorem Zc7(h:let E:=D;let A1:=a2;let A2:=a3;let A3:=Z8 (Zx c1 A1 Zs) A2;(Z8 a1 A3) E σ H):(Z8 a1 (Z8 (Zx c1 a2 Zs) a3)) D σ H:=h
theorem Zgn(h:let E:=D;let A1:=a2;let A2:=Ud i1 g1 A1;(Z8 a1 A2) E σ H):(Z8 a1 (Ud i1 g1 a2)) D σ H:=h
theorem Zgc(h:let E:=D;let A1:=a5;let A2:=Z8 a4 A1;let A3:=Z8 a3 A2;let A4:=Z8 a2 A3;let A5:=a6;let A6:=Z8 (Ud i1 g1 A4) A5;(Z8 a1 A6) E σ H):(Z8 a1 (Z8 (Ud i1 g1 (Z8 a2 (Z8 a3 (Z8 a4 a5)))) a6)) D σ H:=h
theorem Zg1(h:let E:=D;let A1:=a2;let A2:=a3;let A3:=Ud i1 g1 A2;let A4:=a4;let A5:=a5;let A6:=a8;let A7:=Z8 a7 A6;let A8:=Z8 a6 A7;let A9:=a9;let A10:=a10;let A11:=Zx c6 A9 A10;let A12:=Zx c5 A8 A11;let A13:=Zx c4 A5 A12;let A14:=Zx c3 A4 A13;let A15:=Zx c2 A3 A14;let A16:=Zx c1 A1 A15;(Z8 a1 A16) E σ H):(Z8 a1 (Zx c1 a2 (Zx c2 (Ud i1 g1 a3) (Zx c3 a4 (Zx c4 a5 (Zx c5 (Z8 a6 (Z8 a7 a8)) (Zx c6 a9 a10))))))) D σ H:=h
theorem Zc8(h:let E:=D;let A1:=a1;let A2:=a2;let A3:=a3;let A4:=a4;let A5:=a5;let A6:=a6;let A7:=a7;let A8:=Zx c7 A7 Zs;let A9:=a8;let A10:=Z8 (Ud i1 g1 A8) A9;let A11:=Z8 (Zx c6 A6 Zs) A10;let A12:=Z8 (Zx c5 A5 Zs) A11;let A13:=Z8 (Zx c4 A4 Zs) A12;let A14:=Z8 (Zx c3 A3 Zs) A13;let A15:=Z8 (Zx c2 A2 Zs) A14;(Z8 (Zx c1 A1 Zs) A15) E σ H):(Z8 (Zx c1 a1 Zs) (Z8 (Zx c2 a2 Zs) (Z8 (Zx c3 a3 Zs) (Z8 (Zx c4 a4 Zs) (Z8 (Zx c5 a5 Zs) (Z8 (Zx c6 a6 Zs) (Z8 (Ud i1 g1 (Zx c7 a7 Zs)) a8))))))) D σ H:=h
theorem Zgb(h:let E:=D;let A1:=a1;let A2:=a5;let A3:=a6;let A4:=Z8 (Zx c2 A2 Zs) A3;let A5:=Z8 a4 A4;let A6:=Z8 a3 A5;let A7:=Z8 a2 A6;(Z8 (Zx c1 A1 Zs) A7) E σ H):(Z8 (Zx c1 a1 Zs) (Z8 a2 (Z8 a3 (Z8 a4 (Z8 (Zx c2 a5 Zs) a6))))) D σ H:=h
theorem Zg6(h:let E:=D;let A1:=a2;let A2:=Zx c1 A1 Zs;let A3:=Z8 a1 A2;let A4:=a3;(Z8 (Ud i1 g1 A3) A4) E σ H):(Z8 (Ud i1 g1 (Z8 a1 (Zx c1 a2 Zs))) a3) D σ H:=h
theorem Zg4(h:let E:=D;let A1:=a6;let A2:=Z8 a5 A1;let A3:=Z8 a4 A2;let A4:=a7;let A5:=Z8 (Vp c1 A3) A4;let A6:=Z8 a3 A5;let A7:=Z8 a2 A6;(Z8 a1 A7) E σ H):(Z8 a1 (Z8 a2 (Z8 a3 (Z8 (Vp c1 (Z8 a4 (Z8 a5 a6))) a7)))) D σ H:=h
theorem Zgo(h:let E:=D;let A1:=a2;let A2:=a3;let A3:=a4;let A4:=a5;let A5:=Z8 (Zx c3 A3 Zs) A4;let A6:=Z8 (Zx c2 A2 Zs) A5;let A7:=Z8 (Zx c1 A1 Zs) A6;(Z8 a1 A7) E σ H):(Z8 a1 (Z8 (Zx c1 a2 Zs) (Z8 (Zx c2 a3 Zs) (Z8 (Zx c3 a4 Zs) a5)))) D σ H:=h
theorem Zgm(h:let E:=D;let A1:=a1;let A2:=a2;let A3:=a4;let A4:=a5;let A5:=Z8 (Zx c3 A3 Zs) A4;let A6:=Z8 a3 A5;let A7:=Z8 (Zx c2 A2 Zs) A6;(Z8 (Zx c1 A1 Zs) A7) E σ H):(Z8 (Zx c1 a1 Zs) (Z8 (Zx c2 a2 Zs) (Z8 a3 (Z8 (Zx c3 a4 Zs) a5)))) D σ H:=h
theorem Zgl(h:let E:=D;let A1:=a4;let A2:=Z8 a3 A1;let A3:=a6;let A4:=Z8 a5 A3;let A5:=Zx c2 A2 A4;let A6:=a7;let A7:=Z8 (Vp c1 A5) A6;let A8:=Z8 a2 A7;(Z8 a1 A8) E σ H):(Z8 a1 (Z8 a2 (Z8 (Vp c1 (Zx c2 (Z8 a3 a4) (Z8 a5 a6))) a7))) D σ H:=h
theorem Zgg(h:let E:=D;let A1:=a1;let A2:=a3;let A3:=Z8 a2 A2;(Z8 (Zx c1 A1 Zs) A3) E σ H):(Z8 (Zx c1 a1 Zs) (Z8 a2 a3)) D σ H:=h
theorem Zgd(h:let E:=D;let A1:=a4;let A2:=Z8 a3 A1;let A3:=a6;let A4:=Z8 a5 A3;let A5:=Z8 (Ud i1 g1 A2) A4;let A6:=Z8 a2 A5;(Z8 a1 A6) E σ H):(Z8 a1 (Z8 a2 (Z8 (Ud i1 g1 (Z8 a3 a4)) (Z8 a5 a6)))) D σ H:=h
theorem Zgk(h:let E:=D;let A1:=a6;let A2:=Z8 a5 A1;let A3:=a7;let A4:=Z8 (Ud i1 g1 A2) A3;let A5:=Z8 a4 A4;let A6:=Z8 a3 A5;let A7:=Z8 a2 A6;(Z8 a1 A7) E σ H):(Z8 a1 (Z8 a2 (Z8 a3 (Z8 a4 (Z8 (Ud i1 g1 (Z8 a5 a6)) a7))))) D σ H:=h
theorem Zfy(h:let E:=D;let A1:=a2;let A2:=a3;let A3:=Zx c2 A1 A2;let A4:=Zx c1 A3 Zs;let A5:=a4;let A6:=Z8 (Ud i1 g1 A4) A5;(Z8 a1 A6) E σ H):(Z8 a1 (Z8 (Ud i1 g1 (Zx c1 (Zx c2 a2 a3) Zs)) a4)) D σ H:=h
theorem Zg2(h:let E:=D;let A1:=a2;let A2:=a3;let A3:=a5;let A4:=Z8 a4 A3;let A5:=a6;let A6:=Z8 (Zx c3 A4 Zs) A5;let A7:=Z8 (Zx c2 A2 Zs) A6;let A8:=Z8 (Zx c1 A1 Zs) A7;(Z8 a1 A8) E σ H):(Z8 a1 (Z8 (Zx c1 a2 Zs) (Z8 (Zx c2 a3 Zs) (Z8 (Zx c3 (Z8 a4 a5) Zs) a6)))) D σ H:=h
theorem Zgf(h:let E:=D;let A1:=a4;let A2:=a10;let A3:=a12;let A4:=a20;let A5:=Z8 a19 A4;let A6:=Z8 a18 A5;let A7:=a23;let A8:=a24;let A9:=Z8 (Zx c4 A7 Zs) A8;let A10:=Z8 a22 A9;let A11:=Z8 a21 A10;let A12:=Z8 (Ud i1 g1 A6) A11;let A13:=Z8 a17 A12;let A14:=Z8 a16 A13;let A15:=Z8 a15 A14;let A16:=Z8 a14 A15;let A17:=Z8 a13 A16;let A18:=Z8 (Zx c3 A3 Zs) A17;let A19:=Z8 a11 A18;let A20:=Z8 (Zx c2 A2 Zs) A19;let A21:=Z8 a9 A20;let A22:=Z8 a8 A21;let A23:=Z8 a7 A22;let A24:=Z8 a6 A23;let A25:=Z8 a5 A24;let A26:=Z8 (Zx c1 A1 Zs) A25;let A27:=Z8 a3 A26;let A28:=Z8 a2 A27;(Z8 a1 A28) E σ H):(Z8 a1 (Z8 a2 (Z8 a3 (Z8 (Zx c1 a4 Zs) (Z8 a5 (Z8 a6 (Z8 a7 (Z8 a8 (Z8 a9 (Z8 (Zx c2 a10 Zs) (Z8 a11 (Z8 (Zx c3 a12 Zs) (Z8 a13 (Z8 a14 (Z8 a15 (Z8 a16 (Z8 a17 (Z8 (Ud i1 g1 (Z8 a18 (Z8 a19 a20))) (Z8 a21 (Z8 a22 (Z8 (Zx c4 a23 Zs) a24))))))))))))))))))))) D σ H:=h
def top(i:Nat):Stmt:=PySem.Challenge.pw_seek_k28_whole_many_finds.main.body.getD i (.Pass ⟨0,0,0,0⟩)
section
variable{P:Program}{w:World}{K:W.Frag}{mg:Str->Option Value}{base:Heap}{f:Addr}{fd:FuncData}{C:Addr}
inductive spTakeI(vs:List V)(H:Hp)(Q:VK):Prop
 |mk (b:Addr) (m:Int) (_:vs=[.ref b,.int m]) (_:BoxAt H b) (_:0<m) (_:m<1073741824) (_:∀(r:Int) (H':Hp),0<=r->r<m->BoxAt H' b->Gro [b] H H'->Q (.int r) H')
def Z7e:Sp:=fun vs H Q _=>spTakeI vs H Q
abbrev Jb:Stmt:=top 56
theorem sc_l_take:FnScope ["_law_box","_law_many","_law_number"] ["_law_box","_law_many"] (Z9 Jb):=Vm
theorem Ze4(F:Fun K "_law_take" "_law_take" Jb f fd):FnOk P w K mg base Wq 1 f fd ["_law_box","_law_many"] Z7e:=by
 refine F.ok sc_l_take (fun vs H Q E h=>?_) (fun cdv A outer s H vs Q E hr h=>?_)
 ·obtain⟨b,m,rfl,_⟩:=h
  rfl
 obtain⟨b,m,rfl,⟨ns,hb,hl⟩,h0,h1,q⟩:=h
 refine Vj ?_
 intro Xz
 refine⟨_,(Z1 (Y0 (Ze (Zb3 hr.units0) (pv 0) (Xg Z2) (Zi _)) (Z5 (Zo Z6)) Zm)
  (Z1 (pS 2 sc_l_take.nd (Zg X3 (pv 0) Z6 (fun _ _=>rfl)))
  (Z1 (Uf (Yg Ze0 (pv 2) (pv 1)) (Ta (pv 0) Z6 Wn))
  (Z1 (Y0 (PW.pt (Z68 (Ze Y4 (Zg X3 (pv 0) Z6 (fun _ _=>rfl)) Z6 (Zi _)) (Z2c (Ze Y4 (Zg X3 (pv 0) Z6 (fun _ _=>rfl)) (Z0z T8 Z6) (Zi _))))) (Z5 (Zf (Yr PySem.F.plainAttrs_list PySem.F.slot_list_pop PySem.F.type_list_pop Zbh (pv 0) (Z0 Z6 Z2)))) Zm)
  (Z5 (Zo (Yg Zce (pv 2) (pv 1)))))))),?_⟩
 refine Zga ?_
 intro Ez Az1 Az2 Az3 Az4 Az5 Az6
 refine(Z7 rfl ⟨sz,fun p hp=>?_⟩)
 have np:b≠p:=Za hb hp
 have g1:Gro [b] H (Zq H p (.lst [])):=Gro.new hp _
 have hb1:(Zq H p (.lst [])) b=some (.lst (ns.map V.int)):=by rw[Zt np];exact hb
 refine⟨b,p,ns.map V.int,rfl,rfl,SqL.of hb1,SqL.of Z3,Z7 rfl (?_)⟩
 cases ns with
 |nil=>exact Z91 (q 0 _ (Int.le_refl 0) h0 ⟨[],hb1,hl⟩ g1)
 |cons n r =>
  refine Zad ?_
  refine(Zjy hb1 Z0d (?_))
  refine(Z7 rfl (Z7 rfl (Va rfl rfl ⟨⟨h0,h1⟩,?_⟩)))
  refine(Z7 rfl ⟨b,_,_,0,rfl,rfl,hb1,Zlm,?_⟩)
  have hm0:0<=n % m:=Int.emod_nonneg _ (by omega)
  have hm1:n % m<m:=Int.emod_lt_of_pos _ h0
  generalize hH2:Zq (Zq H p (.lst [])) b (.lst ((List.map V.int (n::r)).set 0 (V.int (n / m))))=H2
  have hb2:H2 b=some (.lst (V.int (n / m)::r.map V.int)):=by rw[← hH2,Z3];rfl
  have g2:Gro [b] H H2:=g1.trans (by rw[← hH2];exact Gro.set (by simp) hb1 _)
  have box2:BoxAt H2 b:=⟨n / m::r,hb2,by simpa using hl⟩
  have hpop:∀Q':V->Hp->Prop,Q' (.int (n / m)) (Zq H2 b (.lst (r.map V.int)))->Zc6 (.ref b) [.int 0] H2 Q':=fun Q' hq =>
   ⟨b,_,0,0,Z7 rfl ⟨rfl,hb2,by decide,by decide,seqIndex_of (by omega) (by rw[List.length_cons];omega),rfl,hq⟩⟩
  have box3:BoxAt (Zq H2 b (.lst (r.map V.int))) b:=⟨r,Z3,by simp at hl;omega⟩
  have g3:Gro [b] H (Zq H2 b (.lst (r.map V.int))):=g2.trans (Gro.set (by simp) hb2 _)
  have ty2:Zjt K "list" (.ref b) H2:=.inl ⟨rfl,_,SqL.of hb2⟩
  refine(Zjy hb2 Z0d ⟨rfl,_,rfl,?_⟩)
  refine V8 (fun c=>?_) (fun c=>?_)
  ·refine Z91 (Z7 rfl ⟨ty2,?_⟩)
   refine hpop _ ?_
   refine(Z7 rfl (Z7 rfl (Va rfl rfl ⟨h0,?_⟩)))
   exact q _ _ hm0 hm1 box3 g3
  ·refine(Zjy hb2 Z0d ⟨_,rfl,rfl,_,rfl,?_⟩)
   refine V8 (fun c=>?_) (fun c=>?_)
   ·refine(Z7 rfl ⟨ty2,?_⟩)
    refine hpop _ ?_
    refine(Z7 rfl (Z7 rfl (Va rfl rfl ⟨h0,?_⟩)))
    exact q _ _ hm0 hm1 box3 g3
   ·refine(Z7 rfl (Z7 rfl (Va rfl rfl ⟨h0,?_⟩)))
    exact q _ _ hm0 hm1 box2 g2
inductive spSignI(vs:List V)(H:Hp)(Q:VK):Prop
 |mk (c:Int) (_:vs=[.int c]) (_:∀s:Str,s.length=1->Q (.str s) H)
def Z7f:Sp:=fun vs H Q _=>spSignI vs H Q
abbrev Jc:Stmt:=top 57
theorem sc_l_sign:FnScope ["_law_cell","_law_some"] ["_law_cell"] (Z9 Jc):=Vm
theorem Ze5(F:Fun K "_law_sign" "_law_sign" Jc f fd):FnOk P w K mg base Wq 1 f fd ["_law_cell"] Z7f:=by
 refine F.ok sc_l_sign (fun vs H Q E h=>?_) (fun cdv A outer s H vs Q E hr h=>?_)
 ·obtain⟨c,rfl,_⟩:=h
  rfl
 obtain⟨c,rfl,q⟩:=h
 refine Vj ?_
 intro Xz
 refine⟨_,(Z1 (pS 1 sc_l_sign.nd Zk)
  (Z1 (pS 1 sc_l_sign.nd (Yg W8 (pv 1) Zk))
  (Z5 (Zo (Zg Tz (pv 1) (Yg Zce (pv 0) Z6) (fun _ _=>rfl)))))),?_⟩
 refine Z27 ?_
 intro Ez Az1 Az2
 refine(Z7 rfl (Va rfl rfl ⟨sz,?_⟩))
 refine(Z7 rfl (Z7 rfl (Va rfl rfl ⟨(by decide:(0:Int)<94),?_⟩)))
 generalize hz:(Str.ofString _++Str.ofString _:Str)=z
 have hlen:z.cps.toList.length=94:=by rw[← hz];decide +kernel
 have h0:0<=c % 94:=Int.emod_nonneg _ (by omega)
 have h1:c % 94<94:=Int.emod_lt_of_pos _ (by omega)
 have hlt:(c % 94).toNat<z.cps.toList.length:=by omega
 have e:Z6e z.cps.toList (c % 94)=some (z.cps.toList[(c % 94).toNat]):=by
  have:=Wm (xs:=z.cps.toList) (j:=(c % 94).toNat) (List.getElem?_eq_getElem hlt)
  rw[Int.toNat_of_nonneg h0]at this
  exact this
 refine⟨z,_,_,rfl,rfl,?_,e,q _ rfl⟩
 have:z.length=94:=by rw[← hlen];simp[Str.length]
 rw[this];exact sz
def Zi3(C:Addr)(Q:VK)(H:Hp)(m c:Addr)(M:MM):Prop:=∀H':Hp,MAt C H' m M->Gro [m,c] H H'->Q .non H'
inductive spEnterI(C:Addr)(vs:List V)(H:Hp)(Q:VK):Prop
 |mk (m t:Addr) (M:MM) (q:Zfo) (_:vs=[.ref m,.ref t]) (_:MAt C H m M) (_:H t=some (.tup [.int q.1,.int q.2.1,q.2.2.1,q.2.2.2])) (_:Zi3 C Q H m M.s.choices (M.enter q))
def U8(C:Addr):Sp:=fun vs H Q _=>spEnterI C vs H Q
abbrev Xo:Stmt:=Xk (top 39) 4
theorem Jx:FnScope ["self","state"] ["self","state"] (Z9 Xo):=Vm
theorem Z5o(MT:Txt K mg C)(F:Fun K "enter" "Machine.enter" Xo f fd):FnOk P w K mg base Wq 1 f fd ["self","state"] (U8 C):=by
 refine F.ok Jx (fun vs H Q E h=>?_) (fun cdv A outer s H vs Q E hr h=>?_)
 ·obtain⟨m,t,M,q,rfl,_⟩:=h
  rfl
 obtain⟨m,t,M,⟨r,a,g,hd⟩,rfl,hM,ht,q⟩:=h
 refine Vj ?_
 intro Xz
 refine⟨_,(Z1 (Ya (pv 0) (Zg Zd (pv 1) Z6 (fun _ _=>rfl)) rfl)
  (Z1 (Ya (pv 0) (Zg Zd (pv 1) Z6 (fun _ _=>rfl)) rfl)
  (Z1 (Ya (pv 0) (Zg Zd (pv 1) Z6 (fun _ _=>rfl)) rfl)
  (Z5 (Ya (pv 0) (Zg Zd (pv 1) Z6 (fun _ _=>rfl)) rfl))))),?_⟩
 refine Z7m ?_
 intro Ez Az1 Az2 Az3
 obtain⟨⟨dx,h1⟩,_⟩:=id hM
 refine(W5 ht Z0d ⟨_,rfl,m,C,dx,_,rfl,h1,MT.cl,MT.a3,Yx _,?_⟩)
 rw[Z0p]
 have M1:MAt C _ m ⟨{ M.s with row:=r },M.cs⟩:=hM.put (s':={ M.s with row:=r }) h1 rfl
 have g1:Gro [m] H (Zq H m (.ins C dx ({ M.s with row:=r }:MS).fs)):=Gro.ins (by simp) h1 _
 have e1:(Zq H m (.ins C dx ({ M.s with row:=r }:MS).fs)) m=some (.ins C dx ({ M.s with row:=r }:MS).fs):=Z3
 generalize Zq H m (.ins C dx ({ M.s with row:=r }:MS).fs)=H1 at *
 refine(W5 (g1.tups _ _ ht) rfl ⟨_,rfl,m,C,dx,_,rfl,e1,MT.cl,MT.a4,Yx _,?_⟩)
 rw[Z95]
 have M2:MAt C _ m ⟨{ M.s with row:=r,place:=a },M.cs⟩:=M1.put (s':={ M.s with row:=r,place:=a }) e1 rfl
 have g2:Gro [m] H1 (Zq H1 m (.ins C dx ({ M.s with row:=r,place:=a }:MS).fs)):=Gro.ins (by simp) e1 _
 have e2:(Zq H1 m (.ins C dx ({ M.s with row:=r,place:=a }:MS).fs)) m=some (.ins C dx ({ M.s with row:=r,place:=a }:MS).fs):=Z3
 generalize Zq H1 m (.ins C dx ({ M.s with row:=r,place:=a }:MS).fs)=H2 at *
 have g12:=g1.trans g2
 refine(W5 (g12.tups _ _ ht) rfl ⟨_,rfl,m,C,dx,_,rfl,e2,MT.cl,MT.a5,Yx _,?_⟩)
 rw[Z37]
 have M3:MAt C _ m ⟨{ M.s with row:=r,place:=a,groups:=g },M.cs⟩:=M2.put (s':={ M.s with row:=r,place:=a,groups:=g }) e2 rfl
 have g3:Gro [m] H2 (Zq H2 m (.ins C dx ({ M.s with row:=r,place:=a,groups:=g }:MS).fs)):=Gro.ins (by simp) e2 _
 have e3:(Zq H2 m (.ins C dx ({ M.s with row:=r,place:=a,groups:=g }:MS).fs)) m=some (.ins C dx ({ M.s with row:=r,place:=a,groups:=g }:MS).fs):=Z3
 generalize Zq H2 m (.ins C dx ({ M.s with row:=r,place:=a,groups:=g }:MS).fs)=H3 at *
 have g13:=g12.trans g3
 refine(W5 (g13.tups _ _ ht) rfl ⟨_,rfl,m,C,dx,_,rfl,e3,MT.cl,MT.a6,Yx _,?_⟩)
 rw[Js]
 have M4:MAt C _ m ⟨{ M.s with row:=r,place:=a,groups:=g,held:=hd },M.cs⟩:=M3.put (s':={ M.s with row:=r,place:=a,groups:=g,held:=hd }) e3 rfl
 have g4:Gro [m] H3 (Zq H3 m (.ins C dx ({ M.s with row:=r,place:=a,groups:=g,held:=hd }:MS).fs)):=Gro.ins (by simp) e3 _
 exact q _ M4 ((g13.trans g4).mono (by simp))
inductive spBackI(C:Addr)(vs:List V)(H:Hp)(Q:VK):Prop
 |mk (m:Addr) (M:MM) (_:vs=[.ref m]) (_:MAt C H m M) (_:M.cs.length<=1000000) (_:Zi3 C Q H m M.s.choices M.back)
def Wi(C:Addr):Sp:=fun vs H Q _=>spBackI C vs H Q
theorem Z50{α β:Type}{F:α->β->Prop}{xs:List α}{ys:List β}(h:Paired F xs ys){y:β}(e:ys.getLast? = some y):∃x,xs[xs.length-1]? = some x/\F x y:=by
 have hl:=Paired.length h
 have hne:ys≠[]:=fun z=>by rw[z]at e;simp at e
 have hp:=List.length_pos_iff.mpr hne
 obtain⟨x,hx⟩:∃x,xs[xs.length-1]? = some x:=⟨xs[xs.length-1]'(by omega),List.getElem?_eq_getElem (by omega)⟩
 obtain⟨y',hy',q⟩:=Y5 h hx
 rw[List.getLast?_eq_getElem?]at e
 rw[hl,e]at hy'
 cases hy'
 exact⟨x,hx,q⟩
theorem Z0h{α β:Type}{F:α->β->Prop}{xs:List α}{ys:List β}(h:Paired F xs ys):Paired F xs.dropLast ys.dropLast:=by
 rw[List.dropLast_eq_take,List.dropLast_eq_take,Paired.length h]
 exact Z0g _ h
abbrev X2:Stmt:=Xk (top 39) 5
theorem Tk:FnScope ["self"] ["self"] (Z9 X2):=Vm
theorem Z1n(T:Blt mg)(MT:Txt K mg C)(O_Machine_enter:OwnM P w K mg base 1 C "enter" ["self","state"] (U8 C))(F:Fun K "go_back" "Machine.go_back" X2 f fd):FnOk P w K mg base Wq 2 f fd ["self"] (Wi C):=by
 refine F.ok Tk (fun vs H Q E h=>?_) (fun cdv A outer s H vs Q E hr h=>?_)
 ·obtain⟨m,M,rfl,_⟩:=h
  rfl
 obtain⟨m,M,rfl,hM,hz,q⟩:=h
 refine Vj ?_
 intro Xz
 refine⟨_,(Z5 (Y0 (Ze Y4 (Zh Zv rfl T.b_len PyProof.Rows.Boot.«len» (Z0 (Zn (pv 0) rfl) Z2)) Z6 (Zi _)) (Z5 (Ya (pv 0) Wo rfl)) (Z5 (Zf (Xi (O_Machine_enter.mono (by omega)) MT.cl hr (pv 0) (Z0 (Zcc PySem.F.plainAttrs_list PySem.F.slot_list_pop PySem.F.type_list_pop Zcg (Zn (pv 0) rfl)) Z2)))))),?_⟩
 refine Zc9 ?_
 intro Ez Az1 Az2
 have hne:=hM.ne
 obtain⟨⟨dx,h1⟩,vs,hv,hp⟩:=id hM
 have hl:=Paired.length hp
 refine(Z7 rfl ⟨m,C,dx,_,_,rfl,h1,MT.cl,MT.a7,Yt _,M.s.choices,vs,rfl,.inl (SqL.of hv),rfl,Z7 rfl (V8 (fun z=>?_) (fun z=>?_))⟩)
 ·have h0:M.cs=[]:=by
   have:V.int ((vs.length:Nat):Int)=V.int 0:=of_decide_eq_true z
   injection this with this
   exact List.length_eq_zero_iff.mp (by omega)
  refine(Z7 rfl ⟨m,C,dx,Z7 rfl ⟨h1,MT.cl,MT.a10,Yx _,?_⟩⟩)
  rw[Zav]
  have hb:M.back=⟨{ M.s with ended:=true },M.cs⟩:=by unfold MM.back;rw[h0];rfl
  refine q _ ?_ (Gro.ins (by simp) h1 _)
  rw[hb]
  exact hM.put (s':={ M.s with ended:=true }) h1 rfl
 ·have h0:M.cs≠[]:=fun e=>z (by
   rw[e]at hl
   rw[hl]
   exact decide_eq_true rfl)
  obtain⟨y,hy⟩:∃y,M.cs.getLast? = some y:=⟨M.cs.getLast h0,List.getLast?_eq_some_getLast h0⟩
  obtain⟨x,hx,t,rfl,ht⟩:=Z50 hp hy
  have hb:M.back=MM.enter ⟨M.s,M.cs.dropLast⟩ y:=by unfold MM.back;rw[hy]
  refine(Z7 rfl ⟨m,dx,Z7 rfl ⟨h1,Um _,Z7 rfl ⟨m,C,dx,_,_,rfl,h1,MT.cl,MT.a7,Yt _,.inl ⟨rfl,_,SqL.of hv⟩,M.s.choices,vs,Z7 rfl ⟨rfl,hv,hx,?_⟩⟩⟩⟩)
  have g1:Gro [M.s.choices] H (Zq H M.s.choices (.lst vs.dropLast)):=Gro.set (by simp) hv _
  have M1:MAt C (Zq H M.s.choices (.lst vs.dropLast)) m ⟨M.s,M.cs.dropLast⟩:=⟨⟨dx,by rw[Zt hne];exact h1⟩,vs.dropLast,Z3,Paired.mapP (Z0h hp) fun _ _ q=>q.mono g1.tups⟩
  refine⟨m,t,_,y,rfl,M1,g1.tups _ _ ht,fun H2 M2 g2=>q H2 (by rw[hb];exact M2) ((g1.mono (by simp)).trans g2)⟩
inductive spLiesI(vs:List V)(H:Hp)(Q:VK):Prop
 |mk (r:Addr) (rs:List (Str×Str)) (c:Str) (_:vs=[.ref r,.str c]) (_:RunsAt H r rs) (_:Q (.bl (Wu rs c)) H)
def Z7h:Sp:=fun vs H Q _=>spLiesI vs H Q
abbrev V2:Stmt:=top 12
theorem sc_lies_in:FnScope ["runs","sign","low","high"] ["runs","sign"] (Z9 V2):=Vm
theorem Z6r(F:Fun K "lies_in" "lies_in" V2 f fd):FnOk P w K mg base Wq 1 f fd ["runs","sign"] Z7h:=by
 refine F.ok sc_lies_in (fun vs H Q E h=>?_) (fun cdv A outer s H vs Q E hr h=>?_)
 ·obtain⟨r,rs,c,rfl,_⟩:=h
  rfl
 obtain⟨r,rs,c,rfl,⟨vs,hv,hp,hz⟩,q⟩:=h
 refine Vj ?_
 intro Xz
 refine⟨_,(Z1 (Vb PassesOwn.never rfl (Z2e (pv 0)) (Z7p rfl (Vu (pN 2 sc_lies_in.nd) (Vu (pN 3 sc_lies_in.nd) Z4a))) (Z5 (Y0 (PW.pt (Z2d (Ze Z39 (pv 2) (pv 1) (Zi _)) (Jo (Ze Z39 (pv 1) (pv 3) (Zi _))))) (Z5 (Zo Wo)) Zm)))
  (Z5 (Zo Wo))),?_⟩
 refine Zg5 ?_
 intro Ez Az1 Az2 Az3
 have hl:=Paired.length hp
 refine(Z7 rfl ⟨r,rfl,⟨vs,SqT.of hv⟩,?_⟩)
 refine Z4h (xs:=vs) (fun i σ H'=>∃lo hi:Option V,σ=[some (.ref r),some (.str c),lo,hi]/\H'=H/\(rs.take i).any (fun r=>!decide (c.cps.toList<r.1.cps.toList) && !decide (r.2.cps.toList<c.cps.toList))=false) ⟨none,none,rfl,rfl,rfl⟩ (fun i σ H' _ ⟨_,_,_,e,_⟩=>by rw[e];exact SqT.of hv) ?_ ?_
 ·rintro i x σ H1 hx ⟨lo,hi,rfl,rfl,hno⟩
  obtain⟨p,hpi,_,_,a,rfl,ha⟩:=Y5 hp hx
  refine⟨a,_,rfl,SqT.of ha,rfl,_,_,rfl,_,_,rfl,rfl,?_⟩
  have yes:(!decide (c.cps.toList<p.1.cps.toList) && !decide (p.2.cps.toList<c.cps.toList))=true->Wu rs c=true:=fun h=>by
   unfold Wu
   rw[List.any_eq_true]
   exact⟨p,List.mem_of_getElem? hpi,h⟩
  have no:(!decide (c.cps.toList<p.1.cps.toList) && !decide (p.2.cps.toList<c.cps.toList))=false->(rs.take (i+1)).any (fun r=>!decide (c.cps.toList<r.1.cps.toList) && !decide (r.2.cps.toList<c.cps.toList))=false:=fun h=>by
   rw[Xu hpi,List.any_append,hno]
   simpa using h
  refine(Z7 rfl (Z7 rfl (Va rfl rfl (Z7 rfl (V8 (fun z1=>?_) (fun z1=>?_))))))
  ·refine(Z7 rfl (Z7 rfl (Va rfl rfl (Z7 rfl (V8 (fun z2=>?_) (fun z2=>?_))))))
   ·rw[yes (by rw[z1,z2];rfl)]at q
    exact q
   ·exact⟨_,_,rfl,rfl,no (by rw[z1,Bool.eq_false_iff.mpr z2];rfl)⟩
  ·exact Zad ⟨_,_,rfl,rfl,no (by rw[Bool.eq_false_iff.mpr z1];rfl)⟩
 ·rintro σ H1 ⟨lo,hi,rfl,rfl,hno⟩
  rw[hl,List.take_length]at hno
  rw[show Wu rs c=false from hno]at q
  exact q
inductive spTakesI(vs:List V)(H:Hp)(Q:VK):Prop
 |mk (a:Addr) (h:Hd) (t:Str) (i:Int) (_:vs=[.ref a,.str t,.int i]) (_:PatAt H 1 (.ref a) (.node h [])) (_:h.one=true) (_:0<=i) (_:t.length<=1000) (_:Q (.bl (Zl h t i)) H)
def Z42:Sp:=fun vs H Q _=>spTakesI vs H Q
abbrev Xc:Stmt:=top 11
theorem sc_takes_sign:FnScope ["row","text","at","kind"] ["row","text","at"] (Z9 Xc):=Vm
theorem Z2o(T:Blt mg)(O_lies_in:Own P w K mg base 1 "lies_in" ["runs","sign"] Z7h)(F:Fun K "takes_sign" "takes_sign" Xc f fd):FnOk P w K mg base Wq 2 f fd ["row","text","at"] Z42:=by
 refine F.ok sc_takes_sign (fun vs H Q E h=>?_) (fun cdv A outer s H vs Q E hr h=>?_)
 ·obtain⟨a,h,t,i,rfl,_⟩:=h
  rfl
 obtain⟨a,h,t,i,rfl,hp,h1,h0,ht,q⟩:=h
 refine Vj ?_
 intro Xz
 refine⟨_,(Z1 (Y0 (Ze Zcu (pv 2) (Zh Xd rfl T.b_len PyProof.Rows.Boot.«len» (Z0 (pv 1) Z2)) (Zi _)) (Z5 (Zo Wo)) Zm)
  (Z1 (pS 3 sc_takes_sign.nd (Zg Zd (pv 0) Z6 (fun _ _=>rfl)))
  (Z1 (Y0 (Ze Y4 (pv 3) Zk (Zi _)) (Z5 (Zo (Yz Y4 (Zg Zd (pv 0) Z6 (fun _ _=>rfl)) (Zg Tz (pv 1) (pv 2) (fun _ _=>rfl)) (Zi _)))) Zm)
  (Z1 (Y0 (Ze Y4 (pv 3) Zk (Zi _)) (Z5 (Zo Wo)) Zm)
  (Z5 (Zo (Yz Y4 (Zz (O_lies_in.mono (by omega)) hr rfl (Z0 (Zg Zd (pv 0) Z6 (fun _ _=>rfl)) (Z0 (Zg Tz (pv 1) (pv 2) (fun _ _=>rfl)) Z2))) (Yz Y4 (pv 3) Zk (Zi _)) (Zi _)))))))),?_⟩
 refine Zg7 ?_
 intro Ez Az1 Az2 Az3 Az4 Az5 Az6 Az7
 obtain⟨a',kv,e,lay,hk⟩:=hp
 cases e
 cases hk
 obtain⟨r0,ea⟩:=lay.head
 unfold Zl at q
 refine(Z7 rfl (Z7 rfl ⟨t,rfl,Ye ht,Va rfl rfl (Z7 rfl (V8 (fun z=>?_) (fun z=>?_)))⟩))
 ·have:¬i<t.length:=by
   have:=of_decide_eq_true z
   omega
  rw[if_neg this]at q
  exact q
 have hlt:i<t.length:=by
  have:¬((t.length:Nat):Int)<=i:=fun e=>z (decide_eq_true e)
  omega
 rw[if_pos hlt]at q
 have hc:=Z4w h0 hlt
 refine(W5 ea Z0d (?_))
 cases h with
 |sign x =>
  refine(Z7 rfl ⟨rfl,Z7 rfl (Zj (show Z1f "sign" "sign" = true by decide +kernel) ?_)⟩)
  exact(W5 lay.2.2 rfl ⟨_,rfl,_,rfl,t,i,_,rfl,rfl,Ye ht,hc,rfl,q⟩)
 |any =>
  refine(Z7 rfl ⟨rfl,Z7 rfl (Zb (show ¬Z1f "any" "sign" = true by decide +kernel) ?_)⟩)
  exact(Z7 rfl ⟨rfl,Z7 rfl (Zj (show Z1f "any" "any" = true by decide +kernel) q)⟩)
 |inn rs =>
  obtain⟨_,r,e,hr'⟩:=lay
  refine(Z7 rfl ⟨rfl,Z7 rfl (Zb (show ¬Z1f "in" "sign" = true by decide +kernel) ?_)⟩)
  refine(Z7 rfl ⟨rfl,Z7 rfl (Zb (show ¬Z1f "in" "any" = true by decide +kernel) ?_)⟩)
  refine(W5 e rfl ⟨_,rfl,_,rfl,t,i,_,rfl,rfl,Ye ht,hc,r,rs,_,rfl,hr',_,rfl,rfl,rfl,?_⟩)
  have e2:decide (V.str (Hd.inn rs).word=V.str "in")=true:=by show decide (V.str "in" = V.str "in")=true;decide +kernel
  rw[e2]
  have q':Q (.bl (Wu rs (Vo t i.toNat))) H:=q
  show Q (.bl (decide (V.bl (Wu rs (Vo t i.toNat))=V.bl true))) H
  cases hb:Wu rs (Vo t i.toNat) <;> rw[hb]at q' <;> exact q'
 |out rs =>
  obtain⟨_,r,e,hr'⟩:=lay
  refine(Z7 rfl ⟨rfl,Z7 rfl (Zb (show ¬Z1f "out" "sign" = true by decide +kernel) ?_)⟩)
  refine(Z7 rfl ⟨rfl,Z7 rfl (Zb (show ¬Z1f "out" "any" = true by decide +kernel) ?_)⟩)
  refine(W5 e rfl ⟨_,rfl,_,rfl,t,i,_,rfl,rfl,Ye ht,hc,r,rs,_,rfl,hr',_,rfl,rfl,rfl,?_⟩)
  have e2:decide (V.str (Hd.out rs).word=V.str "in")=false:=by show decide (V.str "out" = V.str "in")=false;decide +kernel
  rw[e2]
  have q':Q (.bl (!Wu rs (Vo t i.toNat))) H:=q
  show Q (.bl (decide (V.bl (Wu rs (Vo t i.toNat))=V.bl false))) H
  cases hb:Wu rs (Vo t i.toNat) <;> rw[hb]at q' <;> exact q'
 |_=>exact absurd h1 (by simp[Hd.one])
end
def MM.doSign(h:Hd)(M:MM):MM:=if Zl h M.s.text M.s.place=true then⟨{ M.s with place:=M.s.place+1 },M.cs⟩ else M.back
def MM.doBegin(M:MM):MM:=if M.s.place=0 then M else M.back
def MM.doEnd(M:MM):MM:=if M.s.place=M.s.text.length then M else M.back
def MM.doFound(M:MM):MM:=⟨{ M.s with found:=true },M.cs⟩
section
variable{P:Program}{w:World}{K:W.Frag}{mg:Str->Option Value}{base:Heap}{f C:Addr}{fd:FuncData}
inductive spRowI(C:Addr)(pre:MM->Prop)(row:Hp->Addr->Prop)(go:MM->MM)(vs:List V)(H:Hp)(Q:VK):Prop
 |mk (m a:Addr) (M:MM) (_:vs=[.ref m,.ref a]) (_:MAt C H m M) (_:M.cs.length<=1000000) (_:pre M) (_:row H a) (_:Zi3 C Q H m M.s.choices (go M))
def Z2i(C:Addr)(pre:MM->Prop)(row:Hp->Addr->Prop)(go:MM->MM):Sp:=fun vs H Q _=>spRowI C pre row go vs H Q
abbrev Zab:MM->Prop:=fun M=>0<=M.s.place/\M.s.text.length<=1000
def Zhx(h:Hd):Hp->Addr->Prop:=fun H a=>PatAt H 1 (.ref a) (.node h [])
abbrev Yy:Stmt:=top 19
theorem Z6h:FnScope ["machine","row"] ["machine","row"] (Z9 Yy):=Vm
theorem Z6t{h:Hd}(h1:h.one=true)(MT:Txt K mg C)(O_takes_sign:Own P w K mg base 2 "takes_sign" ["row","text","at"] Z42)(O_Machine_go_back:OwnM P w K mg base 2 C "go_back" ["self"] (Wi C))(F:Fun K "do_sign" "do_sign" Yy f fd) :
  FnOk P w K mg base Wq 3 f fd ["machine","row"] (Z2i C Zab (Zhx h) (MM.doSign h)):=by
 refine F.ok Z6h (fun vs H Q E h=>?_) (fun cdv A outer s H vs Q E hr h=>?_)
 ·obtain⟨m,a,M,rfl,_⟩:=h
  rfl
 obtain⟨m,a,M,rfl,hM,hz,⟨p0,p1⟩,hrow,q⟩:=h
 refine Vj ?_
 intro Xz
 refine⟨_,(Z5 (Y0 (Yw (Zz (O_takes_sign.mono (by omega)) hr rfl (Z0 (pv 1) (Z0 (Zn (pv 0) rfl) (Z0 (Zn (pv 0) rfl) Z2))))) (Z5 (T3 (pv 0) Z6 Z7t)) (Z5 (Zf (Yf (O_Machine_go_back.mono (by omega)) MT.cl hr (pv 0)))))),?_⟩
 refine Zc9 ?_
 intro Ez Az1 Az2
 obtain⟨⟨dx,e1⟩,_⟩:=id hM
 refine(Z7 rfl (Z7 rfl ⟨m,C,dx,_,_,rfl,e1,MT.cl,MT.a2,Z1a _,Z7 rfl ⟨m,C,dx,_,_,rfl,e1,MT.cl,MT.a4,Wp _,a,_,M.s.text,M.s.place,rfl,hrow,h1,p0,p1,Z7 rfl (?_)⟩⟩))
 unfold MM.doSign at q
 refine V8 (fun z=>?_) (fun z=>?_)
 ·rw[if_pos z]at q
  refine(Z7 rfl ⟨m,C,dx,_,_,rfl,e1,MT.cl,MT.a4,Wp _,Va rfl rfl ⟨dx,_,e1,Yx _,?_⟩⟩)
  rw[Z95]
  exact q _ (hM.put (s':={ M.s with place:=M.s.place+1 }) e1 rfl) (Gro.ins (by simp) e1 _)
 ·rw[if_neg z]at q
  exact(Z7 rfl ⟨m,dx,Z7 rfl ⟨e1,Ys _,m,M,rfl,hM,hz,q⟩⟩)
abbrev U2:Stmt:=top 20
theorem Z4z:FnScope ["machine","row"] ["machine","row"] (Z9 U2):=Vm
theorem Z56(MT:Txt K mg C)(O_Machine_go_back:OwnM P w K mg base 2 C "go_back" ["self"] (Wi C))(F:Fun K "do_begin" "do_begin" U2 f fd):FnOk P w K mg base Wq 3 f fd ["machine","row"] (Z2i C Zab (Zhx .beg) MM.doBegin):=by
 refine F.ok Z4z (fun vs H Q E h=>?_) (fun cdv A outer s H vs Q E hr h=>?_)
 ·obtain⟨m,a,M,rfl,_⟩:=h
  rfl
 obtain⟨m,a,M,rfl,hM,hz,_,_,q⟩:=h
 refine Vj ?_
 intro Xz
 refine⟨_,(Z5 (Y0 (Ze Z01 (Zn (pv 0) rfl) Z6 (Zi _)) (Z5 (Zf (Yf (O_Machine_go_back.mono (by omega)) MT.cl hr (pv 0)))) Zm)),?_⟩
 refine Z29 ?_
 intro Ez Az1
 obtain⟨⟨dx,e1⟩,_⟩:=id hM
 unfold MM.doBegin at q
 refine(Z7 rfl ⟨m,C,dx,_,_,rfl,e1,MT.cl,MT.a4,Wp _,rfl,Z7 rfl (V8 (fun z=>?_) (fun z=>?_))⟩)
 ·have:¬M.s.place=0:=fun e=>by rw[e]at z;exact absurd z (by decide)
  rw[if_neg this]at q
  exact(Z7 rfl ⟨m,dx,Z7 rfl ⟨e1,Ys _,m,M,rfl,hM,hz,q⟩⟩)
 ·have:M.s.place=0:=by
   have:(!decide (V.int M.s.place=V.int 0))=false:=Bool.eq_false_iff.mpr z
   simpa using this
  rw[if_pos this]at q
  exact q H hM Gro.refl
abbrev Je:Stmt:=top 21
theorem Z9f:FnScope ["machine","row"] ["machine","row"] (Z9 Je):=Vm
theorem Z9s(T:Blt mg)(MT:Txt K mg C)(O_Machine_go_back:OwnM P w K mg base 2 C "go_back" ["self"] (Wi C))(F:Fun K "do_end" "do_end" Je f fd):FnOk P w K mg base Wq 3 f fd ["machine","row"] (Z2i C Zab (Zhx .fin) MM.doEnd):=by
 refine F.ok Z9f (fun vs H Q E h=>?_) (fun cdv A outer s H vs Q E hr h=>?_)
 ·obtain⟨m,a,M,rfl,_⟩:=h
  rfl
 obtain⟨m,a,M,rfl,hM,hz,⟨p0,p1⟩,_,q⟩:=h
 refine Vj ?_
 intro Xz
 refine⟨_,(Z5 (Y0 (Ze Z01 (Zn (pv 0) rfl) (Zh Xd rfl T.b_len PyProof.Rows.Boot.«len» (Z0 (Zn (pv 0) rfl) Z2)) (Zi _)) (Z5 (Zf (Yf (O_Machine_go_back.mono (by omega)) MT.cl hr (pv 0)))) Zm)),?_⟩
 refine Z29 ?_
 intro Ez Az1
 obtain⟨⟨dx,e1⟩,_⟩:=id hM
 unfold MM.doEnd at q
 refine(Z7 rfl ⟨m,C,dx,_,_,rfl,e1,MT.cl,MT.a4,Wp _,Z7 rfl ⟨m,C,dx,_,_,rfl,e1,MT.cl,MT.a2,Z1a _,M.s.text,rfl,Ye p1,rfl,Z7 rfl (V8 (fun z=>?_) (fun z=>?_))⟩⟩)
 ·have:¬M.s.place=M.s.text.length:=fun e=>by rw[e]at z;simp at z
  rw[if_neg this]at q
  exact(Z7 rfl ⟨m,dx,Z7 rfl ⟨e1,Ys _,m,M,rfl,hM,hz,q⟩⟩)
 ·have:M.s.place=M.s.text.length:=by
   have:(!decide (V.int M.s.place=V.int ((M.s.text.length:Nat):Int)))=false:=Bool.eq_false_iff.mpr z
   simpa using this
  rw[if_pos this]at q
  exact q H hM Gro.refl
def Zkc:Hp->Addr->Prop:=fun H a=>H a=some (.tup [.str "found"])
abbrev U0:Stmt:=top 37
theorem Z4y:FnScope ["machine","row"] ["machine","row"] (Z9 U0):=Vm
theorem Z54(MT:Txt K mg C)(F:Fun K "do_found" "do_found" U0 f fd):FnOk P w K mg base Wq 1 f fd ["machine","row"] (Z2i C (fun _=>True) Zkc MM.doFound):=by
 refine F.ok Z4y (fun vs H Q E h=>?_) (fun cdv A outer s H vs Q E hr h=>?_)
 ·obtain⟨m,a,M,rfl,_⟩:=h
  rfl
 obtain⟨m,a,M,rfl,hM,hz,_,_,q⟩:=h
 refine Vj ?_
 intro Xz
 refine⟨_,(Z5 (Ya (pv 0) Wo rfl)),?_⟩
 obtain⟨⟨dx,e1⟩,_⟩:=id hM
 refine(Z7 rfl ⟨m,C,dx,Z7 rfl ⟨e1,MT.cl,MT.a9,Yx _,?_⟩⟩)
 rw[Z5l]
 exact q _ (hM.put (s':={ M.s with found:=true }) e1 rfl) (Gro.ins (by simp) e1 _)
inductive spMovesI(C:Addr)(vs:List V)(H:Hp)(Q:VK):Prop
 |mk (m:Addr) (M:MM) (_:vs=[.ref m]) (_:MAt C H m M) (_:Q (.int M.s.made) H)
def Z46(C:Addr):Sp:=fun vs H Q _=>spMovesI C vs H Q
abbrev Xm:Stmt:=Xk (top 39) 2
theorem Jv:FnScope ["self"] ["self"] (Z9 Xm):=Vm
theorem Zb7(MT:Txt K mg C)(F:Fun K "moves" "Machine.moves" Xm f fd):FnOk P w K mg base Wq 1 f fd ["self"] (Z46 C):=by
 refine F.ok Jv (fun vs H Q E h=>?_) (fun cdv A outer s H vs Q E hr h=>?_)
 ·obtain⟨m,M,rfl,_⟩:=h
  rfl
 obtain⟨m,M,rfl,hM,q⟩:=h
 refine Vj ?_
 intro Xz
 refine⟨_,(Z5 (Zo (Zn (pv 0) rfl))),?_⟩
 obtain⟨⟨dx,e1⟩,_⟩:=id hM
 exact(Z7 rfl ⟨m,C,dx,_,_,rfl,e1,MT.cl,MT.a8,Z1b _,q⟩)
structure Tells(P:Program)(w:World)(K:W.Frag)(mg:Str->Option Value)(base:Heap)(k:Nat)(ds:List (Us×V))(wd:Str)(sp:Sp):Prop where
 ex:∃f fd ps,Z2s ds (Sum.inr wd)=some (.ref f)/\FnOk P w K mg base Wq k f fd ps sp/\W.keepIn K (.ref f)=true/\Binds K fd ps []
def MM.next(M:MM):MM:=⟨{ M.s with row:=M.s.row+1,made:=M.s.made+1 },M.cs⟩
inductive spMoveI(P:Program)(w:World)(K:W.Frag)(mg:Str->Option Value)(base:Heap)(k:Nat)(ds:List (Us×V))(C:Addr)(vs:List V)(H:Hp)(Q:VK):Prop
 |mk (m ra a:Addr) (ys:List V) (wd:Str) (r:List V) (M:MM) (sp:Sp) (_:vs=[.ref m]) (_:MAt C H m M) (_:M.s.rows=.ref ra) (_:H ra=some (.tup ys)) (_:Z6e ys M.s.row=some (.ref a)) (_:H a=some (.tup (.str wd::r))) (_:Tells P w K mg base k ds wd sp) (_:∀H1:Hp,MAt C H1 m M.next->Gro [m] H H1->sp [.ref m,.ref a] H1 (fun _ H2=>Q .non H2) E0)
def Z24(P:Program)(w:World)(K:W.Frag)(mg:Str->Option Value)(base:Heap)(k:Nat)(ds:List (Us×V))(C:Addr):Sp:=fun vs H Q _=>spMoveI P w K mg base k ds C vs H Q
abbrev Xy:Stmt:=Xk (top 39) 3
theorem sc_Machine_move:FnScope ["self","row"] ["self"] (Z9 Xy):=Vm
theorem Ze6{k:Nat}{dn:Addr}{ds:List (Us×V)}(MT:Txt K mg C)(Uq:mg "DOINGS" = some (.ref dn))(hDN:Zf5 K w dn ds)(F:Fun K "move" "Machine.move" Xy f fd):FnOk P w K mg base Wq (k+1) f fd ["self"] (Z24 P w K mg base k ds C):=by
 refine F.ok sc_Machine_move (fun vs H Q E h=>?_) (fun cdv A outer s H vs Q E hr h=>?_)
 ·obtain⟨m,ra,a,ys,wd,r,M,sp,rfl,_⟩:=h
  rfl
 obtain⟨m,ra,a,ys,wd,r,M,sp,rfl,hM,hrows,hra,hat,ha,⟨g,gd,ps,hv,G,kp,hb⟩,q⟩:=h
 refine Vj ?_
 intro Xz
 refine⟨_,(Z1 (pS 1 sc_Machine_move.nd (Zg Zd (Zn (pv 0) rfl) (Zn (pv 0) rfl) (fun _ _=>rfl)))
  (Z1 (T3 (pv 0) Z6 Z7t)
  (Z1 (T3 (pv 0) Z6 Z7t)
  (Z5 (Zf (Zgx hr (Z4b (Vk (v:=.ref _) rfl Uq rfl) (Zg Zd (pv 1) Z6 (fun _ _=>rfl)) (fun _ _=>rfl)) (Z0 (pv 0) (Z0 (pv 1) Z2)))))))),?_⟩
 refine Z7m ?_
 intro Ez Az1 Az2 Az3
 obtain⟨⟨dx,e1⟩,_⟩:=id hM
 have hrr:M.s.fs.lookup ("rows":Str)=some (.ref ra):=by rw[Zer,hrows]
 refine⟨_,rfl,m,C,dx,_,_,rfl,e1,MT.cl,MT.a1,hrr,_,rfl,m,C,dx,_,_,rfl,e1,MT.cl,MT.a3,Z4t _,ra,ys,_,_,rfl,rfl,SqT.of hra,hat,?_⟩
 refine(Z7 rfl ⟨m,C,dx,_,_,rfl,e1,MT.cl,MT.a3,Z4t _,Va rfl rfl ⟨dx,_,e1,Yx _,?_⟩⟩)
 rw[Z0p]
 have M1:=hM.put (s':={ M.s with row:=M.s.row+1 }) e1 rfl
 have g1:Gro [m] H (Zq H m (.ins C dx ({ M.s with row:=M.s.row+1 }:MS).fs)):=Gro.ins (by simp) e1 _
 have e2:(Zq H m (.ins C dx ({ M.s with row:=M.s.row+1 }:MS).fs)) m=some (.ins C dx ({ M.s with row:=M.s.row+1 }:MS).fs):=Z3
 generalize Zq H m (.ins C dx ({ M.s with row:=M.s.row+1 }:MS).fs)=H1 at *
 refine(Z7 rfl ⟨m,C,dx,_,_,rfl,e2,MT.cl,MT.a8,Z1b _,Va rfl rfl ⟨dx,_,e2,Yx _,?_⟩⟩)
 rw[Zdu]
 have M2:MAt C _ m M.next:=M1.put (s':={ M.s with row:=M.s.row+1,made:=M.s.made+1 }) e2 rfl
 have g2:Gro [m] H1 (Zq H1 m (.ins C dx ({ M.s with row:=M.s.row+1,made:=M.s.made+1 }:MS).fs)):=Gro.ins (by simp) e2 _
 have q2:=q _ M2 (g1.trans g2)
 refine(W5 (g2.tups _ _ (g1.tups _ _ ha)) Z0d ⟨dn,ds,Sum.inr wd,_,rfl,hDN,rfl,hv,g,gd,ps,sp,rfl,G,kp,hb,?_⟩)
 exact(Z7 rfl (Z7 rfl q2))
end
def MM.fresh(M:MM):MM:=if M.s.found=true then MM.back ⟨{ M.s with found:=false },M.cs⟩ else M
section
variable{P:Program}{w:World}{K:W.Frag}{mg:Str->Option Value}{base:Heap}{f C:Addr}{fd:FuncData}
structure Runs(P:Program)(w:World)(K:W.Frag)(mg:Str->Option Value)(base:Heap)(kk:Nat)(ds:List (Us×V))(C m:Addr)(M:MM)(H:Hp)(most:Int)(Q:VK)(J:Nat->MM->Hp->Prop):Prop where
 start:∀H',MAt C H' m M.fresh->Gro [m,M.s.choices] H H'->J 0 M.fresh H'
 at_:∀k M' H',J k M' H'->MAt C H' m M'/\M'.s.made=M.s.made+k/\M'.s.found=false/\(k:Int)<=most
 none_:∀k M' H',J k M' H'->M'.s.ended=true->∀t,H' t=none->Q (.ref t) (Zq H' t (.tup [.str "none"]))
 over:∀k M' H',J k M' H'->M'.s.ended=false->(k:Int)=most->∀t,H' t=none->Q (.ref t) (Zq H' t (.tup [.str "over"]))
 turn:∀k M' H',J k M' H'->M'.s.ended=false->(k:Int)<most->∀Q':VK,(∀(v:V) (H2:Hp) (M2:MM),MAt C H2 m M2->((M2.s.found=true/\∀t,H2 t=none->Q (.ref t) (Zq H2 t (.tup [.str "way",.int M2.s.place,M2.s.groups])))∨(M2.s.found=false/\J (k+1) M2 H2))->Q' v H2)->Z24 P w K mg base kk ds C [.ref m] H' Q' E0
inductive spWayI(P:Program)(w:World)(K:W.Frag)(mg:Str->Option Value)(base:Heap)(kk:Nat)(ds:List (Us×V))(C:Addr)(vs:List V)(H:Hp)(Q:VK):Prop
 |mk (m:Addr) (most:Int) (M:MM) (J:Nat->MM->Hp->Prop) (_:vs=[.ref m,.int most]) (_:MAt C H m M) (_:1<=most) (_:M.cs.length<=1000000) (_:Runs P w K mg base kk ds C m M H most Q J)
def Zff(P:Program)(w:World)(K:W.Frag)(mg:Str->Option Value)(base:Heap)(kk:Nat)(ds:List (Us×V))(C:Addr):Sp:=fun vs H Q _=>spWayI P w K mg base kk ds C vs H Q
def Zks(m:Addr)(most:Int)(M:MM)(J:Nat->MM->Hp->Prop):TS:=fun D σ H1=>σ=[some (.ref m),some (.int most),none]/\J 0 M.fresh H1
abbrev Wc:Stmt:=Xk (top 39) 1
theorem sc_Machine_way:FnScope ["self","most","last"] ["self","most"] (Z9 Wc):=Vm
theorem Zgz{kk:Nat}{ds:List (Us×V)}(MT:Txt K mg C)(O_Machine_move:OwnM P w K mg base (kk+1) C "move" ["self"] (Z24 P w K mg base kk ds C))(O_Machine_go_back:OwnM P w K mg base 2 C "go_back" ["self"] (Wi C))(F:Fun K "way" "Machine.way" Wc f fd) :
  FnOk P w K mg base Wq (kk+3) f fd ["self","most"] (Zff P w K mg base kk ds C):=by
 refine F.ok sc_Machine_way (fun vs H Q E h=>?_) (fun cdv A outer s H vs Q E hr h=>?_)
 ·obtain⟨m,most,M,J,rfl,_⟩:=h
  rfl
 obtain⟨m,most,M,J,rfl,hM,h1,hz,R⟩:=h
 refine Vj ?_
 intro Xz
 refine⟨_,(Z1 (Y0 (Yw (Zn (pv 0) rfl)) (Z1 (Ya (pv 0) Wo rfl)
  (Z5 (Zf (Yf (O_Machine_go_back.mono (by omega)) MT.cl hr (pv 0))))) Zm)
  (Jq (fun D σ H1=>Zks m most M J D σ H1/\D.rt=Q) (Z1 (pS 2 sc_Machine_way.nd (Yg Xh (Zn (pv 0) rfl) (pv 1)))
  (Z1 (Jg PassesOwn.never (PW.pt (Z2d (Z7o (Yw (Zn (pv 0) rfl))) (Jo (Ze Z6a (Zn (pv 0) rfl) (pv 2) (Zi _))))) (Z1 (Zf (Yf (O_Machine_move.mono (by omega)) MT.cl hr (pv 0)))
  (Z5 (Y0 (Yw (Zn (pv 0) rfl)) (Z5 (Zo (Zr (Z0 Zk (Z0 (Zn (pv 0) rfl) (Z0 (Zn (pv 0) rfl) Z2)))))) Zm))))
  (Z5 (Zo (Xp (Yw (Zn (pv 0) rfl)) (Zr (Z0 Zk Z2)) (Zr (Z0 Zk Z2))))))) (fun D1 σ1 H1 hcut=>?cut1))),?_⟩
 case cut1 =>
  refine Zge ?_
  intro Ez Az1 Az2 Az3 Az4 Az5
  obtain⟨⟨rfl,hJ⟩,hD⟩:=hcut
  obtain⟨M0,hm0,_,_⟩:=R.at_ _ _ _ hJ
  obtain⟨⟨dx,e1⟩,_⟩:=id M0
  refine(Z7 rfl ⟨m,C,dx,_,_,rfl,e1,MT.cl,MT.a8,Z1b _,Z7 rfl (Va rfl rfl (?_))⟩)
  have hlast:M.fresh.s.made=M.s.made:=by rw[hm0];simp
  refine⟨fun n σ H'=>∃(k:Nat) (M':MM),(n:Int)=most-k/\σ=[some (.ref m),some (.int most),some (.int (M.fresh.s.made+most))]/\J k M' H',⟨most.toNat,0,_,by omega,rfl,hJ⟩,?_⟩
  rintro n σ H2 ⟨k,M',hn,rfl,hJ2⟩
  obtain⟨M2,hm2,hf2,hk2⟩:=R.at_ _ _ _ hJ2
  obtain⟨⟨dx2,e2⟩,_⟩:=id M2
  have rest:(M'.s.ended=false->¬(k:Int)<most)->(Z4m (Zlb (tB (Zje K (We 0) "ended")) (Zd0 (Z0x (tC (.str "none")) Z4n)) (Zd0 (Z0x (tC (.str "over")) Z4n)))) D1 [some (.ref m),some (.int most),some (.int (M.fresh.s.made+most))] H2:=by
   intro hk
   refine(Z7 rfl ⟨m,C,dx2,_,_,rfl,e2,MT.cl,MT.a10,Z5y _,Z7 rfl (V8 (fun z=>?_) (fun z=>?_))⟩)
   ·refine⟨sz,fun t ht=>?_⟩
    rw[hD]
    exact R.none_ _ _ _ hJ2 z t ht
   ·refine⟨sz,fun t ht=>?_⟩
    rw[hD]
    have z':M'.s.ended=false:=Bool.eq_false_iff.mpr z
    exact R.over _ _ _ hJ2 z' (by have:=hk z';omega) t ht
  refine(Z7 rfl ⟨m,C,dx2,_,_,rfl,e2,MT.cl,MT.a10,Z5y _,Z7 rfl (?_)⟩)
  cases he:M'.s.ended with
  |true=>exact Zad (Zad (rest (fun z=>absurd (he.symm.trans z) (by decide))))
  |false =>
   refine Z91 ?_
   refine(Z7 rfl ⟨m,C,dx2,_,_,rfl,e2,MT.cl,MT.a8,Z1b _,Z7 rfl (Va rfl rfl (Z7 rfl (?_)))⟩)
   by_cases hlt:(k:Int)<most
   ·have hd:decide (M'.s.made<M.fresh.s.made+most)=true:=decide_eq_true (by omega)
    rw[hd]
    refine Z91 ⟨fun σ' H'=>∃M3,σ'=[some (.ref m),some (.int most),some (.int (M.fresh.s.made+most))]/\J (k+1) M3 H',fun σ' H' ⟨M3,e3,j3⟩=>⟨n-1,by omega,k+1,M3,by omega,e3,j3⟩,?_⟩
    refine(Z7 rfl ⟨m,dx2,Z7 rfl ⟨e2,Zeh _,?_⟩⟩)
    unfold Z4n
    refine R.turn _ _ _ hJ2 he hlt _ fun v H3 M3 hM3 h3=>?_
    obtain⟨⟨dx3,e3⟩,_⟩:=id hM3
    refine(Z7 rfl ⟨m,C,dx3,_,_,rfl,e3,MT.cl,MT.a9,Z5x _,Z7 rfl (?_)⟩)
    rcases h3 with⟨hf,hq⟩ | ⟨hf,hj⟩
    ·rw[hf]
     refine Z91 (Z7 rfl ⟨m,C,dx3,_,_,rfl,e3,MT.cl,MT.a4,Wp _,Z7 rfl ⟨m,C,dx3,_,_,rfl,e3,MT.cl,MT.a5,Xv _,sz,fun t ht=>?_⟩⟩)
     show D1.rt _ _
     rw[hD]
     exact hq t ht
    ·rw[hf]
     exact Zad ⟨M3,rfl,hj⟩
   ·have hd:decide (M'.s.made<M.fresh.s.made+most)=false:=decide_eq_false (by omega)
    rw[hd]
    exact Zad (rest (fun _=>hlt))
 refine Zfz ?_
 intro Ez Az1 Az2 Az3
 obtain⟨⟨dx,e1⟩,_⟩:=id hM
 have fr:∀H',MAt C H' m M.fresh->Gro [m,M.s.choices] H H'->J 0 M.fresh H':=R.start
 unfold MM.fresh at fr
 refine(Z7 rfl ⟨m,C,dx,_,_,rfl,e1,MT.cl,MT.a9,Z5x _,Z7 rfl (V8 (fun z=>?_) (fun z=>?_))⟩)
 ·rw[if_pos z]at fr
  refine(Z7 rfl ⟨m,C,dx,Z7 rfl ⟨e1,MT.cl,MT.a9,Yx _,?_⟩⟩)
  rw[Z5l]
  have M1:=hM.put (s':={ M.s with found:=false }) e1 rfl
  have g1:Gro [m] H (Zq H m (.ins C dx ({ M.s with found:=false }:MS).fs)):=Gro.ins (by simp) e1 _
  refine(Z7 rfl ⟨m,dx,Z7 rfl ⟨Z3,Ys _,m,_,rfl,M1,hz,fun H2 M2 g2=>⟨⟨rfl,?_⟩,rfl⟩⟩⟩)
  have:=fr H2 M2 ((g1.mono (by simp)).trans g2)
  unfold MM.fresh
  rw[if_pos z]
  exact this
 ·rw[if_neg z]at fr
  refine⟨⟨rfl,?_⟩,rfl⟩
  unfold MM.fresh
  rw[if_neg z]
  exact fr H hM Gro.refl
end
def Rw.close:Rw->Option Int
 |.tup [.str x,.int k]=>if x="close" then some k else none
 |_=>none
def Ww(rs:List Rw):List Int:=rs.filterMap Rw.close
def Ug(rs:List Rw):Int:=if Ww rs=[] then 0 else Zjw (Ww rs)
def Rw.tame:Rw->Prop
 |.pat _=>True
 |.tup xs=>∃(x:Str) (r:List V),xs=.str x::r/\(x="close"->∃k,r=[.int k])
theorem Z9n(h:Hd):decide (V.str h.word=V.str "close")=false:=by
 rw[h.word_wd]
 cases h.wd <;> decide +kernel
def Zjx(ra:Addr)(t:Str)(i:Int)(g:V)(c:Addr):MM:=⟨{ rows:=.ref ra,text:=t,row:=0,place:=i,groups:=g,held:=.non,choices:=c,made:=0,found:=false,ended:=false },[]⟩
section
variable{P:Program}{w:World}{K:W.Frag}{mg:Str->Option Value}{base:Heap}{f C:Addr}{fd:FuncData}
inductive spInitI(C:Addr)(vs:List V)(H:Hp)(Q:VK):Prop
 |mk (m dx ra:Addr) (t:Str) (i:Int) (ys:List V) (rs:List Rw) (_:vs=[.ref m,.ref ra,.str t,.int i]) (_:H m=some (.ins C dx [])) (_:H ra=some (.tup ys)) (_:Paired (RowAt H) ys rs) (_:ys.length<=1000000) (_:(∀r∈rs,r.tame)) (_:0<=Ug rs) (_:Ug rs<=1000) (_:∀(c g:Addr) (H':Hp),H c=none->MAt C H' m (Zjx ra t i (.ref g) c)->H' g=some (.tup (List.replicate (Ug rs).toNat .non))->Gro [m] H H'->Q .non H')
def Z7i(C:Addr):Sp:=fun vs H Q _=>spInitI C vs H Q
theorem Z6o{H:Hp}{v:V}{r:Rw}(h:RowAt H v r)(ht:r.tame):∃(a:Addr) (x:Str) (xs:List V),v=.ref a/\H a=some (.tup (.str x::xs))/\((decide (V.str x=V.str "close")=false/\r.close=none)∨(decide (V.str x=V.str "close")=true/\∃k,xs=[.int k]/\r.close=some k)):=by
 cases r with
 |pat hd =>
  obtain⟨a,kv,rfl,l,_⟩:=h
  obtain⟨xs,e⟩:=l.head
  exact⟨a,_,xs,rfl,e,.inl ⟨Z9n hd,rfl⟩⟩
 |tup ys =>
  obtain⟨a,rfl,e⟩:=h
  obtain⟨x,xs,rfl,hc⟩:=ht
  refine⟨a,x,xs,rfl,e,?_⟩
  by_cases hx:x="close"
  ·obtain⟨k,rfl⟩:=hc hx
   exact .inr ⟨decide_eq_true (by rw[hx]),k,rfl,by show(if x="close" then some k else none)=some k;rw[if_pos hx]⟩
  ·refine .inl ⟨decide_eq_false (fun z=>hx (by injection z)),?_⟩
   unfold Rw.close
   split
   ·rename_i heq
    injection heq with heq
    injection heq with h1 h2
    injection h1 with h1
    subst h1
    rw[if_neg hx]
   ·rfl
theorem Gro.obj{H:Hp}{m C dx:Addr}{fs fs':List (Str×V)}(h:H m=some (.ins C dx fs)):Gro [m] H (Zq H m (.ins C dx fs')):=Gro.ins (by simp) h _
abbrev Ym:Stmt:=Xk (top 39) 0
theorem T7:FnScope ["self","rows","text","at"] ["self","rows","text","at"] (Z9 Ym):=Vm
theorem Ze8(T:Blt mg)(MT:Txt K mg C)(F:Fun K "__init__" "Machine.__init__" Ym f fd):FnOk P w K mg base Wq 1 f fd ["self","rows","text","at"] (Z7i C):=by
 refine F.ok T7 (fun vs H Q E h=>?_) (fun cdv A outer s H vs Q E hr h=>?_)
 ·obtain⟨m,dx,ra,t,i,ys,rs,rfl,_⟩:=h
  rfl
 obtain⟨m,dx,ra,t,i,ys,rs,rfl,h0,hra,hp,hz,htm,hc0,hc1,q⟩:=h
 refine Vj ?_
 intro Xz
 refine⟨_,(Z1 (Ya (pv 0) (pv 1) rfl)
  (Z1 (Ya (pv 0) (pv 2) rfl)
  (Z1 (Ya (pv 0) Z6 rfl)
  (Z1 (Ya (pv 0) (pv 3) rfl)
  (Z1 (Ya (pv 0) (Yg Zdz (Zr (Z0 Z0q Z2)) (Zdv rfl rfl T.b_max (Z0 (Vv rfl (show CScope _ ["self","rows","text","at"] (Z9 Ym) _ from⟨rfl,by decide +kernel,rfl,by decide +kernel,by decide +kernel,by decide +kernel,by decide +kernel⟩) (Z2e (pv 1)) (fun _ _ _ _=>(Z49 (Ze Y4 (Zg (r:=Z2h K) Zd (pv 0) Z6 (fun _ _=>rfl)) Zk (Zi _)))) (fun _ _ _ _=>(Zg (r:=Z2h K) Zd (pv 0) Z6 (fun _ _=>rfl)))) Z2) (Zdt Z6 Zgu))) rfl)
  (Z1 (Ya (pv 0) Z0q rfl)
  (Z1 (Ya (pv 0) (Xg Z2) rfl)
  (Z1 (Ya (pv 0) Z6 rfl)
  (Z1 (Ya (pv 0) Wo rfl)
  (Z5 (Ya (pv 0) Wo rfl))))))))))),?_⟩
 refine Zgh ?_
 intro Ez Az1 Az2 Az3 Az4 Az5 Az6 Az7 Az8 Az9
 have hl:=Paired.length hp
 refine(Z7 rfl (Z7 rfl ⟨m,C,dx,Z7 rfl ⟨h0,MT.cl,MT.a1,by simp,?_⟩⟩))
 have g1:Gro [m] H (Zq H m (.ins C dx (Y7 "rows" (.ref ra) []))):=Gro.obj h0
 have e1:(Zq H m (.ins C dx (Y7 "rows" (.ref ra) []))) m=some (.ins C dx [("rows",.ref ra)]):=Z3
 generalize Zq H m (.ins C dx (Y7 "rows" (.ref ra) []))=H1 at *
 refine(Z7 rfl (Z7 rfl ⟨m,C,dx,Z7 rfl ⟨e1,MT.cl,MT.a2,by simp,?_⟩⟩))
 have g2:Gro [m] H1 (Zq H1 m (.ins C dx (Y7 "text" (.str t) [("rows",.ref ra)]))):=Gro.obj e1
 have e2:(Zq H1 m (.ins C dx (Y7 "text" (.str t) [("rows",.ref ra)]))) m=some (.ins C dx [("rows",.ref ra),("text",.str t)]):=by rw[Z3,Zc (by decide +kernel),Vc]
 generalize Zq H1 m (.ins C dx (Y7 "text" (.str t) [("rows",.ref ra)]))=H2 at *
 refine(Z7 rfl ⟨m,C,dx,Z7 rfl ⟨e2,MT.cl,MT.a3,by simp,?_⟩⟩)
 have g3:Gro [m] H2 (Zq H2 m (.ins C dx (Y7 "row" (.int 0) [("rows",.ref ra),("text",.str t)]))):=Gro.obj e2
 have e3:(Zq H2 m (.ins C dx (Y7 "row" (.int 0) [("rows",.ref ra),("text",.str t)]))) m=some (.ins C dx [("rows",.ref ra),("text",.str t),("row",.int 0)]):=by rw[Z3,Zc (by decide +kernel),Zc (by decide +kernel),Vc]
 generalize Zq H2 m (.ins C dx (Y7 "row" (.int 0) [("rows",.ref ra),("text",.str t)]))=H3 at *
 refine(Z7 rfl (Z7 rfl ⟨m,C,dx,Z7 rfl ⟨e3,MT.cl,MT.a4,by simp,?_⟩⟩))
 have g4:Gro [m] H3 (Zq H3 m (.ins C dx (Y7 "at" (.int i) [("rows",.ref ra),("text",.str t),("row",.int 0)]))):=Gro.obj e3
 have e4:(Zq H3 m (.ins C dx (Y7 "at" (.int i) [("rows",.ref ra),("text",.str t),("row",.int 0)]))) m=some (.ins C dx [("rows",.ref ra),("text",.str t),("row",.int 0),("at",.int i)]):=by rw[Z3,Zc (by decide +kernel),Zc (by decide +kernel),Zc (by decide +kernel),Vc]
 generalize Zq H3 m (.ins C dx (Y7 "at" (.int i) [("rows",.ref ra),("text",.str t),("row",.int 0)]))=H4 at *
 have g14:=((g1.trans g2).trans g3).trans g4
 refine⟨sz,fun t1 ht1=>?_⟩
 have g5:Gro [m] H4 (Zq H4 t1 (.tup [.non])):=Gro.new ht1 _
 have f5:(Zq H4 t1 (.tup [.non])) t1=some (.tup [.non]):=Z3
 have e5:(Zq H4 t1 (.tup [.non])) m=some (.ins C dx [("rows",.ref ra),("text",.str t),("row",.int 0),("at",.int i)]):=by rw[Zt (Za e4 ht1)];exact e4
 generalize Zq H4 t1 (.tup [.non])=H5 at *
 have g15:=g14.trans g5
 have hra5:=g15.tups _ _ hra
 have hp5:=Y1 g15.tups hp
 refine(Z7 rfl ⟨ra,rfl,⟨ys,SqT.of hra5⟩,?_⟩)
 refine Z2f (n:=ys.length) (fun j zs H'=>H'=H5/\zs=(Ww (rs.take j)).map V.int/\zs.length<=j) ⟨rfl,rfl,Nat.le_refl _⟩ (Z7v hz) (fun j zs H' ⟨_,_,h⟩=>h) (fun j zs H' hj ⟨e,_⟩=>by rw[e];exact⟨ys,ys[j],SqT.of hra5,by simp[hj]⟩) (fun zs H' ⟨e,_⟩=>by rw[e];exact⟨ys,SqT.of hra5,Nat.le_refl _⟩) ?_ ?_
 ·rintro j zs H' x H'' hj ⟨rfl,rfl,hzl⟩ ⟨rfl,hx⟩
  have hx':=hx ys (SqT.of hra5)
  obtain⟨r,hri,hr'⟩:=Y5 hp5 hx'
  obtain⟨a,wd,xs,rfl,ha,hcl⟩:=Z6o hr' (htm r (List.mem_of_getElem? hri))
  have snoc:Ww (rs.take (j+1))=Ww (rs.take j)++r.close.toList:=by
   unfold Ww
   rw[Xu hri,List.filterMap_append]
   congr 1
  refine(W5 ha Z0d ⟨rfl,_,rfl,?_⟩)
  rcases hcl with⟨h1,h2⟩ | ⟨h1,k,rfl,h2⟩
  ·rw[h1,if_neg (by decide)]
   refine⟨rfl,?_,by omega⟩
   rw[snoc,h2]
   simp
  ·rw[h1,if_pos rfl]
   refine(W5 ha rfl ⟨rfl,?_,by simp at hzl ⊢;omega⟩)
   rw[snoc,h2]
   simp
 ·rintro zs H' ⟨rfl,rfl,_⟩ l6 hl6
  rw[hl,List.take_length]
  have g6:Gro [m] H' (Zq H' l6 (.lst ((Ww rs).map V.int))):=Gro.new hl6 _
  refine⟨l6,Ww rs,.int 0,rfl,rfl,SqL.of Z3,?_⟩
  have ev:(if Ww rs=[] then V.int 0 else V.int (Zjw (Ww rs)))=V.int (Ug rs):=by unfold Ug;split <;> rfl
  rw[ev]
  have f6:=g6.tups _ _ f5
  have e6:(Zq H' l6 (.lst ((Ww rs).map V.int))) m=some (.ins C dx [("rows",.ref ra),("text",.str t),("row",.int 0),("at",.int i)]):=by rw[Zt (Za e5 hl6)];exact e5
  generalize Zq H' l6 (.lst ((Ww rs).map V.int))=H6 at *
  have g16:=g15.trans g6
  have fin:∀(g:Addr) (H7:Hp),H7 g=some (.tup (List.replicate (Ug rs).toNat .non))->H7 m=some (.ins C dx [("rows",.ref ra),("text",.str t),("row",.int 0),("at",.int i)])->Gro [m] H H7 ->
    (We 0) [some (.ref m),some (.ref ra),some (.str t),some (.int i)] H7 (fun x H2=>∃a C dx fs,x=.ref a/\H2 a=some (.ins C dx fs)/\Cls K C/\NoAttr K C "groups"/\fs.length<1000 /\
     (Z8 (Zaa K (We 0) (tC .non) "held") (Z8 (Zaa K (We 0) (Zjc Z4n) "choices") (Z8 (Zaa K (We 0) (tC (.int 0)) "made") (Z8 (Zaa K (We 0) (tC (.bl false)) "found") (Zaa K (We 0) (tC (.bl false)) "ended"))))) { nx:=fun _ H'=>Q .non H',rt:=Q } [some (.ref m),some (.ref ra),some (.str t),some (.int i)] (Zq H2 a (.ins C dx (Y7 "groups" (.ref g) fs)))):=by
   intro g H7 hg e7 g17
   refine(Z7 rfl ⟨m,C,dx,Z7 rfl ⟨e7,MT.cl,MT.a5,by simp,?_⟩⟩)
   have g8:Gro [m] H7 (Zq H7 m (.ins C dx (Y7 "groups" (.ref g) [("rows",.ref ra),("text",.str t),("row",.int 0),("at",.int i)]))):=Gro.obj e7
   have e8:(Zq H7 m (.ins C dx (Y7 "groups" (.ref g) [("rows",.ref ra),("text",.str t),("row",.int 0),("at",.int i)]))) m=some (.ins C dx [("rows",.ref ra),("text",.str t),("row",.int 0),("at",.int i),("groups",.ref g)]):=by
    rw[Z3,Zc (by decide +kernel),Zc (by decide +kernel),Zc (by decide +kernel),Zc (by decide +kernel),Vc]
   generalize Zq H7 m (.ins C dx (Y7 "groups" (.ref g) [("rows",.ref ra),("text",.str t),("row",.int 0),("at",.int i)]))=H8 at *
   refine(Z7 rfl ⟨m,C,dx,Z7 rfl ⟨e8,MT.cl,MT.a6,by simp,?_⟩⟩)
   have g9:Gro [m] H8 (Zq H8 m (.ins C dx (Y7 "held" .non [("rows",.ref ra),("text",.str t),("row",.int 0),("at",.int i),("groups",.ref g)]))):=Gro.obj e8
   have e9:(Zq H8 m (.ins C dx (Y7 "held" .non [("rows",.ref ra),("text",.str t),("row",.int 0),("at",.int i),("groups",.ref g)]))) m=some (.ins C dx [("rows",.ref ra),("text",.str t),("row",.int 0),("at",.int i),("groups",.ref g),("held",.non)]):=by
    rw[Z3,Zc (by decide +kernel),Zc (by decide +kernel),Zc (by decide +kernel),Zc (by decide +kernel),Zc (by decide +kernel),Vc]
   generalize Zq H8 m (.ins C dx (Y7 "held" .non [("rows",.ref ra),("text",.str t),("row",.int 0),("at",.int i),("groups",.ref g)]))=H9 at *
   refine⟨sz,fun c hc=>?_⟩
   have gA:Gro [m] H9 (Zq H9 c (.lst [])):=Gro.new hc _
   have fA:(Zq H9 c (.lst [])) c=some (.lst []):=Z3
   have mc:m≠c:=Za e9 hc
   have eA:(Zq H9 c (.lst [])) m=some (.ins C dx [("rows",.ref ra),("text",.str t),("row",.int 0),("at",.int i),("groups",.ref g),("held",.non)]):=by rw[Zt mc];exact e9
   generalize Zq H9 c (.lst [])=HA at *
   refine(Z7 rfl ⟨m,C,dx,Z7 rfl ⟨eA,MT.cl,MT.a7,by simp,?_⟩⟩)
   have gB:Gro [m] HA (Zq HA m (.ins C dx (Y7 "choices" (.ref c) [("rows",.ref ra),("text",.str t),("row",.int 0),("at",.int i),("groups",.ref g),("held",.non)]))):=Gro.obj eA
   have eB:(Zq HA m (.ins C dx (Y7 "choices" (.ref c) [("rows",.ref ra),("text",.str t),("row",.int 0),("at",.int i),("groups",.ref g),("held",.non)]))) m=some (.ins C dx [("rows",.ref ra),("text",.str t),("row",.int 0),("at",.int i),("groups",.ref g),("held",.non),("choices",.ref c)]):=by
    rw[Z3,Zc (by decide +kernel),Zc (by decide +kernel),Zc (by decide +kernel),Zc (by decide +kernel),Zc (by decide +kernel),Zc (by decide +kernel),Vc]
   generalize Zq HA m (.ins C dx (Y7 "choices" (.ref c) [("rows",.ref ra),("text",.str t),("row",.int 0),("at",.int i),("groups",.ref g),("held",.non)]))=HB at *
   refine(Z7 rfl ⟨m,C,dx,Z7 rfl ⟨eB,MT.cl,MT.a8,by simp,?_⟩⟩)
   have gC:Gro [m] HB (Zq HB m (.ins C dx (Y7 "made" (.int 0) [("rows",.ref ra),("text",.str t),("row",.int 0),("at",.int i),("groups",.ref g),("held",.non),("choices",.ref c)]))):=Gro.obj eB
   have eC:(Zq HB m (.ins C dx (Y7 "made" (.int 0) [("rows",.ref ra),("text",.str t),("row",.int 0),("at",.int i),("groups",.ref g),("held",.non),("choices",.ref c)]))) m=some (.ins C dx [("rows",.ref ra),("text",.str t),("row",.int 0),("at",.int i),("groups",.ref g),("held",.non),("choices",.ref c),("made",.int 0)]):=by
    rw[Z3,Zc (by decide +kernel),Zc (by decide +kernel),Zc (by decide +kernel),Zc (by decide +kernel),Zc (by decide +kernel),Zc (by decide +kernel),Zc (by decide +kernel),Vc]
   generalize Zq HB m (.ins C dx (Y7 "made" (.int 0) [("rows",.ref ra),("text",.str t),("row",.int 0),("at",.int i),("groups",.ref g),("held",.non),("choices",.ref c)]))=HC at *
   refine(Z7 rfl ⟨m,C,dx,Z7 rfl ⟨eC,MT.cl,MT.a9,by simp,?_⟩⟩)
   have gD:Gro [m] HC (Zq HC m (.ins C dx (Y7 "found" (.bl false) [("rows",.ref ra),("text",.str t),("row",.int 0),("at",.int i),("groups",.ref g),("held",.non),("choices",.ref c),("made",.int 0)]))):=Gro.obj eC
   have eD:(Zq HC m (.ins C dx (Y7 "found" (.bl false) [("rows",.ref ra),("text",.str t),("row",.int 0),("at",.int i),("groups",.ref g),("held",.non),("choices",.ref c),("made",.int 0)]))) m=some (.ins C dx [("rows",.ref ra),("text",.str t),("row",.int 0),("at",.int i),("groups",.ref g),("held",.non),("choices",.ref c),("made",.int 0),("found",.bl false)]):=by
    rw[Z3,Zc (by decide +kernel),Zc (by decide +kernel),Zc (by decide +kernel),Zc (by decide +kernel),Zc (by decide +kernel),Zc (by decide +kernel),Zc (by decide +kernel),Zc (by decide +kernel),Vc]
   generalize Zq HC m (.ins C dx (Y7 "found" (.bl false) [("rows",.ref ra),("text",.str t),("row",.int 0),("at",.int i),("groups",.ref g),("held",.non),("choices",.ref c),("made",.int 0)]))=HD at *
   refine(Z7 rfl ⟨m,C,dx,Z7 rfl ⟨eD,MT.cl,MT.a10,by simp,?_⟩⟩)
   have gE:Gro [m] HD (Zq HD m (.ins C dx (Y7 "ended" (.bl false) [("rows",.ref ra),("text",.str t),("row",.int 0),("at",.int i),("groups",.ref g),("held",.non),("choices",.ref c),("made",.int 0),("found",.bl false)]))):=Gro.obj eD
   have eE:(Zq HD m (.ins C dx (Y7 "ended" (.bl false) [("rows",.ref ra),("text",.str t),("row",.int 0),("at",.int i),("groups",.ref g),("held",.non),("choices",.ref c),("made",.int 0),("found",.bl false)]))) m=some (.ins C dx (Zjx ra t i (.ref g) c).s.fs):=by
    rw[Z3,Zc (by decide +kernel),Zc (by decide +kernel),Zc (by decide +kernel),Zc (by decide +kernel),Zc (by decide +kernel),Zc (by decide +kernel),Zc (by decide +kernel),Zc (by decide +kernel),Zc (by decide +kernel),Vc]
    rfl
   have gAE:=((gB.trans gC).trans gD).trans gE
   have fE:=gAE.keep c _ fA (by simpa using Ne.symm mc)
   have gg:=(((g17.trans g8).trans g9).trans gA).trans gAE
   have hnc:H c=none:=by
    cases hh:H c with
    |none=>rfl
    |some o =>
     exfalso
     have:=((g17.trans g8).trans g9).keep c o hh (by simpa using Ne.symm mc)
     rw[hc]at this
     cases this
   exact q c g _ hnc ⟨⟨dx,eE⟩,[],fE,.nil⟩ (gAE.tups _ _ (gA.tups _ _ (g9.tups _ _ (g8.tups _ _ hg)))) gg
  refine⟨t1,Ug rs,[.non],rfl,rfl,f6,hc0,by simp;omega,hc1,fun hk1=>?_,fun _ _ p hp'=>?_,by simp⟩
  ·exact fin t1 H6 (by rw[f6,hk1];rfl) e6 g16
  ·refine fin p _ ?_ (by rw[Zt (Za e6 hp')];exact e6) (g16.tup hp')
   rw[Z3]
   congr 2
   induction (Ug rs).toNat with
   |zero=>rfl
   |succ n ih=>rw[List.replicate_succ,List.flatten_cons,ih];rfl
end
inductive Ez where
 |pat (h:Hd) | try_ (z:Int) | go (z:Int) | found
def Ez.rw:Ez->Rw
 |.pat h=>.pat h | .try_ z=>.tup [.str "try",.int z] | .go z=>.tup [.str "go",.int z] | .found=>.tup [.str "found"]
def MM.push(z:Int)(M:MM):MM:=⟨M.s,M.cs++[(z,M.s.place,M.s.groups,M.s.held)]⟩
def MM.goTo(z:Int)(M:MM):MM:=⟨{ M.s with row:=z },M.cs⟩
def Zkx:Hd->MM->MM
 |.beg=>MM.doBegin
 |.fin=>MM.doEnd
 |h=>MM.doSign h
def Ez.act:Ez->MM->MM
 |.pat h=>Zkx h
 |.try_ z=>MM.push z
 |.go z=>MM.goTo z
 |.found=>MM.doFound
theorem Z0i{α β:Type}{F:α->β->Prop}:∀ {xs:List α} {ys:List β} {i:Nat} {y:β},Paired F xs ys->ys[i]? = some y->∃x,xs[i]? = some x/\F x y
 |_,_,_,_,.nil,h=>by simp at h
 |_,_,0,_,.cons r _,h=>by
  simp only[List.getElem?_cons_zero,Option.some.injEq]at h
  subst h
  exact(Z7 rfl r)
 |_,_,i+1,_,.cons _ t,h=>by
  rw[List.getElem?_cons_succ]at h
  obtain⟨x,e,q⟩:=Z0i t h
  exact⟨x,by rw[List.getElem?_cons_succ];exact e,q⟩
section
variable{P:Program}{w:World}{K:W.Frag}{mg:Str->Option Value}{base:Heap}{f C:Addr}{fd:FuncData}{h:Heap}
abbrev Zjg(e:Ez):Hp->Addr->Prop:=fun H a=>RowAt H (.ref a) e.rw
abbrev Jd:Stmt:=top 23
theorem Z9e:FnScope ["machine","row"] ["machine","row"] (Z9 Jd):=Vm
theorem Z9r{z:Int}(MT:Txt K mg C)(F:Fun K "do_try" "do_try" Jd f fd):FnOk P w K mg base Wq 1 f fd ["machine","row"] (Z2i C Zab (Zjg (.try_ z)) (MM.push z)):=by
 refine F.ok Z9e (fun vs H Q E h=>?_) (fun cdv A outer s H vs Q E hr h=>?_)
 ·obtain⟨m,a,M,rfl,_⟩:=h
  rfl
 obtain⟨m,a,M,rfl,hM,hz,_,⟨a',e,ha⟩,q⟩:=h
 cases e
 refine Vj ?_
 intro Xz
 refine⟨_,(Z5 (Zf (Yr PySem.F.plainAttrs_list PySem.F.slot_list_append PySem.F.type_list_append Zw (Zn (pv 0) rfl) (Z0 (Zr (Z0 (Zg Zd (pv 1) Z6 (fun _ _=>rfl)) (Z0 (Zn (pv 0) rfl) (Z0 (Zn (pv 0) rfl) (Z0 (Zn (pv 0) rfl) Z2))))) Z2)))),?_⟩
 have hne:=hM.ne
 obtain⟨⟨dx,e1⟩,vs,hv,hp⟩:=id hM
 have hl:=Paired.length hp
 refine(Z7 rfl ⟨m,C,dx,_,_,rfl,e1,MT.cl,MT.a7,Yt _,.inl ⟨rfl,_,SqL.of hv⟩,W5 ha rfl ⟨_,rfl,m,C,dx,_,_,rfl,e1,MT.cl,MT.a4,Wp _,_,rfl,m,C,dx,_,_,rfl,e1,MT.cl,MT.a5,Xv _,_,rfl,m,C,dx,_,_,rfl,e1,MT.cl,MT.a6,Ub _,sz,fun t ht=>?_⟩⟩)
 refine⟨M.s.choices,vs,Z7 rfl ⟨rfl,Xf hv ht,Z7v (by omega),?_⟩⟩
 have g1:Gro [M.s.choices] H _:=W4 (zs:=vs++[V.ref t]) (o:=.tup [.int z,.int M.s.place,M.s.groups,M.s.held]) hv ht
 refine q _ ⟨⟨dx,?_⟩,vs++[.ref t],Z3,?_⟩ (g1.mono (by simp))
 ·rw[Zt hne,Zt (Za e1 ht)]
  exact e1
 ·exact(Paired.mapP hp fun _ _ q=>q.mono g1.tups).snoc ⟨t,rfl,W3 hv ht⟩
abbrev Z16:Stmt:=top 24
theorem Zao:FnScope ["machine","row"] ["machine","row"] (Z9 Z16):=Vm
theorem Zba{z:Int}(MT:Txt K mg C)(F:Fun K "do_go" "do_go" Z16 f fd):FnOk P w K mg base Wq 1 f fd ["machine","row"] (Z2i C Zab (Zjg (.go z)) (MM.goTo z)):=by
 refine F.ok Zao (fun vs H Q E h=>?_) (fun cdv A outer s H vs Q E hr h=>?_)
 ·obtain⟨m,a,M,rfl,_⟩:=h
  rfl
 obtain⟨m,a,M,rfl,hM,hz,_,⟨a',e,ha⟩,q⟩:=h
 cases e
 refine Vj ?_
 intro Xz
 refine⟨_,(Z5 (Ya (pv 0) (Zg Zd (pv 1) Z6 (fun _ _=>rfl)) rfl)),?_⟩
 obtain⟨⟨dx,e1⟩,_⟩:=id hM
 refine(W5 ha rfl ⟨_,rfl,m,C,dx,_,rfl,e1,MT.cl,MT.a3,Yx _,?_⟩)
 rw[Z0p]
 exact q _ (hM.put (s':={ M.s with row:=z }) e1 rfl) (Gro.ins (by simp) e1 _)
def Zlj(es:List Ez)(M:MM):MM:=(es.getD M.s.row.toNat .found).act M.next
def its(es:List Ez):Nat->MM->MM
 |0,M=>M
 |k+1,M=>Zlj es (its es k M)
theorem Z9j{H:Hp}{v:V}{r:Rw}(h:RowAt H v r):∃a,v=.ref a:=by
 cases r with
 |pat hd=>obtain⟨a,kv,e,_⟩:=h;exact⟨a,e⟩
 |tup xs=>obtain⟨a,e,_⟩:=h;exact⟨a,e⟩
def MDef(K:W.Frag)(C:Addr)(m qual:Str)(st:Stmt)(ps:List Str):Prop:=∃f fd,Fun K m qual st f fd/\Meth K C m f/\Binds K fd ps []
theorem Xj{C f:Addr}{m qual:Str}{st:Stmt}{ps:List Str}{oc:Value}{od an:Option Addr}{osl:Array (Option Value)}{kV doc pm cdv ct:Value}(a:W.findIn K (.ref C) m=some (some (.ref f)))(i:W.isFn K (.ref f)=true)
  (l:K.lookup f=some ⟨oc,od,.func (W.fnOf m qual (Xt st) (X4 st) (Z9 st) .none kV doc pm an cdv ct),osl⟩) (c:W.codeIn K cdv qual=true) (k:W.keepIn K (.ref f)=true)
  (hb:∀(kV doc pm:Value) (an:Option Addr) (cdv ct:Value) (us:List Value),us.length=ps.length->bindArgs (W.fnOf m qual (Xt st) (X4 st) (Z9 st) .none kV doc pm an cdv ct) ⟨us,[]⟩=pure (ps.zip us)):MDef K C m qual st ps :=
 ⟨f,_,J1 (st:=st) l c k,⟨a,i,k⟩,(J1 (st:=st) l c k).binds hb⟩
theorem Zfp{C:Addr}(pg:W.plainGet K C Str.empty=true)(hd:W.hasDictIn K C=true)(po:W.plainOver K C=true)(sa:W.findIn K (.ref C) "__setattr__" = some (some (.builtin "object.__setattr__")))
  (a1:W.findIn K (.ref C) "rows" = some none) (a2:W.findIn K (.ref C) "text" = some none) (a3:W.findIn K (.ref C) "row" = some none) (a4:W.findIn K (.ref C) "at" = some none) (a5:W.findIn K (.ref C) "groups" = some none) (a6:W.findIn K (.ref C) "held" = some none)
  (a7:W.findIn K (.ref C) "choices" = some none) (a8:W.findIn K (.ref C) "made" = some none) (a9:W.findIn K (.ref C) "found" = some none) (a10:W.findIn K (.ref C) "ended" = some none):Txt K mg C:=⟨⟨pg,hd,po,sa⟩,a1,a2,a3,a4,a5,a6,a7,a8,a9,a10⟩
structure MachDefs(K:W.Frag)(mg:Str->Option Value)(C:Addr):Prop where
 mg_:mg "Machine" = some (.ref C)
 tx:Txt K mg C
 mks:W.makesIn K C=true
 kc:W.keepIn K (.ref C)=true
 init:MDef K C "__init__" "Machine.__init__" Ym ["self","rows","text","at"]
 way:MDef K C "way" "Machine.way" Wc ["self","most"]
 moves:MDef K C "moves" "Machine.moves" Xm ["self"]
 move:MDef K C "move" "Machine.move" Xy ["self"]
 enter:MDef K C "enter" "Machine.enter" Xo ["self","state"]
 go_back:MDef K C "go_back" "Machine.go_back" X2 ["self"]
def Dn(K:W.Frag)(ds:List (Us×V))(wd x:Str)(st:Stmt)(ps:List Str):Prop:=∃f fd,Z2s ds (Sum.inr wd)=some (.ref f)/\Fun K x x st f fd/\Binds K fd ps []
theorem Xl{ds:List (Us×V)}{wd x:Str}{st:Stmt}{ps:List Str}{f:Addr}{oc:Value}{od an:Option Addr}{osl:Array (Option Value)}{kV doc pm cdv ct:Value}(v:Z2s ds (Sum.inr wd)=some (.ref f))
  (l:K.lookup f=some ⟨oc,od,.func (W.fnOf x x (Xt st) (X4 st) (Z9 st) .none kV doc pm an cdv ct),osl⟩) (c:W.codeIn K cdv x=true) (k:W.keepIn K (.ref f)=true)
  (hb:∀(kV doc pm:Value) (an:Option Addr) (cdv ct:Value) (us:List Value),us.length=ps.length->bindArgs (W.fnOf x x (Xt st) (X4 st) (Z9 st) .none kV doc pm an cdv ct) ⟨us,[]⟩=pure (ps.zip us)):Dn K ds wd x st ps :=
 ⟨f,_,v,J1 (st:=st) l c k,(J1 (st:=st) l c k).binds hb⟩
theorem Dn.tells{P:Program}{w:World}{base:Heap}{k:Nat}{ds:List (Us×V)}{wd x:Str}{st:Stmt}{ps:List Str}{sp:Sp}(D:Dn K ds wd x st ps)(h:∀f fd,Fun K x x st f fd->FnOk P w K mg base Wq k f fd ps sp):Tells P w K mg base k ds wd sp:=by
 obtain⟨f,fd,v,F,b⟩:=D
 exact⟨f,fd,ps,v,h f fd F,F.kp,b⟩
theorem Y3{w:World}{h:Int}{x:Str}{t:Tok}{a:Addr}(e:h=PyData.keyHash w.params x):Zd5 w ⟨h,.str x t,.ref a⟩ (.inr x,.ref a):=⟨Z09 x t,e,rfl⟩
theorem MDef.own{m qual:Str}{st:Stmt}{ps:List Str}{k:Nat}{sp:Sp}(D:MDef K C m qual st ps)(h:∀f fd,Fun K m qual st f fd->FnOk P w K mg base Wq k f fd ps sp):OwnM P w K mg base k C m ps sp:=by
 obtain⟨f,fd,F,M,b⟩:=D
 exact⟨f,fd,h f fd F,M,b⟩
theorem Zaz(T:Blt mg)(MD:MachDefs K mg C):OwnC P w K mg base 1 C "Machine" ["self","rows","text","at"] (Z7i C):=by
 obtain⟨f,fd,F,M,b⟩:=MD.init
 exact⟨f,fd,Ze8 T MD.tx F,⟨MD.mks,M.at_,M.fn,MD.kc⟩,MD.mg_,b⟩
theorem Z9o(MD:MachDefs K mg C):OwnM P w K mg base 1 C "moves" ["self"] (Z46 C):=MD.moves.own fun _ _ F=>Zb7 MD.tx F
inductive spHoldMI(C:Addr)(vs:List V)(H:Hp)(Q:VK):Prop
 |mk (m:Addr) (k:Int) (M:MM) (_:vs=[.ref m,.int k]) (_:MAt C H m M) (_:∀(H':Hp) (p:Addr),MAt C H' m ⟨{ M.s with held:=.ref p },M.cs⟩->H' p=some (.tup [.int k,.int M.s.place,M.s.held])->Gro [m] H H'->Q .non H')
def Jk(C:Addr):Sp:=fun vs H Q _=>spHoldMI C vs H Q
inductive spLetMI(C:Addr)(vs:List V)(H:Hp)(Q:VK):Prop
 |mk (m p:Addr) (M:MM) (a b v:V) (_:vs=[.ref m]) (_:MAt C H m M) (_:M.s.held=.ref p) (_:H p=some (.tup [a,b,v])) (_:∀H':Hp,MAt C H' m ⟨{ M.s with held:=v },M.cs⟩->Gro [m] H H'->Q (.ref p) H')
def Tu(C:Addr):Sp:=fun vs H Q _=>spLetMI C vs H Q
inductive spDropMI(C:Addr)(vs:List V)(H:Hp)(Q:VK):Prop
 |mk (m:Addr) (k:Nat) (M:MM) (_:vs=[.ref m,.int k]) (_:MAt C H m M) (_:M.cs.length<=1000000) (_:∀H':Hp,MAt C H' m ⟨M.s,M.cs.take k⟩->Gro [M.s.choices] H H'->Q .non H')
def Jl(C:Addr):Sp:=fun vs H Q _=>spDropMI C vs H Q
inductive spEntMI(C:Addr)(vs:List V)(H:Hp)(Q:VK):Prop
 |mk (m g:Addr) (k:Int) (M:MM) (es:List V) (e:V) (_:vs=[.ref m,.int k]) (_:MAt C H m M) (_:M.s.groups=.ref g) (_:H g=some (.tup es)) (_:k<=es.length) (_:es.length<=1000) (_:Z6e es (k-1)=some e) (_:Q e H)
def Z4q(C:Addr):Sp:=fun vs H Q _=>spEntMI C vs H Q
inductive spWithI(vs:List V)(H:Hp)(Q:VK):Prop
 |mk (g:Addr) (k:Int) (x y:V) (es:List V) (_:vs=[.ref g,.int k,x,y]) (_:H g=some (.tup es)) (_:1<=k) (_:k<=es.length) (_:es.length<=900) (_:∀(r p:Addr) (H':Hp),H' p=some (.tup [x,y])->H' r=some (.tup (es.take (k-1).toNat++[.ref p]++es.drop k.toNat))->Gro [] H H'->Q (.ref r) H')
def Z7c:Sp:=fun vs H Q _=>spWithI vs H Q
abbrev W0:Stmt:=Xk (top 39) 7
theorem Z0u:FnScope ["self","number"] ["self","number"] (Z9 W0):=Vm
theorem Ze9(MT:Txt K mg C)(F:Fun K "hold" "Machine.hold" W0 f fd):FnOk P w K mg base Wq 1 f fd ["self","number"] (Jk C):=by
 refine F.ok Z0u (fun vs H Q E h=>?_) (fun cdv A outer s H vs Q E hr h=>?_)
 ·obtain⟨m,k,M,rfl,_⟩:=h
  rfl
 obtain⟨m,k,M,rfl,hM,q⟩:=h
 refine Vj ?_
 intro Xz
 refine⟨_,(Z5 (Ya (pv 0) (Zr (Z0 (pv 1) (Z0 (Zn (pv 0) rfl) (Z0 (Zn (pv 0) rfl) Z2)))) rfl)),?_⟩
 obtain⟨⟨dx,h1⟩,_⟩:=id hM
 refine(Z7 rfl (Z7 rfl ⟨m,C,dx,_,_,rfl,h1,MT.cl,MT.a4,Wp _,Z7 rfl ⟨m,C,dx,_,_,rfl,h1,MT.cl,MT.a6,Ub _,sz,fun p hp=>?_⟩⟩))
 have hM1:=hM.new (o:=.tup [.int k,.int M.s.place,M.s.held]) hp
 have e1:(Zq H p (.tup [.int k,.int M.s.place,M.s.held])) m=some (.ins C dx M.s.fs):=by rw[Zt (Za h1 hp)];exact h1
 have ep:(Zq H p (.tup [.int k,.int M.s.place,M.s.held])) p=some (.tup [.int k,.int M.s.place,M.s.held]):=Z3
 have g1:=Gro.new (S:=[m]) hp (.tup [.int k,.int M.s.place,M.s.held])
 generalize Zq H p (.tup [.int k,.int M.s.place,M.s.held])=H1 at *
 refine(Z7 rfl ⟨m,C,dx,Z7 rfl ⟨e1,MT.cl,MT.a6,Yx _,?_⟩⟩)
 rw[Js]
 have g2:Gro [m] H1 (Zq H1 m (.ins C dx ({ M.s with held:=.ref p }:MS).fs)):=Gro.ins (by simp) e1 _
 exact q _ p (hM1.put (s':={ M.s with held:=.ref p }) e1 rfl) (g2.tups _ _ ep) (g1.trans g2)
abbrev X9:Stmt:=Xk (top 39) 8
theorem sc_Machine_let_go:FnScope ["self","pair"] ["self"] (Z9 X9):=Vm
theorem Z9q(MT:Txt K mg C)(F:Fun K "let_go" "Machine.let_go" X9 f fd):FnOk P w K mg base Wq 1 f fd ["self"] (Tu C):=by
 refine F.ok sc_Machine_let_go (fun vs H Q E h=>?_) (fun cdv A outer s H vs Q E hr h=>?_)
 ·obtain⟨m,p,M,a,b,v,rfl,_⟩:=h
  rfl
 obtain⟨m,p,M,a,b,v,rfl,hM,hh,hp,q⟩:=h
 refine Vj ?_
 intro Xz
 refine⟨_,(Z1 (pS 1 sc_Machine_let_go.nd (Zn (pv 0) rfl))
  (Z1 (Ya (pv 0) (Zg Zd (pv 1) Z6 (fun _ _=>rfl)) rfl)
  (Z5 (Zo (pv 1))))),?_⟩
 refine Z27 ?_
 intro Ez Az1 Az2
 obtain⟨⟨dx,h1⟩,_⟩:=id hM
 refine(Z7 rfl ⟨m,C,dx,_,_,rfl,h1,MT.cl,MT.a6,(by rw[Ub,hh]),?_⟩)
 refine(W5 hp rfl ⟨_,rfl,m,C,dx,_,rfl,h1,MT.cl,MT.a6,Yx _,?_⟩)
 rw[Js]
 exact(Z7 rfl (q _ (hM.put (s':={ M.s with held:=v }) h1 rfl) (Gro.ins (by simp) h1 _)))
abbrev Yj:Stmt:=Xk (top 39) 6
theorem Vn:FnScope ["self","size"] ["self","size"] (Z9 Yj):=Vm
theorem Zed(T:Blt mg)(MT:Txt K mg C)(F:Fun K "drop_choices" "Machine.drop_choices" Yj f fd):FnOk P w K mg base Wq 1 f fd ["self","size"] (Jl C):=by
 refine F.ok Vn (fun vs H Q E h=>?_) (fun cdv A outer s H vs Q E hr h=>?_)
 ·obtain⟨m,k,M,rfl,_⟩:=h
  rfl
 obtain⟨m,k,M,rfl,hM,hz,q⟩:=h
 refine Vj ?_
 intro Xz
 refine⟨_,(Z5 (Jg PassesOwn.never (Ze Z96 (Zh Zv rfl T.b_len PyProof.Rows.Boot.«len» (Z0 (Zn (pv 0) rfl) Z2)) (pv 1) (Zi _)) (Z5 (Zf (Zcc PySem.F.plainAttrs_list PySem.F.slot_list_pop PySem.F.type_list_pop Zcg (Zn (pv 0) rfl)))))),?_⟩
 refine Zgj ?_
 intro Ez Az1
 refine Zah (fun σ H'=>∃j,σ=[some (.ref m),some (.int k)]/\MAt C H' m ⟨M.s,M.cs.take j⟩/\(k<=j∨j=M.cs.length)/\j<=M.cs.length/\Gro [M.s.choices] H H') (fun σ H'=>match H' M.s.choices with | some (.lst vs)=>vs.length | _=>0) ⟨M.cs.length,rfl,by rw[List.take_length];exact hM,.inr rfl,Nat.le_refl _,Gro.refl⟩ ?_ ?_
 ·rintro σ H1 ⟨j,rfl,hM1,hj,hjl,g1⟩
  have hne:=hM1.ne
  obtain⟨⟨dx,h1⟩,vs,hv,hp⟩:=id hM1
  have hl:=Paired.length hp
  have hv':H1 M.s.choices=some (.lst vs):=hv
  have hvl:vs.length=j:=by rw[hl];show(M.cs.take j).length=j;rw[List.length_take];omega
  refine(Z7 rfl ⟨m,C,dx,_,_,rfl,h1,MT.cl,MT.a7,Yt _,M.s.choices,vs,rfl,.inl (SqL.of hv'),Z7 rfl (Va rfl rfl (Z7 rfl (V8 (fun z=>?_) (fun z=>?_))))⟩)
  ·have hkj:k<j:=by have:=of_decide_eq_true z;omega
   have hx:vs[vs.length-1]? = some (vs[vs.length-1]'(by omega)):=List.getElem?_eq_getElem _
   refine(Z7 rfl ⟨m,C,dx,_,_,rfl,h1,MT.cl,MT.a7,Yt _,.inl ⟨rfl,_,SqL.of hv'⟩,M.s.choices,vs,Z7 rfl ⟨rfl,hv',hx,?_⟩⟩)
   have g2:Gro [M.s.choices] H1 (Zq H1 M.s.choices (.lst vs.dropLast)):=Gro.set (by simp) hv' _
   refine⟨⟨j-1,rfl,⟨⟨dx,by rw[Zt hne];exact h1⟩,vs.dropLast,Z3,?_⟩,.inl (by omega),by omega,g1.trans g2⟩,?_⟩
   ·have:=Paired.mapP (Z0h hp) fun _ _ q=>q.mono g2.tups
    have e:(M.cs.take j).dropLast=M.cs.take (j-1):=by rw[List.dropLast_eq_take,List.take_take,List.length_take];congr 1;omega
    show Paired _ _ (M.cs.take (j-1))
    rw[← e]
    exact this
   ·show(match(Zq H1 M.s.choices (.lst vs.dropLast)) M.s.choices with | some (.lst vs)=>vs.length | _=>0)<(match H1 M.s.choices with | some (.lst vs)=>vs.length | _=>0)
    rw[Z3,hv']
    show vs.dropLast.length<vs.length
    rw[List.length_dropLast]
    omega
  ·have hkj:j<=k:=by
    have:¬(k:Int)<vs.length:=fun z'=>z (decide_eq_true z')
    omega
   refine q H1 ?_ g1
   have:M.cs.take k=M.cs.take j:=by
    rcases hj with h | h
    ·rw[show k=j by omega]
    ·rw[List.take_of_length_le (by omega),List.take_of_length_le (by omega)]
   rw[this]
   exact hM1
 ·intro σ H1 Q1 Q2 hQ h
  obtain⟨x,hx,a,b,d,e,f',r1,r2,r3,r4,r5,p,ys,r6,r7,x2,r8,i,j,r9,r10,b2,r11,r12⟩:=h
  exact⟨x,hx,a,b,d,e,f',r1,r2,r3,r4,r5,p,ys,r6,r7,x2,r8,i,j,r9,r10,b2,r11,hQ _ _ r12⟩
abbrev Xn:Stmt:=Xk (top 39) 9
theorem Jw:FnScope ["self","number"] ["self","number"] (Z9 Xn):=Vm
theorem Zb9(T:Blt mg)(MT:Txt K mg C)(F:Fun K "entry" "Machine.entry" Xn f fd):FnOk P w K mg base Wq 1 f fd ["self","number"] (Z4q C):=by
 refine F.ok Jw (fun vs H Q E h=>?_) (fun cdv A outer s H vs Q E hr h=>?_)
 ·obtain⟨m,g,k,M,es,e,rfl,_⟩:=h
  rfl
 obtain⟨m,g,k,M,es,e,rfl,hM,hg,hge,hk,hl,hat,q⟩:=h
 refine Vj ?_
 intro Xz
 refine⟨_,(Z5 (Zo (Xp (Ze Zit (pv 1) (Zh Zv rfl T.b_len PyProof.Rows.Boot.«len» (Z0 (Zn (pv 0) rfl) Z2)) (Zi _)) (Zg Zd (Zn (pv 0) rfl) (Yg Te (pv 1) Z6) (fun _ _=>rfl)) Z0q))),?_⟩
 obtain⟨⟨dx,h1⟩,_⟩:=id hM
 have hfs:M.s.fs.lookup ("groups":Str)=some (.ref g):=by rw[Xv,hg]
 refine(Z7 rfl (Z7 rfl ⟨m,C,dx,_,_,rfl,h1,MT.cl,MT.a5,hfs,g,es,rfl,.inr (SqT.of hge),Va rfl rfl (Z7 rfl (Zj (decide_eq_true hk) ?_))⟩))
 exact⟨_,rfl,m,C,dx,_,_,rfl,h1,MT.cl,MT.a5,hfs,_,rfl,_,_,rfl,rfl,g,es,_,_,rfl,rfl,SqT.of hge,hat,q⟩
abbrev Xb:Stmt:=top 13
theorem Z2m:FnScope ["groups","number","begin","end"] ["groups","number","begin","end"] (Z9 Xb):=Vm
theorem Ze2(F:Fun K "with_entry" "with_entry" Xb f fd):FnOk P w K mg base Wq 1 f fd ["groups","number","begin","end"] Z7c:=by
 refine F.ok Z2m (fun vs H Q E h=>?_) (fun cdv A outer s H vs Q E hr h=>?_)
 ·obtain⟨g,k,x,y,es,rfl,_⟩:=h
  rfl
 obtain⟨g,k,x,y,es,rfl,hg,hk1,hk2,hl,q⟩:=h
 obtain⟨j,rfl⟩:∃j:Nat,k=((j+1:Nat):Int):=⟨(k-1).toNat,by omega⟩
 refine Vj ?_
 intro Xz
 refine⟨_,(Z5 (Zo (Yg Z8e (Yg Z8e (Y8 Z26 (pv 0) Wz (Y2 (Yg Te (pv 1) Z6))) (Zr (Z0 (Zr (Z0 (pv 2) (Z0 (pv 3) Z2))) Z2))) (Y8 Z26 (pv 0) (Y2 (pv 1)) Wz)))),?_⟩
 refine(Z7 rfl (Z7 rfl (Va rfl rfl (Z7 rfl ⟨g,es,rfl,SqT.of hg,?nw1,fun p1 hp1=>?_⟩))))
 case nw1 =>
  rw[show((j+1:Nat):Int)-1=(j:Nat) by omega,HT.sIx_nat]
  omega
 rw[show((j+1:Nat):Int)-1=(j:Nat) by omega,Zhl (by omega)]
 have g1:=Gro.new (S:=[]) hp1 (.tup (es.take j))
 have e1:(Zq H p1 (.tup (es.take j))) p1=some (.tup (es.take j)):=Z3
 generalize Zq H p1 (.tup (es.take j))=H1 at *
 refine(Z7 rfl (Z7 rfl ⟨sz,fun p2 hp2=>⟨sz,fun p3 hp3=>?_⟩⟩))
 have g2:Gro [] H1 (Zq (Zq H1 p2 (.tup [x,y])) p3 (.tup [.ref p2])):=(Gro.new hp2 _).tup hp3
 have e2:(Zq (Zq H1 p2 (.tup [x,y])) p3 (.tup [.ref p2])) p3=some (.tup [.ref p2]):=Z3
 have e3:(Zq (Zq H1 p2 (.tup [x,y])) p3 (.tup [.ref p2])) p2=some (.tup [x,y]):=by rw[Zt (Za Z3 hp3)];exact Z3
 generalize Zq (Zq H1 p2 (.tup [x,y])) p3 (.tup [.ref p2])=H2 at *
 refine Z8v (g2.tups _ _ e1) e2 (by rw[List.length_take,List.length_singleton];omega) fun r4 H4 hr4 g4=>?_
 have t4:Tm H H4:=fun b xs h=>g4.tups _ _ (g2.tups _ _ (g1.tups _ _ h))
 refine(Z7 rfl (Z7 rfl (Z7 rfl ⟨g,es,rfl,SqT.of (t4 _ _ hg),?nw2,fun p5 hp5=>?_⟩)))
 case nw2 =>
  rw[HT.sIx_nat]
  omega
 rw[Zbu (by omega)]
 have g5:=Gro.new (S:=[]) hp5 (.tup (es.drop (j+1)))
 refine Z8v (g5.tups _ _ hr4) Z3 (by simp only[List.length_append,List.length_take,List.length_drop,List.length_singleton];omega) fun r6 H6 hr6 g6=>?_
 refine q r6 p2 H6 (g6.tups _ _ (g5.tups _ _ (g4.tups _ _ e3))) ?_ ((((g1.trans g2).trans g4).trans g5).trans g6)
 rw[show(((j+1:Nat):Int)-1).toNat=j by omega,show((j+1:Nat):Int).toNat=j+1 from rfl]
 exact hr6
end
theorem Ab.cslen{H:Hp}{ra:Addr}{t:Str}{ch:Addr}{M:MM}{c:Cg}(h:Ab H ra t ch M c):M.cs.length=c.cs.length:=Paired.length h.cs
theorem MAt.push{C:Addr}{H:Hp}{m tp:Addr}{M:MM}{vs:List V}{q:Zfo}(h:MAt C H m M)(hv:H M.s.choices=some (.lst vs))(hp:Paired (ChAt H) vs M.cs)(ht:H tp=some (.tup [.int q.1,.int q.2.1,q.2.2.1,q.2.2.2])) :
  MAt C (Zq H M.s.choices (.lst (vs++[.ref tp]))) m ⟨M.s,M.cs++[q]⟩/\Gro [M.s.choices] H (Zq H M.s.choices (.lst (vs++[.ref tp]))):=by
 have hne:=h.ne
 obtain⟨⟨dx,e1⟩,_⟩:=h
 have g1:Gro [M.s.choices] H (Zq H M.s.choices (.lst (vs++[.ref tp]))):=Gro.set (by simp) hv _
 exact⟨⟨⟨dx,by rw[Zt hne];exact e1⟩,vs++[.ref tp],Z3,(Paired.mapP hp fun _ _ q=>q.mono g1.tups).snoc ⟨tp,rfl,g1.tups _ _ ht⟩⟩,g1⟩
section
variable{P:Program}{w:World}{K:W.Frag}{mg:Str->Option Value}{base:Heap}{f C:Addr}{fd:FuncData}
abbrev U3:Stmt:=top 22
theorem sc_do_again:FnScope ["machine","row","entry","end"] ["machine","row"] (Z9 U3):=Vm
theorem Z57{k:Int}(MT:Txt K mg C)(O_Machine_go_back:OwnM P w K mg base 2 C "go_back" ["self"] (Wi C))(O_Machine_entry:OwnM P w K mg base 1 C "entry" ["self","number"] (Z4q C))(F:Fun K "do_again" "do_again" U3 f fd):FnOk P w K mg base Wq 3 f fd ["machine","row"] (Tp C (.pat (.again k))):=by
 refine F.ok sc_do_again (fun vs H Q E h=>?_) (fun cdv A outer s H vs Q E hr h=>?_)
 ·obtain⟨m,a,ra,ch,t,n,M,c,rfl,_⟩:=h
  rfl
 obtain⟨m,a,ra,ch,t,n,M,c,rfl,hM,hA,hrow,ht,hci,hgo,hn,Xe,hcs,q⟩:=h
 refine Vj ?_
 intro Xz
 refine⟨_,(Z1 (pS 2 sc_do_again.nd (Xi (O_Machine_entry.mono (by omega)) MT.cl hr (pv 0) (Z0 (Zg Zd (pv 1) Z6 (fun _ _=>rfl)) Z2)))
  (Z1 (Y0 (Tv (Td (pv 2))) (Z1 (Zf (Yf (O_Machine_go_back.mono (by omega)) MT.cl hr (pv 0)))
  (Z5 Z85)) Zm)
  (Z1 (pS 3 sc_do_again.nd (Yg Te (Yg Xh (Zn (pv 0) rfl) (Zg Zd (pv 2) Z6 (fun _ _=>rfl))) (Zg Zd (pv 2) Z6 (fun _ _=>rfl))))
  (Z5 (Y0 (Ze Y4 (Y8 Wj (Zn (pv 0) rfl) (Y2 (Zn (pv 0) rfl)) (Y2 (pv 3))) (Y8 Wj (Zn (pv 0) rfl) (Y2 (Zg Zd (pv 2) Z6 (fun _ _=>rfl))) (Y2 (Zg Zd (pv 2) Z6 (fun _ _=>rfl)))) (Zi _)) (Z5 (Ya (pv 0) (pv 3) rfl)) (Z5 (Zf (Yf (O_Machine_go_back.mono (by omega)) MT.cl hr (pv 0))))))))),?_⟩
 refine Zg8 ?_
 intro Ez Az1 Az2 Az3 Az4 Az5 Az6 Az7
 obtain rfl:=hA.chs
 obtain rfl:=hA.text
 obtain⟨⟨dx,e1⟩,_⟩:=id hM
 obtain⟨a',kv,e,⟨hk,_,ha⟩,_⟩:=hrow
 cases e
 obtain⟨hk1,hk2⟩:1<=k/\k<=n:=by
  rcases Xe with h | h
  ·exact h
  ·cases h
 have hcl:=hA.cslen
 have hgl:=hgo.len
 obtain⟨g,es,en,hg,hge,hel,hat,hen⟩:=hA.gs.ent hk1 (by omega)
 refine(Z7 rfl ⟨m,dx,Z7 rfl ⟨e1,Z5t _,W5 ha rfl ⟨m,g,k,M,es,en,rfl,hM,hg,hge,by omega,by omega,hat,?_⟩⟩⟩)
 refine(Z7 rfl (Z7 rfl (?_)))
 cases he:ent c.g k with
 |none =>
  rw[he]at hen
  have hen':en=.non:=hen
  have Yn:(Op.pat (.again k)).act M.s.text c=bk c.cs:=by
   show(match ent c.g k with | none=>bk c.cs | some p=>_)=_
   rw[he]
  refine Zj (decide_eq_true hen') (Z7 rfl ⟨m,dx,Z7 rfl ⟨e1,Ys _,m,M,rfl,hM,by omega,fun H' hM' g'=>?_⟩⟩)
  have bf:=Yu M
  exact q H' _ hM' (by rw[Yn];exact hA.back.mono g'.tups) bf.1 bf.2 g'
 |some p =>
  rw[he]at hen
  obtain⟨pa,rfl,hpa⟩:=hen
  obtain⟨p1,p2⟩:=Zcl hgo he
  refine Zb (by intro z;have z':=of_decide_eq_true z;cases z') ?_
  refine(Z7 rfl ⟨m,C,dx,_,_,rfl,e1,MT.cl,MT.a4,Wp _,W5 hpa rfl ⟨_,_,rfl,rfl,W5 hpa Z0d ⟨_,_,rfl,rfl,?_⟩⟩⟩)
  have hend:M.s.place+(p.2:Int)-(p.1:Int)=((c.i+(p.2-p.1):Nat):Int):=by rw[hA.pl];omega
  refine(Z7 rfl ⟨m,C,dx,_,_,rfl,e1,MT.cl,MT.a2,Z1a _,Z7 rfl ⟨m,C,dx,_,_,rfl,e1,MT.cl,MT.a4,Wp _,Z7 rfl (Z7 rfl (Z7 rfl ⟨M.s.text,rfl,Ye ht,?_⟩))⟩⟩)
  refine(Z7 rfl ⟨m,C,dx,_,_,rfl,e1,MT.cl,MT.a2,Z1a _,W5 hpa Z0d ⟨_,rfl,W5 hpa rfl ⟨_,rfl,M.s.text,rfl,Ye ht,rfl,_,rfl,?_⟩⟩⟩)
  have hs1:Txt.slice M.s.text (some M.s.place) (some (M.s.place+(p.2:Int)-(p.1:Int)))=sub M.s.text c.i (c.i+(p.2-p.1)):=by
   rw[hend,hA.pl,Uv (by omega) (by omega)]
   rfl
  have hs2:Txt.slice M.s.text (some (p.1:Int)) (some (p.2:Int))=sub M.s.text p.1 p.2:=by
   rw[Uv (by omega) (by omega)]
   rfl
  have Yn:(Op.pat (.again k)).act M.s.text c=if sub M.s.text c.i (c.i+(p.2-p.1))=sub M.s.text p.1 p.2 then .run { c with i:=c.i+(p.2-p.1) } else bk c.cs:=by
   show(match ent c.g k with | none=>bk c.cs | some p=>_)=_
   rw[he]
  show if decide (V.str (Txt.slice M.s.text (some M.s.place) (some (M.s.place+(p.2:Int)-(p.1:Int))))=V.str (Txt.slice M.s.text (some (p.1:Int)) (some (p.2:Int))))=true then _ else _
  rw[hs1,hs2]
  refine V8 (fun z=>?_) (fun z=>?_)
  ·have z':sub M.s.text c.i (c.i+(p.2-p.1))=sub M.s.text p.1 p.2:=by
    have:=of_decide_eq_true z
    injection this
   rw[if_pos z']at Yn
   refine(Z7 rfl (Z7 rfl ⟨m,C,dx,Z7 rfl ⟨e1,MT.cl,MT.a4,Yx _,?_⟩⟩))
   rw[Z95]
   have g1:Gro [m,M.s.choices] H (Zq H m (.ins C dx ({ M.s with place:=M.s.place+(p.2:Int)-(p.1:Int) }:MS).fs)):=Gro.ins (by simp) e1 _
   refine q _ _ (hM.put (s':={ M.s with place:=M.s.place+(p.2:Int)-(p.1:Int) }) e1 rfl) ?_ rfl rfl g1
   rw[Yn]
   have hA1:=hA.mono g1.tups
   exact⟨hA1.rows,rfl,rfl,hA1.en,hA1.row,hend,hA1.gs,hA1.hl,hA1.cs⟩
  ·have z':¬sub M.s.text c.i (c.i+(p.2-p.1))=sub M.s.text p.1 p.2:=fun e=>z (decide_eq_true (by rw[e]))
   rw[if_neg z']at Yn
   refine(Z7 rfl ⟨m,dx,Z7 rfl ⟨e1,Ys _,m,M,rfl,hM,by omega,fun H' hM' g'=>?_⟩⟩)
   have bf:=Yu M
   exact q H' _ hM' (by rw[Yn];exact hA.back.mono g'.tups) bf.1 bf.2 g'
abbrev T2:Stmt:=top 25
theorem Z6n:FnScope ["machine","row"] ["machine","row"] (Z9 T2):=Vm
theorem Z6z{k:Int}{z:Nat}(MT:Txt K mg C)(O_Machine_entry:OwnM P w K mg base 1 C "entry" ["self","number"] (Z4q C))(F:Fun K "do_have" "do_have" T2 f fd):FnOk P w K mg base Wq 2 f fd ["machine","row"] (Tp C (.have_ k z)):=by
 refine F.ok Z6n (fun vs H Q E h=>?_) (fun cdv A outer s H vs Q E hr h=>?_)
 ·obtain⟨m,a,ra,ch,t,n,M,c,rfl,_⟩:=h
  rfl
 obtain⟨m,a,ra,ch,t,n,M,c,rfl,hM,hA,hrow,ht,hci,hgo,hn,Xe,hcs,q⟩:=h
 refine Vj ?_
 intro Xz
 refine⟨_,(Z5 (Y0 (Tv (Td (Xi (O_Machine_entry.mono (by omega)) MT.cl hr (pv 0) (Z0 (Zg Zd (pv 1) Z6 (fun _ _=>rfl)) Z2)))) (Z5 (Ya (pv 0) (Zg Zd (pv 1) Z6 (fun _ _=>rfl)) rfl)) Zm)),?_⟩
 refine Z29 ?_
 intro Ez Az1
 obtain rfl:=hA.chs
 obtain rfl:=hA.text
 obtain⟨⟨dx,e1⟩,_⟩:=id hM
 obtain⟨a',e,ha⟩:=hrow
 cases e
 obtain⟨hk1,hk2⟩:1<=k/\k<=n:=by
  rcases Xe with h | h
  ·exact h
  ·cases h
 have hgl:=hgo.len
 obtain⟨g,es,en,hg,hge,hel,hat,hen⟩:=hA.gs.ent hk1 (by omega)
 refine(Z7 rfl ⟨m,dx,Z7 rfl ⟨e1,Z5t _,W5 ha rfl ⟨m,g,k,M,es,en,rfl,hM,hg,hge,by omega,by omega,hat,_,rfl,?_⟩⟩⟩)
 cases he:ent c.g k with
 |none =>
  rw[he]at hen
  have hen':en=.non:=hen
  have Yn:(Op.have_ k z).act M.s.text c=.run { c with r:=z }:=by
   show(match ent c.g k with | none=>Cf.run _ | some _=>_)=_
   rw[he]
  refine Zj (decide_eq_true hen') ?_
  refine(W5 ha rfl ⟨_,rfl,m,C,dx,_,rfl,e1,MT.cl,MT.a3,Yx _,?_⟩)
  rw[Z0p]
  have g1:Gro [m,M.s.choices] H (Zq H m (.ins C dx ({ M.s with row:=(z:Int) }:MS).fs)):=Gro.ins (by simp) e1 _
  refine q _ _ (hM.put (s':={ M.s with row:=(z:Int) }) e1 rfl) ?_ rfl rfl g1
  rw[Yn]
  have hA1:=hA.mono g1.tups
  exact⟨hA1.rows,rfl,rfl,hA1.en,rfl,hA1.pl,hA1.gs,hA1.hl,hA1.cs⟩
 |some p =>
  rw[he]at hen
  obtain⟨pa,rfl,hpa⟩:=hen
  have Yn:(Op.have_ k z).act M.s.text c=.run c:=by
   show(match ent c.g k with | none=>Cf.run _ | some _=>_)=_
   rw[he]
  refine Zb (by intro z;have z':=of_decide_eq_true z;cases z') ?_
  exact q H M hM (by rw[Yn];exact hA) rfl rfl Gro.refl
abbrev V4:Stmt:=top 26
theorem Z6l:FnScope ["machine","row"] ["machine","row"] (Z9 V4):=Vm
theorem Z1o{o:Op}(ho:o=.turns∨o=.open_)(MT:Txt K mg C)(O_Machine_hold:OwnM P w K mg base 1 C "hold" ["self","number"] (Jk C))(F:Fun K "do_hold" "do_hold" V4 f fd):FnOk P w K mg base Wq 2 f fd ["machine","row"] (Tp C o):=by
 refine F.ok Z6l (fun vs H Q E h=>?_) (fun cdv A outer s H vs Q E hr h=>?_)
 ·obtain⟨m,a,ra,ch,t,n,M,c,rfl,_⟩:=h
  rfl
 obtain⟨m,a,ra,ch,t,n,M,c,rfl,hM,hA,hrow,ht,hci,hgo,hn,Xe,hcs,q⟩:=h
 refine Vj ?_
 intro Xz
 refine⟨_,(Z5 (Zf (Xi (O_Machine_hold.mono (by omega)) MT.cl hr (pv 0) (Z0 Z6 Z2)))),?_⟩
 obtain rfl:=hA.chs
 obtain rfl:=hA.text
 obtain⟨⟨dx,e1⟩,_⟩:=id hM
 refine(Z7 rfl ⟨m,dx,Z7 rfl ⟨e1,Z4d _,m,0,M,rfl,hM,fun H' p hM' hp g'=>?_⟩⟩)
 have hA1:=hA.mono g'.tups
 have hres:Ab H' ra M.s.text M.s.choices ⟨{ M.s with held:=.ref p },M.cs⟩ { c with h:=(0,c.i)::c.h }:=⟨hA1.rows,rfl,rfl,hA1.en,hA1.row,hA1.pl,hA1.gs,⟨p,Z7 rfl ⟨by rw[hp,hA.pl];rfl,hA1.hl⟩⟩,hA1.cs⟩
 rcases ho with rfl | rfl
 ·exact q H' _ hM' hres rfl rfl (g'.mono (by simp))
 ·exact q H' _ hM' hres rfl rfl (g'.mono (by simp))
abbrev U1:Stmt:=top 27
theorem sc_do_close:FnScope ["machine","row","pair"] ["machine","row"] (Z9 U1):=Vm
theorem Z55{k:Int}(MT:Txt K mg C)(O_Machine_let_go:OwnM P w K mg base 1 C "let_go" ["self"] (Tu C))(O_with_entry:Own P w K mg base 1 "with_entry" ["groups","number","begin","end"] Z7c)(F:Fun K "do_close" "do_close" U1 f fd):FnOk P w K mg base Wq 2 f fd ["machine","row"] (Tp C (.close k)):=by
 refine F.ok sc_do_close (fun vs H Q E h=>?_) (fun cdv A outer s H vs Q E hr h=>?_)
 ·obtain⟨m,a,ra,ch,t,n,M,c,rfl,_⟩:=h
  rfl
 obtain⟨m,a,ra,ch,t,n,M,c,rfl,hM,hA,hrow,ht,hci,hgo,hn,Xe,hcs,q⟩:=h
 refine Vj ?_
 intro Xz
 refine⟨_,(Z1 (pS 2 sc_do_close.nd (Yf (O_Machine_let_go.mono (by omega)) MT.cl hr (pv 0)))
  (Z5 (Ya (pv 0) (Zz (O_with_entry.mono (by omega)) hr rfl (Z0 (Zn (pv 0) rfl) (Z0 (Zg Zd (pv 1) Z6 (fun _ _=>rfl)) (Z0 (Zg Zd (pv 2) Z6 (fun _ _=>rfl)) (Z0 (Zn (pv 0) rfl) Z2))))) rfl))),?_⟩
 refine Z28 ?_
 intro Ez Az1
 obtain rfl:=hA.chs
 obtain rfl:=hA.text
 obtain⟨⟨dx,e1⟩,_⟩:=id hM
 obtain⟨a',e,ha⟩:=hrow
 cases e
 obtain⟨⟨hk1,hk2⟩,hh⟩:(1<=k/\k<=n)/\c.h≠[]:=by
  rcases Xe with h | h
  ·exact h
  ·cases h
 obtain⟨x,hrest,hch⟩:∃x r,c.h=x::r:=by
  cases hc:c.h with
  |nil=>exact absurd hc hh
  |cons x r=>exact⟨x,r,rfl⟩
 have hl:=hA.hl
 rw[hch]at hl
 obtain⟨pa,v',hheld,hpa,hl'⟩:=hl
 have hgl:=hgo.len
 obtain⟨g,es,hg,hge,hel,hpe⟩:=hA.gs.len
 refine(Z7 rfl ⟨m,dx,Z7 rfl ⟨e1,Vs _,m,pa,M,_,_,_,rfl,hM,hheld,hpa,fun H1 hM1 g1=>?_⟩⟩)
 obtain⟨⟨dx1,f1⟩,_⟩:=id hM1
 have hfg:({ M.s with held:=v' }:MS).fs.lookup ("groups":Str)=some (.ref g):=by rw[Xv];exact congrArg some hg
 refine(Z7 rfl ⟨m,C,dx1,_,_,rfl,f1,MT.cl,MT.a5,hfg,W5 (g1.tups _ _ ha) rfl (W5 (g1.tups _ _ hpa) rfl ⟨_,rfl,m,C,dx1,_,_,rfl,f1,MT.cl,MT.a4,Wp _,g,k,_,_,es,rfl,g1.tups _ _ hge,hk1,by omega,by omega,fun r p H2 hp2 hr2 g2=>?_⟩)⟩)
 have hM2:=hM1.gro g2 (by simp) (by simp)
 obtain⟨⟨dx2,f2⟩,_⟩:=id hM2
 refine(Z7 rfl ⟨m,C,dx2,Z7 rfl ⟨f2,MT.cl,MT.a5,Yx _,?_⟩⟩)
 rw[Z37]
 have g3:Gro [m,M.s.choices] H2 (Zq H2 m (.ins C dx2 ({ M.s with held:=v',groups:=.ref r }:MS).fs)):=Gro.ins (by simp) f2 _
 have gg:Gro [m,M.s.choices] H (Zq H2 m (.ins C dx2 ({ M.s with held:=v',groups:=.ref r }:MS).fs)):=((g1.mono (by simp)).trans (g2.mono (by simp))).trans g3
 refine q _ _ (hM2.put (s':={ M.s with held:=v',groups:=.ref r }) f2 rfl) ?_ rfl rfl gg
 have Yn:(Op.close k).act M.s.text c=.run { c with h:=hrest,g:=put c.g k x.2 c.i }:=by
  show(match c.h with | []=>Cf.ended | p::h=>Cf.run { c with h:=h,g:=put c.g k p.2 c.i })=_
  rw[hch]
 rw[Yn]
 have hA1:=hA.mono gg.tups
 refine⟨hA1.rows,rfl,rfl,hA1.en,hA1.row,hA1.pl,?_,hl'.mono gg.tups,hA1.cs⟩
 refine GsAt.put (Paired.mapP hpe fun _ _ h=>h.mono gg.tups) (g3.tups _ _ ?_) (g3.tups _ _ hr2)
 rw[hp2]
 show some (HO.tup [.int x.2,.int M.s.place])=_
 rw[hA.pl]
theorem Ab.top{H:Hp}{ra:Addr}{t:Str}{ch:Addr}{M:MM}{c:Cg}(h:Ab H ra t ch M c)(hh:c.h≠[]):∃(x:Nat×Nat) (r:Hl) (pa:Addr) (v':V),c.h=x::r/\M.s.held=.ref pa/\H pa=some (.tup [.int x.1,.int x.2,v'])/\HlAt H v' r:=by
 have hl:=h.hl
 cases hc:c.h with
 |nil=>exact absurd hc hh
 |cons x r =>
  rw[hc]at hl
  obtain⟨pa,v',h1,h2,h3⟩:=hl
  exact⟨x,r,pa,v',rfl,h1,h2,h3⟩
theorem Z0r{n:Nat}{c:Cg}{o:Op}(h:o.need n c∨o=.found)(e:o.need n c=(c.h≠[]))(hf:o≠.found):c.h≠[]:=by
 rcases h with h | h
 ·rw[e]at h;exact h
 ·exact absurd h hf
abbrev Ux:Stmt:=top 30
theorem Z6i:FnScope ["machine","row"] ["machine","row"] (Z9 Ux):=Vm
theorem Z6u(T:Blt mg)(MT:Txt K mg C)(O_Machine_hold:OwnM P w K mg base 1 C "hold" ["self","number"] (Jk C))(F:Fun K "do_once" "do_once" Ux f fd):FnOk P w K mg base Wq 2 f fd ["machine","row"] (Tp C .once):=by
 refine F.ok Z6i (fun vs H Q E h=>?_) (fun cdv A outer s H vs Q E hr h=>?_)
 ·obtain⟨m,a,ra,ch,t,n,M,c,rfl,_⟩:=h
  rfl
 obtain⟨m,a,ra,ch,t,n,M,c,rfl,hM,hA,hrow,ht,hci,hgo,hn,Xe,hcs,q⟩:=h
 refine Vj ?_
 intro Xz
 refine⟨_,(Z5 (Zf (Xi (O_Machine_hold.mono (by omega)) MT.cl hr (pv 0) (Z0 (Zh Zv rfl T.b_len PyProof.Rows.Boot.«len» (Z0 (Zn (pv 0) rfl) Z2)) Z2)))),?_⟩
 obtain rfl:=hA.chs
 obtain rfl:=hA.text
 obtain⟨⟨dx,e1⟩,vs,hv,hp⟩:=id hM
 have hl:=Paired.length hp
 have hcl:=hA.cslen
 refine(Z7 rfl ⟨m,dx,Z7 rfl ⟨e1,Z4d _,Z7 rfl ⟨m,C,dx,_,_,rfl,e1,MT.cl,MT.a7,Yt _,M.s.choices,vs,rfl,.inl (SqL.of hv),m,_,M,rfl,hM,fun H' p hM' hp' g'=>?_⟩⟩⟩)
 have hA1:=hA.mono g'.tups
 refine q H' _ hM' ⟨hA1.rows,rfl,rfl,hA1.en,hA1.row,hA1.pl,hA1.gs,⟨p,Z7 rfl ⟨?_,hA1.hl⟩⟩,hA1.cs⟩ rfl rfl (g'.mono (by simp))
 rw[hp',hA.pl,show vs.length=c.cs.length by omega]
abbrev T0:Stmt:=top 31
theorem Z6k:FnScope ["machine","row"] ["machine","row"] (Z9 T0):=Vm
theorem Z6x(MT:Txt K mg C)(O_Machine_let_go:OwnM P w K mg base 1 C "let_go" ["self"] (Tu C))(O_Machine_drop_choices:OwnM P w K mg base 1 C "drop_choices" ["self","size"] (Jl C))(F:Fun K "do_kept" "do_kept" T0 f fd):FnOk P w K mg base Wq 2 f fd ["machine","row"] (Tp C .kept):=by
 refine F.ok Z6k (fun vs H Q E h=>?_) (fun cdv A outer s H vs Q E hr h=>?_)
 ·obtain⟨m,a,ra,ch,t,n,M,c,rfl,_⟩:=h
  rfl
 obtain⟨m,a,ra,ch,t,n,M,c,rfl,hM,hA,hrow,ht,hci,hgo,hn,Xe,hcs,q⟩:=h
 refine Vj ?_
 intro Xz
 refine⟨_,(Z5 (Zf (Xi (O_Machine_drop_choices.mono (by omega)) MT.cl hr (pv 0) (Z0 (Zg Zd (Yf (O_Machine_let_go.mono (by omega)) MT.cl hr (pv 0)) Z6 (fun _ _=>rfl)) Z2)))),?_⟩
 obtain rfl:=hA.chs
 obtain rfl:=hA.text
 obtain⟨⟨dx,e1⟩,_⟩:=id hM
 have hcl:=hA.cslen
 obtain⟨x,r,pa,v',hch,hheld,hpa,hl'⟩:=hA.top (Z0r Xe rfl (by intro z;cases z))
 refine(Z7 rfl ⟨m,dx,Z7 rfl ⟨e1,Z4e _,Z7 rfl ⟨m,dx,Z7 rfl ⟨e1,Vs _,m,pa,M,_,_,_,rfl,hM,hheld,hpa,fun H1 hM1 g1=>?_⟩⟩⟩⟩)
 refine⟨pa,_,_,_,rfl,rfl,SqT.of (g1.tups _ _ hpa),Z0d,m,x.1,_,rfl,hM1,by show M.cs.length<=_;omega,fun H2 hM2 g2=>?_⟩
 have gg:Gro [m,M.s.choices] H H2:=(g1.mono (by simp)).trans (g2.mono (by simp))
 have hA1:=hA.mono gg.tups
 refine q H2 _ hM2 ?_ rfl rfl gg
 have Yn:Op.kept.act M.s.text c=.run { c with h:=r,cs:=c.cs.take x.1 }:=by
  show(match c.h with | []=>Cf.ended | p::h=>Cf.run { c with h:=h,cs:=c.cs.take p.1 })=_
  rw[hch]
 rw[Yn]
 exact⟨hA1.rows,rfl,rfl,hA1.en,hA1.row,hA1.pl,hA1.gs,hl'.mono gg.tups,Wf _ hA1.cs⟩
abbrev Vg:Stmt:=top 32
theorem sc_do_peeked:FnScope ["machine","row","pair"] ["machine","row"] (Z9 Vg):=Vm
theorem Z3u(MT:Txt K mg C)(O_Machine_let_go:OwnM P w K mg base 1 C "let_go" ["self"] (Tu C))(O_Machine_drop_choices:OwnM P w K mg base 1 C "drop_choices" ["self","size"] (Jl C))(F:Fun K "do_peeked" "do_peeked" Vg f fd):FnOk P w K mg base Wq 2 f fd ["machine","row"] (Tp C .peeked):=by
 refine F.ok sc_do_peeked (fun vs H Q E h=>?_) (fun cdv A outer s H vs Q E hr h=>?_)
 ·obtain⟨m,a,ra,ch,t,n,M,c,rfl,_⟩:=h
  rfl
 obtain⟨m,a,ra,ch,t,n,M,c,rfl,hM,hA,hrow,ht,hci,hgo,hn,Xe,hcs,q⟩:=h
 refine Vj ?_
 intro Xz
 refine⟨_,(Z1 (pS 2 sc_do_peeked.nd (Yf (O_Machine_let_go.mono (by omega)) MT.cl hr (pv 0)))
  (Z1 (Zf (Xi (O_Machine_drop_choices.mono (by omega)) MT.cl hr (pv 0) (Z0 (Zg Zd (pv 2) Z6 (fun _ _=>rfl)) Z2)))
  (Z5 (Ya (pv 0) (Zg Zd (pv 2) Z6 (fun _ _=>rfl)) rfl)))),?_⟩
 refine Z27 ?_
 intro Ez Az1 Az2
 obtain rfl:=hA.chs
 obtain rfl:=hA.text
 obtain⟨⟨dx,e1⟩,_⟩:=id hM
 have hcl:=hA.cslen
 obtain⟨x,r,pa,v',hch,hheld,hpa,hl'⟩:=hA.top (Z0r Xe rfl (by intro z;cases z))
 refine(Z7 rfl ⟨m,dx,Z7 rfl ⟨e1,Vs _,m,pa,M,_,_,_,rfl,hM,hheld,hpa,fun H1 hM1 g1=>?_⟩⟩)
 obtain⟨⟨dx1,f1⟩,_⟩:=id hM1
 refine(Z7 rfl ⟨m,dx1,Z7 rfl ⟨f1,Z4e _,W5 (g1.tups _ _ hpa) Z0d ⟨m,x.1,_,rfl,hM1,by show M.cs.length<=_;omega,fun H2 hM2 g2=>?_⟩⟩⟩)
 obtain⟨⟨dx2,f2⟩,_⟩:=id hM2
 refine(W5 (g2.tups _ _ (g1.tups _ _ hpa)) rfl ⟨_,rfl,m,C,dx2,_,rfl,f2,MT.cl,MT.a4,Yx _,?_⟩)
 rw[Z95]
 have g3:Gro [m,M.s.choices] H2 (Zq H2 m (.ins C dx2 ({ M.s with held:=v',place:=(x.2:Int) }:MS).fs)):=Gro.ins (by simp) f2 _
 have gg:Gro [m,M.s.choices] H (Zq H2 m (.ins C dx2 ({ M.s with held:=v',place:=(x.2:Int) }:MS).fs)):=((g1.mono (by simp)).trans (g2.mono (by simp))).trans g3
 have hA1:=hA.mono gg.tups
 refine q _ _ (hM2.put (s':={ M.s with held:=v',place:=(x.2:Int) }) f2 rfl) ?_ rfl rfl gg
 have Yn:Op.peeked.act M.s.text c=.run { c with i:=x.2,h:=r,cs:=c.cs.take x.1 }:=by
  show(match c.h with | []=>Cf.ended | p::h=>Cf.run { c with i:=p.2,h:=h,cs:=c.cs.take p.1 })=_
  rw[hch]
 rw[Yn]
 exact⟨hA1.rows,rfl,rfl,hA1.en,hA1.row,rfl,hA1.gs,hl'.mono gg.tups,Wf _ hA1.cs⟩
abbrev Vh:Stmt:=top 34
theorem Z3r:FnScope ["machine","row"] ["machine","row"] (Z9 Vh):=Vm
theorem Z3v(MT:Txt K mg C)(O_Machine_let_go:OwnM P w K mg base 1 C "let_go" ["self"] (Tu C))(O_Machine_drop_choices:OwnM P w K mg base 1 C "drop_choices" ["self","size"] (Jl C))(O_Machine_go_back:OwnM P w K mg base 2 C "go_back" ["self"] (Wi C))(F:Fun K "do_barred" "do_barred" Vh f fd):FnOk P w K mg base Wq 3 f fd ["machine","row"] (Tp C .barred):=by
 refine F.ok Z3r (fun vs H Q E h=>?_) (fun cdv A outer s H vs Q E hr h=>?_)
 ·obtain⟨m,a,ra,ch,t,n,M,c,rfl,_⟩:=h
  rfl
 obtain⟨m,a,ra,ch,t,n,M,c,rfl,hM,hA,hrow,ht,hci,hgo,hn,Xe,hcs,q⟩:=h
 refine Vj ?_
 intro Xz
 refine⟨_,(Z1 (Zf (Xi (O_Machine_drop_choices.mono (by omega)) MT.cl hr (pv 0) (Z0 (Zg Zd (Yf (O_Machine_let_go.mono (by omega)) MT.cl hr (pv 0)) Z6 (fun _ _=>rfl)) Z2)))
  (Z5 (Zf (Yf (O_Machine_go_back.mono (by omega)) MT.cl hr (pv 0))))),?_⟩
 refine Z28 ?_
 intro Ez Az1
 obtain rfl:=hA.chs
 obtain rfl:=hA.text
 obtain⟨⟨dx,e1⟩,_⟩:=id hM
 have hcl:=hA.cslen
 obtain⟨x,r,pa,v',hch,hheld,hpa,hl'⟩:=hA.top (Z0r Xe rfl (by intro z;cases z))
 refine(Z7 rfl ⟨m,dx,Z7 rfl ⟨e1,Z4e _,Z7 rfl ⟨m,dx,Z7 rfl ⟨e1,Vs _,m,pa,M,_,_,_,rfl,hM,hheld,hpa,fun H1 hM1 g1=>?_⟩⟩⟩⟩)
 refine⟨pa,_,_,_,rfl,rfl,SqT.of (g1.tups _ _ hpa),Z0d,m,x.1,_,rfl,hM1,by show M.cs.length<=_;omega,fun H2 hM2 g2=>?_⟩
 have gg:Gro [m,M.s.choices] H H2:=(g1.mono (by simp)).trans (g2.mono (by simp))
 have hA1:=hA.mono gg.tups
 have hA2:Ab H2 ra M.s.text M.s.choices ⟨{ M.s with held:=v' },M.cs.take x.1⟩ { c with h:=r,cs:=c.cs.take x.1 }:=⟨hA1.rows,rfl,rfl,hA1.en,hA1.row,hA1.pl,hA1.gs,hl'.mono gg.tups,Wf _ hA1.cs⟩
 obtain⟨⟨dx2,f2⟩,_⟩:=id hM2
 refine(Z7 rfl ⟨m,dx2,Z7 rfl ⟨f2,Ys _,m,_,rfl,hM2,by show(M.cs.take x.1).length<=_;rw[List.length_take];omega,fun H3 hM3 g3=>?_⟩⟩)
 have bf:=Yu ⟨{ M.s with held:=v' },M.cs.take x.1⟩
 have Yn:Op.barred.act M.s.text c=bk (c.cs.take x.1):=by
  show(match c.h with | []=>Cf.ended | p::_=>bk (c.cs.take p.1))=_
  rw[hch]
 exact q H3 _ hM3 (by rw[Yn];exact hA2.back.mono g3.tups) bf.1 bf.2 (gg.trans g3)
abbrev T1:Stmt:=top 36
theorem Z6m:FnScope ["machine","row"] ["machine","row"] (Z9 T1):=Vm
theorem Z6y(MT:Txt K mg C)(O_Machine_go_back:OwnM P w K mg base 2 C "go_back" ["self"] (Wi C))(F:Fun K "do_here" "do_here" T1 f fd):FnOk P w K mg base Wq 3 f fd ["machine","row"] (Tp C .here):=by
 refine F.ok Z6m (fun vs H Q E h=>?_) (fun cdv A outer s H vs Q E hr h=>?_)
 ·obtain⟨m,a,ra,ch,t,n,M,c,rfl,_⟩:=h
  rfl
 obtain⟨m,a,ra,ch,t,n,M,c,rfl,hM,hA,hrow,ht,hci,hgo,hn,Xe,hcs,q⟩:=h
 refine Vj ?_
 intro Xz
 refine⟨_,(Z5 (Y0 (Ze Z01 (Zn (pv 0) rfl) (Zg Zd (Zn (pv 0) rfl) Z6 (fun _ _=>rfl)) (Zi _)) (Z5 (Zf (Yf (O_Machine_go_back.mono (by omega)) MT.cl hr (pv 0)))) Zm)),?_⟩
 refine Z29 ?_
 intro Ez Az1
 obtain rfl:=hA.chs
 obtain rfl:=hA.text
 obtain⟨⟨dx,e1⟩,_⟩:=id hM
 have hcl:=hA.cslen
 obtain⟨x,r,pa,v',hch,hheld,hpa,hl'⟩:=hA.top (Z0r Xe rfl (by intro z;cases z))
 have hfh:M.s.fs.lookup ("held":Str)=some (.ref pa):=by rw[Ub,hheld]
 have Yn:Op.here.act M.s.text c=if c.i=x.2 then .run c else bk c.cs:=by
  show(match c.h with | []=>Cf.ended | p::_=>if c.i=p.2 then Cf.run c else bk c.cs)=_
  rw[hch]
 refine(Z7 rfl ⟨m,C,dx,_,_,rfl,e1,MT.cl,MT.a4,Wp _,Z7 rfl ⟨m,C,dx,_,_,rfl,e1,MT.cl,MT.a6,hfh,pa,_,_,_,rfl,rfl,SqT.of hpa,rfl,rfl,Z7 rfl (?_)⟩⟩)
 by_cases e:c.i=x.2
 ·rw[if_pos e]at Yn
  refine Zb (fun z=>?_) (q H M hM (by rw[Yn];exact hA) rfl rfl Gro.refl)
  have:V.int M.s.place=V.int (x.2:Int):=by rw[hA.pl,e]
  rw[decide_eq_true this]at z
  cases z
 ·rw[if_neg e]at Yn
  refine Zj ?_ (Z7 rfl ⟨m,dx,Z7 rfl ⟨e1,Ys _,m,M,rfl,hM,by omega,fun H' hM' g'=>?_⟩⟩)
  ·have:¬V.int M.s.place=V.int (x.2:Int):=fun z=>by
    injection z with z
    rw[hA.pl]at z
    omega
   rw[decide_eq_false this]
   rfl
  ·have bf:=Yu M
   exact q H' _ hM' (by rw[Yn];exact hA.back.mono g'.tups) bf.1 bf.2 g'
abbrev Uz:Stmt:=top 35
theorem Z6j:FnScope ["machine","row"] ["machine","row"] (Z9 Uz):=Vm
theorem Z6w(MT:Txt K mg C)(F:Fun K "do_lean" "do_lean" Uz f fd):FnOk P w K mg base Wq 1 f fd ["machine","row"] (Tp C .lean):=by
 refine F.ok Z6j (fun vs H Q E h=>?_) (fun cdv A outer s H vs Q E hr h=>?_)
 ·obtain⟨m,a,ra,ch,t,n,M,c,rfl,_⟩:=h
  rfl
 obtain⟨m,a,ra,ch,t,n,M,c,rfl,hM,hA,hrow,ht,hci,hgo,hn,Xe,hcs,q⟩:=h
 refine Vj ?_
 intro Xz
 refine⟨_,(Z5 (Y0 (Ze Z96 (Zn (pv 0) rfl) Z6 (Zi _)) (Z5 (Zf (Yr PySem.F.plainAttrs_list PySem.F.slot_list_append PySem.F.type_list_append Zw (Zn (pv 0) rfl) (Z0 (Zr (Z0 (Yg Te (Zn (pv 0) rfl) Z6) (Z0 (Yg Te (Zn (pv 0) rfl) Z6) (Z0 (Zn (pv 0) rfl) (Z0 (Zn (pv 0) rfl) Z2))))) Z2)))) Zm)),?_⟩
 refine Z29 ?_
 intro Ez Az1
 obtain rfl:=hA.chs
 obtain rfl:=hA.text
 obtain⟨⟨dx,e1⟩,vs,hv,hp⟩:=id hM
 have hl:=Paired.length hp
 have hcl:=hA.cslen
 have Yn:Op.lean.act M.s.text c=if 0<c.i then .run { c with cs:=c.cs++[(c.r-1,c.i-1,c.g,c.h)] } else .run c:=rfl
 refine(Z7 rfl ⟨m,C,dx,_,_,rfl,e1,MT.cl,MT.a4,Wp _,Va rfl rfl (Z7 rfl (?_))⟩)
 by_cases e:0<c.i
 ·rw[if_pos e]at Yn
  refine Zj (decide_eq_true (by rw[hA.pl];omega)) ?_
  refine(Z7 rfl ⟨m,C,dx,_,_,rfl,e1,MT.cl,MT.a7,Yt _,.inl ⟨rfl,_,SqL.of hv⟩,Z7 rfl ⟨m,C,dx,_,_,rfl,e1,MT.cl,MT.a3,Z4t _,Va rfl rfl (Z7 rfl ⟨m,C,dx,_,_,rfl,e1,MT.cl,MT.a4,Wp _,Va rfl rfl (Z7 rfl ⟨m,C,dx,_,_,rfl,e1,MT.cl,MT.a5,Xv _,Z7 rfl ⟨m,C,dx,_,_,rfl,e1,MT.cl,MT.a6,Ub _,sz,fun tp htp=>?_⟩⟩)⟩)⟩⟩)
  have g2:=Gro.new (S:=[m,M.s.choices]) htp (.tup [.int (M.s.row-1),.int (M.s.place-1),M.s.groups,M.s.held])
  have hM2:=hM.new (o:=.tup [.int (M.s.row-1),.int (M.s.place-1),M.s.groups,M.s.held]) htp
  have hv2:(Zq H tp (.tup [.int (M.s.row-1),.int (M.s.place-1),M.s.groups,M.s.held])) M.s.choices=some (.lst vs):=by rw[Zt (Za hv htp)];exact hv
  have hq2:=Paired.mapP hp fun _ _ q=>q.mono g2.tups
  have et:(Zq H tp (.tup [.int (M.s.row-1),.int (M.s.place-1),M.s.groups,M.s.held])) tp=some (.tup [.int (M.s.row-1),.int (M.s.place-1),M.s.groups,M.s.held]):=Z3
  refine⟨M.s.choices,vs,Z7 rfl ⟨rfl,hv2,Z7v (by omega),?_⟩⟩
  obtain⟨hM3,g3⟩:=hM2.push (q:=(M.s.row-1,M.s.place-1,M.s.groups,M.s.held)) hv2 hq2 et
  have gg:Gro [m,M.s.choices] H _:=g2.trans (g3.mono (by simp))
  have hA1:=hA.mono gg.tups
  refine q _ _ hM3 ?_ rfl rfl gg
  rw[Yn]
  refine⟨hA1.rows,rfl,rfl,hA1.en,hA1.row,hA1.pl,hA1.gs,hA1.hl,hA1.cs.snoc ⟨?_,?_,hA1.gs,hA1.hl⟩⟩
  ·show M.s.row-1=((c.r-1:Nat):Int)
   rw[hA.row]
   omega
  ·show M.s.place-1=((c.i-1:Nat):Int)
   rw[hA.pl]
   omega
 ·rw[if_neg e]at Yn
  refine Zb (fun z=>?_) (q H M hM (by rw[Yn];exact hA) rfl rfl Gro.refl)
  have:=of_decide_eq_true z
  rw[hA.pl]at this
  omega
abbrev Jf:Stmt:=top 33
theorem sc_do_bar:FnScope ["machine","row","held"] ["machine","row"] (Z9 Jf):=Vm
theorem Z9t{z:Nat}(T:Blt mg)(MT:Txt K mg C)(O_Machine_hold:OwnM P w K mg base 1 C "hold" ["self","number"] (Jk C))(F:Fun K "do_bar" "do_bar" Jf f fd):FnOk P w K mg base Wq 2 f fd ["machine","row"] (Tp C (.bar z)):=by
 refine F.ok sc_do_bar (fun vs H Q E h=>?_) (fun cdv A outer s H vs Q E hr h=>?_)
 ·obtain⟨m,a,ra,ch,t,n,M,c,rfl,_⟩:=h
  rfl
 obtain⟨m,a,ra,ch,t,n,M,c,rfl,hM,hA,hrow,ht,hci,hgo,hn,Xe,hcs,q⟩:=h
 refine Vj ?_
 intro Xz
 refine⟨_,(Z1 (pS 2 sc_do_bar.nd (Zn (pv 0) rfl))
  (Z1 (Zf (Xi (O_Machine_hold.mono (by omega)) MT.cl hr (pv 0) (Z0 (Zh Zv rfl T.b_len PyProof.Rows.Boot.«len» (Z0 (Zn (pv 0) rfl) Z2)) Z2)))
  (Z5 (Zf (Yr PySem.F.plainAttrs_list PySem.F.slot_list_append PySem.F.type_list_append Zw (Zn (pv 0) rfl) (Z0 (Zr (Z0 (Zg Zd (pv 1) Z6 (fun _ _=>rfl)) (Z0 (Zn (pv 0) rfl) (Z0 (Zn (pv 0) rfl) (Z0 (pv 2) Z2))))) Z2)))))),?_⟩
 refine Z27 ?_
 intro Ez Az1 Az2
 obtain rfl:=hA.chs
 obtain rfl:=hA.text
 obtain⟨⟨dx,e1⟩,vs,hv,hp⟩:=id hM
 obtain⟨a',e,ha⟩:=hrow
 cases e
 have hl:=Paired.length hp
 have hcl:=hA.cslen
 refine(Z7 rfl ⟨m,C,dx,_,_,rfl,e1,MT.cl,MT.a6,Ub _,?_⟩)
 refine(Z7 rfl ⟨m,dx,Z7 rfl ⟨e1,Z4d _,Z7 rfl ⟨m,C,dx,_,_,rfl,e1,MT.cl,MT.a7,Yt _,M.s.choices,vs,rfl,.inl (SqL.of hv),m,_,M,rfl,hM,fun H1 p hM1 hp1 g1=>?_⟩⟩⟩)
 obtain⟨⟨dx1,f1⟩,vs1,hv1,hq1⟩:=id hM1
 have hv1':H1 M.s.choices=some (.lst vs1):=hv1
 have hl1:vs1.length=M.cs.length:=Paired.length hq1
 refine(Z7 rfl ⟨m,C,dx1,_,_,rfl,f1,MT.cl,MT.a7,Yt _,.inl ⟨rfl,_,SqL.of hv1'⟩,W5 (g1.tups _ _ ha) rfl ⟨_,rfl,m,C,dx1,_,_,rfl,f1,MT.cl,MT.a4,Wp _,_,rfl,m,C,dx1,_,_,rfl,f1,MT.cl,MT.a5,Xv _,_,rfl,sz,fun tp htp=>?_⟩⟩)
 have g2:=Gro.new (S:=[m,M.s.choices]) htp (.tup [.int z,.int M.s.place,M.s.groups,M.s.held])
 have hM2:=hM1.new (o:=.tup [.int z,.int M.s.place,M.s.groups,M.s.held]) htp
 have hv2:(Zq H1 tp (.tup [.int z,.int M.s.place,M.s.groups,M.s.held])) M.s.choices=some (.lst vs1):=by rw[Zt (Za hv1' htp)];exact hv1'
 have hq2:=Paired.mapP hq1 fun _ _ q=>q.mono g2.tups
 have et:(Zq H1 tp (.tup [.int z,.int M.s.place,M.s.groups,M.s.held])) tp=some (.tup [.int z,.int M.s.place,M.s.groups,M.s.held]):=Z3
 refine⟨M.s.choices,vs1,Z7 rfl ⟨rfl,hv2,Z7v (by omega),?_⟩⟩
 obtain⟨hM3,g3⟩:=hM2.push (q:=((z:Int),M.s.place,M.s.groups,M.s.held)) hv2 hq2 et
 have gg:Gro [m,M.s.choices] H _:=((g1.mono (by simp)).trans g2).trans (g3.mono (by simp))
 have hA1:=hA.mono gg.tups
 refine q _ _ hM3 ⟨hA1.rows,rfl,rfl,hA1.en,hA1.row,hA1.pl,hA1.gs,⟨p,Z7 rfl ⟨?_,hA1.hl⟩⟩,hA1.cs.snoc ⟨rfl,hA1.pl,hA1.gs,hA1.hl⟩⟩ rfl rfl gg
 rw[g3.tups _ _ (g2.tups _ _ hp1),hA.pl,show vs.length=c.cs.length by omega]
abbrev Uy:Stmt:=top 29
theorem sc_do_next:FnScope ["machine","row","pair"] ["machine","row"] (Z9 Uy):=Vm
theorem Z6v{lo:Int}{z:Nat}(MT:Txt K mg C)(O_Machine_let_go:OwnM P w K mg base 1 C "let_go" ["self"] (Tu C))(O_Machine_go_back:OwnM P w K mg base 2 C "go_back" ["self"] (Wi C))(F:Fun K "do_next" "do_next" Uy f fd):FnOk P w K mg base Wq 3 f fd ["machine","row"] (Tp C (.next lo z)):=by
 refine F.ok sc_do_next (fun vs H Q E h=>?_) (fun cdv A outer s H vs Q E hr h=>?_)
 ·obtain⟨m,a,ra,ch,t,n,M,c,rfl,_⟩:=h
  rfl
 obtain⟨m,a,ra,ch,t,n,M,c,rfl,hM,hA,hrow,ht,hci,hgo,hn,Xe,hcs,q⟩:=h
 refine Vj ?_
 intro Xz
 refine⟨_,(Z1 (pS 2 sc_do_next.nd (Yf (O_Machine_let_go.mono (by omega)) MT.cl hr (pv 0)))
  (Z5 (Y0 (PW.pt (Z2d (Ze Zcu (Zg Zd (pv 2) Z6 (fun _ _=>rfl)) (Zg Zd (pv 1) Z6 (fun _ _=>rfl)) (Zi _)) (Jo (Ze Y4 (Zn (pv 0) rfl) (Zg Zd (pv 2) Z6 (fun _ _=>rfl)) (Zi _))))) (Z5 (Zf (Yf (O_Machine_go_back.mono (by omega)) MT.cl hr (pv 0)))) (Z1 (Ya (pv 0) (Zr (Z0 (Yg Xh (Zg Zd (pv 2) Z6 (fun _ _=>rfl)) Z6) (Z0 (Zg Zd (pv 2) Z6 (fun _ _=>rfl)) (Z0 (Zg Zd (pv 2) Z6 (fun _ _=>rfl)) Z2)))) rfl)
  (Z5 (Ya (pv 0) (Zg Zd (pv 1) Z6 (fun _ _=>rfl)) rfl)))))),?_⟩
 refine Zg9 ?_
 intro Ez Az1 Az2 Az3 Az4
 obtain rfl:=hA.chs
 obtain rfl:=hA.text
 obtain⟨⟨dx,e1⟩,_⟩:=id hM
 obtain⟨a',e,ha⟩:=hrow
 cases e
 have hcl:=hA.cslen
 obtain⟨x,r,pa,v',hch,hheld,hpa,hl'⟩:=hA.top (Z0r Xe rfl (by intro z;cases z))
 have Yn:(Op.next lo z).act M.s.text c=if lo<=x.1/\c.i=x.2 then bk c.cs else .run ⟨z,c.i,c.g,(x.1+1,x.2)::r,c.cs⟩:=by
  show(match c.h with | []=>Cf.ended | p::h=>if lo<=p.1/\c.i=p.2 then bk c.cs else .run ⟨z,c.i,c.g,(p.1+1,p.2)::h,c.cs⟩)=_
  rw[hch]
 refine(Z7 rfl ⟨m,dx,Z7 rfl ⟨e1,Vs _,m,pa,M,_,_,_,rfl,hM,hheld,hpa,fun H1 hM1 g1=>?_⟩⟩)
 obtain⟨⟨dx1,f1⟩,_⟩:=id hM1
 have hpa1:=g1.tups _ _ hpa
 have ha1:=g1.tups _ _ ha
 have hA1:=hA.mono g1.tups
 have hA2:Ab H1 ra M.s.text M.s.choices ⟨{ M.s with held:=v' },M.cs⟩ { c with h:=r }:=⟨hA1.rows,rfl,rfl,hA1.en,hA1.row,hA1.pl,hA1.gs,hl'.mono g1.tups,hA1.cs⟩
 have goback:lo<=x.1/\c.i=x.2->Wi C [.ref m] H1 (fun _ H'=>Q .non H') E:=fun hc=>by
  rw[if_pos hc]at Yn
  refine⟨m,_,rfl,hM1,by show M.cs.length<=_;omega,fun H' hM' g'=>?_⟩
  have bf:=Yu ⟨{ M.s with held:=v' },M.cs⟩
  exact q H' _ hM' (by rw[Yn];exact hA2.back.mono g'.tups) bf.1 bf.2 ((g1.mono (by simp)).trans g')
 have onward:¬(lo<=x.1/\c.i=x.2)->∀p:Addr,H1 p=none->Q .non (Zq (Zq H1 p (.tup [.int ((x.1:Int)+1),.int x.2,v'])) m (.ins C dx1 ({ M.s with held:=.ref p,row:=(z:Int) }:MS).fs)):=fun hc p hp=>by
  rw[if_neg hc]at Yn
  have hM2:=hM1.new (o:=.tup [.int ((x.1:Int)+1),.int x.2,v']) hp
  have f2:(Zq H1 p (.tup [.int ((x.1:Int)+1),.int x.2,v'])) m=some (.ins C dx1 ({ M.s with held:=v' }:MS).fs):=by rw[Zt (Za f1 hp)];exact f1
  have g2:=Gro.new (S:=[m,M.s.choices]) hp (.tup [.int ((x.1:Int)+1),.int x.2,v'])
  have g3:Gro [m,M.s.choices] (Zq H1 p (.tup [.int ((x.1:Int)+1),.int x.2,v'])) (Zq (Zq H1 p (.tup [.int ((x.1:Int)+1),.int x.2,v'])) m (.ins C dx1 ({ M.s with held:=.ref p,row:=(z:Int) }:MS).fs)):=Gro.ins (by simp) f2 _
  have gg:=((g1.mono (S':=[m,M.s.choices]) (by simp)).trans g2).trans g3
  have hA3:=hA.mono gg.tups
  refine q _ _ (hM2.put (s':={ M.s with held:=.ref p,row:=(z:Int) }) f2 rfl) ?_ rfl rfl gg
  rw[Yn]
  exact⟨hA3.rows,rfl,rfl,hA3.en,rfl,hA3.pl,hA3.gs,⟨p,v',rfl,g3.tups _ _ Z3,hl'.mono gg.tups⟩,hA3.cs⟩
 refine(W5 hpa1 Z0d (W5 ha1 rfl ⟨_,_,rfl,rfl,_,rfl,?_⟩))
 have rest:¬(lo<=x.1/\c.i=x.2)->_:=onward
 by_cases hlo:lo<=x.1
 ·refine Zj (decide_eq_true hlo) ?_
  refine(Z7 rfl ⟨m,C,dx1,_,_,rfl,f1,MT.cl,MT.a4,Wp _,W5 hpa1 rfl ⟨rfl,_,rfl,?_⟩⟩)
  by_cases hi:c.i=x.2
  ·refine Zj (decide_eq_true ?_) (Z7 rfl ⟨m,dx1,Z7 rfl ⟨f1,Ys _,goback ⟨hlo,hi⟩⟩⟩)
   show V.int M.s.place=V.int (x.2:Int)
   rw[hA.pl,hi]
  ·refine Zb (fun z=>?_) ?_
   ·have z':V.int M.s.place=V.int (x.2:Int):=of_decide_eq_true z
    injection z' with z'
    rw[hA.pl]at z'
    omega
   ·refine(W5 hpa1 Z0d ⟨_,_,rfl,rfl,W5 hpa1 rfl (W5 hpa1 rfl ⟨sz,fun p hp=>?_⟩)⟩)
    have f2:(Zq H1 p (.tup [.int ((x.1:Int)+1),.int x.2,v'])) m=some (.ins C dx1 ({ M.s with held:=v' }:MS).fs):=by rw[Zt (Za f1 hp)];exact f1
    refine(Z7 rfl ⟨m,C,dx1,Z7 rfl ⟨f2,MT.cl,MT.a6,Yx _,?_⟩⟩)
    rw[Js]
    have ha2:=(Gro.ins (S:=[m]) (by simp) f2 (.ins C dx1 ({ M.s with held:=.ref p }:MS).fs)).tups _ _ ((Gro.new (S:=[]) hp (.tup [.int ((x.1:Int)+1),.int x.2,v'])).tups _ _ ha1)
    refine(W5 ha2 rfl ⟨_,rfl,m,C,dx1,_,rfl,Z3,MT.cl,MT.a3,Yx _,?_⟩)
    rw[Z0p,Z7x]
    exact onward (fun h=>hi h.2) p hp
 ·refine Zb (fun z=>hlo (of_decide_eq_true z)) (Zb (by decide) ?_)
  refine(W5 hpa1 Z0d ⟨_,_,rfl,rfl,W5 hpa1 rfl (W5 hpa1 rfl ⟨sz,fun p hp=>?_⟩)⟩)
  have f2:(Zq H1 p (.tup [.int ((x.1:Int)+1),.int x.2,v'])) m=some (.ins C dx1 ({ M.s with held:=v' }:MS).fs):=by rw[Zt (Za f1 hp)];exact f1
  refine(Z7 rfl ⟨m,C,dx1,Z7 rfl ⟨f2,MT.cl,MT.a6,Yx _,?_⟩⟩)
  rw[Js]
  have ha2:=(Gro.ins (S:=[m]) (by simp) f2 (.ins C dx1 ({ M.s with held:=.ref p }:MS).fs)).tups _ _ ((Gro.new (S:=[]) hp (.tup [.int ((x.1:Int)+1),.int x.2,v'])).tups _ _ ha1)
  refine(W5 ha2 rfl ⟨_,rfl,m,C,dx1,_,rfl,Z3,MT.cl,MT.a3,Yx _,?_⟩)
  rw[Z0p,Z7x]
  exact onward (fun h=>hlo h.1) p hp
theorem Zbj{K:W.Frag}{σ:L2.St}{H:Hp}{Q:VK}{a:Addr}{n:Nat}{hi:Option Int}{xs:List V}(h1:σ[1]? = some (some (.ref a)))(h2:σ[2]? = some (some (.int n)))(ha:H a=some (.tup xs))(hx:Z6e xs 2=some (Zac hi))(q:Q (.bl (Ws hi n)) H) :
  Zjb (Zjd (Z6c (Z2h K) (We 1) (tC (.int 2)))) (Z6c (Zhp fun i j=>V.bl (decide (i<j))) (We 2) (Z6c (Z2h K) (We 1) (tC (.int 2)))) σ H Q:=by
 refine⟨_,h1,a,_,_,_,rfl,rfl,SqT.of ha,hx,Z7 rfl (?_)⟩
 cases hi with
 |none=>exact Zj (by decide) q
 |some y=>exact Zb (by intro z;have z':=of_decide_eq_true z;cases z') ⟨_,h2,_,h1,a,_,_,_,rfl,rfl,SqT.of ha,hx,Va rfl rfl q⟩
abbrev Uw:Stmt:=top 28
theorem sc_do_turn:FnScope ["machine","row","turns","below","going","stopping","may_go","may_stop","little"] ["machine","row"] (Z9 Uw):=Vm
theorem Z6s{lo:Int}{hi:Option Int}{how:How}{z:Nat}(MT:Txt K mg C)(O_Machine_enter:OwnM P w K mg base 1 C "enter" ["self","state"] (U8 C))(O_Machine_go_back:OwnM P w K mg base 2 C "go_back" ["self"] (Wi C))(F:Fun K "do_turn" "do_turn" Uw f fd):FnOk P w K mg base Wq 3 f fd ["machine","row"] (Tp C (.turn lo hi how z)):=by
 refine F.ok sc_do_turn (fun vs H Q E h=>?_) (fun cdv A outer s H vs Q E hr h=>?_)
 ·obtain⟨m,a,ra,ch,t,n,M,c,rfl,_⟩:=h
  rfl
 obtain⟨m,a,ra,ch,t,n,M,c,rfl,hM,hA,hrow,ht,hci,hgo,hn,Xe,hcs,q⟩:=h
 refine Vj ?_
 intro Xz
 refine⟨_,(Z1 (pS 2 sc_do_turn.nd (Zg Zd (Zn (pv 0) rfl) Z6 (fun _ _=>rfl)))
  (Z1 (pS 3 sc_do_turn.nd (Zg Zd (Zn (pv 0) rfl) Z6 (fun _ _=>rfl)))
  (Z1 (pS 4 sc_do_turn.nd (Zr (Z0 (Zn (pv 0) rfl) (Z0 (Zn (pv 0) rfl) (Z0 (Zn (pv 0) rfl) (Z0 (Zr (Z0 (pv 2) (Z0 (Zn (pv 0) rfl) (Z0 (pv 3) Z2)))) Z2))))))
  (Z1 (pS 5 sc_do_turn.nd (Zr (Z0 (Zg Zd (pv 1) Z6 (fun _ _=>rfl)) (Z0 (Zn (pv 0) rfl) (Z0 (Zn (pv 0) rfl) (Z0 (pv 3) Z2))))))
  (Z1 (pS 6 sc_do_turn.nd (Zis (Z7q (Td (Zg Zd (pv 1) Z6 (fun _ _=>rfl)))) (Tw (Yz Z6a (pv 2) (Zg Zd (pv 1) Z6 (fun _ _=>rfl)) (Zi _)))))
  (Z1 (pS 7 sc_do_turn.nd (Yz Zcu (pv 2) (Zg Zd (pv 1) Z6 (fun _ _=>rfl)) (Zi _)))
  (Z5 (Y0 (PW.pt (Z2d (Yw (pv 6)) (Jo (Yw (pv 7))))) (Z1 (pS 8 sc_do_turn.nd (Yz Y4 (Zg Zd (pv 1) Z6 (fun _ _=>rfl)) Zk (Zi _)))
  (Z1 (Zf (Yr PySem.F.plainAttrs_list PySem.F.slot_list_append PySem.F.type_list_append Zw (Zn (pv 0) rfl) (Z0 (Xp (Yw (pv 8)) (pv 4) (pv 5)) Z2)))
  (Z5 (Zf (Xi (O_Machine_enter.mono (by omega)) MT.cl hr (pv 0) (Z0 (Xp (Yw (pv 8)) (pv 5) (pv 4)) Z2)))))) (Z5 (Y0 (Yw (pv 6)) (Z5 (Zf (Xi (O_Machine_enter.mono (by omega)) MT.cl hr (pv 0) (Z0 (pv 4) Z2)))) (Z5 (Y0 (Yw (pv 7)) (Z5 (Zf (Xi (O_Machine_enter.mono (by omega)) MT.cl hr (pv 0) (Z0 (pv 5) Z2)))) (Z5 (Zf (Yf (O_Machine_go_back.mono (by omega)) MT.cl hr (pv 0)))))))))))))))),?_⟩
 refine Zgi ?_
 intro Ez Az1 Az2 Az3 Az4 Az5 Az6 Az7 Az8 Az9 Az10 Az11 Az12 Az13 Az14
 obtain rfl:=hA.chs
 obtain rfl:=hA.text
 obtain⟨⟨dx,e1⟩,vs,hv,hvp⟩:=id hM
 obtain⟨a',e,ha⟩:=hrow
 cases e
 have hcl:=hA.cslen
 have hvl:=Paired.length hvp
 obtain⟨x,r,pa,v',hch,hheld,hpa,hl'⟩:=hA.top (Z0r Xe rfl (by intro z;cases z))
 have hfh:M.s.fs.lookup ("held":Str)=some (.ref pa):=by rw[Ub,hheld]
 refine(Z7 rfl ⟨m,C,dx,_,_,rfl,e1,MT.cl,MT.a6,hfh,pa,_,_,_,rfl,rfl,SqT.of hpa,Z0d,?_⟩)
 refine(Z7 rfl ⟨m,C,dx,_,_,rfl,e1,MT.cl,MT.a6,hfh,pa,_,_,_,rfl,rfl,SqT.of hpa,rfl,?_⟩)
 refine(Z7 rfl ⟨m,C,dx,_,_,rfl,e1,MT.cl,MT.a3,Z4t _,Z7 rfl ⟨m,C,dx,_,_,rfl,e1,MT.cl,MT.a4,Wp _,Z7 rfl ⟨m,C,dx,_,_,rfl,e1,MT.cl,MT.a5,Xv _,Z7 rfl (Z7 rfl ⟨m,C,dx,_,_,rfl,e1,MT.cl,MT.a4,Wp _,Z7 rfl ⟨sz,fun p1 hp1=>⟨sz,fun p2 hp2=>?_⟩⟩⟩)⟩⟩⟩)
 have g1:Gro [] H (Zq (Zq H p1 (.tup [.int x.1,.int M.s.place,v'])) p2 (.tup [.int M.s.row,.int M.s.place,M.s.groups,.ref p1])):=(Gro.new hp1 _).tup hp2
 have t1:(Zq (Zq H p1 (.tup [.int x.1,.int M.s.place,v'])) p2 (.tup [.int M.s.row,.int M.s.place,M.s.groups,.ref p1])) p1=some (.tup [.int x.1,.int M.s.place,v']):=by rw[Zt (Za Z3 hp2)];exact Z3
 have t2:(Zq (Zq H p1 (.tup [.int x.1,.int M.s.place,v'])) p2 (.tup [.int M.s.row,.int M.s.place,M.s.groups,.ref p1])) p2=some (.tup [.int M.s.row,.int M.s.place,M.s.groups,.ref p1]):=Z3
 have hM1:=hM.gro g1 (by simp) (by simp)
 have f1:=g1.keep _ _ e1 (by simp)
 have ha1:=g1.tups _ _ ha
 generalize Zq (Zq H p1 (.tup [.int x.1,.int M.s.place,v'])) p2 (.tup [.int M.s.row,.int M.s.place,M.s.groups,.ref p1])=H1 at *
 refine(W5 ha1 rfl ⟨_,rfl,m,C,dx,_,_,rfl,f1,MT.cl,MT.a4,Wp _,_,rfl,m,C,dx,_,_,rfl,f1,MT.cl,MT.a5,Xv _,_,rfl,sz,fun p3 hp3=>?_⟩)
 have g2:=Gro.new (S:=[]) hp3 (.tup [.int z,.int M.s.place,M.s.groups,v'])
 have t3:(Zq H1 p3 (.tup [.int z,.int M.s.place,M.s.groups,v'])) p3=some (.tup [.int z,.int M.s.place,M.s.groups,v']):=Z3
 have hM2:=hM1.new (o:=.tup [.int z,.int M.s.place,M.s.groups,v']) hp3
 have f2:=g2.keep _ _ f1 (by simp)
 have ha2:=g2.tups _ _ ha1
 have t1':=g2.tups _ _ t1
 have t2':=g2.tups _ _ t2
 have g12:=g1.trans g2
 have hv2:=g12.keep _ _ hv (by simp)
 have hvp2:=Paired.mapP hvp fun _ _ q=>q.mono g12.tups
 generalize Zq H1 p3 (.tup [.int z,.int M.s.place,M.s.groups,v'])=H2 at *
 have hA2:=hA.mono g12.tups
 have hHl:HlAt H2 (.ref p1) ((x.1,c.i)::r):=⟨p1,v',rfl,by rw[t1',hA.pl],hl'.mono g12.tups⟩
 have Yn:(Op.turn lo hi how z).act M.s.text c=if Ws hi x.1=true then
    (if lo<=x.1 then(match how with
     |.little=>.run ⟨z,c.i,c.g,r,c.cs++[(c.r,c.i,c.g,(x.1,c.i)::r)]⟩
     |_=>.run ⟨c.r,c.i,c.g,(x.1,c.i)::r,c.cs++[(z,c.i,c.g,r)]⟩)
    else .run ⟨c.r,c.i,c.g,(x.1,c.i)::r,c.cs⟩)
   else if lo<=x.1 then .run ⟨z,c.i,c.g,r,c.cs⟩ else bk c.cs:=by
  cases how <;> simp only[Op.act,hch]
 have goG:∀(H3:Hp) (cs:List Zfo) (cs':List Ch),MAt C H3 m ⟨M.s,cs⟩->Gro [m,M.s.choices] H2 H3->Paired (ChA H3) cs cs'->(Op.turn lo hi how z).act M.s.text c=.run ⟨c.r,c.i,c.g,(x.1,c.i)::r,cs'⟩->U8 C [.ref m,.ref p2] H3 (fun _ H'=>Q .non H') E:=fun H3 cs cs' hM3 g3 hcs' hact' =>
  ⟨m,p2,⟨M.s,cs⟩,(M.s.row,M.s.place,M.s.groups,.ref p1),rfl,hM3,g3.tups _ _ t2',fun H' hM' g'=>by
   have gg:=(g12.mono (S':=[m,M.s.choices]) (by simp)).trans (g3.trans g')
   have hA3:=hA.mono gg.tups
   refine q H' _ hM' ?_ rfl rfl gg
   rw[hact']
   exact⟨hA3.rows,rfl,rfl,hA3.en,hA3.row,hA3.pl,hA3.gs,hHl.mono fun b xs h=>g'.tups _ _ (g3.tups _ _ h),Paired.mapP hcs' fun _ _ h=>h.mono g'.tups⟩⟩
 have goS:∀(H3:Hp) (cs:List Zfo) (cs':List Ch),MAt C H3 m ⟨M.s,cs⟩->Gro [m,M.s.choices] H2 H3->Paired (ChA H3) cs cs'->(Op.turn lo hi how z).act M.s.text c=.run ⟨z,c.i,c.g,r,cs'⟩->U8 C [.ref m,.ref p3] H3 (fun _ H'=>Q .non H') E:=fun H3 cs cs' hM3 g3 hcs' hact' =>
  ⟨m,p3,⟨M.s,cs⟩,((z:Int),M.s.place,M.s.groups,v'),rfl,hM3,g3.tups _ _ t3,fun H' hM' g'=>by
   have gg:=(g12.mono (S':=[m,M.s.choices]) (by simp)).trans (g3.trans g')
   have hA3:=hA.mono gg.tups
   refine q H' _ hM' ?_ rfl rfl gg
   rw[hact']
   exact⟨hA3.rows,rfl,rfl,hA3.en,rfl,hA3.pl,hA3.gs,hl'.mono gg.tups,Paired.mapP hcs' fun _ _ h=>h.mono g'.tups⟩⟩
 refine Zbj rfl rfl ha2 rfl ?_
 refine(Z7 rfl (W5 ha2 rfl ⟨_,_,rfl,rfl,?_⟩))
 refine(Z7 rfl (Z7 rfl (?_)))
 cases hG:Ws hi x.1 with
 |true =>
  rw[hG,if_pos rfl]at Yn
  refine Zj rfl (Z7 rfl (Z7 rfl (?_)))
  by_cases hlo:lo<=x.1
  ·rw[if_pos hlo]at Yn
   refine Zj (decide_eq_true hlo) ?_
   refine(W5 ha2 rfl ⟨rfl,?_⟩)
   refine(Z7 rfl ⟨m,C,dx,_,_,rfl,f2,MT.cl,MT.a7,Yt _,.inl ⟨rfl,_,SqL.of hv2⟩,Z7 rfl (Z7 rfl (?_))⟩)
   by_cases hl:how=.little
   ·subst hl
    refine Zj (show Z1f "little" "little" = true by decide +kernel) (Z7 rfl ⟨M.s.choices,vs,Z7 rfl ⟨rfl,hv2,Z7v (by omega),?_⟩⟩)
    obtain⟨hM3,g3⟩:=hM2.push (q:=(M.s.row,M.s.place,M.s.groups,.ref p1)) hv2 hvp2 t2'
    obtain⟨⟨dx3,f3⟩,_⟩:=id hM3
    refine(Z7 rfl ⟨m,dx3,Z7 rfl ⟨f3,Um _,Z7 rfl (Z7 rfl (Zj (show Z1f "little" "little" = true by decide +kernel) (Z7 rfl (?_))))⟩⟩)
    exact goS _ _ _ hM3 (g3.mono (by simp)) ((Paired.mapP hA2.cs fun _ _ h=>h.mono g3.tups).snoc ⟨hA.row,hA.pl,hA2.gs.mono g3.tups,hHl.mono g3.tups⟩) Yn
   ·have hn':¬Z1f how.text "little" = true:=by
     cases how with
     |little=>exact absurd rfl hl
     |much=>decide +kernel
     |keep=>decide +kernel
    have hact':(Op.turn lo hi how z).act M.s.text c=.run ⟨c.r,c.i,c.g,(x.1,c.i)::r,c.cs++[(z,c.i,c.g,r)]⟩:=by
     cases how with
     |little=>exact absurd rfl hl
     |much=>exact Yn
     |keep=>exact Yn
    refine Zb hn' (Z7 rfl ⟨M.s.choices,vs,Z7 rfl ⟨rfl,hv2,Z7v (by omega),?_⟩⟩)
    obtain⟨hM3,g3⟩:=hM2.push (q:=((z:Int),M.s.place,M.s.groups,v')) hv2 hvp2 t3
    obtain⟨⟨dx3,f3⟩,_⟩:=id hM3
    refine(Z7 rfl ⟨m,dx3,Z7 rfl ⟨f3,Um _,Z7 rfl (Z7 rfl (Zb hn' (Z7 rfl (?_))))⟩⟩)
    exact goG _ _ _ hM3 (g3.mono (by simp)) ((Paired.mapP hA2.cs fun _ _ h=>h.mono g3.tups).snoc ⟨rfl,hA.pl,hA2.gs.mono g3.tups,(hl'.mono g12.tups).mono g3.tups⟩) hact'
  ·rw[if_neg hlo]at Yn
   refine Zb (fun z=>hlo (of_decide_eq_true z)) (Z7 rfl (Z7 rfl (Zj rfl ?_)))
   exact(Z7 rfl ⟨m,dx,Z7 rfl ⟨f2,Um _,Z7 rfl (goG H2 M.cs c.cs hM2 Gro.refl hA2.cs Yn)⟩⟩)
 |false =>
  rw[hG,if_neg (by decide)]at Yn
  refine Zb (by decide) (Zb (by decide) (Z7 rfl (Z7 rfl (Zb (by decide) (Z7 rfl (Z7 rfl (?_)))))))
  by_cases hlo:lo<=x.1
  ·rw[if_pos hlo]at Yn
   refine Zj (decide_eq_true hlo) ?_
   exact(Z7 rfl ⟨m,dx,Z7 rfl ⟨f2,Um _,Z7 rfl (goS H2 M.cs c.cs hM2 Gro.refl hA2.cs Yn)⟩⟩)
  ·rw[if_neg hlo]at Yn
   refine Zb (fun z=>hlo (of_decide_eq_true z)) (Z7 rfl ⟨m,dx,Z7 rfl ⟨f2,Ys _,m,M,rfl,hM2,by omega,fun H' hM' g'=>?_⟩⟩)
   have bf:=Yu M
   exact q H' _ hM' (by rw[Yn];exact hA2.back.mono g'.tups) bf.1 bf.2 ((g12.mono (by simp)).trans g')
end
theorem Zar{H:Hp}{a:Addr}{o:Op}(h:RowAt H (.ref a) o.rw):∃r,H a=some (.tup (.str o.word::r)):=by
 cases o with
 |pat hd =>
  obtain⟨a',kv,e',l,_⟩:=h
  cases e'
  exact l.head
 |_=>obtain⟨a',e',h⟩:=h;cases e';exact⟨_,h⟩
def Cf.csl:Cf->Nat
 |.run c=>c.cs.length
 |.ended=>0
theorem Zco(cs:List Ch):(bk cs).csl<=cs.length:=by
 unfold bk
 split
 ·exact Nat.zero_le _
 ·show cs.dropLast.length<=_
  rw[List.length_dropLast]
  omega
theorem Zf0(t:Str)(o:Op)(c:Cg):(o.act t c).csl<=c.cs.length+1:=by
 have b:=Zco c.cs
 have one:∀q:Ch,(c.cs++[q]).length<=c.cs.length+1:=fun q=>by rw[List.length_append];exact Nat.le_refl _
 have tk:∀k,(c.cs.take k).length<=c.cs.length+1:=fun k=>by rw[List.length_take];omega
 cases o with
 |pat h =>
  cases h with
  |beg=>simp only[Op.act];split <;> first | exact Nat.le_succ _ | omega
  |fin=>simp only[Op.act];split <;> first | exact Nat.le_succ _ | omega
  |again k =>
   simp only[Op.act]
   split
   ·omega
   ·split <;> first | exact Nat.le_succ _ | omega
  |_=>simp only[Op.act];split <;> first | exact Nat.le_succ _ | omega
 |try_ z=>exact one _
 |go z=>exact Nat.le_succ _
 |have_ k z=>simp only[Op.act];split <;> exact Nat.le_succ _
 |turns=>exact Nat.le_succ _
 |open_=>exact Nat.le_succ _
 |close k=>simp only[Op.act];split <;> first | exact Nat.zero_le _ | exact Nat.le_succ _
 |turn lo hi how z =>
  simp only[Op.act]
  split
  ·exact Nat.zero_le _
  ·split
   ·split
    ·split <;> exact one _
    ·exact Nat.le_succ _
   ·split
    ·exact Nat.le_succ _
    ·omega
 |next lo z =>
  simp only[Op.act]
  split
  ·exact Nat.zero_le _
  ·split
   ·omega
   ·exact Nat.le_succ _
 |once=>exact Nat.le_succ _
 |kept=>simp only[Op.act];split <;> first | exact Nat.zero_le _ | exact tk _
 |peeked=>simp only[Op.act];split <;> first | exact Nat.zero_le _ | exact tk _
 |bar z=>exact one _
 |barred =>
  simp only[Op.act]
  split
  ·exact Nat.zero_le _
  ·rename_i p _ _
   have h1:=Zco (c.cs.take p.1)
   have h2:=tk p.1
   omega
 |lean=>simp only[Op.act];split <;> first | exact one _ | exact Nat.le_succ _
 |here =>
  simp only[Op.act]
  split
  ·exact Nat.zero_le _
  ·split
   ·exact Nat.le_succ _
   ·omega
 |found=>exact Nat.le_succ _
theorem Tf(es:List Op)(t:Str)(M:Cf):∀k,(run es t k M).csl<=M.csl+k
 |0=>Nat.le_refl _
 |k+1=>by
  have ih:=Tf es t M k
  show(step es t (run es t k M)).csl<=_
  cases h:run es t k M with
  |ended=>exact Nat.zero_le _
  |run c =>
   rw[h]at ih
   have:=Zf0 t (es.getD c.r .found) { c with r:=c.r+1 }
   show((es.getD c.r .found).act t { c with r:=c.r+1 }).csl<=_
   have ih':c.cs.length<=M.csl+k:=ih
   have th':_<=c.cs.length+1:=this
   omega
section
variable{P:Program}{w:World}{K:W.Frag}{mg:Str->Option Value}{base:Heap}{C:Addr}
theorem Z0t{o:Op}{row:Hp->Addr->Prop}{go:MM->MM}(hrow:∀H a,RowAt H (.ref a) o.rw->row H a)(hgo:∀(H:Hp) (ra ch:Addr) (t:Str) (n:Nat) (M:MM) (c:Cg),Ab H ra t ch M c->AbF H ra t ch (go M) (o.act t c)/\(go M).s.made=M.s.made/\(go M).s.found=o.fd M.s.found) :
  ∀vs H Q E,Tp C o vs H Q E->Z2i C Zab row go vs H Q E:=by
 rintro vs H Q E ⟨m,a,ra,ch,t,n,M,c,rfl,hM,hA,hr,ht,hci,hg,hn,Xe,hcs,q⟩
 have hl:=hA.cslen
 refine⟨m,a,M,rfl,hM,by omega,⟨by rw[hA.pl];omega,by rw[hA.text];exact ht⟩,hrow H a hr,fun H' hM' g'=>?_⟩
 obtain⟨h1,h2,h3⟩:=hgo H ra ch t n M c hA
 have g'':Gro [m,ch] H H':=by rw[← hA.chs];exact g'
 exact q H' _ hM' (h1.mono g'.tups) h2 h3 g''
theorem Zf1{h:Hd}(h1:h.one=true)(H:Hp)(ra ch:Addr)(t:Str)(n:Nat)(M:MM)(c:Cg)(hA:Ab H ra t ch M c):AbF H ra t ch (MM.doSign h M) ((Op.pat h).act t c)/\(MM.doSign h M).s.made=M.s.made/\(MM.doSign h M).s.found=(Op.pat h).fd M.s.found:=by
 have Yn:(Op.pat h).act t c=if Zl h t c.i=true then .run { c with i:=c.i+1 } else bk c.cs:=by
  cases h <;> first | rfl | cases h1
 have b:=Yu M
 unfold MM.doSign
 rw[Yn,hA.text,hA.pl]
 split
 ·exact⟨⟨hA.rows,hA.text,hA.chs,hA.en,hA.row,by show(c.i:Int)+1=((c.i+1:Nat):Int);omega,hA.gs,hA.hl,hA.cs⟩,rfl,rfl⟩
 ·exact⟨hA.back,b.1,b.2⟩
theorem Zho(H:Hp)(ra ch:Addr)(t:Str)(n:Nat)(M:MM)(c:Cg)(hA:Ab H ra t ch M c):AbF H ra t ch (MM.doBegin M) ((Op.pat .beg).act t c)/\(MM.doBegin M).s.made=M.s.made/\(MM.doBegin M).s.found=(Op.pat .beg).fd M.s.found:=by
 have b:=Yu M
 have Yn:(Op.pat .beg).act t c=if c.i=0 then .run c else bk c.cs:=rfl
 have hp:=hA.pl
 unfold MM.doBegin
 rw[Yn]
 by_cases e:c.i=0
 ·rw[if_pos e,if_pos (by omega)]
  exact⟨hA,rfl,rfl⟩
 ·rw[if_neg e,if_neg (by omega)]
  exact⟨hA.back,b.1,b.2⟩
theorem Zhn(H:Hp)(ra ch:Addr)(t:Str)(n:Nat)(M:MM)(c:Cg)(hA:Ab H ra t ch M c):AbF H ra t ch (MM.doEnd M) ((Op.pat .fin).act t c)/\(MM.doEnd M).s.made=M.s.made/\(MM.doEnd M).s.found=(Op.pat .fin).fd M.s.found:=by
 have b:=Yu M
 have Yn:(Op.pat .fin).act t c=if c.i=t.length then .run c else bk c.cs:=rfl
 have hp:=hA.pl
 unfold MM.doEnd
 rw[Yn,hA.text]
 by_cases e:c.i=t.length
 ·rw[if_pos e,if_pos (by omega)]
  exact⟨hA,rfl,rfl⟩
 ·rw[if_neg e,if_neg (by omega)]
  exact⟨hA.back,b.1,b.2⟩
structure DoesA(P:Program)(w:World)(K:W.Frag)(mg:Str->Option Value)(base:Heap)(kk:Nat)(ds:List (Us×V))(C:Addr):Prop where
 all:∀o:Op,o.ok->Tells P w K mg base kk ds o.word (Tp C o)
def AM(H:Hp)(ra:Addr)(t:Str)(ch:Addr)(M:MM)(cf:Cf):Prop:=(M.s.found=false/\AbF H ra t ch M cf)∨(M.s.found=true/\∃c,Ab H ra t ch M c/\cf=bk c.cs)
theorem AM.fresh{H:Hp}{ra:Addr}{t:Str}{ch:Addr}{M:MM}{cf:Cf}(h:AM H ra t ch M cf):AbF H ra t ch M.fresh cf/\M.fresh.s.found=false/\M.fresh.s.made=M.s.made/\M.s.choices=ch:=by
 unfold MM.fresh
 rcases h with⟨h1,h2⟩ | ⟨h1,c,h2,rfl⟩
 ·rw[if_neg (by rw[h1];decide)]
  refine⟨h2,h1,rfl,?_⟩
  cases cf with
  |run c=>exact Ab.chs h2
  |ended=>exact AbE.chs h2
 ·rw[if_pos h1]
  have h3:Ab H ra t ch ⟨{ M.s with found:=false },M.cs⟩ c:=⟨h2.rows,h2.text,h2.chs,h2.en,h2.row,h2.pl,h2.gs,h2.hl,h2.cs⟩
  have b:=Yu ⟨{ M.s with found:=false },M.cs⟩
  exact⟨h3.back,b.2,b.1,h2.chs⟩
end
structure MachDefsA(K:W.Frag)(mg:Str->Option Value)(C:Addr):Prop where
 base_:MachDefs K mg C
 hold:MDef K C "hold" "Machine.hold" W0 ["self","number"]
 let_go:MDef K C "let_go" "Machine.let_go" X9 ["self"]
 drop:MDef K C "drop_choices" "Machine.drop_choices" Yj ["self","size"]
 entry:MDef K C "entry" "Machine.entry" Xn ["self","number"]
structure DoingsA(K:W.Frag)(ds:List (Us×V)):Prop where
 sign:Dn K ds "sign" "do_sign" Yy ["machine","row"]
 any:Dn K ds "any" "do_sign" Yy ["machine","row"]
 inn:Dn K ds "in" "do_sign" Yy ["machine","row"]
 out:Dn K ds "out" "do_sign" Yy ["machine","row"]
 beg:Dn K ds "begin" "do_begin" U2 ["machine","row"]
 fin:Dn K ds "end" "do_end" Je ["machine","row"]
 again:Dn K ds "again" "do_again" U3 ["machine","row"]
 try_:Dn K ds "try" "do_try" Jd ["machine","row"]
 go:Dn K ds "go" "do_go" Z16 ["machine","row"]
 have_:Dn K ds "have" "do_have" T2 ["machine","row"]
 turns:Dn K ds "turns" "do_hold" V4 ["machine","row"]
 open_:Dn K ds "open" "do_hold" V4 ["machine","row"]
 close:Dn K ds "close" "do_close" U1 ["machine","row"]
 turn:Dn K ds "turn" "do_turn" Uw ["machine","row"]
 next:Dn K ds "next" "do_next" Uy ["machine","row"]
 once:Dn K ds "once" "do_once" Ux ["machine","row"]
 kept:Dn K ds "kept" "do_kept" T0 ["machine","row"]
 peeked:Dn K ds "peeked" "do_peeked" Vg ["machine","row"]
 bar:Dn K ds "bar" "do_bar" Jf ["machine","row"]
 barred:Dn K ds "barred" "do_barred" Vh ["machine","row"]
 lean:Dn K ds "lean" "do_lean" Uz ["machine","row"]
 here:Dn K ds "here" "do_here" T1 ["machine","row"]
 found:Dn K ds "found" "do_found" U0 ["machine","row"]
section
variable{P:Program}{w:World}{K:W.Frag}{mg:Str->Option Value}{base:Heap}{C f:Addr}{fd:FuncData}
theorem Zbs{ds:List (Us×V)}(T:Blt mg)(MA:MachDefsA K mg C)(DD:DoingsA K ds)(p1:Def K mg "takes_sign" Xc ["row","text","at"])(p2:Def K mg "lies_in" V2 ["runs","sign"])(p3:Def K mg "with_entry" Xb ["groups","number","begin","end"]):DoesA P w K mg base 3 ds C:=by
 have MD:=MA.base_
 have li:Own P w K mg base 1 "lies_in" ["runs","sign"] Z7h:=p2.own fun _ _ F=>Z6r F
 have ta:Own P w K mg base 2 "takes_sign" ["row","text","at"] Z42:=p1.own fun _ _ F=>Z2o T li F
 have we:Own P w K mg base 1 "with_entry" ["groups","number","begin","end"] Z7c:=p3.own fun _ _ F=>Ze2 F
 have en:OwnM P w K mg base 1 C "enter" ["self","state"] (U8 C):=MD.enter.own fun _ _ F=>Z5o MD.tx F
 have gb:OwnM P w K mg base 2 C "go_back" ["self"] (Wi C):=MD.go_back.own fun _ _ F=>Z1n T MD.tx en F
 have ho:OwnM P w K mg base 1 C "hold" ["self","number"] (Jk C):=MA.hold.own fun _ _ F=>Ze9 MD.tx F
 have lg:OwnM P w K mg base 1 C "let_go" ["self"] (Tu C):=MA.let_go.own fun _ _ F=>Z9q MD.tx F
 have dr:OwnM P w K mg base 1 C "drop_choices" ["self","size"] (Jl C):=MA.drop.own fun _ _ F=>Zed T MD.tx F
 have et:OwnM P w K mg base 1 C "entry" ["self","number"] (Z4q C):=MA.entry.own fun _ _ F=>Zb9 T MD.tx F
 have sg:∀h:Hd,h.one=true->∀f fd,Fun K "do_sign" "do_sign" Yy f fd->FnOk P w K mg base Wq 3 f fd ["machine","row"] (Tp C (.pat h)):=fun h h1 f fd F =>
  (Z6t (P:=P) (w:=w) (base:=base) h1 MD.tx ta gb F).imp (Z0t (fun _ _ h=>h) (Zf1 h1))
 refine⟨fun o hok=>?_⟩
 cases o with
 |pat h =>
  cases h with
  |sign x=>exact DD.sign.tells (sg (.sign x) rfl)
  |any=>exact DD.any.tells (sg .any rfl)
  |inn x=>exact DD.inn.tells (sg (.inn x) rfl)
  |out x=>exact DD.out.tells (sg (.out x) rfl)
  |beg=>exact DD.beg.tells fun _ _ F=>(Z56 MD.tx gb F).imp (Z0t (fun _ _ h=>h) Zho)
  |fin=>exact DD.fin.tells fun _ _ F=>(Z9s T MD.tx gb F).imp (Z0t (fun _ _ h=>h) Zhn)
  |again k=>exact DD.again.tells fun _ _ F=>Z57 MD.tx gb et F
  |_=>cases hok
 |try_ z=>exact DD.try_.tells fun _ _ F=>((Z9r (z:=(z:Int)) MD.tx F).mono (by decide)).imp (Z0t (fun _ _ h=>h) fun H ra ch t n M c hA=>⟨⟨hA.rows,hA.text,hA.chs,hA.en,hA.row,hA.pl,hA.gs,hA.hl,hA.cs.snoc ⟨rfl,hA.pl,hA.gs,hA.hl⟩⟩,rfl,rfl⟩)
 |go z=>exact DD.go.tells fun _ _ F=>((Zba (z:=(z:Int)) MD.tx F).mono (by decide)).imp (Z0t (fun _ _ h=>h) fun H ra ch t n M c hA=>⟨⟨hA.rows,hA.text,hA.chs,hA.en,rfl,hA.pl,hA.gs,hA.hl,hA.cs⟩,rfl,rfl⟩)
 |have_ k z=>exact DD.have_.tells fun _ _ F=>(Z6z MD.tx et F).mono (by decide)
 |turns=>exact DD.turns.tells fun _ _ F=>(Z1o (.inl rfl) MD.tx ho F).mono (by decide)
 |open_=>exact DD.open_.tells fun _ _ F=>(Z1o (.inr rfl) MD.tx ho F).mono (by decide)
 |close k=>exact DD.close.tells fun _ _ F=>(Z55 MD.tx lg we F).mono (by decide)
 |turn lo hi how z=>exact DD.turn.tells fun _ _ F=>Z6s MD.tx en gb F
 |next lo z=>exact DD.next.tells fun _ _ F=>Z6v MD.tx lg gb F
 |once=>exact DD.once.tells fun _ _ F=>(Z6u T MD.tx ho F).mono (by decide)
 |kept=>exact DD.kept.tells fun _ _ F=>(Z6x MD.tx lg dr F).mono (by decide)
 |peeked=>exact DD.peeked.tells fun _ _ F=>(Z3u MD.tx lg dr F).mono (by decide)
 |bar z=>exact DD.bar.tells fun _ _ F=>(Z9t T MD.tx ho F).mono (by decide)
 |barred=>exact DD.barred.tells fun _ _ F=>Z3v MD.tx lg dr gb F
 |lean=>exact DD.lean.tells fun _ _ F=>(Z6w MD.tx F).mono (by decide)
 |here=>exact DD.here.tells fun _ _ F=>Z6y MD.tx gb F
 |found =>
  refine DD.found.tells fun _ _ F=>((Z54 MD.tx F).mono (by decide)).imp fun vs H Q E h=>?_
  obtain⟨m,a,M,rfl,hM,hz,_,⟨a',e',ha⟩,q⟩:=Z0t (C:=C) (o:=.found) (row:=fun H a=>RowAt H (.ref a) (Op.rw .found)) (go:=MM.doFound) (fun _ _ h=>h) (fun H ra ch t n M c hA=>⟨⟨hA.rows,hA.text,hA.chs,hA.en,hA.row,hA.pl,hA.gs,hA.hl,hA.cs⟩,rfl,rfl⟩) vs H Q E h
  cases e'
  exact⟨m,a,M,rfl,hM,hz,trivial,ha,q⟩
def Zjk(C:Addr)(Q:VK)(H:Hp)(m ra ch:Addr)(t:Str)(n:Nat)(es:List Op)(most:Int)(cf:Cf)(made:Int):Prop :=
 (∃(k:Nat) (c:Cg),Rc es t n cf k (.run c)/\es[c.r]? = some .found/\c.i<=t.length/\GOk t n c.g/\(k:Int)<most/\cf.csl+k<=999999 /\
  ∀(H':Hp) (tt:Addr) (gv:V) (M':MM),MAt C H' m M'->AM H' ra t ch M' (bk c.cs)->M'.cs.length=c.cs.length->M'.s.made=made+k+1->H' tt=some (.tup [.str "way",.int c.i,gv])->GsAt H' gv c.g->Gro [m,ch] H H'->Q (.ref tt) H') ∨
 (∃k:Nat,Rc es t n cf k .ended/\(k:Int)<=most/\cf.csl+k<=999999 /\
  ∀(H':Hp) (tt:Addr) (M':MM),MAt C H' m M'->AM H' ra t ch M' .ended->M'.cs.length=0->M'.s.made=made+k->H' tt=some (.tup [.str "none"])->Gro [m,ch] H H'->Q (.ref tt) H') ∨
 (∃(k:Nat) (c:Cg),Rc es t n cf k (.run c)/\(k:Int)=most/\cf.csl+k<=999999 /\
  ∀(H':Hp) (tt:Addr) (M':MM),MAt C H' m M'->AM H' ra t ch M' (.run c)->M'.cs.length=c.cs.length->M'.s.made=made+k->H' tt=some (.tup [.str "over"])->Gro [m,ch] H H'->Q (.ref tt) H')
inductive spWayCI(C:Addr)(vs:List V)(H:Hp)(Q:VK):Prop
 |mk (m ra ch:Addr) (most:Int) (t:Str) (n:Nat) (es:List Op) (ys:List V) (M:MM) (cf:Cf) (_:vs=[.ref m,.int most]) (_:1<=most) (_:MAt C H m M) (_:AM H ra t ch M cf) (_:M.cs.length<=1000000) (_:H ra=some (.tup ys)) (_:Paired (RowAt H) ys (es.map Op.rw)) (_:(∀o∈es,o.ok)) (_:t.length<=1000) (_:n<=900) (_:Zjk C Q H m ra ch t n es most cf M.s.made)
def Z4p(C:Addr):Sp:=fun vs H Q _=>spWayCI C vs H Q
theorem Zie{kk:Nat}{ds:List (Us×V)}(D:DoesA P w K mg base kk ds C):∀vs H Q E,Z4p C vs H Q E->Zff P w K mg base kk ds C vs H Q E:=by
 rintro vs H Q E ⟨m,ra,ch,most,t,n,es,ys,M,cf,rfl,h1,hM,hAM,hz,hra,hp,hok,ht,hn,hw⟩
 obtain⟨hF,hff,hfm,hch⟩:=hAM.fresh
 subst hch
 have mv:∀(j:Nat) (M':MM) (H':Hp) (c:Cg) (o:Op),es[c.r]? = some o->MAt C H' m M'->Ab H' ra t M.s.choices M' c->c.i<=t.length->GOk t n c.g->(o.need n { c with r:=c.r+1 }∨o=.found)->c.cs.length<=1000000->Gro [m,M.s.choices] H H'->∀Q':VK,
   (∀(H2:Hp) (M2:MM),MAt C H2 m M2->AbF H2 ra t M.s.choices M2 (o.act t { c with r:=c.r+1 })->M2.s.made=M'.s.made+1->M2.s.found=o.fd M'.s.found->Gro [m,M.s.choices] H H2->Q' .non H2)->Z24 P w K mg base kk ds C [.ref m] H' Q' E0:=by
  intro j M' H' c o ho hM' hA' hi hg Xe hcs g Q' hQ
  have hge:(es.map Op.rw)[c.r]? = some o.rw:=by rw[List.getElem?_map,ho];rfl
  obtain⟨v,hv,hrow⟩:=Z0i hp hge
  have hrow':=hrow.mono g.tups
  obtain⟨a,rfl⟩:=Z9j hrow
  obtain⟨r,ha⟩:=Zar hrow'
  have hat:Z6e ys M'.s.row=some (.ref a):=by rw[hA'.row];exact Wm hv
  refine⟨m,ra,a,ys,_,r,M',Tp C o,rfl,hM',hA'.rows,g.tups _ _ hra,hat,ha,D.all o (hok o (List.mem_of_getElem? ho)),fun H1 hM1 g1=>?_⟩
  have hA1:=hA'.mono g1.tups
  refine⟨m,a,ra,M.s.choices,t,n,M'.next,{ c with r:=c.r+1 },rfl,hM1,⟨hA1.rows,hA1.text,hA1.chs,hA1.en,by show M'.s.row+1=((c.r+1:Nat):Int);rw[hA'.row];omega,hA1.pl,hA1.gs,hA1.hl,hA1.cs⟩,hrow'.mono g1.tups,ht,hi,hg,hn,Xe,⟨hcs,Nat.le_add_left 1 _⟩,fun H2 M2 hM2 hA2 hm2 hf2 g2=>?_⟩
  exact hQ H2 M2 hM2 hA2 hm2 hf2 (g.trans ((g1.mono (by simp)).trans g2))
 have getD_of:∀(r:Nat),r<es.length->es[r]? = some (es.getD r .found):=fun r h=>by rw[List.getD_eq_getElem?_getD,List.getElem?_eq_getElem h];rfl
 have noF:∀(o:Op) (c:Cg),o.need n c->∀b,o.fd b=b:=fun o c h b=>by cases o <;> first | rfl | exact h.elim
 rcases hw with⟨k,c0,rc,hfd,hi0,hg0,hkm,hcsb,fin⟩ | ⟨k,rc,hkm,hcsb,fin⟩ | ⟨k,c0,rc,hkm,hcsb,fin⟩
 ·refine⟨m,most,M,fun j M' H'=>j<=k/\MAt C H' m M'/\AbF H' ra t M.s.choices M' (run es t j cf)/\M'.s.made=M.s.made+j/\M'.s.found=false/\Gro [m,M.s.choices] H H',rfl,hM,h1,hz,⟨?_,?_,?_,?_,?_⟩⟩
  ·exact fun H' hM' g=>⟨Nat.zero_le _,hM',hF.mono g.tups,by rw[hfm];simp,hff,g⟩
  ·rintro j M' H' ⟨hj,hM',_,hm,hf,_⟩
   exact⟨hM',hm,hf,by omega⟩
  ·rintro j M' H' ⟨hj,hM',hA',hm,hf,g⟩ he
   exfalso
   have:∃c,run es t j cf=.run c:=by
    by_cases hlt:j<k
    ·obtain⟨c,h,_⟩:=rc.live j hlt
     exact⟨c,h⟩
    ·rw[show j=k by omega]
     exact⟨c0,rc.eq⟩
   obtain⟨c,h⟩:=this
   rw[h]at hA'
   have:=Ab.en hA'
   rw[he]at this
   cases this
  ·rintro j M' H' ⟨hj,_⟩ _ hjm
   omega
  ·rintro j M' H' ⟨hj,hM',hA',hm,hf,g⟩ he hjm Q' hQ
   have hcl:=Tf es t cf j
   by_cases hlt:j<k
   ·obtain⟨c,h,lv⟩:=rc.live j hlt
    rw[h]at hA' hcl
    have ho:=getD_of c.r lv.r
    have hcl':c.cs.length<=cf.csl+j:=hcl
    refine mv j M' H' c _ ho hM' hA' lv.i lv.g (.inl lv.op) (by omega) g Q' fun H2 M2 hM2 hA2 hm2 hf2 g2=>hQ _ H2 M2 hM2 (.inr ⟨?_,by omega,hM2,?_,by rw[hm2,hm];omega,?_,g2⟩)
    ·rw[hf2,noF _ _ lv.op,hf]
    ·show AbF H2 ra t M.s.choices M2 (step es t (run es t j cf))
     rw[h]
     exact hA2
    ·rw[hf2,noF _ _ lv.op,hf]
   ·have hjk:j=k:=by omega
    subst hjk
    rw[rc.eq]at hA' hcl
    have hcl':c0.cs.length<=cf.csl+j:=hcl
    refine mv j M' H' c0 _ hfd hM' hA' hi0 hg0 (.inr rfl) (by omega) g Q' fun H2 M2 hM2 hA2 hm2 hf2 g2=>hQ _ H2 M2 hM2 (.inl ⟨hf2,fun tt htt=>?_⟩)
    have hA3:Ab H2 ra t M.s.choices M2 { c0 with r:=c0.r+1 }:=hA2
    have g3:=Gro.new (S:=[]) htt (.tup [.str "way",.int M2.s.place,M2.s.groups])
    have hA4:=hA3.mono g3.tups
    exact fin _ tt M2.s.groups M2 (hM2.new htt) (.inr ⟨hf2,_,hA4,rfl⟩) hA4.cslen (by omega) (by rw[Z3,hA3.pl]) hA4.gs (g2.trans (g3.mono (by simp)))
 ·refine⟨m,most,M,fun j M' H'=>j<=k/\MAt C H' m M'/\AbF H' ra t M.s.choices M' (run es t j cf)/\M'.s.made=M.s.made+j/\M'.s.found=false/\Gro [m,M.s.choices] H H',rfl,hM,h1,hz,⟨?_,?_,?_,?_,?_⟩⟩
  ·exact fun H' hM' g=>⟨Nat.zero_le _,hM',hF.mono g.tups,by rw[hfm];simp,hff,g⟩
  ·rintro j M' H' ⟨hj,hM',_,hm,hf,_⟩
   exact⟨hM',hm,hf,by omega⟩
  ·rintro j M' H' ⟨hj,hM',hA',hm,hf,g⟩ he tt htt
   have hjk:j=k:=by
    by_cases hlt:j<k
    ·obtain⟨c,h,_⟩:=rc.live j hlt
     rw[h]at hA'
     have:=Ab.en hA'
     rw[he]at this
     cases this
    ·omega
   subst hjk
   rw[rc.eq]at hA'
   have g3:=Gro.new (S:=[]) htt (.tup [.str "none"])
   have hE:AbE ra t M.s.choices M':=hA'
   exact fin _ tt M' (hM'.new htt) (.inl ⟨hf,hE⟩) (by rw[hE.cs];rfl) hm Z3 (g.trans (g3.mono (by simp)))
  ·rintro j M' H' ⟨hj,hM',hA',hm,hf,g⟩ he hjm
   exfalso
   have hjk:j=k:=by omega
   subst hjk
   rw[rc.eq]at hA'
   have hE:AbE ra t M.s.choices M':=hA'
   rw[hE.en]at he
   cases he
  ·rintro j M' H' ⟨hj,hM',hA',hm,hf,g⟩ he hjm Q' hQ
   have hcl:=Tf es t cf j
   have hlt:j<k:=by
    by_cases hlt:j<k
    ·exact hlt
    ·exfalso
     have hjk:j=k:=by omega
     subst hjk
     rw[rc.eq]at hA'
     have hE:AbE ra t M.s.choices M':=hA'
     rw[hE.en]at he
     cases he
   obtain⟨c,h,lv⟩:=rc.live j hlt
   rw[h]at hA' hcl
   have ho:=getD_of c.r lv.r
   have hcl':c.cs.length<=cf.csl+j:=hcl
   refine mv j M' H' c _ ho hM' hA' lv.i lv.g (.inl lv.op) (by omega) g Q' fun H2 M2 hM2 hA2 hm2 hf2 g2=>hQ _ H2 M2 hM2 (.inr ⟨?_,by omega,hM2,?_,by rw[hm2,hm];omega,?_,g2⟩)
   ·rw[hf2,noF _ _ lv.op,hf]
   ·show AbF H2 ra t M.s.choices M2 (step es t (run es t j cf))
    rw[h]
    exact hA2
   ·rw[hf2,noF _ _ lv.op,hf]
 ·have lives:∀j,j<=k->∃c,run es t j cf=.run c:=fun j hj=>by
   by_cases hlt:j<k
   ·obtain⟨c,h,_⟩:=rc.live j hlt
    exact⟨c,h⟩
   ·rw[show j=k by omega]
    exact⟨c0,rc.eq⟩
  refine⟨m,most,M,fun j M' H'=>j<=k/\MAt C H' m M'/\AbF H' ra t M.s.choices M' (run es t j cf)/\M'.s.made=M.s.made+j/\M'.s.found=false/\Gro [m,M.s.choices] H H',rfl,hM,h1,hz,⟨?_,?_,?_,?_,?_⟩⟩
  ·exact fun H' hM' g=>⟨Nat.zero_le _,hM',hF.mono g.tups,by rw[hfm];simp,hff,g⟩
  ·rintro j M' H' ⟨hj,hM',_,hm,hf,_⟩
   exact⟨hM',hm,hf,by omega⟩
  ·rintro j M' H' ⟨hj,hM',hA',hm,hf,g⟩ he
   exfalso
   obtain⟨c,h⟩:=lives j hj
   rw[h]at hA'
   have:=Ab.en hA'
   rw[he]at this
   cases this
  ·rintro j M' H' ⟨hj,hM',hA',hm,hf,g⟩ he hjm tt htt
   have hjk:j=k:=by omega
   subst hjk
   rw[rc.eq]at hA'
   have hA3:Ab H' ra t M.s.choices M' c0:=hA'
   have g3:=Gro.new (S:=[]) htt (.tup [.str "over"])
   exact fin _ tt M' (hM'.new htt) (.inl ⟨hf,hA3.mono g3.tups⟩) hA3.cslen hm Z3 (g.trans (g3.mono (by simp)))
  ·rintro j M' H' ⟨hj,hM',hA',hm,hf,g⟩ he hjm Q' hQ
   have hcl:=Tf es t cf j
   have hlt:j<k:=by omega
   obtain⟨c,h,lv⟩:=rc.live j hlt
   rw[h]at hA' hcl
   have ho:=getD_of c.r lv.r
   have hcl':c.cs.length<=cf.csl+j:=hcl
   refine mv j M' H' c _ ho hM' hA' lv.i lv.g (.inl lv.op) (by omega) g Q' fun H2 M2 hM2 hA2 hm2 hf2 g2=>hQ _ H2 M2 hM2 (.inr ⟨?_,by omega,hM2,?_,by rw[hm2,hm];omega,?_,g2⟩)
   ·rw[hf2,noF _ _ lv.op,hf]
   ·show AbF H2 ra t M.s.choices M2 (step es t (run es t j cf))
    rw[h]
    exact hA2
   ·rw[hf2,noF _ _ lv.op,hf]
theorem Zay{dn:Addr}{ds:List (Us×V)}(T:Blt mg)(MA:MachDefsA K mg C)(Uq:mg "DOINGS" = some (.ref dn))(hDN:Zf5 K w dn ds)(DD:DoingsA K ds)(p1:Def K mg "takes_sign" Xc ["row","text","at"])(p2:Def K mg "lies_in" V2 ["runs","sign"])(p3:Def K mg "with_entry" Xb ["groups","number","begin","end"]):OwnM P w K mg base 6 C "way" ["self","most"] (Z4p C):=by
 have MD:=MA.base_
 have en:OwnM P w K mg base 1 C "enter" ["self","state"] (U8 C):=MD.enter.own fun _ _ F=>Z5o MD.tx F
 have gb:OwnM P w K mg base 2 C "go_back" ["self"] (Wi C):=MD.go_back.own fun _ _ F=>Z1n T MD.tx en F
 have mv:OwnM P w K mg base (3+1) C "move" ["self"] (Z24 P w K mg base 3 ds C):=MD.move.own fun _ _ F=>Ze6 MD.tx Uq hDN F
 exact MD.way.own fun _ _ F=>(Zgz (kk:=3) MD.tx mv gb F).imp (Zie (Zbs T MA DD p1 p2 p3))
inductive spHoldI(vs:List V)(H:Hp)(Q:VK):Prop
 |mk (r:Addr) (xs:List V) (_:vs=[.ref r]) (_:H r=some (.lst xs)) (_:xs.length<=1000000) (_:∀(t:Addr) (H':Hp),H' r=some (.lst (xs++[.ref t]))->H' t=some (.tup [])->Gro [r] H H'->Q (.int xs.length) H')
def Z0n:Sp:=fun vs H Q _=>spHoldI vs H Q
def Zd2(Q:VK)(H:Hp)(r:Addr)(xs:List V)(rs:List Rw):Prop:=∀(ys:List V) (H':Hp),H' r=some (.lst (xs++ys))->Paired (RowAt H') ys rs->Gro [r] H H'->Q .non H'
inductive spPutI(n:Nat)(vs:List V)(H:Hp)(Q:VK):Prop
 |mk (r:Addr) (v:V) (xs:List V) (p:Pat) (_:vs=[.ref r,v]) (_:PatAt H n v p) (_:H r=some (.lst xs)) (_:xs.length+7*p.size<=1000000) (_:Zd2 Q H r xs (p.code xs.length))
def Z0y(n:Nat):Sp:=fun vs H Q _=>spPutI n vs H Q
inductive spPutOrI(n:Nat)(vs:List V)(H:Hp)(Q:VK):Prop
 |mk (r b:Addr) (xs kv:List V) (ks:List Pat) (_:vs=[.ref r,.ref b]) (_:H b=some (.tup kv)) (_:Paired (PatAt H n) kv ks) (_:1<=kv.length) (_:kv.length<=10) (_:H r=some (.lst xs)) (_:xs.length+7*(Yc ks+1)<=1000000) (_:Zd2 Q H r xs (Zhq (ks.map Pat.code) xs.length))
def Z81(n:Nat):Sp:=fun vs H Q _=>spPutOrI n vs H Q
def How.ext:How->Nat
 |.keep=>7 | _=>6
inductive spPutTimesI(ok:How->Prop)(n:Nat)(vs:List V)(H:Hp)(Q:VK):Prop
 |mk (r:Addr) (lo:Int) (hi:Option Int) (how:How) (v:V) (xs:List V) (p:Pat) (_:vs=[.ref r,.int lo,Zac hi,.str how.text,v]) (_:ok how) (_:PatAt H n v p) (_:H r=some (.lst xs)) (_:xs.length+7*p.size+how.ext<=1000000) (_:Zd2 Q H r xs (Tt lo hi how p.code xs.length))
def W7(ok:How->Prop)(n:Nat):Sp:=fun vs H Q _=>spPutTimesI ok n vs H Q
inductive spPutHaveI(n:Nat)(vs:List V)(H:Hp)(Q:VK):Prop
 |mk (r:Addr) (k:Int) (y z:V) (xs:List V) (p q:Pat) (_:vs=[.ref r,.int k,y,z]) (_:PatAt H n y p) (_:PatAt H n z q) (_:H r=some (.lst xs)) (_:xs.length+7*(p.size+q.size+1)<=1000000) (_:Zd2 Q H r xs (Z93 k p.code q.code xs.length))
def Z2y(n:Nat):Sp:=fun vs H Q _=>spPutHaveI n vs H Q
inductive spPutLookI(n:Nat)(vs:List V)(H:Hp)(Q:VK):Prop
 |mk (r:Addr) (lk:Lk) (v:V) (xs:List V) (p:Pat) (_:vs=[.ref r,.str lk.text,v]) (_:PatAt H n v p) (_:H r=some (.lst xs)) (_:xs.length+7*(p.size+1)<=1000000) (_:Zd2 Q H r xs (Ui lk p.code xs.length))
def Z2x(n:Nat):Sp:=fun vs H Q _=>spPutLookI n vs H Q
abbrev W2:Stmt:=top 6
theorem Z2n:FnScope ["rows"] ["rows"] (Z9 W2):=Vm
theorem Z2p(T:Blt mg)(F:Fun K "hold_place" "hold_place" W2 f fd):FnOk P w K mg base Wq 1 f fd ["rows"] Z0n:=by
 refine F.ok Z2n (fun vs H Q E h=>?_) (fun cdv A outer s H vs Q E hr h=>?_)
 ·obtain⟨r,xs,rfl,_⟩:=h
  rfl
 obtain⟨r,xs,rfl,hr0,hz,q⟩:=h
 refine Vj ?_
 intro Xz
 refine⟨_,(Z1 (Zf (Yr PySem.F.plainAttrs_list PySem.F.slot_list_append PySem.F.type_list_append Zw (pv 0) (Z0 (Zr Z2) Z2)))
  (Z5 (Zo (Yg Te (Zh Zv rfl T.b_len PyProof.Rows.Boot.«len» (Z0 (pv 0) Z2)) Z6)))),?_⟩
 refine Z28 ?_
 intro Ez Az1
 refine(Z7 rfl ⟨.inl ⟨rfl,_,SqL.of hr0⟩,sz,fun t ht=>⟨r,xs,Z7 rfl ⟨rfl,Xf hr0 ht,Z7v hz,?_⟩⟩⟩)
 refine(Z7 rfl ⟨r,Z7 rfl ⟨.inl (SqL.of Z3),Va rfl rfl (?_)⟩⟩)
 have e:((xs++[V.ref t]).length:Int)-1=xs.length:=by simp
 show Q (V.int (((xs++[V.ref t]).length:Int)-1)) _
 rw[e]
 exact q t _ Z3 (W3 hr0 ht) (W4 hr0 ht)
abbrev Wg:Stmt:=top 8
theorem sc_put_times:FnScope ["rows","low","high","how","part","turn"] ["rows","low","high","how","part"] (Z9 Wg):=Vm
theorem J5{n k:Nat}{ok ok':How->Prop}(hk:∀how,ok how->how=.keep->ok' .much)(T:Blt mg)(O_hold_place:Own P w K mg base 1 "hold_place" ["rows"] Z0n)(O_put:Own P w K mg base (2+k) "put" ["rows","pattern"] (Z0y n))(O_put_times:Own P w K mg base (2+k) "put_times" ["rows","low","high","how","part"] (W7 ok' n))
  (F:Fun K "put_times" "put_times" Wg f fd):FnOk P w K mg base Wq (2+k+1) f fd ["rows","low","high","how","part"] (W7 ok n):=by
 refine F.ok sc_put_times (fun vs H Q E h=>?_) (fun cdv A outer s H vs Q E hr h=>?_)
 ·obtain⟨r,lo,hi,how,v,xs,p,rfl,_⟩:=h
  rfl
 obtain⟨r,lo,hi,how,v,xs,p,rfl,hok,hp,hr0,hz,q⟩:=h
 refine Vj ?_
 intro Xz
 refine⟨_,(Z1 (Y0 (Ze Y4 (pv 3) Zk (Zi _)) (Z1 (Zf (Yr PySem.F.plainAttrs_list PySem.F.slot_list_append PySem.F.type_list_append Zw (pv 0) (Z0 (Zr (Z0 Zk Z2)) Z2)))
  (Z1 (Zf (Zz (O_put_times.mono (by omega)) hr rfl (Z0 (pv 0) (Z0 (pv 1) (Z0 (pv 2) (Z0 Zk (Z0 (pv 4) Z2)))))))
  (Z1 (Zf (Yr PySem.F.plainAttrs_list PySem.F.slot_list_append PySem.F.type_list_append Zw (pv 0) (Z0 (Zr (Z0 Zk Z2)) Z2)))
  (Z5 Z85)))) Zm)
  (Z1 (Zf (Yr PySem.F.plainAttrs_list PySem.F.slot_list_append PySem.F.type_list_append Zw (pv 0) (Z0 (Zr (Z0 Zk Z2)) Z2)))
  (Z1 (pS 5 sc_put_times.nd (Zz (O_hold_place.mono (by omega)) hr rfl (Z0 (pv 0) Z2)))
  (Z1 (Zf (Zz (O_put.mono (by omega)) hr rfl (Z0 (pv 0) (Z0 (pv 4) Z2))))
  (Z1 (Zf (Yr PySem.F.plainAttrs_list PySem.F.slot_list_append PySem.F.type_list_append Zw (pv 0) (Z0 (Zr (Z0 Zk (Z0 (pv 1) (Z0 (pv 5) Z2)))) Z2)))
  (Z5 (Uf (Zr (Z0 Zk (Z0 (pv 1) (Z0 (pv 2) (Z0 (pv 3) (Z0 (Zh Zv rfl T.b_len PyProof.Rows.Boot.«len» (Z0 (pv 0) Z2)) Z2)))))) (Ta (pv 0) (pv 5) Wn)))))))),?_⟩
 refine Zg0 ?_
 intro Ez Az1 Az2 Az3 Az4 Az5 Az6 Az7 Az8 Az9
 refine(Z7 rfl ⟨rfl,Z7 rfl (V8 (fun z=>?_) (fun z=>?_))⟩)
 ·have hk':how=.keep:=by
   cases how with
   |keep=>rfl
   |much=>exact absurd z (by decide +kernel)
   |little=>exact absurd z (by decide +kernel)
  subst hk'
  have hz:xs.length+7*p.size+7<=1000000:=hz
  refine(Z7 rfl ⟨.inl ⟨rfl,_,SqL.of hr0⟩,sz,fun t ht=>⟨r,xs,Z7 rfl ⟨rfl,Xf hr0 ht,Z7v (by omega),?_⟩⟩⟩)
  have g1:Gro [r] H _:=W4 (zs:=xs++[.ref t]) (o:=.tup [.str "once"]) hr0 ht
  have e1:(xs++[V.ref t]).length=xs.length+1:=by simp
  refine(Z7 rfl (Z7 rfl (Z7 rfl (Z7 rfl ⟨r,lo,hi,.much,v,xs++[.ref t],p,rfl,hk _ hok rfl,hp.mono g1.tups,Z3,by rw[e1];show _+6<=_;omega,fun ys H2 hr2 hp2 g2=>?_⟩))))
  rw[e1]at hp2
  have hl:=Paired.length hp2
  have hf:=Pat.code_fits p (xs.length+1+2)
  have hl2:(xs++[V.ref t]++ys).length<=1000000:=by
   rw[List.length_append,e1,hl]
   show _+(Z0w lo hi "much" p.code (xs.length+1)).length<=_
   rw[Ut]
   omega
  refine(Z7 rfl ⟨.inl ⟨rfl,_,SqL.of hr2⟩,sz,fun t2 ht2=>⟨r,Va rfl rfl ⟨Xf hr2 ht2,Z7v hl2,?_⟩⟩⟩)
  have g3:Gro [r] H2 _:=W4 (zs:=xs++[V.ref t]++ys++[V.ref t2]) (o:=.tup [.str "kept"]) hr2 ht2
  have et:H2 t=some (.tup [.str "once"]):=g2.tups _ _ (W3 hr0 ht)
  refine q (.ref t::(ys++[.ref t2])) _ (by simp[Z3]) ?_ ((g1.trans g2).trans g3)
  exact .cons ⟨t,rfl,g3.tups _ _ et⟩ (Zy (Y1 g3.tups hp2) (.cons ⟨t2,rfl,W3 hr2 ht2⟩ .nil))
 ·have hT:Tt lo hi how p.code=Z0w lo hi how.text p.code:=by
   cases how with
   |keep=>exact absurd (by decide +kernel) z
   |much=>rfl
   |little=>rfl
  rw[hT]at q
  have hz:xs.length+7*p.size+6<=1000000:=by
   cases how with
   |keep=>exact absurd (by decide +kernel) z
   |much=>exact hz
   |little=>exact hz
  have hf:=Pat.code_fits p (xs.length+2)
  refine(Z7 rfl ⟨.inl ⟨rfl,_,SqL.of hr0⟩,sz,fun t ht=>⟨r,xs,Z7 rfl ⟨rfl,Xf hr0 ht,Z7v (by omega),?_⟩⟩⟩)
  have g1:Gro [r] H _:=W4 (zs:=xs++[.ref t]) (o:=.tup [.str "turns"]) hr0 ht
  have e1:(xs++[V.ref t]).length=xs.length+1:=by simp
  refine(Z7 rfl ⟨r,_,rfl,Z3,by rw[e1];omega,fun t1 H2 hr2 ht1 g2=>?_⟩)
  have e2:(xs++[V.ref t]++[V.ref t1]).length=xs.length+2:=by simp
  have g12:=g1.trans g2
  refine(Z7 rfl (Z7 rfl ⟨r,v,_,p,rfl,hp.mono g12.tups,hr2,by rw[e2];omega,fun ys H3 hr3 hp3 g3=>?_⟩))
  rw[e2]at hp3
  have hl:=Paired.length hp3
  have hl2:(xs++[V.ref t]++[V.ref t1]++ys).length<=1000000:=by rw[List.length_append,e2,hl];omega
  refine(Z7 rfl ⟨.inl ⟨rfl,_,SqL.of hr3⟩,Z7 rfl (Z7 rfl ⟨sz,fun t2 ht2=>⟨r,Va rfl rfl ⟨Xf hr3 ht2,Z7v hl2,?_⟩⟩⟩)⟩)
  have g4:Gro [r] H3 _:=W4 (zs:=xs++[V.ref t]++[V.ref t1]++ys++[V.ref t2]) (o:=.tup [.str "next",.int lo,.int ((xs++[V.ref t]).length:Nat)]) hr3 ht2
  refine(Z7 rfl (Z7 rfl (Z7 rfl (Z7 rfl ⟨r,Z7 rfl ⟨.inl (SqL.of Z3),sz,fun t3 ht3=>?_⟩⟩))))
  refine(Z7 rfl (Z7 rfl ⟨r,_,_,xs.length+1,rfl,rfl,Xf Z3 ht3,by rw[e1];exact Ua (by simp),?_⟩))
  have g5:Gro [r] _ (Zq (Zq (Zq (Zq H3 t2 (.tup [.str "next",.int lo,.int ((xs++[V.ref t]).length:Nat)])) r (.lst (xs++[V.ref t]++[V.ref t1]++ys++[V.ref t2]))) t3 (.tup [.str "turn",.int lo,Zac hi,.str how.text,.int ((xs++[V.ref t]++[V.ref t1]++ys++[V.ref t2]).length:Nat)])) r (HO.lst ((xs++[V.ref t]++[V.ref t1]++ys++[V.ref t2]).set (xs.length+1) (V.ref t3)))):=W4 Z3 ht3
  have eL:(xs++[V.ref t]++[V.ref t1]++ys++[V.ref t2]).set (xs.length+1) (.ref t3)=xs++(.ref t::.ref t3::(ys++[.ref t2])):=by
   rw[show xs++[V.ref t]++[V.ref t1]++ys++[V.ref t2]=(xs++[V.ref t])++V.ref t1::(ys++[V.ref t2]) by simp,T9 (by simp)]
   simp
  rw[eL]at g5 ⊢
  have et:H3 t=some (.tup [.str "turns"]):=g3.tups _ _ (g2.tups _ _ (W3 hr0 ht))
  refine q _ _ Z3 ?_ (((g12.trans g3).trans g4).trans g5)
  refine .cons ⟨t,rfl,g5.tups _ _ (g4.tups _ _ et)⟩ (.cons ⟨t3,rfl,?_⟩ (Zy (Y1 (fun b xs h=>g5.tups _ _ (g4.tups _ _ h)) hp3) (.cons ⟨t2,rfl,?_⟩ .nil)))
  ·rw[W3 Z3 ht3]
   have:((xs++[V.ref t]++[V.ref t1]++ys++[V.ref t2]).length:Int)=(xs.length:Int)+3+(p.code (xs.length+2)).length:=by
    rw[List.length_append,List.length_append,e2,hl]
    simp
    omega
   rw[this]
  ·rw[g5.tups _ _ (W3 hr3 ht2),e1]
   rfl
abbrev V7:Stmt:=top 9
theorem sc_put_have:FnScope ["rows","number","yes","no","asked","gone"] ["rows","number","yes","no"] (Z9 V7):=Vm
theorem Z52{n k:Nat}(T:Blt mg)(O_hold_place:Own P w K mg base 1 "hold_place" ["rows"] Z0n)(O_put:Own P w K mg base (2+k) "put" ["rows","pattern"] (Z0y n))(F:Fun K "put_have" "put_have" V7 f fd):FnOk P w K mg base Wq (2+k+1) f fd ["rows","number","yes","no"] (Z2y n):=by
 refine F.ok sc_put_have (fun vs H Q E h=>?_) (fun cdv A outer s H vs Q E hr h=>?_)
 ·obtain⟨r,j,y,z,xs,p,p',rfl,_⟩:=h
  rfl
 obtain⟨r,j,y,z,xs,p,p',rfl,hp,hp',hr0,hz,q⟩:=h
 refine Vj ?_
 intro Xz
 refine⟨_,(Z1 (pS 4 sc_put_have.nd (Zz (O_hold_place.mono (by omega)) hr rfl (Z0 (pv 0) Z2)))
  (Z1 (Zf (Zz (O_put.mono (by omega)) hr rfl (Z0 (pv 0) (Z0 (pv 2) Z2))))
  (Z1 (pS 5 sc_put_have.nd (Zz (O_hold_place.mono (by omega)) hr rfl (Z0 (pv 0) Z2)))
  (Z1 (Uf (Zr (Z0 Zk (Z0 (pv 1) (Z0 (Zh Zv rfl T.b_len PyProof.Rows.Boot.«len» (Z0 (pv 0) Z2)) Z2)))) (Ta (pv 0) (pv 4) Wn))
  (Z1 (Zf (Zz (O_put.mono (by omega)) hr rfl (Z0 (pv 0) (Z0 (pv 3) Z2))))
  (Z5 (Uf (Zr (Z0 Zk (Z0 (Zh Zv rfl T.b_len PyProof.Rows.Boot.«len» (Z0 (pv 0) Z2)) Z2))) (Ta (pv 0) (pv 5) Wn)))))))),?_⟩
 refine Zg3 ?_
 intro Ez Az1 Az2 Az3 Az4 Az5
 have hf:=Pat.code_fits p (xs.length+1)
 refine(Z7 rfl ⟨r,_,rfl,hr0,by omega,fun t1 H1 hr1 ht1 g1=>?_⟩)
 have e1:(xs++[V.ref t1]).length=xs.length+1:=by simp
 refine(Z7 rfl (Z7 rfl ⟨r,y,_,p,rfl,hp.mono g1.tups,hr1,by rw[e1];omega,fun ys H2 hr2 hp2 g2=>?_⟩))
 rw[e1]at hp2
 have hl:=Paired.length hp2
 have e2:(xs++[V.ref t1]++ys).length=xs.length+1+(p.code (xs.length+1)).length:=by rw[List.length_append,e1,hl]
 refine(Z7 rfl ⟨r,_,rfl,hr2,by rw[e2];omega,fun t2 H3 hr3 ht2 g3=>?_⟩)
 have e3:(xs++[V.ref t1]++ys++[V.ref t2]).length=xs.length+(p.code (xs.length+1)).length+2:=by rw[List.length_append,e2];simp;omega
 refine(Z7 rfl (Z7 rfl ⟨r,Z7 rfl ⟨.inl (SqL.of hr3),sz,fun t3 ht3=>?_⟩⟩))
 refine(Z7 rfl (Z7 rfl ⟨r,_,_,xs.length,rfl,rfl,Xf hr3 ht3,Ua (by rw[e3];omega),?_⟩))
 have eL:(xs++[V.ref t1]++ys++[V.ref t2]).set xs.length (.ref t3)=xs++[.ref t3]++ys++[V.ref t2]:=by
  rw[show xs++[V.ref t1]++ys++[V.ref t2]=xs++V.ref t1::(ys++[V.ref t2]) by simp,T9 rfl]
  simp
 rw[eL]
 generalize hH4:Zq (Zq H3 t3 (.tup [.str "have",.int j,.int ((xs++[V.ref t1]++ys++[V.ref t2]).length:Nat)])) r (.lst (xs++[.ref t3]++ys++[V.ref t2]))=H4
 have g4:Gro [r] H3 H4:=by rw[← hH4];exact W4 hr3 ht3
 have hr4:H4 r=some (.lst (xs++[.ref t3]++ys++[V.ref t2])):=by rw[← hH4];exact Z3
 have ht3':H4 t3=some (.tup [.str "have",.int j,.int ((xs.length:Int)+(p.code (xs.length+1)).length+2)]):=by
  rw[← hH4,W3 hr3 ht3,e3]
  simp
 have e4:(xs++[V.ref t3]++ys++[V.ref t2]).length=xs.length+(p.code (xs.length+1)).length+2:=by rw[← e3];simp
 have g14:=((g1.trans g2).trans g3).trans g4
 refine(Z7 rfl (Z7 rfl ⟨r,z,_,p',rfl,hp'.mono g14.tups,hr4,by rw[e4];omega,fun zs H5 hr5 hp5 g5=>?_⟩))
 rw[e4]at hp5
 have hl5:=Paired.length hp5
 refine(Z7 rfl ⟨r,Z7 rfl ⟨.inl (SqL.of hr5),sz,fun t6 ht6=>?_⟩⟩)
 have eL2:(xs++[V.ref t3]++ys++[V.ref t2]++zs).set (xs.length+1+(p.code (xs.length+1)).length) (.ref t6)=xs++(.ref t3::(ys++.ref t6::zs)):=by
  rw[show xs++[V.ref t3]++ys++[V.ref t2]++zs=(xs++[V.ref t3]++ys)++V.ref t2::zs by simp,T9 (by simp[hl];omega)]
  simp
 refine(Z7 rfl (Z7 rfl ⟨r,_,_,xs.length+1+(p.code (xs.length+1)).length,rfl,rfl,Xf hr5 ht6,by rw[e2];exact Ua (by rw[List.length_append,e4];omega),?_⟩))
 rw[eL2]
 generalize hH6:Zq (Zq H5 t6 (.tup [.str "go",.int ((xs++[V.ref t3]++ys++[V.ref t2]++zs).length:Nat)])) r (.lst (xs++(.ref t3::(ys++.ref t6::zs))))=H6
 have g6:Gro [r] H5 H6:=by rw[← hH6];exact W4 hr5 ht6
 have hr6:H6 r=some (.lst (xs++(.ref t3::(ys++.ref t6::zs)))):=by rw[← hH6];exact Z3
 have ht6':H6 t6=some (.tup [.str "go",.int ((xs.length:Int)+(p.code (xs.length+1)).length+2+(p'.code (xs.length+(p.code (xs.length+1)).length+2)).length)]):=by
  rw[← hH6,W3 hr5 ht6,List.length_append,e4,hl5]
  simp
 refine q _ H6 hr6 ?_ ((g14.trans g5).trans g6)
 exact .cons ⟨t3,rfl,g6.tups _ _ (g5.tups _ _ ht3')⟩ (Zy (Y1 (fun b c h=>g6.tups _ _ (g5.tups _ _ (g4.tups _ _ (g3.tups _ _ h)))) hp2) (.cons ⟨t6,rfl,ht6'⟩ (Y1 g6.tups hp5)))
end
def Lk.pre(l:Lk):List Rw:=match l.leans with
 |true=>[.tup [.str "lean"]]
 |false=>[]
def Lk.post(l:Lk):List Rw:=match l.leans with
 |true=>[.tup [.str "here"]]
 |false=>[]
theorem Z20(l:Lk)(c:Cd)(b:Nat):l.inner c b=l.pre++(c (b+1+l.pre.length)++l.post):=by
 unfold Lk.inner Lk.pre Lk.post
 cases l.leans <;> simp
section
variable{P:Program}{w:World}{K:W.Frag}{mg:Str->Option Value}{base:Heap}{f:Addr}{fd:FuncData}
def Zd4(D:Ends)(H:Hp)(r:Addr)(xs:List V)(rs:List Rw):Prop:=∀(σ':L2.St) (ys:List V) (H':Hp),H' r=some (.lst (xs++ys))->Paired (RowAt H') ys rs->Gro [r] H H'->D.nx σ' H'
def Zkv(H:Hp)(r:Addr)(xs:List V)(lk:Lk)(v:V)(p:Pat):TS:=fun D σ H1=>∃(t1:Addr) (pre:List V),σ=[some (.ref r),some (.str lk.text),some v,some (.int xs.length)]/\H1 r=some (.lst (xs++.ref t1::pre))/\Paired (RowAt H1) pre lk.pre/\Gro [r] H H1/\Zd4 D H r xs (Ui lk p.code xs.length)
def Zku(H:Hp)(r:Addr)(xs:List V)(lk:Lk)(v:V)(p:Pat):TS:=fun D σ H1=>∃(t1:Addr) (mid:List V),σ=[some (.ref r),some (.str lk.text),some v,some (.int xs.length)]/\H1 r=some (.lst (xs++.ref t1::mid))/\Paired (RowAt H1) mid (lk.inner p.code xs.length)/\Gro [r] H H1/\Zd4 D H r xs (Ui lk p.code xs.length)
abbrev V6:Stmt:=top 10
theorem sc_put_look:FnScope ["rows","kind","part","first"] ["rows","kind","part"] (Z9 V6):=Vm
theorem Z51{n k:Nat}{le ls:Addr}(T:Blt mg)(Wa:mg "LEANING" = some (.ref le))(hLE:∀H,SqT K H le V1)(X7:mg "LAST_ROWS" = some (.ref ls))(hLS:Zf5 K w ls V9)(O_hold_place:Own P w K mg base 1 "hold_place" ["rows"] Z0n)(O_put:Own P w K mg base (2+k) "put" ["rows","pattern"] (Z0y n))
  (F:Fun K "put_look" "put_look" V6 f fd):FnOk P w K mg base Wq (2+k+1) f fd ["rows","kind","part"] (Z2x n):=by
 refine F.ok sc_put_look (fun vs H Q E h=>?_) (fun cdv A outer s H vs Q E hr h=>?_)
 ·obtain⟨r,lk,v,xs,p,rfl,_⟩:=h
  rfl
 obtain⟨r,lk,v,xs,p,rfl,hp,hr0,hz,q⟩:=h
 have hf:=Pat.code_fits p (xs.length+1+lk.pre.length)
 have hpre:lk.pre.length<=1/\lk.post.length<=1:=by unfold Lk.pre Lk.post;cases lk.leans <;> simp
 have hin:(lk.inner p.code xs.length).length=lk.pre.length+(p.code (xs.length+1+lk.pre.length)).length+lk.post.length:=by rw[Z20];simp;omega
 refine Vj ?_
 intro Xz
 refine⟨_,(Z1 (pS 3 sc_put_look.nd (Zz (O_hold_place.mono (by omega)) hr rfl (Z0 (pv 0) Z2)))
  (Z1 (Y0 (Ze T4 (pv 1) (Vk (v:=.ref _) rfl Wa rfl) (by with_unfolding_all rfl)) (Z5 (Zf (Yr PySem.F.plainAttrs_list PySem.F.slot_list_append PySem.F.type_list_append Zw (pv 0) (Z0 (Zr (Z0 Zk Z2)) Z2)))) Zm)
  (Jq (Zkv H r xs lk v p) (Z1 (Zf (Zz (O_put.mono (by omega)) hr rfl (Z0 (pv 0) (Z0 (pv 2) Z2))))
  (Z1 (Y0 (Ze T4 (pv 1) (Vk (v:=.ref _) rfl Wa rfl) (by with_unfolding_all rfl)) (Z5 (Zf (Yr PySem.F.plainAttrs_list PySem.F.slot_list_append PySem.F.type_list_append Zw (pv 0) (Z0 (Zr (Z0 Zk Z2)) Z2)))) Zm)
  (Jq (Zku H r xs lk v p) (Z1 (Zf (Yr PySem.F.plainAttrs_list PySem.F.slot_list_append PySem.F.type_list_append Zw (pv 0) (Z0 (Zr (Z0 (Z4b (Vk (v:=.ref _) rfl X7 rfl) (pv 1) (fun _ _=>rfl)) Z2)) Z2)))
  (Z5 (Uf (Xp (Ze Y4 (Z4b (Vk (v:=.ref _) rfl X7 rfl) (pv 1) (fun _ _=>rfl)) Zk (Zi _)) (Zr (Z0 Zk (Z0 (Zh Zv rfl T.b_len PyProof.Rows.Boot.«len» (Z0 (pv 0) Z2)) Z2))) (Zr (Z0 Zk Z2))) (Ta (pv 0) (pv 3) Wn)))) (fun D1 σ1 H1 hcut=>?cut4)))) (fun D1 σ1 H1 hcut=>?cut2)))),?_⟩
 case cut4 =>
  refine Z28 ?_
  intro Ez Az1
  obtain⟨t1,mid,rfl,hr1,hm1,g1,q⟩:=hcut
  have hl:=Paired.length hm1
  have e1:(xs++V.ref t1::mid).length=xs.length+1+(lk.inner p.code xs.length).length:=by rw[List.length_append,List.length_cons,hl];omega
  refine(Z7 rfl ⟨.inl ⟨rfl,_,SqL.of hr1⟩,Z7 rfl ⟨ls,V9,_,_,rfl,hLS,rfl,Z8l lk,sz,fun t2 ht2=>⟨r,Va rfl rfl ⟨Xf hr1 ht2,Z7v (by omega),?_⟩⟩⟩⟩)
  have g2:Gro [r] H1 _:=W4 (zs:=xs++V.ref t1::mid++[V.ref t2]) (o:=.tup [.str lk.last]) hr1 ht2
  have e2:(xs++V.ref t1::mid++[V.ref t2]).length=xs.length+2+(lk.inner p.code xs.length).length:=by rw[List.length_append,e1];simp;omega
  have eL:∀t3,(xs++V.ref t1::mid++[V.ref t2]).set xs.length (.ref t3)=xs++(.ref t3::(mid++[.ref t2])):=fun t3=>by
   rw[show xs++V.ref t1::mid++[V.ref t2]=xs++V.ref t1::(mid++[V.ref t2]) by simp,T9 rfl]
  have fin:∀(t3:Addr) (ws:List V),(Zq (Zq H1 t2 (.tup [.str lk.last])) r (.lst (xs++V.ref t1::mid++[V.ref t2]))) t3=none->Ui lk p.code xs.length=.tup ws::(lk.inner p.code xs.length++[.tup [.str lk.last]]) ->
    ∀σ',D1.nx σ' (Zq (Zq (Zq (Zq H1 t2 (.tup [.str lk.last])) r (.lst (xs++V.ref t1::mid++[V.ref t2]))) t3 (.tup ws)) r (.lst ((xs++V.ref t1::mid++[V.ref t2]).set xs.length (.ref t3)))):=by
   intro t3 ws ht3 hws σ'
   have g3:=W4 (zs:=(xs++V.ref t1::mid++[V.ref t2]).set xs.length (.ref t3)) (o:=.tup ws) (Z3 (H:=Zq H1 t2 (.tup [.str lk.last])) (a:=r) (o:=.lst (xs++V.ref t1::mid++[V.ref t2]))) ht3
   have e3:=W3 (ys:=ws) (zs:=(xs++V.ref t1::mid++[V.ref t2]).set xs.length (.ref t3)) (Z3 (H:=Zq H1 t2 (.tup [.str lk.last])) (a:=r) (o:=.lst (xs++V.ref t1::mid++[V.ref t2]))) ht3
   rw[eL]at g3 e3 ⊢
   refine q σ' _ _ Z3 ?_ ((g1.trans g2).trans g3)
   rw[hws]
   exact .cons ⟨t3,rfl,e3⟩ (Zy (Y1 (fun b c h=>g3.tups _ _ (g2.tups _ _ h)) hm1) (.cons ⟨t2,rfl,g3.tups _ _ (W3 hr1 ht2)⟩ .nil))
  refine(Z7 rfl ⟨ls,V9,_,_,rfl,hLS,rfl,Z8l lk,rfl,Z7 rfl (V8 (fun z=>?_) (fun z=>?_))⟩)
  ·have hb:(lk.last=="barred")=true:=by rw[← Z1c];exact z
   refine(Z7 rfl ⟨r,Z7 rfl ⟨.inl (SqL.of Z3),sz,fun t3 ht3=>?_⟩⟩)
   refine(Z7 rfl (Z7 rfl ⟨r,_,_,xs.length,rfl,rfl,Xf Z3 ht3,Ua (by rw[e2];omega),fin t3 _ ht3 ?_ _⟩))
   unfold Ui
   rw[hb,e2]
   simp only[List.cons.injEq,and_true,Rw.tup.injEq,V.int.injEq,true_and]
   omega
  ·have hb:(lk.last=="barred")=false:=by rw[← Z1c];simpa using z
   refine⟨sz,fun t3 ht3=>?_⟩
   refine(Z7 rfl (Z7 rfl ⟨r,_,_,xs.length,rfl,rfl,Xf Z3 ht3,Ua (by rw[e2];omega),fin t3 _ ht3 ?_ _⟩))
   unfold Ui
   rw[hb]
 case cut2 =>
  refine Zc7 ?_
  intro Ez Az1 Az2 Az3
  obtain⟨t1,pre,rfl,hr1,hm1,g1,q⟩:=hcut
  have hl:=Paired.length hm1
  have e1:(xs++V.ref t1::pre).length=xs.length+1+lk.pre.length:=by rw[List.length_append,List.length_cons,hl];omega
  refine(Z7 rfl (Z7 rfl ⟨r,v,_,p,rfl,hp.mono g1.tups,hr1,by rw[e1];omega,fun ys H2 hr2 hp2 g2=>?_⟩))
  rw[e1]at hp2
  have hl2:=Paired.length hp2
  have e2:(xs++V.ref t1::pre++ys).length=xs.length+1+lk.pre.length+(p.code (xs.length+1+lk.pre.length)).length:=by rw[List.length_append,e1,hl2]
  refine(Z7 rfl ⟨le,V1,rfl,.inr (hLE _),rfl,rfl,Z7 rfl (?_)⟩)
  show if Zfm (.str lk.text) V1=true then _ else _
  rw[Z8j]
  refine V8 (fun z=>?_) (fun z=>?_)
  ·refine(Z7 rfl ⟨.inl ⟨rfl,_,SqL.of hr2⟩,sz,fun t2 ht2=>⟨r,Va rfl rfl ⟨Xf hr2 ht2,Z7v (by omega),?_⟩⟩⟩)
   have g3:Gro [r] H2 _:=W4 (zs:=xs++V.ref t1::pre++ys++[V.ref t2]) (o:=.tup [.str "here"]) hr2 ht2
   refine⟨t1,pre++(ys++[.ref t2]),rfl,by simp[Z3],?_,(g1.trans g2).trans g3,q⟩
   rw[Z20]
   refine Zy (Y1 (fun b c h=>g3.tups _ _ (g2.tups _ _ h)) hm1) (Zy (Y1 g3.tups hp2) ?_)
   rw[show lk.post=[.tup [.str "here"]] by unfold Lk.post;rw[z]]
   exact .cons ⟨t2,rfl,W3 hr2 ht2⟩ .nil
  ·refine⟨t1,pre++ys,rfl,by rw[hr2];simp,?_,g1.trans g2,q⟩
   rw[Z20,show lk.post=[] by unfold Lk.post;rw[Bool.eq_false_iff.mpr z],List.append_nil]
   exact Zy (Y1 g2.tups hm1) hp2
 refine Zc7 ?_
 intro Ez Az1 Az2 Az3
 refine(Z7 rfl ⟨r,_,rfl,hr0,by omega,fun t1 H1 hr1 ht1 g1=>?_⟩)
 refine(Z7 rfl ⟨le,V1,rfl,.inr (hLE _),rfl,rfl,Z7 rfl (?_)⟩)
 show if Zfm (.str lk.text) V1=true then _ else _
 rw[Z8j]
 have q':Zd4 { nx:=fun _ H'=>Q .non H',rt:=Q } H r xs (Ui lk p.code xs.length):=fun _ ys H' h1 h2 h3=>q ys H' h1 h2 h3
 refine V8 (fun z=>?_) (fun z=>?_)
 ·refine(Z7 rfl ⟨.inl ⟨rfl,_,SqL.of hr1⟩,sz,fun t2 ht2=>⟨r,Va rfl rfl ⟨Xf hr1 ht2,Z7v (by simp;omega),?_⟩⟩⟩)
  have g3:Gro [r] H1 _:=W4 (zs:=xs++[V.ref t1]++[V.ref t2]) (o:=.tup [.str "lean"]) hr1 ht2
  refine⟨t1,[.ref t2],rfl,by simp[Z3],?_,g1.trans g3,q'⟩
  rw[show lk.pre=[.tup [.str "lean"]] by unfold Lk.pre;rw[z]]
  exact .cons ⟨t2,rfl,W3 hr1 ht2⟩ .nil
 ·refine⟨t1,[],rfl,hr1,?_,g1,q'⟩
  rw[show lk.pre=[] by unfold Lk.pre;rw[Bool.eq_false_iff.mpr z]]
  exact .nil
end
theorem Z1i(ks:List Pat)(i:Nat):Yc (ks.take i)+Yc (ks.drop i)=Yc ks:=by
 rw[← J2,List.take_append_drop]
theorem Z0b{α:Type}{l:List α}{i:Nat}{x:α}(h:l[i]? = some x):l.drop i=x::l.drop (i+1):=by
 obtain⟨hi,e⟩:=List.getElem?_eq_some_iff.mp h
 rw[← e]
 exact List.drop_eq_getElem_cons hi
section
variable{P:Program}{w:World}{K:W.Frag}{mg:Str->Option Value}{base:Heap}{f:Addr}{fd:FuncData}
def Wv(b:Nat)(gs:List Nat):List V:=gs.map fun(j:Nat)=>V.int ((b:Int)+(j:Int))
def Zkt(H:Hp)(r b:Addr)(xs kv:List V)(ks:List Pat):TS:=fun D σ H1=>∃(g:Addr) (ys:List V) (br tr:Option V),σ=[some (.ref r),some (.ref b),some (.ref g),br,tr,none]/\r≠g/\H g=none/\H1 r=some (.lst (xs++ys))/\Paired (RowAt H1) ys (Wr [] ((ks.take (kv.length-1)).map Pat.code) xs.length) /\
 H1 g=some (.lst (Wv xs.length (Jy ((ks.take (kv.length-1)).map Pat.code) xs.length 0)))/\Gro [r] H H1/\Zd4 D H r xs (Zhq (ks.map Pat.code) xs.length)
abbrev Uk:Stmt:=top 7
theorem sc_put_or:FnScope ["rows","branches","goes","branch","tried","place"] ["rows","branches"] (Z9 Uk):=Vm
theorem Z9p{n k:Nat}(T:Blt mg)(O_hold_place:Own P w K mg base 1 "hold_place" ["rows"] Z0n)(O_put:Own P w K mg base (2+k) "put" ["rows","pattern"] (Z0y n))(F:Fun K "put_or" "put_or" Uk f fd):FnOk P w K mg base Wq (2+k+1) f fd ["rows","branches"] (Z81 n):=by
 refine F.ok sc_put_or (fun vs H Q E h=>?_) (fun cdv A outer s H vs Q E hr h=>?_)
 ·obtain⟨r,b,xs,kv,ks,rfl,_⟩:=h
  rfl
 obtain⟨r,b,xs,kv,ks,rfl,hb,hk,h1,h10,hr0,hz,q⟩:=h
 have hkl:=Paired.length hk
 refine Vj ?_
 intro Xz
 refine⟨_,(Z1 (pS 2 sc_put_or.nd (Xg Z2))
  (Z1 (Vb PassesOwn.never rfl (Z2e (Y8 Z26 (pv 1) Wz (Y2 (Z0z T8 Z6)))) (pN 3 sc_put_or.nd) (Z1 (pS 4 sc_put_or.nd (Zz (O_hold_place.mono (by omega)) hr rfl (Z0 (pv 0) Z2)))
  (Z1 (Zf (Zz (O_put.mono (by omega)) hr rfl (Z0 (pv 0) (Z0 (pv 3) Z2))))
  (Z1 (Zf (Yr PySem.F.plainAttrs_list PySem.F.slot_list_append PySem.F.type_list_append Zw (pv 2) (Z0 (Zz (O_hold_place.mono (by omega)) hr rfl (Z0 (pv 0) Z2)) Z2)))
  (Z5 (Uf (Zr (Z0 Zk (Z0 (Zh Zv rfl T.b_len PyProof.Rows.Boot.«len» (Z0 (pv 0) Z2)) Z2))) (Ta (pv 0) (pv 4) Wn)))))))
  (Jq (Zkt H r b xs kv ks) (Z1 (Zf (Zz (O_put.mono (by omega)) hr rfl (Z0 (pv 0) (Z0 (Zg Zd (pv 1) (Z0z T8 Z6) (fun _ _=>rfl)) Z2))))
  (Z5 (Vb PassesOwn.never rfl (Jr (pv 2)) (pN 5 sc_put_or.nd) (Z5 (Uf (Zr (Z0 Zk (Z0 (Zh Zv rfl T.b_len PyProof.Rows.Boot.«len» (Z0 (pv 0) Z2)) Z2))) (Ta (pv 0) (pv 5) Wn)))))) (fun D1 σ1 H1 hcut=>?cut2)))),?_⟩
 case cut2 =>
  refine Zgn ?_
  intro Ez Az1 Az2
  obtain⟨g,ys,br,tr,rfl,rg,hgn,hr1,hy1,hg1,g1,q⟩:=hcut
  have hl:=Paired.length hy1
  have hpf:=Z06 (ks.take (kv.length-1)) xs.length
  have hne:ks≠[]:=fun z=>by rw[z,List.length_nil]at hkl;omega
  obtain⟨d,hd⟩:∃d,ks[kv.length-1]? = some d:=⟨ks[kv.length-1]'(by omega),List.getElem?_eq_getElem (by omega)⟩
  obtain⟨vd,hvd⟩:∃vd,kv[kv.length-1]? = some vd:=⟨kv[kv.length-1]'(by omega),List.getElem?_eq_getElem (by omega)⟩
  obtain⟨d',hd',hpd⟩:=Y5 hk hvd
  rw[hd]at hd'
  cases hd'
  have hks:ks=ks.take (kv.length-1)++[d]:=by
   have:=List.take_append_drop (kv.length-1) ks
   rw[Z0b hd,show kv.length-1+1=ks.length by omega,List.drop_length]at this
   exact this.symm
  have hss:Yc (ks.take (kv.length-1))+d.size=Yc ks:=by
   rw[← Vq d,← J2,← hks]
  generalize hT:ks.take (kv.length-1)=ts at hy1 hg1 hl hpf hks hss
  have e1:(xs++ys).length=xs.length+(Wr [] (ts.map Pat.code) xs.length).length:=by rw[List.length_append,hl]
  refine⟨_,rfl,_,rfl,_,rfl,b,kv,_,_,rfl,rfl,SqT.of (g1.tups _ _ hb),Z4j (by rw[List.getLast?_eq_getElem?];exact hvd),?_⟩
  refine⟨r,vd,_,d,rfl,hpd.mono g1.tups,hr1,by rw[e1];omega,fun zs H2 hr2 hz2 g2=>?_⟩
  rw[e1]at hz2
  have hl2:=Paired.length hz2
  have rg':g∉[r]:=by simpa using Ne.symm rg
  have hg2:=g2.keep g _ hg1 rg'
  have alt:∀G,X5 G (ks.map Pat.code) xs.length=Wr G (ts.map Pat.code) xs.length++d.code (xs.length+(Wr G (ts.map Pat.code) xs.length).length):=fun G=>by
   rw[hks,List.map_append]
   exact Z3n G _ d.code _
  have hgo:Jy (ts.map Pat.code) xs.length 0=goes (ks.map Pat.code) xs.length 0:=by
   rw[hks,List.map_append]
   exact(Z3f _ d.code _ _).symm
  have halen:(ys++zs).length=(X5 [] (ks.map Pat.code) xs.length).length:=by rw[alt,List.length_append,List.length_append,hl,hl2]
  rw[hgo]at hg2
  have hy2:Paired (RowAt H2) (ys++zs) (X5 [] (ks.map Pat.code) xs.length):=by
   rw[alt]
   exact Zy (Y1 g2.tups hy1) hz2
  have hlt:=Zbq (ks.map Pat.code) xs.length
  have hset:=Z0f [] (Zhs ((xs.length:Int)+(X5 [] (ks.map Pat.code) xs.length).length)) (ks.map Pat.code) xs.length []
  generalize goes (ks.map Pat.code) xs.length 0=gs at *
  refine(Z7 rfl ⟨g,rfl,⟨_,SqL.of hg2⟩,?_⟩)
  refine Z21 (xs:=Wv xs.length gs) (fun i σ H'=>∃(ws:List V) (pl:Option V),σ=[some (.ref r),some (.ref b),some (.ref g),br,tr,pl]/\H' r=some (.lst (xs++ws))/\Paired (RowAt H') ws (Ue (.tup (Zhs ((xs.length:Int)+(X5 [] (ks.map Pat.code) xs.length).length))) (gs.take i) (X5 [] (ks.map Pat.code) xs.length))/\H' g=some (.lst (Wv xs.length gs))/\Gro [r] H2 H')
   ⟨ys++zs,none,rfl,by rw[hr2];simp,hy2,hg2,Gro.refl⟩ (fun i σ H' _ hh=>by obtain⟨_,_,_,_,_,e,_⟩:=hh;exact SqL.of e) ?_ ?_
  ·rintro i x σ H3 hx ⟨ws,pl,rfl,hr3,hw3,hg3,g3⟩
   obtain⟨j,hj,rfl⟩:∃j,gs[i]? = some j/\x=.int ((xs.length:Int)+j):=by
    unfold Wv at hx
    rw[List.getElem?_map]at hx
    obtain⟨j,h1,h2⟩:=Option.map_eq_some_iff.mp hx
    exact⟨j,h1,h2.symm⟩
   have hjl:=hlt j (List.mem_of_getElem? hj)
   have hwl:=Paired.length hw3
   rw[Z1k]at hwl
   have elen:((xs++ws).length:Int)=(xs.length:Int)+(X5 [] (ks.map Pat.code) xs.length).length:=by rw[List.length_append,hwl];simp
   refine(Z7 rfl ⟨r,Z7 rfl ⟨.inl (SqL.of hr3),sz,fun t3 ht3=>?_⟩⟩)
   refine(Z7 rfl (Z7 rfl ⟨r,_,_,xs.length+j,rfl,rfl,Xf hr3 ht3,by rw[show(xs.length:Int)+(j:Int)=((xs.length+j:Nat):Int) by omega];exact Ua (by rw[List.length_append];omega),?_⟩))
   have eS:(xs++ws).set (xs.length+j) (.ref t3)=xs++ws.set j (.ref t3):=by rw[List.set_append_right _ _ (by omega)];congr 1;congr 1;omega
   rw[eS]
   have g4:Gro [r] H3 (Zq (Zq H3 t3 (.tup [.str "go",.int ((xs++ws).length:Nat)])) r (.lst (xs++ws.set j (.ref t3)))):=W4 hr3 ht3
   have et:=W3 (ys:=[.str "go",.int ((xs++ws).length:Nat)]) (zs:=xs++ws.set j (.ref t3)) hr3 ht3
   rw[elen]at g4 et ⊢
   refine⟨ws.set j (.ref t3),Z7 rfl ⟨Z3,?_,g4.keep g _ hg3 rg',g3.trans g4⟩⟩
   have:Ue (.tup (Zhs ((xs.length:Int)+(X5 [] (ks.map Pat.code) xs.length).length))) (gs.take (i+1)) (X5 [] (ks.map Pat.code) xs.length)=(Ue (.tup (Zhs ((xs.length:Int)+(X5 [] (ks.map Pat.code) xs.length).length))) (gs.take i) (X5 [] (ks.map Pat.code) xs.length)).set j (.tup (Zhs ((xs.length:Int)+(X5 [] (ks.map Pat.code) xs.length).length))):=by
    rw[Xu hj]
    unfold Ue
    rw[List.foldl_append]
    rfl
   rw[this]
   exact Z1l ⟨t3,rfl,et⟩ j (Y1 g4.tups hw3)
  ·rintro σ H3 ⟨ws,pl,rfl,hr3,hw3,hg3,g3⟩
   refine q _ ws H3 hr3 ?_ ((g1.trans g2).trans g3)
   rw[show(Wv xs.length gs).length=gs.length by simp[Wv],List.take_length]at hw3
   rw[show Ue (.tup (Zhs ((xs.length:Int)+(X5 [] (ks.map Pat.code) xs.length).length))) gs (X5 [] (ks.map Pat.code) xs.length)=Zhq (ks.map Pat.code) xs.length from hset]at hw3
   exact hw3
 refine Zgc ?_
 intro Ez Az1 Az2 Az3 Az4 Az5 Az6
 refine⟨sz,fun g hg=>?_⟩
 have rg:r≠g:=Za hr0 hg
 obtain⟨ec,ew⟩:=Zbt h1
 have q':Zd4 { nx:=fun _ H'=>Q .non H',rt:=Q } H r xs (Zhq (ks.map Pat.code) xs.length):=fun _ ys H' h1 h2 h3=>q ys H' h1 h2 h3
 refine(Z7 rfl (Z7 rfl (Z7 rfl ⟨b,kv,rfl,SqT.of ((Gro.new (S:=[]) hg _).tups _ _ hb),ew,fun s1 hs1=>⟨s1,rfl,⟨_,SqT.of Z3⟩,?_⟩⟩)))
 rw[ec]
 have g0:Gro [r] H (Zq (Zq H g (.lst [])) s1 (.tup (kv.take (kv.length-1)))):=(Gro.new hg _).tup hs1
 have hg0:(Zq (Zq H g (.lst [])) s1 (.tup (kv.take (kv.length-1)))) g=some (.lst []):=by rw[Zt (Za Z3 hs1)];exact Z3
 have hr0':(Zq (Zq H g (.lst [])) s1 (.tup (kv.take (kv.length-1)))) r=some (.lst xs):=by rw[Zt (Za (Xf hr0 hg) hs1)];exact Xf hr0 hg
 have hs0:(Zq (Zq H g (.lst [])) s1 (.tup (kv.take (kv.length-1)))) s1=some (.tup (kv.take (kv.length-1))):=Z3
 generalize Zq (Zq H g (.lst [])) s1 (.tup (kv.take (kv.length-1)))=H0 at g0 hg0 hr0' hs0 ⊢
 refine Z4h (xs:=kv.take (kv.length-1)) (fun i σ H'=>∃(ys:List V) (br tr:Option V),σ=[some (.ref r),some (.ref b),some (.ref g),br,tr,none]/\H' r=some (.lst (xs++ys))/\Paired (RowAt H') ys (Wr [] ((ks.take i).map Pat.code) xs.length)/\H' g=some (.lst (Wv xs.length (Jy ((ks.take i).map Pat.code) xs.length 0)))/\Gro [r] H H'/\Gro [r,g] H0 H')
  ⟨[],none,none,rfl,by simpa using hr0',.nil,hg0,g0,Gro.refl⟩ (fun i σ H' _ hh=>by obtain⟨_,_,_,_,_,_,_,_,gg⟩:=hh;exact SqT.of (gg.tups _ _ hs0)) ?_ ?_
 ·rintro i x σ H1 hx ⟨ys,br,tr,rfl,hr1,hy1,hg1,g1,gg1⟩
  have hi:i<kv.length-1:=by
   have:=(List.getElem?_eq_some_iff.mp hx).1
   rw[List.length_take]at this
   omega
  have hx':kv[i]? = some x:=by rw[List.getElem?_take_of_lt hi]at hx;exact hx
  obtain⟨p,hpi,hpx⟩:=Y5 hk hx'
  have hl:=Paired.length hy1
  have hpf:=Z06 (ks.take i) xs.length
  have hsp:Yc (ks.take i)+p.size<=Yc ks:=by
   have:=Z1i ks i
   rw[Z0b hpi,Yc]at this
   omega
  generalize hM:xs.length+(Wr [] ((ks.take i).map Pat.code) xs.length).length=m
  have e1:(xs++ys).length=m:=by rw[List.length_append,hl,hM]
  have hf:=Pat.code_fits p (m+1)
  refine(Z7 rfl ⟨r,_,rfl,hr1,by omega,fun t1 H2 hr2 ht1 g2=>?_⟩)
  have e2:(xs++ys++[V.ref t1]).length=m+1:=by rw[List.length_append,e1];rfl
  have g12:=g1.trans g2
  refine(Z7 rfl (Z7 rfl ⟨r,x,_,p,rfl,hpx.mono g12.tups,hr2,by rw[e2];omega,fun zs H3 hr3 hz3 g3=>?_⟩))
  rw[e2]at hz3
  have hl3:=Paired.length hz3
  have g23:=g2.trans g3
  have rg':g∉[r]:=by simpa using Ne.symm rg
  have hg3:=g23.keep g _ hg1 rg'
  have e3:(xs++ys++[V.ref t1]++zs).length=m+1+(p.code (m+1)).length:=by rw[List.length_append,e2,hl3]
  refine(Z7 rfl ⟨.inl ⟨rfl,_,SqL.of hg3⟩,Z7 rfl ⟨r,_,rfl,hr3,by rw[e3];omega,fun t2 H4 hr4 ht2 g4=>?_⟩⟩)
  have hg4:=g4.keep g _ hg3 rg'
  have hgl:(Wv xs.length (Jy ((ks.take i).map Pat.code) xs.length 0)).length<=1000:=by
   have:∀(cs:List Cd) (b s:Nat),(Jy cs b s).length=cs.length:=by
    intro cs
    induction cs with
    |nil=>intro b s;rfl
    |cons c cs ih=>intro b s;rw[Jy,List.length_cons,ih,List.length_cons]
   simp only[Wv,List.length_map,this,List.length_take]
   omega
  refine⟨g,Va rfl rfl ⟨hg4,Yp hgl,?_⟩⟩
  generalize hH5:Zq H4 g (.lst (Wv xs.length (Jy ((ks.take i).map Pat.code) xs.length 0)++[V.int ((xs++ys++[V.ref t1]++zs).length:Nat)]))=H5
  have g5:Gro [g] H4 H5:=by rw[← hH5];exact Gro.set (by simp) hg4 _
  have hr5:H5 r=some (.lst (xs++ys++[V.ref t1]++zs++[.ref t2])):=by rw[← hH5,Zt rg];exact hr4
  have hg5:H5 g=some (.lst (Wv xs.length (Jy ((ks.take (i+1)).map Pat.code) xs.length 0))):=by
   rw[← hH5,Z3,Xu hpi,List.map_append,List.map_singleton,Z34 _ _ _ _ m hM.symm]
   unfold Wv
   rw[List.map_append,List.map_singleton,e3]
   congr 3
   simp only[List.cons.injEq,V.int.injEq,and_true]
   omega
  have e5:(xs++ys++[V.ref t1]++zs++[V.ref t2]).length=m+(p.code (m+1)).length+2:=by rw[List.length_append,e3];simp;omega
  refine(Z7 rfl ⟨r,Z7 rfl ⟨.inl (SqL.of hr5),sz,fun t6 ht6=>?_⟩⟩)
  refine(Z7 rfl (Z7 rfl ⟨r,_,_,m,rfl,rfl,Xf hr5 ht6,by rw[e1];exact Ua (by rw[e5];omega),?_⟩))
  have eL:(xs++ys++[V.ref t1]++zs++[V.ref t2]).set m (.ref t6)=xs++(ys++(.ref t6::(zs++[.ref t2]))):=by
   rw[show xs++ys++[V.ref t1]++zs++[V.ref t2]=(xs++ys)++V.ref t1::(zs++[V.ref t2]) by simp,T9 e1.symm]
   simp
  rw[eL]
  have g6:Gro [r] H5 (Zq (Zq H5 t6 (.tup [.str "try",.int ((xs++ys++[V.ref t1]++zs++[V.ref t2]).length:Nat)])) r (.lst (xs++(ys++(.ref t6::(zs++[.ref t2])))))):=W4 hr5 ht6
  have et:=W3 (ys:=[.str "try",.int ((xs++ys++[V.ref t1]++zs++[V.ref t2]).length:Nat)]) (zs:=xs++(ys++(.ref t6::(zs++[.ref t2])))) hr5 ht6
  rw[e5]at g6 et ⊢
  have k16:∀b c,H1 b=some (.tup c)->_:=fun b c h=>g6.tups b c (g5.tups _ _ (g4.tups _ _ (g23.tups _ _ h)))
  have k36:∀b c,H3 b=some (.tup c)->_:=fun b c h=>g6.tups b c (g5.tups _ _ (g4.tups _ _ h))
  have g15:Gro [r,g] H1 _:=(((g23.trans g4).mono (by simp)).trans (g5.mono (by simp))).trans (g6.mono (by simp))
  refine⟨ys++(.ref t6::(zs++[.ref t2])),_,_,rfl,Z3,?_,g6.keep g _ hg5 rg',?_,gg1.trans g15⟩
  ·rw[Xu hpi,List.map_append,List.map_singleton,Z35 _ _ _ _ m hM.symm]
   refine Zy (Y1 k16 hy1) (.cons ⟨t6,rfl,?_⟩ (Zy (Y1 k36 hz3) (.cons ⟨t2,rfl,?_⟩ .nil)))
   ·rw[et]
    congr 5
   ·exact g6.tups _ _ (g5.tups _ _ ht2)
  ·have:=(g0.mono (S':=[r,g]) (by simp)).trans (gg1.trans g15)
   refine⟨fun c o hc hcr=>this.keep c o hc ?_,this.tups⟩
   have:c≠g:=Za hc hg
   simp at hcr ⊢
   exact⟨hcr,this⟩
 ·rintro σ H1 ⟨ys,br,tr,rfl,hr1,hy1,hg1,g1,gg1⟩
  rw[List.length_take,show min (kv.length-1) kv.length=kv.length-1 by omega]at hy1 hg1
  exact⟨g,ys,br,tr,rfl,rg,hg,hr1,hy1,hg1,g1,q'⟩
end
theorem Z32:∀(cs:List Cd) (c:Cd) (b m:Nat),m=b+(Tq cs b).length->Tq (cs++[c]) b=Tq cs b++c m
 | [],c,b,m,h=>by rw[show m=b from h];simp[Tq]
 |d::cs,c,b,m,h=>by
  rw[Tq,List.length_append]at h
  rw[List.cons_append,Tq,Z32 cs c (b+(d b).length) m (by omega),Tq,List.append_assoc]
theorem U4{α β:Type}{F:α->β->Prop}{x:α}{ys:List β}(h:Paired F [x] ys):∃y,ys=[y]/\F x y:=by
 cases h with
 |cons r t=>cases t;exact(Z7 rfl r)
theorem Z6q{α β:Type}{F:α->β->Prop}{x x':α}{ys:List β}(h:Paired F [x,x'] ys):∃y y',ys=[y,y']/\F x y/\F x' y':=by
 cases h with
 |cons r t =>
  obtain⟨y,rfl,h'⟩:=U4 t
  exact⟨_,_,rfl,r,h'⟩
section
variable{P:Program}{w:World}{K:W.Frag}{mg:Str->Option Value}{base:Heap}{f:Addr}{fd:FuncData}
abbrev Zcp:How->Prop:=fun _=>True
abbrev Z67:Stmt:=top 5
theorem sc_put:FnScope ["rows","pattern","kind","part"] ["rows","pattern"] (Z9 Z67):=Vm
theorem Zh1{n k:Nat}{it:Addr}(T:Blt mg)(Vx:mg "ITSELF" = some (.ref it))(hIT:∀H,SqT K H it J0)(O_put:Own P w K mg base (2+k) "put" ["rows","pattern"] (Z0y n))(O_put_or:Own P w K mg base (2+k+1) "put_or" ["rows","branches"] (Z81 n))(O_put_times:Own P w K mg base (2+k+2) "put_times" ["rows","low","high","how","part"] (W7 Zcp n))
  (O_put_have:Own P w K mg base (2+k+1) "put_have" ["rows","number","yes","no"] (Z2y n)) (O_put_look:Own P w K mg base (2+k+1) "put_look" ["rows","kind","part"] (Z2x n)) (F:Fun K "put" "put" Z67 f fd):FnOk P w K mg base Wq (2+k+3) f fd ["rows","pattern"] (Z0y (n+1)):=by
 refine F.ok sc_put (fun vs H Q E h=>?_) (fun cdv A outer s H vs Q E hr h=>?_)
 ·obtain⟨r,v,xs,p,rfl,_⟩:=h
  rfl
 obtain⟨r,v,xs,⟨h,ks⟩,rfl,hp,hr0,hz,q⟩:=h
 refine Vj ?_
 intro Xz
 refine⟨_,(Z1 (pS 2 sc_put.nd (Zg Zd (pv 1) Z6 (fun _ _=>rfl)))
  (Z5 (Y0 (Ze T4 (pv 2) (Vk (v:=.ref _) rfl Vx rfl) (by with_unfolding_all rfl)) (Z5 (Zf (Yr PySem.F.plainAttrs_list PySem.F.slot_list_append PySem.F.type_list_append Zw (pv 0) (Z0 (pv 1) Z2)))) (Z5 (Y0 (Ze Y4 (pv 2) Zk (Zi _)) (Z5 (Vb PassesOwn.never rfl (Z2e (Zg Zd (pv 1) Z6 (fun _ _=>rfl))) (pN 3 sc_put.nd) (Z5 (Zf (Zz (O_put.mono (by omega)) hr rfl (Z0 (pv 0) (Z0 (pv 3) Z2))))))) (Z5 (Y0 (Ze Y4 (pv 2) Zk (Zi _)) (Z5 (Zf (Zz (O_put_or.mono (by omega)) hr rfl (Z0 (pv 0) (Z0 (Zg Zd (pv 1) Z6 (fun _ _=>rfl)) Z2))))) (Z5 (Y0 (Ze Y4 (pv 2) Zk (Zi _)) (Z5 (Zf (Zz (O_put_times.mono (by omega)) hr rfl (Z0 (pv 0) (Z0 (Zg Zd (pv 1) Z6 (fun _ _=>rfl)) (Z0 (Zg Zd (pv 1) Z6 (fun _ _=>rfl)) (Z0 (Zg Zd (pv 1) Z6 (fun _ _=>rfl)) (Z0 (Zg Zd (pv 1) Z6 (fun _ _=>rfl)) Z2)))))))) (Z5 (Y0 (Ze Y4 (pv 2) Zk (Zi _)) (Z1 (Zf (Yr PySem.F.plainAttrs_list PySem.F.slot_list_append PySem.F.type_list_append Zw (pv 0) (Z0 (Zr (Z0 Zk Z2)) Z2)))
  (Z1 (Zf (Zz (O_put.mono (by omega)) hr rfl (Z0 (pv 0) (Z0 (Zg Zd (pv 1) Z6 (fun _ _=>rfl)) Z2))))
  (Z5 (Zf (Yr PySem.F.plainAttrs_list PySem.F.slot_list_append PySem.F.type_list_append Zw (pv 0) (Z0 (Zr (Z0 Zk (Z0 (Zg Zd (pv 1) Z6 (fun _ _=>rfl)) Z2))) Z2)))))) (Z5 (Y0 (Ze Y4 (pv 2) Zk (Zi _)) (Z5 (Zf (Zz (O_put_have.mono (by omega)) hr rfl (Z0 (pv 0) (Z0 (Zg Zd (pv 1) Z6 (fun _ _=>rfl)) (Z0 (Zg Zd (pv 1) Z6 (fun _ _=>rfl)) (Z0 (Zg Zd (pv 1) Z6 (fun _ _=>rfl)) Z2))))))) (Z5 (Zf (Zz (O_put_look.mono (by omega)) hr rfl (Z0 (pv 0) (Z0 (pv 2) (Z0 (Zg Zd (pv 1) Z6 (fun _ _=>rfl)) Z2))))))))))))))))))),?_⟩
 refine Zg1 ?_
 intro Ez Az1 Az2 Az3 Az4 Az5 Az6 Az7 Az8 Az9 Az10 Az11 Az12 Az13 Az14 Az15 Az16
 rw[Z0c]at q
 rw[Z2z]at hz
 obtain⟨a,kv,rfl,lay,hk⟩:=id hp
 obtain⟨r0,ea⟩:=lay.head
 refine(W5 ea Z0d (?_))
 refine(Z7 rfl ⟨it,J0,rfl,.inr (hIT _),rfl,rfl,Z7 rfl (?_)⟩)
 show if Zfm (.str h.word) J0=true then _ else _
 rw[Zai]
 refine V8 (fun z=>?_) (fun z=>?_)
 ·refine(Z7 rfl ⟨.inl ⟨rfl,_,SqL.of hr0⟩,Z7 rfl ⟨r,xs,Z7 rfl ⟨rfl,hr0,Z7v (by omega),?_⟩⟩⟩)
  have g1:Gro [r] H (Zq H r (.lst (xs++[.ref a]))):=Gro.set (by simp) hr0 _
  refine q [.ref a] _ Z3 ?_ g1
  rw[Z9x z]
  exact .cons ((hp.leafy z).mono g1.tups) .nil
 cases h with
 |row =>
  obtain⟨z10,b,e,er⟩:=lay
  refine(Z7 rfl ⟨rfl,Z7 rfl (Zj (by decide +kernel) ?_)⟩)
  refine(W5 e rfl ⟨b,rfl,⟨_,SqT.of er⟩,?_⟩)
  have hkl:=Paired.length hk
  refine Z4h (xs:=kv) (fun i σ H'=>∃(ys:List V) (pt:Option V),σ=[some (.ref r),some (.ref a),some (.str "row"),pt]/\H' r=some (.lst (xs++ys))/\Paired (RowAt H') ys (Tq ((ks.take i).map Pat.code) xs.length)/\Gro [r] H H')
   ⟨[],none,rfl,by simpa using hr0,.nil,Gro.refl⟩ (fun i σ H' _ hh=>by obtain⟨_,_,_,_,_,g⟩:=hh;exact SqT.of (g.tups _ _ er)) ?_ ?_
  ·rintro i x σ H1 hx ⟨ys,pt,rfl,hr1,hy1,g1⟩
   obtain⟨p,hpi,hpx⟩:=Y5 hk hx
   have hl:=Paired.length hy1
   have hrf:=Z04 (ks:=ks.take i) (fun k _=>Pat.code_fits k) xs.length
   have hsp:Yc (ks.take i)+p.size<=Yc ks:=by
    have:=Z1i ks i
    rw[Z0b hpi,Yc]at this
    omega
   have e1:(xs++ys).length=xs.length+(Tq ((ks.take i).map Pat.code) xs.length).length:=by rw[List.length_append,hl]
   refine(Z7 rfl (Z7 rfl ⟨r,x,_,p,rfl,hpx.mono g1.tups,hr1,by rw[e1];omega,fun zs H2 hr2 hz2 g2=>?_⟩))
   refine⟨ys++zs,Z7 rfl ⟨by rw[hr2,List.append_assoc],?_,g1.trans g2⟩⟩
   rw[Xu hpi,List.map_append,List.map_singleton,Z32 _ _ _ _ rfl]
   rw[e1]at hz2
   exact Zy (Y1 g2.tups hy1) hz2
  ·rintro σ H1 ⟨ys,pt,rfl,hr1,hy1,g1⟩
   rw[hkl,List.take_length]at hy1
   exact q ys H1 hr1 hy1 g1
 |alt =>
  obtain⟨z1,z10,b,e,er⟩:=lay
  refine(Z7 rfl ⟨rfl,Z7 rfl (Zb (by decide +kernel) ?_)⟩)
  refine(Z7 rfl ⟨rfl,Z7 rfl (Zj (by decide +kernel) ?_)⟩)
  exact(Z7 rfl (W5 e rfl ⟨r,b,xs,kv,ks,rfl,er,hk,z1,z10,hr0,by omega,fun ys H' h1 h2 h3=>q ys H' h1 h2 h3⟩))
 |times lo hi how =>
  obtain⟨_,k,e0,e⟩:=lay
  subst e0
  refine(Z7 rfl ⟨rfl,Z7 rfl (Zb (show ¬Z1f "times" "row" = true by decide +kernel) ?_)⟩)
  refine(Z7 rfl ⟨rfl,Z7 rfl (Zb (show ¬Z1f "times" "or" = true by decide +kernel) ?_)⟩)
  refine(Z7 rfl ⟨rfl,Z7 rfl (Zj (show Z1f "times" "times" = true by decide +kernel) ?_)⟩)
  obtain⟨p,rfl,hpk⟩:=U4 hk
  rw[Vq]at hz
  exact(Z7 rfl (W5 e rfl (W5 e rfl (W5 e rfl (W5 e rfl ⟨r,lo,hi,how,k,xs,p,rfl,trivial,hpk,hr0,by cases how <;> simp only[How.ext] <;> omega,fun ys H' h1 h2 h3=>q ys H' h1 h2 h3⟩)))))
 |grp j =>
  obtain⟨_,k,e0,e⟩:=lay
  subst e0
  refine(Z7 rfl ⟨rfl,Z7 rfl (Zb (show ¬Z1f "group" "row" = true by decide +kernel) ?_)⟩)
  refine(Z7 rfl ⟨rfl,Z7 rfl (Zb (show ¬Z1f "group" "or" = true by decide +kernel) ?_)⟩)
  refine(Z7 rfl ⟨rfl,Z7 rfl (Zb (show ¬Z1f "group" "times" = true by decide +kernel) ?_)⟩)
  refine(Z7 rfl ⟨rfl,Z7 rfl (Zj (show Z1f "group" "group" = true by decide +kernel) ?_)⟩)
  obtain⟨p,rfl,hpk⟩:=U4 hk
  rw[Vq]at hz
  have hf:=Pat.code_fits p (xs.length+1)
  refine(Z7 rfl ⟨.inl ⟨rfl,_,SqL.of hr0⟩,sz,fun t ht=>⟨r,xs,Z7 rfl ⟨rfl,Xf hr0 ht,Z7v (by omega),?_⟩⟩⟩)
  have g1:Gro [r] H _:=W4 (zs:=xs++[V.ref t]) (o:=.tup [.str "open"]) hr0 ht
  have e1:(xs++[V.ref t]).length=xs.length+1:=by simp
  refine(Z7 rfl (W5 (g1.tups _ _ e) rfl ⟨r,k,_,p,rfl,hpk.mono g1.tups,Z3,by rw[e1];omega,fun ys H2 hr2 hp2 g2=>?_⟩))
  rw[e1]at hp2
  have hl:=Paired.length hp2
  have hl2:(xs++[V.ref t]++ys).length<=1000000:=by rw[List.length_append,e1,hl];omega
  refine(Z7 rfl ⟨.inl ⟨rfl,_,SqL.of hr2⟩,W5 (g2.tups _ _ (g1.tups _ _ e)) rfl ⟨sz,fun t2 ht2=>⟨r,Va rfl rfl ⟨Xf hr2 ht2,Z7v hl2,?_⟩⟩⟩⟩)
  have g3:Gro [r] H2 _:=W4 (zs:=xs++[V.ref t]++ys++[V.ref t2]) (o:=.tup [.str "close",.int j]) hr2 ht2
  have et:H2 t=some (.tup [.str "open"]):=g2.tups _ _ (W3 hr0 ht)
  refine q (.ref t::(ys++[.ref t2])) _ (by simp[Z3]) ?_ ((g1.trans g2).trans g3)
  exact .cons ⟨t,rfl,g3.tups _ _ et⟩ (Zy (Y1 g3.tups hp2) (.cons ⟨t2,rfl,W3 hr2 ht2⟩ .nil))
 |hav j =>
  obtain⟨_,y,z',e0,e⟩:=lay
  subst e0
  refine(Z7 rfl ⟨rfl,Z7 rfl (Zb (show ¬Z1f "have" "row" = true by decide +kernel) ?_)⟩)
  refine(Z7 rfl ⟨rfl,Z7 rfl (Zb (show ¬Z1f "have" "or" = true by decide +kernel) ?_)⟩)
  refine(Z7 rfl ⟨rfl,Z7 rfl (Zb (show ¬Z1f "have" "times" = true by decide +kernel) ?_)⟩)
  refine(Z7 rfl ⟨rfl,Z7 rfl (Zb (show ¬Z1f "have" "group" = true by decide +kernel) ?_)⟩)
  refine(Z7 rfl ⟨rfl,Z7 rfl (Zj (show Z1f "have" "have" = true by decide +kernel) ?_)⟩)
  obtain⟨p,p',rfl,hpk,hpk'⟩:=Z6q hk
  rw[Yc,Vq]at hz
  exact(Z7 rfl (W5 e rfl (W5 e rfl (W5 e rfl ⟨r,j,y,z',xs,p,p',rfl,hpk,hpk',hr0,by omega,fun ys H' h1 h2 h3=>q ys H' h1 h2 h3⟩))))
 |look lk =>
  obtain⟨k,e0,e⟩:=lay
  subst e0
  have t:Z1f lk.text "row" = false/\Z1f lk.text "or" = false/\Z1f lk.text "times" = false/\Z1f lk.text "group" = false/\Z1f lk.text "have" = false:=by cases lk <;> decide +kernel
  obtain⟨t1,t2,t3,t4,t5⟩:=t
  refine(Z7 rfl ⟨rfl,Z7 rfl (Zb (show ¬Z1f lk.text "row" = true by rw[t1];decide) ?_)⟩)
  refine(Z7 rfl ⟨rfl,Z7 rfl (Zb (show ¬Z1f lk.text "or" = true by rw[t2];decide) ?_)⟩)
  refine(Z7 rfl ⟨rfl,Z7 rfl (Zb (show ¬Z1f lk.text "times" = true by rw[t3];decide) ?_)⟩)
  refine(Z7 rfl ⟨rfl,Z7 rfl (Zb (show ¬Z1f lk.text "group" = true by rw[t4];decide) ?_)⟩)
  refine(Z7 rfl ⟨rfl,Z7 rfl (Zb (show ¬Z1f lk.text "have" = true by rw[t5];decide) ?_)⟩)
  obtain⟨p,rfl,hpk⟩:=U4 hk
  rw[Vq]at hz
  exact(Z7 rfl (Z7 rfl (W5 e rfl ⟨r,lk,k,xs,p,rfl,hpk,hr0,by omega,fun ys H' h1 h2 h3=>q ys H' h1 h2 h3⟩)))
 |sign _=>exact absurd rfl z
 |any=>exact absurd rfl z
 |inn _=>exact absurd rfl z
 |out _=>exact absurd rfl z
 |beg=>exact absurd rfl z
 |fin=>exact absurd rfl z
 |again _=>exact absurd rfl z
theorem Z8b{it le ls:Addr}(T:Blt mg)(Vx:mg "ITSELF" = some (.ref it))(hIT:∀H,SqT K H it J0)(Wa:mg "LEANING" = some (.ref le))(hLE:∀H,SqT K H le V1)(X7:mg "LAST_ROWS" = some (.ref ls))(hLS:Zf5 K w ls V9)
  (d1:Def K mg "put" Z67 ["rows","pattern"]) (d2:Def K mg "hold_place" W2 ["rows"]) (d3:Def K mg "put_or" Uk ["rows","branches"]) (d4:Def K mg "put_times" Wg ["rows","low","high","how","part"]) (d5:Def K mg "put_have" V7 ["rows","number","yes","no"]) (d6:Def K mg "put_look" V6 ["rows","kind","part"]) :
  ∀n,Own P w K mg base (2+3*n) "put" ["rows","pattern"] (Z0y n)
 |0=>d1.own fun f fd F=>FnOk.never fun vs H Q E h=>by
  obtain⟨_,_,_,_,_,hp,_⟩:=h
  exact hp.elim
 |n+1=>by
  have ih:=Z8b T Vx hIT Wa hLE X7 hLS d1 d2 d3 d4 d5 d6 n
  have hold:Own P w K mg base 1 "hold_place" ["rows"] Z0n:=d2.own fun _ _ F=>Z2p T F
  have no:Own P w K mg base (2+3*n) "put_times" ["rows","low","high","how","part"] (W7 (fun _=>False) n):=d4.own fun _ _ F=>FnOk.never fun vs H Q E h=>by
   obtain⟨_,_,_,_,_,_,_,_,z,_⟩:=h
   exact z
  have t1:Own P w K mg base (2+3*n+1) "put_times" ["rows","low","high","how","part"] (W7 (fun h=>h=.much) n):=d4.own fun _ _ F=>J5 (ok':=fun _=>False) (fun how e z=>by rw[e]at z;cases z) T hold ih no F
  have t2:Own P w K mg base (2+(3*n+1)+1) "put_times" ["rows","low","high","how","part"] (W7 Zcp n):=d4.own fun _ _ F=>J5 (k:=3*n+1) (ok':=fun h=>h=.much) (fun how _ _=>rfl) T hold (ih.mono (k:=2+(3*n+1)) (by omega)) (t1.mono (k:=2+(3*n+1)) (by omega)) F
  exact d1.own fun _ _ F=>Zh1 (k:=3*n) T Vx hIT ih (d3.own fun _ _ F=>Z9p T hold ih F) (t2.mono (k:=2+3*n+2) (by omega)) (d5.own fun _ _ F=>Z52 T hold ih F) (d6.own fun _ _ F=>Z51 T Wa hLE X7 hLS hold ih F) F
inductive spCodedI(vs:List V)(H:Hp)(Q:VK):Prop
 |mk (v:V) (p:Pat) (_:vs=[v]) (_:PatAt H 8 v p) (_:p.size<=20000) (_:∀(t:Addr) (ys:List V) (H':Hp),H' t=some (.tup ys)->Paired (RowAt H') ys (p.code 0++[.tup [.str "found"]])->Gro [] H H'->Q (.ref t) H')
def Z48:Sp:=fun vs H Q _=>spCodedI vs H Q
abbrev Z17:Stmt:=top 4
theorem sc_coded:FnScope ["pattern","rows"] ["pattern"] (Z9 Z17):=Vm
theorem Zbb(T:Blt mg)(O_put:Own P w K mg base 26 "put" ["rows","pattern"] (Z0y 8))(F:Fun K "coded" "coded" Z17 f fd):FnOk P w K mg base Wq 27 f fd ["pattern"] Z48:=by
 refine F.ok sc_coded (fun vs H Q E h=>?_) (fun cdv A outer s H vs Q E hr h=>?_)
 ·obtain⟨v,p,rfl,_⟩:=h
  rfl
 obtain⟨v,p,rfl,hp,hz,q⟩:=h
 refine Vj ?_
 intro Xz
 refine⟨_,(Z1 (pS 1 sc_coded.nd (Xg Z2))
  (Z1 (Zf (Zz (O_put.mono (by omega)) hr rfl (Z0 (pv 1) (Z0 (pv 0) Z2))))
  (Z1 (Zf (Yr PySem.F.plainAttrs_list PySem.F.slot_list_append PySem.F.type_list_append Zw (pv 1) (Z0 (Zr (Z0 Zk Z2)) Z2)))
  (Z5 (Zo (Vr Z2q rfl T.b_tuple PyProof.Rows.Boot.«tuple» (Z0 (pv 1) Z2))))))),?_⟩
 refine Z7m ?_
 intro Ez Az1 Az2 Az3
 refine⟨sz,fun r hr0=>?_⟩
 have g0:Gro [] H (Zq H r (.lst [])):=Gro.new hr0 _
 refine(Z7 rfl (Z7 rfl ⟨r,v,[],p,rfl,hp.mono g0.tups,Z3,by simp;omega,fun ys H1 hr1 hy1 g1=>?_⟩))
 have hl:=Paired.length hy1
 have hf:=Pat.code_fits p 0
 have hl1:([]++ys).length<=1000000:=by rw[List.nil_append,hl];show(p.code 0).length<=_;omega
 refine(Z7 rfl ⟨.inl ⟨rfl,_,SqL.of hr1⟩,sz,fun t ht=>⟨r,Va rfl rfl ⟨Xf hr1 ht,Z7v hl1,?_⟩⟩⟩)
 have g2:Gro [r] H1 _:=W4 (zs:=[]++ys++[V.ref t]) (o:=.tup [.str "found"]) hr1 ht
 refine(Z7 rfl ⟨r,Z7 rfl (.inl ⟨SqL.of Z3,fun t3 ht3=>?_⟩)⟩)
 have et:=W3 (ys:=[.str "found"]) (zs:=[]++ys++[V.ref t]) hr1 ht
 generalize Zq (Zq H1 t (.tup [.str "found"])) r (.lst ([]++ys++[V.ref t]))=H2 at *
 have g3:Gro [] H2 (Zq H2 t3 (.tup ([]++ys++[V.ref t]))):=Gro.new ht3 _
 have gg:Gro [r] (Zq H r (.lst [])) (Zq H2 t3 (.tup ([]++ys++[V.ref t]))):=(g1.trans g2).trans (g3.mono (by simp))
 refine q t3 _ _ Z3 ?_ ⟨fun c o hc _=>?_,fun c zs hc=>gg.tups _ _ (g0.tups _ _ hc)⟩
 ·rw[List.nil_append]
  exact Zy (Y1 (fun b c h=>g3.tups _ _ (g2.tups _ _ h)) hy1) (.cons ⟨t,rfl,g3.tups _ _ et⟩ .nil)
 ·exact gg.keep c o (g0.keep c o hc (by simp)) (by simpa using Za hc hr0)
inductive spAlkI(n:Nat)(vs:List V)(H:Hp)(Q:VK):Prop
 |mk (x y:V) (_:vs=[x,y]) (_:Vd H n x y) (_:Q (.bl true) H)
def Z2j(n:Nat):Sp:=fun vs H Q _=>spAlkI n vs H Q
abbrev V3:Stmt:=top 58
theorem sc_l_alike:FnScope ["_law_found","_law_due","_law_k"] ["_law_found","_law_due"] (Z9 V3):=Vm
theorem Zcf{n:Nat}(T:Blt mg)(O_l_alike:Own P w K mg base (2+n) "_law_alike" ["_law_found","_law_due"] (Z2j n))(F:Fun K "_law_alike" "_law_alike" V3 f fd):FnOk P w K mg base Wq (2+n+1) f fd ["_law_found","_law_due"] (Z2j (n+1)):=by
 refine F.ok sc_l_alike (fun vs H Q E h=>?_) (fun cdv A outer s H vs Q E hr h=>?_)
 ·obtain⟨x,y,rfl,_⟩:=h
  rfl
 obtain⟨x,y,rfl,hxy,q⟩:=h
 refine Vj ?_
 intro Xz
 refine⟨_,(Z1 (Y0 (Tv (Td (pv 1))) (Z5 (Zo (Z7q (Td (pv 0))))) Zm)
  (Z1 (Y0 (Yw (Zh (Zu (T:="bool") (Yo (by simp))) rfl T.b_isinstance PyProof.Rows.Boot.«isinstance» (Z0 (pv 1) (Z0 (Y9 (v:=.ty "bool") rfl T.b_bool PyProof.Rows.Boot.«bool» rfl) Z2)))) (Z5 (Zo (Tc (Zh (Zu (T:="bool") (Yo (by simp))) rfl T.b_isinstance PyProof.Rows.Boot.«isinstance» (Z0 (pv 0) (Z0 (Y9 (v:=.ty "bool") rfl T.b_bool PyProof.Rows.Boot.«bool» rfl) Z2))) (Tw (Yz Y4 (pv 0) (pv 1) (Zi _)))))) Zm)
  (Z1 (Y0 (Yw (Zh (Zu (T:="int") (Yo (by simp))) rfl T.b_isinstance PyProof.Rows.Boot.«isinstance» (Z0 (pv 1) (Z0 (Y9 (v:=.ty "int") rfl T.b_int PyProof.Rows.Boot.«int» rfl) Z2)))) (Z5 (Zo (Tc (Zh (Zu (T:="int") (Yo (by simp))) rfl T.b_isinstance PyProof.Rows.Boot.«isinstance» (Z0 (pv 0) (Z0 (Y9 (v:=.ty "int") rfl T.b_int PyProof.Rows.Boot.«int» rfl) Z2))) (Tc (Zcb (Zh (Zu (T:="bool") (Yo (by simp))) rfl T.b_isinstance PyProof.Rows.Boot.«isinstance» (Z0 (pv 0) (Z0 (Y9 (v:=.ty "bool") rfl T.b_bool PyProof.Rows.Boot.«bool» rfl) Z2)))) (Tw (Yz Y4 (pv 0) (pv 1) (Zi _))))))) Zm)
  (Z1 (Y0 (Yw (Zh (Zu (T:="str") (Yo (by simp))) rfl T.b_isinstance PyProof.Rows.Boot.«isinstance» (Z0 (pv 1) (Z0 (Y9 (v:=.ty "str") rfl T.b_str PyProof.Rows.Boot.«str» rfl) Z2)))) (Z5 (Zo (Tc (Zh (Zu (T:="str") (Yo (by simp))) rfl T.b_isinstance PyProof.Rows.Boot.«isinstance» (Z0 (pv 0) (Z0 (Y9 (v:=.ty "str") rfl T.b_str PyProof.Rows.Boot.«str» rfl) Z2))) (Tw (Yz Y4 (pv 0) (pv 1) (Zi _)))))) Zm)
  (Z1 (Y0 (PW.pt (Z68 (Ze Z01 (Zh (Zu (T:="tuple") (Yo (by simp))) rfl T.b_isinstance PyProof.Rows.Boot.«isinstance» (Z0 (pv 1) (Z0 (Y9 (v:=.ty "tuple") rfl T.b_tuple PyProof.Rows.Boot.«tuple» rfl) Z2))) (Zh (Zu (T:="tuple") (Yo (by simp))) rfl T.b_isinstance PyProof.Rows.Boot.«isinstance» (Z0 (pv 0) (Z0 (Y9 (v:=.ty "tuple") rfl T.b_tuple PyProof.Rows.Boot.«tuple» rfl) Z2))) (Zi _)) (Z2c (Ze Z01 (Zh (Zu (T:="list") (Yo (by simp))) rfl T.b_isinstance PyProof.Rows.Boot.«isinstance» (Z0 (pv 1) (Z0 (Y9 (v:=.ty "list") rfl T.b_list PyProof.Rows.Boot.«list» rfl) Z2))) (Zh (Zu (T:="list") (Yo (by simp))) rfl T.b_isinstance PyProof.Rows.Boot.«isinstance» (Z0 (pv 0) (Z0 (Y9 (v:=.ty "list") rfl T.b_list PyProof.Rows.Boot.«list» rfl) Z2))) (Zi _))))) (Z5 (Zo Wo)) Zm)
  (Z1 (Y0 (Ze Z01 (Zh Zv rfl T.b_len PyProof.Rows.Boot.«len» (Z0 (pv 0) Z2)) (Zh Zv rfl T.b_len PyProof.Rows.Boot.«len» (Z0 (pv 1) Z2)) (Zi _)) (Z5 (Zo Wo)) Zm)
  (Z1 (Vb PassesOwn.never rfl (V5 rfl T.b_range (Z0 (Zh Zv rfl T.b_len PyProof.Rows.Boot.«len» (Z0 (pv 1) Z2)) Z2)) (pN 2 sc_l_alike.nd) (Z5 (Y0 (Z7o (Yw (Zz (O_l_alike.mono (by omega)) hr rfl (Z0 (Zg Zd (pv 0) (pv 2) (fun _ _=>rfl)) (Z0 (Zg Zd (pv 1) (pv 2) (fun _ _=>rfl)) Z2))))) (Z5 (Zo Wo)) Zm)))
  (Z5 (Zo Wo))))))))),?_⟩
 refine Zc8 ?_
 intro Ez Az1 Az2 Az3 Az4 Az5 Az6 Az7 Az8 Az9 Az10 Az11 Az12 Az13 Az14 Az15
 rcases hxy with⟨rfl,hx⟩ | ⟨a,b,xs,ys,rfl,rfl,ha,hb,hz,hp⟩
 ·cases x with
  |non=>exact(Z7 rfl (Z7 rfl (Zj (by decide) (Z7 rfl q))))
  |bl i =>
   refine⟨_,rfl,_,rfl,Zb (by simp) ?_⟩
   refine⟨_,rfl,_,_,rfl,rfl,_,rfl,Zj (by decide) ?_⟩
   refine⟨_,rfl,_,_,rfl,rfl,_,rfl,Zj (by decide) ?_⟩
   refine(Z7 rfl (Z7 rfl ⟨rfl,?_⟩))
   rw[decide_eq_true rfl]
   exact q
  |int i =>
   refine⟨_,rfl,_,rfl,Zb (by simp) ?_⟩
   refine⟨_,rfl,_,_,rfl,rfl,_,rfl,Zb (by decide) ?_⟩
   refine⟨_,rfl,_,_,rfl,rfl,_,rfl,Zj (by decide) ?_⟩
   refine⟨_,rfl,_,_,rfl,rfl,_,rfl,Zj (by decide) ?_⟩
   refine⟨_,rfl,_,_,rfl,rfl,_,rfl,_,rfl,Zj (by decide) ?_⟩
   refine(Z7 rfl (Z7 rfl ⟨rfl,?_⟩))
   rw[decide_eq_true rfl]
   exact q
  |str i =>
   refine⟨_,rfl,_,rfl,Zb (by simp) ?_⟩
   refine⟨_,rfl,_,_,rfl,rfl,_,rfl,Zb (by decide) ?_⟩
   refine⟨_,rfl,_,_,rfl,rfl,_,rfl,Zb (by decide) ?_⟩
   refine⟨_,rfl,_,_,rfl,rfl,_,rfl,Zj (by decide) ?_⟩
   refine⟨_,rfl,_,_,rfl,rfl,_,rfl,Zj (by decide) ?_⟩
   refine(Z7 rfl (Z7 rfl ⟨rfl,?_⟩))
   rw[decide_eq_true rfl]
   exact q
  |_=>exact absurd (show false=true from hx) (by decide)
 ·have hl:=Paired.length hp
  refine(Z7 rfl (Z7 rfl (Zb (by simp) ?_)))
  refine(Z7 rfl ⟨_,_,rfl,.inl ⟨ys,hb,rfl⟩,Z7 rfl (Zb (by decide) ?_)⟩)
  refine(Z7 rfl ⟨_,_,rfl,.inl ⟨ys,hb,rfl⟩,Z7 rfl (Zb (by decide) ?_)⟩)
  refine(Z7 rfl ⟨_,_,rfl,.inl ⟨ys,hb,rfl⟩,Z7 rfl (Zb (by decide) ?_)⟩)
  refine(Z7 rfl ⟨_,_,rfl,.inl ⟨ys,hb,rfl⟩,Z7 rfl ⟨_,_,rfl,.inl ⟨xs,ha,rfl⟩,rfl,Z7 rfl (Zb (by decide) ?_)⟩⟩)
  refine(Z7 rfl ⟨_,_,rfl,.inl ⟨ys,hb,rfl⟩,Z7 rfl ⟨_,_,rfl,.inl ⟨xs,ha,rfl⟩,rfl,Z7 rfl (Zb (by decide) ?_)⟩⟩)
  refine(Z7 rfl ⟨a,xs,rfl,.inr (SqT.of ha),Z7 rfl ⟨b,ys,rfl,.inr (SqT.of hb),rfl,Z7 rfl (Zb (by rw[hl];simp) ?_)⟩⟩)
  refine(Z7 rfl ⟨b,ys,rfl,.inr (SqT.of hb),Z7 rfl ⟨by omega,by omega,?_⟩⟩)
  refine T6 (fun i σ H'=>∃k:Option V,σ=[some (.ref a),some (.ref b),k]/\H'=H) ⟨none,rfl,rfl⟩ ?_ ?_
  ·rintro i σ H' hi ⟨k,rfl,rfl⟩
   have hi2:i<ys.length:=by simpa using hi
   have hi1:i<xs.length:=by omega
   obtain⟨y',hy',hs⟩:=Y5 hp (List.getElem?_eq_getElem hi1)
   have ez:(0:Int)+(i:Int)=((i:Nat):Int):=by omega
   refine⟨_,rfl,_,rfl,a,xs,_,_,rfl,rfl,SqT.of ha,by rw[ez];exact Wm (List.getElem?_eq_getElem hi1),_,rfl,_,rfl,b,ys,_,_,rfl,rfl,SqT.of hb,by rw[ez];exact Wm hy',_,_,rfl,hs,_,rfl,?_⟩
   exact Zb (by decide) (Z7 rfl rfl)
  ·rintro σ H' ⟨k,rfl,rfl⟩
   exact q
end
theorem Z5c{P:Program}{w:World}{K:W.Frag}{mg:Str->Option Value}{base:Heap}{CX:Zaf}{k:Nat}{f:Addr}{fd:FuncData}{ps:List Str}{sp sp':Sp}(F:FnOk P w K mg base CX k f fd ps sp)(F':FnOk P w K mg base CX k f fd ps sp'):FnOk P w K mg base CX k f fd ps (fun vs H Q E=>sp vs H Q E∨sp' vs H Q E) :=
 ⟨fun vs H Q E h=>h.elim (F.len _ _ _ _) (F'.len _ _ _ _),fun A outer s H args us vs Q E hr he hb hv h=>h.elim (F.run A outer s H args us vs Q E hr he hb hv) (F'.run A outer s H args us vs Q E hr he hb hv)⟩
section
variable{P:Program}{w:World}{K:W.Frag}{mg:Str->Option Value}{base:Heap}{f:Addr}{fd:FuncData}
inductive spAlkLI(n:Nat)(vs:List V)(H:Hp)(Q:VK):Prop
 |mk (a b:Addr) (xs ys:List V) (_:vs=[.ref a,.ref b]) (_:H a=some (.lst xs)) (_:H b=some (.lst ys)) (_:xs.length<=1000000) (_:Paired (Vd H n) xs ys) (_:Q (.bl true) H)
def Zc4(n:Nat):Sp:=fun vs H Q _=>spAlkLI n vs H Q
theorem Zef{n:Nat}(T:Blt mg)(O_l_alike:Own P w K mg base (2+n) "_law_alike" ["_law_found","_law_due"] (Z2j n))(F:Fun K "_law_alike" "_law_alike" V3 f fd):FnOk P w K mg base Wq (2+n+1) f fd ["_law_found","_law_due"] (Zc4 n):=by
 refine F.ok sc_l_alike (fun vs H Q E h=>?_) (fun cdv A outer s H vs Q E hr h=>?_)
 ·obtain⟨a,b,xs,ys,rfl,_⟩:=h
  rfl
 obtain⟨a,b,xs,ys,rfl,ha,hb,hz,hp,q⟩:=h
 refine Vj ?_
 intro Xz
 refine⟨_,(Z1 (Y0 (Tv (Td (pv 1))) (Z5 (Zo (Z7q (Td (pv 0))))) Zm)
  (Z1 (Y0 (Yw (Zh (Zu (T:="bool") (Yo (by simp))) rfl T.b_isinstance PyProof.Rows.Boot.«isinstance» (Z0 (pv 1) (Z0 (Y9 (v:=.ty "bool") rfl T.b_bool PyProof.Rows.Boot.«bool» rfl) Z2)))) (Z5 (Zo (Tc (Zh (Zu (T:="bool") (Yo (by simp))) rfl T.b_isinstance PyProof.Rows.Boot.«isinstance» (Z0 (pv 0) (Z0 (Y9 (v:=.ty "bool") rfl T.b_bool PyProof.Rows.Boot.«bool» rfl) Z2))) (Tw (Yz Y4 (pv 0) (pv 1) (Zi _)))))) Zm)
  (Z1 (Y0 (Yw (Zh (Zu (T:="int") (Yo (by simp))) rfl T.b_isinstance PyProof.Rows.Boot.«isinstance» (Z0 (pv 1) (Z0 (Y9 (v:=.ty "int") rfl T.b_int PyProof.Rows.Boot.«int» rfl) Z2)))) (Z5 (Zo (Tc (Zh (Zu (T:="int") (Yo (by simp))) rfl T.b_isinstance PyProof.Rows.Boot.«isinstance» (Z0 (pv 0) (Z0 (Y9 (v:=.ty "int") rfl T.b_int PyProof.Rows.Boot.«int» rfl) Z2))) (Tc (Zcb (Zh (Zu (T:="bool") (Yo (by simp))) rfl T.b_isinstance PyProof.Rows.Boot.«isinstance» (Z0 (pv 0) (Z0 (Y9 (v:=.ty "bool") rfl T.b_bool PyProof.Rows.Boot.«bool» rfl) Z2)))) (Tw (Yz Y4 (pv 0) (pv 1) (Zi _))))))) Zm)
  (Z1 (Y0 (Yw (Zh (Zu (T:="str") (Yo (by simp))) rfl T.b_isinstance PyProof.Rows.Boot.«isinstance» (Z0 (pv 1) (Z0 (Y9 (v:=.ty "str") rfl T.b_str PyProof.Rows.Boot.«str» rfl) Z2)))) (Z5 (Zo (Tc (Zh (Zu (T:="str") (Yo (by simp))) rfl T.b_isinstance PyProof.Rows.Boot.«isinstance» (Z0 (pv 0) (Z0 (Y9 (v:=.ty "str") rfl T.b_str PyProof.Rows.Boot.«str» rfl) Z2))) (Tw (Yz Y4 (pv 0) (pv 1) (Zi _)))))) Zm)
  (Z1 (Y0 (PW.pt (Z68 (Ze Z01 (Zh (Zu (T:="tuple") (Yo (by simp))) rfl T.b_isinstance PyProof.Rows.Boot.«isinstance» (Z0 (pv 1) (Z0 (Y9 (v:=.ty "tuple") rfl T.b_tuple PyProof.Rows.Boot.«tuple» rfl) Z2))) (Zh (Zu (T:="tuple") (Yo (by simp))) rfl T.b_isinstance PyProof.Rows.Boot.«isinstance» (Z0 (pv 0) (Z0 (Y9 (v:=.ty "tuple") rfl T.b_tuple PyProof.Rows.Boot.«tuple» rfl) Z2))) (Zi _)) (Z2c (Ze Z01 (Zh (Zu (T:="list") (Yo (by simp))) rfl T.b_isinstance PyProof.Rows.Boot.«isinstance» (Z0 (pv 1) (Z0 (Y9 (v:=.ty "list") rfl T.b_list PyProof.Rows.Boot.«list» rfl) Z2))) (Zh (Zu (T:="list") (Yo (by simp))) rfl T.b_isinstance PyProof.Rows.Boot.«isinstance» (Z0 (pv 0) (Z0 (Y9 (v:=.ty "list") rfl T.b_list PyProof.Rows.Boot.«list» rfl) Z2))) (Zi _))))) (Z5 (Zo Wo)) Zm)
  (Z1 (Y0 (Ze Z01 (Zh Zv rfl T.b_len PyProof.Rows.Boot.«len» (Z0 (pv 0) Z2)) (Zh Zv rfl T.b_len PyProof.Rows.Boot.«len» (Z0 (pv 1) Z2)) (Zi _)) (Z5 (Zo Wo)) Zm)
  (Z1 (Vb PassesOwn.never rfl (V5 rfl T.b_range (Z0 (Zh Zv rfl T.b_len PyProof.Rows.Boot.«len» (Z0 (pv 1) Z2)) Z2)) (pN 2 sc_l_alike.nd) (Z5 (Y0 (Z7o (Yw (Zz (O_l_alike.mono (by omega)) hr rfl (Z0 (Zg X3 (pv 0) (pv 2) (fun _ _=>rfl)) (Z0 (Zg X3 (pv 1) (pv 2) (fun _ _=>rfl)) Z2))))) (Z5 (Zo Wo)) Zm)))
  (Z5 (Zo Wo))))))))),?_⟩
 refine Zc8 ?_
 intro Ez Az1 Az2 Az3 Az4 Az5 Az6 Az7 Az8 Az9 Az10 Az11 Az12 Az13 Az14 Az15
 have hl:=Paired.length hp
 refine(Z7 rfl (Z7 rfl (Zb (by simp) ?_)))
 refine(Z7 rfl ⟨_,_,rfl,.inr ⟨ys,hb,rfl⟩,Z7 rfl (Zb (by decide) ?_)⟩)
 refine(Z7 rfl ⟨_,_,rfl,.inr ⟨ys,hb,rfl⟩,Z7 rfl (Zb (by decide) ?_)⟩)
 refine(Z7 rfl ⟨_,_,rfl,.inr ⟨ys,hb,rfl⟩,Z7 rfl (Zb (by decide) ?_)⟩)
 refine(Z7 rfl ⟨_,_,rfl,.inr ⟨ys,hb,rfl⟩,Z7 rfl ⟨_,_,rfl,.inr ⟨xs,ha,rfl⟩,rfl,Z7 rfl (Zb (by decide) ?_)⟩⟩)
 refine(Z7 rfl ⟨_,_,rfl,.inr ⟨ys,hb,rfl⟩,Z7 rfl ⟨_,_,rfl,.inr ⟨xs,ha,rfl⟩,rfl,Z7 rfl (Zb (by decide) ?_)⟩⟩)
 refine(Z7 rfl ⟨a,xs,rfl,.inl (SqL.of ha),Z7 rfl ⟨b,ys,rfl,.inl (SqL.of hb),rfl,Z7 rfl (Zb (by rw[hl];simp) ?_)⟩⟩)
 refine(Z7 rfl ⟨b,ys,rfl,.inl (SqL.of hb),Z7 rfl ⟨by omega,by omega,?_⟩⟩)
 refine T6 (fun i σ H'=>∃k:Option V,σ=[some (.ref a),some (.ref b),k]/\H'=H) ⟨none,rfl,rfl⟩ ?_ ?_
 ·rintro i σ H' hi ⟨k,rfl,rfl⟩
  have hi2:i<ys.length:=by simpa using hi
  have hi1:i<xs.length:=by omega
  obtain⟨y',hy',hs⟩:=Y5 hp (List.getElem?_eq_getElem hi1)
  have ez:(0:Int)+(i:Int)=((i:Nat):Int):=by omega
  refine⟨_,rfl,_,rfl,a,xs,_,_,rfl,rfl,SqL.of ha,by rw[ez];exact Wm (List.getElem?_eq_getElem hi1),_,rfl,_,rfl,b,ys,_,_,rfl,rfl,SqL.of hb,by rw[ez];exact Wm hy',_,_,rfl,hs,_,rfl,?_⟩
  exact Zb (by decide) (Z7 rfl rfl)
 ·rintro σ H' ⟨k,rfl,rfl⟩
  exact q
def Zc3:Sp:=fun vs H Q E=>Z2j 5 vs H Q E∨Zc4 5 vs H Q E
theorem Zb0(T:Blt mg)(D:Def K mg "_law_alike" V3 ["_law_found","_law_due"])(al:∀n,Own P w K mg base (2+n) "_law_alike" ["_law_found","_law_due"] (Z2j n)):Own P w K mg base 8 "_law_alike" ["_law_found","_law_due"] Zc3 :=
 D.own fun _ _ F=>Z5c ((Zcf (n:=4) T (al 4) F).mono (by decide)) (Zef (n:=5) T (al 5) F)
end
theorem close_rw{o:Op}{k:Int}:(o.rw).close=some k↔o=.close k:=by
 cases o with
 |close j =>
  constructor
  ·intro h
   have h':(if("close":Str)="close" then some j else none)=some k:=h
   rw[if_pos rfl]at h'
   injection h' with h'
   rw[h']
  ·intro h
   cases h
   show(if("close":Str)="close" then some k else none)=some k
   rw[if_pos rfl]
 |try_ z =>
  refine⟨fun h=>?_,fun h=>by cases h⟩
  have h':(if("try":Str)="close" then some (z:Int) else none)=some k:=h
  rw[if_neg (by decide +kernel)]at h'
  cases h'
 |go z =>
  refine⟨fun h=>?_,fun h=>by cases h⟩
  have h':(if("go":Str)="close" then some (z:Int) else none)=some k:=h
  rw[if_neg (by decide +kernel)]at h'
  cases h'
 |bar z =>
  refine⟨fun h=>?_,fun h=>by cases h⟩
  have h':(if("bar":Str)="close" then some (z:Int) else none)=some k:=h
  rw[if_neg (by decide +kernel)]at h'
  cases h'
 |_=>exact⟨fun h=>(by cases h),fun h=>(by cases h)⟩
theorem Zde(o:Op):(o.rw).tame:=by
 cases o with
 |pat h=>trivial
 |close k=>exact⟨_,_,rfl,fun _=>⟨k,rfl⟩⟩
 |_=>exact⟨_,_,rfl,fun z=>absurd z (by decide +kernel)⟩
def Yd(p:Pat):List Op:=p.ops 0++[.found]
theorem Z31(p:Pat):(Yd p).map Op.rw=p.code 0++[.tup [.str "found"]]:=by
 unfold Yd
 rw[List.map_append,Pat.ops_rw p 0]
 rfl
theorem Z9i(p:Pat):∀o∈Yd p,o.ok:=fun o ho=>by
 rcases List.mem_append.mp ho with ho | ho
 ·exact Zcd p 0 o ho
 ·rw[List.mem_singleton.mp ho];trivial
theorem Z1m{H:Hp}:∀n,Paired (EnA H) (List.replicate n V.non) (List.replicate n (none:En))
 |0=>.nil
 |n+1=>.cons rfl (Z1m n)
theorem Zen(t:Str)(n:Nat):GOk t n (List.replicate n none):=⟨List.length_replicate,fun x y h=>by have:=List.eq_of_mem_replicate h;cases this⟩
structure MSt(C m ra ch:Addr)(t:Str)(n:Nat)(es:List Op)(H:Hp)(M:MM)(cf:Cf):Prop where
 at_:MAt C H m M
 am:AM H ra t ch M cf
 cs:M.cs.length<=40000
 ro:∃ys,H ra=some (.tup ys)/\Paired (RowAt H) ys (es.map Op.rw)
 ok:∀o∈es,o.ok
 en:es[es.length-1]? = some .found
 tx:t.length<=1000
 nn:n<=900
theorem Z5g{H:Hp}{n:Nat}{i:Str}:Vd H (n+1) (.str i) (.str i):=.inl ⟨rfl,rfl⟩
theorem J8{H:Hp}{n:Nat}{i:Int}:Vd H (n+1) (.int i) (.int i):=.inl ⟨rfl,rfl⟩
theorem Zdo{H:Hp}{n:Nat}:∀ {x:En} {v v':V},EnA H v x->EnA H v' x->Vd H (n+2) v v'
 |none,_,_,h,h'=>by
  have e:_=V.non:=h
  have e':_=V.non:=h'
  rw[e,e']
  exact .inl ⟨rfl,rfl⟩
 |some p,_,_,⟨a,e,h⟩,⟨a',e',h'⟩=>.inr ⟨a,a',_,_,e,e',h,h',by simp,.cons J8 (.cons J8 .nil)⟩
theorem Z5i{H:Hp}{n:Nat}:∀ {g:Gs} {es es':List V},Paired (EnA H) es g->Paired (EnA H) es' g->Paired (Vd H (n+2)) es es'
 | [],_,_,.nil,.nil=>.nil
 |_::_,_,_,.cons h t,.cons h' t'=>.cons (Zdo h h') (Z5i t t')
theorem Zdn{H:Hp}{n:Nat}{g:Gs}{v v':V}(h:GsAt H v g)(h':GsAt H v' g)(hl:g.length<=1000000):Vd H (n+3) v v':=by
 obtain⟨a,es,e1,e2,e3⟩:=h
 obtain⟨a',es',e1',e2',e3'⟩:=h'
 exact .inr ⟨a,a',es,es',e1,e1',e2,e2',by rw[Paired.length e3];exact hl,Z5i e3 e3'⟩
def MK(C m ra ch:Addr)(t:Str)(n:Nat)(es:List Op)(H:Hp)(cf:Cf)(made:Int):Prop:=∃M:MM,MSt C m ra ch t n es H M cf/\M.s.made=made
theorem MK.ob{C m ra ch:Addr}{t:Str}{n:Nat}{es:List Op}{H:Hp}{cf:Cf}{made:Int}(h:MK C m ra ch t n es H cf made):(∃dx s,H m=some (.ins C dx (MS.fs s)))/\∃l,H ch=some (.lst l):=by
 obtain⟨M,h3,_⟩:=h
 have e0:=h3.am.fresh.2.2.2
 obtain⟨⟨dx,e⟩,l,e',_⟩:=id h3.at_
 rw[e0]at e'
 exact⟨⟨dx,_,e⟩,l,e'⟩
def Tl(es:List Op)(t:Str)(n:Nat)(cf:Cf):Option Yb->Nat->Cf->Prop
 |some w,j,cf'=>∃xs,Rc es t n cf j (.run ⟨es.length-1,w.1,w.2,[],xs⟩)/\cf'=bk xs
 |none,j,cf'=>Rc es t n cf j .ended/\cf'=.ended
def AnsAt(H:Hp)(tt:Addr):Option Yb->Prop
 |some w=>∃gv,H tt=some (.tup [.str "way",.int w.1,gv])/\GsAt H gv w.2
 |none=>H tt=some (.tup [.str "none"])
theorem AnsAt.mono{H H':Hp}(tm:Tm H H'){tt:Addr}:∀ {w:Option Yb},AnsAt H tt w->AnsAt H' tt w
 |some _,⟨gv,h1,h2⟩=>⟨gv,tm _ _ h1,h2.mono tm⟩
 |none,h=>tm _ _ h
def Z13:Option Yb->Nat->Nat
 |some _,j=>j+1
 |none,j=>j
theorem Zc5{es:List Op}{t:Str}{n:Nat}{cf cf':Cf}{j k:Nat}(r:Rc es t n cf j cf')(h:k<=j):Rc es t n cf k (run es t k cf)/\Rc es t n (run es t k cf) (j-k) cf':=by
 refine⟨⟨fun i hi=>r.live i (by omega),rfl⟩,fun i hi=>?_,?_⟩
 ·have:=r.live (k+i) (by omega)
  rw[Jm]at this
  exact this
 ·rw[← Jm,show k+(j-k)=j by omega]
  exact r.eq
theorem Zlp{C m ra ch:Addr}{t:Str}{n:Nat}{es:List Op}{H:Hp}{cf cf':Cf}{made most:Int}{w:Option Yb}{j:Nat}{Q:VK}{E:XK}(h:MK C m ra ch t n es H cf made)(hT:Tl es t n cf w j cf')(hw:∀x,w=some x->x.1<=t.length/\GOk t n x.2)(hB:cf.csl+j<=40000)(hm:1<=most)
  (q1:(Z13 w j:Int)<=most->∀(H':Hp) (tt:Addr),MK C m ra ch t n es H' cf' (made+Z13 w j)->AnsAt H' tt w->Gro [m,ch] H H'->Q (.ref tt) H')
  (q2:most<(Z13 w j:Int)->∀(H':Hp) (tt:Addr) (cf2:Cf) (j2:Nat),(j2:Int)+most=j->MK C m ra ch t n es H' cf2 (made+most)->Tl es t n cf2 w j2 cf'->cf2.csl+j2<=40000->H' tt=some (.tup [.str "over"])->Gro [m,ch] H H'->Q (.ref tt) H'):Z4p C [.ref m,.int most] H Q E:=by
 obtain⟨M,st,hmd⟩:=h
 obtain⟨ys,hra,hys⟩:=id st.ro
 have hcs:=st.cs
 have mk:∀(H':Hp) (M':MM) (cf2:Cf),MAt C H' m M'->AM H' ra t ch M' cf2->M'.cs.length<=40000->Gro [m,ch] H H'->MSt C m ra ch t n es H' M' cf2:=fun H' M' cf2 h1 h2 h3 g=>⟨h1,h2,h3,⟨ys,g.tups _ _ hra,Y1 g.tups hys⟩,st.ok,st.en,st.tx,st.nn⟩
 refine⟨m,ra,ch,most,t,n,es,ys,M,cf,rfl,hm,st.at_,st.am,by omega,hra,hys,st.ok,st.tx,st.nn,?_⟩
 by_cases hc:(Z13 w j:Int)<=most
 ·cases w with
  |some x =>
   obtain⟨xs,r,rfl⟩:=hT
   have hx:=hw x rfl
   have hc':((j+1:Nat):Int)<=most:=hc
   refine .inl ⟨j,_,r,st.en,hx.1,hx.2,by omega,by omega,fun H' tt gv M' hM' hAM' hl' hmd' htt hgs g'=>?_⟩
   have hcl:=Tf es t cf j
   rw[r.eq]at hcl
   have hcl':xs.length<=cf.csl+j:=hcl
   have hl2:M'.cs.length=xs.length:=hl'
   exact q1 hc H' tt ⟨M',mk H' M' _ hM' hAM' (by omega) g',by rw[hmd',hmd];show made+j+1=made+((j+1:Nat):Int);omega⟩ ⟨gv,htt,hgs⟩ g'
  |none =>
   obtain⟨r,rfl⟩:=hT
   have hc':(j:Int)<=most:=hc
   exact .inr (.inl ⟨j,r,hc',by omega,fun H' tt M' hM' hAM' hl' hmd' htt g'=>q1 hc H' tt ⟨M',mk H' M' _ hM' hAM' (by omega) g',by rw[hmd',hmd];rfl⟩ htt g'⟩)
 ·have hc':most<(Z13 w j:Int):=by omega
  obtain⟨k,rfl⟩:∃k:Nat,most=k:=⟨most.toNat,by omega⟩
  have fin:∀c:Cg,Rc es t n cf k (.run c)->k<=j->Tl es t n (.run c) w (j-k) cf'->Zjk C Q H m ra ch t n es k cf M.s.made:=fun c r hkj hT2=>by
   have hcl:=Tf es t cf k
   rw[r.eq]at hcl
   have hcl':c.cs.length<=cf.csl+k:=hcl
   refine .inr (.inr ⟨k,c,r,rfl,by omega,fun H' tt M' hM' hAM' hl' hmd' htt g'=>?_⟩)
   exact q2 hc' H' tt (.run c) (j-k) (by omega) ⟨M',mk H' M' _ hM' hAM' (by omega) g',by rw[hmd',hmd]⟩ hT2 (by show c.cs.length+(j-k)<=_;omega) htt g'
  cases w with
  |some x =>
   obtain⟨xs,r,rfl⟩:=hT
   have hc2:(k:Int)<((j+1:Nat):Int):=hc'
   have hkj:k<=j:=by omega
   obtain⟨r1,r2⟩:=Zc5 r hkj
   by_cases hlt:k<j
   ·obtain⟨c,e,_⟩:=r.live k hlt
    rw[e]at r1 r2
    exact fin c r1 hkj ⟨xs,r2,rfl⟩
   ·have ekj:k=j:=by omega
    subst ekj
    rw[r.eq]at r1 r2
    exact fin _ r1 hkj ⟨xs,r2,rfl⟩
  |none =>
   obtain⟨r,rfl⟩:=hT
   have hc2:(k:Int)<(j:Int):=hc'
   obtain⟨r1,r2⟩:=Zc5 r (show k<=j by omega)
   obtain⟨c,e,_⟩:=r.live k (by omega)
   rw[e]at r1 r2
   exact fin c r1 (by omega) ⟨r2,rfl⟩
theorem Zbi{C m ra ch gd:Addr}{t:Str}{i n:Nat}{p:Pat}{H:Hp}{ys:List V}(hM:MAt C H m (Zjx ra t i (.ref gd) ch))(hg:H gd=some (.tup (List.replicate n .non)))(hra:H ra=some (.tup ys))(hys:Paired (RowAt H) ys ((Yd p).map Op.rw))
  (ht:t.length<=1000) (hn:n<=900):MK C m ra ch t n (Yd p) H (.run ⟨0,i,List.replicate n none,[],[]⟩) 0:=by
 have hl:(Yd p).length-1=(p.ops 0).length:=by unfold Yd;rw[List.length_append];rfl
 refine⟨Zjx ra t i (.ref gd) ch,⟨hM,.inl ⟨rfl,rfl,rfl,rfl,rfl,rfl,rfl,⟨gd,_,rfl,hg,Z1m n⟩,rfl,.nil⟩,Nat.zero_le _,⟨ys,hra,hys⟩,Z9i p,?_,ht,hn⟩,rfl⟩
 rw[hl]
 unfold Yd
 rw[List.getElem?_append_right (Nat.le_refl _),Nat.sub_self]
 rfl
def Zfb(t:Str)(n:Nat)(p:Pat)(b:Nat)(w:Option Yb)(c:Nat):Prop:=∃(j:Nat) (cf':Cf),Tl (Yd p) t n (.run ⟨0,b,List.replicate n none,[],[]⟩) w j cf'/\j<=40000/\(∀x,w=some x->x.1<=t.length/\GOk t n x.2)/\c=Z13 w j/\1<=c
inductive FdC(t:Str)(n:Nat)(p:Pat):Nat->Option (Nat×Yb)->Nat->Prop
 |out {b:Nat}:t.length<b->FdC t n p b none 0
 |hit {b c:Nat} {w:Yb}:b<=t.length->Zfb t n p b (some w) c->FdC t n p b (some (b,w)) c
 |go {b c c':Nat} {r:Option (Nat×Yb)}:b<=t.length->Zfb t n p b none c->FdC t n p (b+1) r c'->FdC t n p b r (c+c')
def FnA(H:Hp)(v:V):Option (Nat×Yb)->Prop
 |none=>v=.non
 |some x=>∃(a:Addr) (gv:V),v=.ref a/\H a=some (.tup [.int x.1,.int x.2.1,gv])/\GsAt H gv x.2.2
theorem FnA.mono{H H':Hp}(tm:Tm H H'){v:V}:∀ {r:Option (Nat×Yb)},FnA H v r->FnA H' v r
 |none,h=>h
 |some _,⟨a,gv,e1,e2,e3⟩=>⟨a,gv,e1,tm _ _ e2,e3.mono tm⟩
theorem Z9h{H:Hp}{n:Nat}{v v':V}:∀ {r:Option (Nat×Yb)},FnA H v r->FnA H v' r->(∀x,r=some x->x.2.2.length<=1000000)->Vd H (n+4) v v'
 |none,h1,h2,_=>by
  have e:v=V.non:=h1
  have e':v'=V.non:=h2
  rw[e,e']
  exact .inl ⟨rfl,rfl⟩
 |some x,⟨a,gv,e1,e2,e3⟩,⟨a',gv',e1',e2',e3'⟩,hl=>.inr ⟨a,a',_,_,e1,e1',e2,e2',by simp,.cons J8 (.cons J8 (.cons (Zdn e3 e3' (hl x rfl)) .nil))⟩
def Zd7(x:Nat×Yb):Nat:=x.2.1+if x.2.1=x.1 then 1 else 0
def Zae(H:Hp)(v:V)(x:Nat×Yb):Prop:=FnA H v (some x)
theorem Yh{H H':Hp}(tm:Tm H H'){vs:List V}{xs:List (Nat×Yb)}(h:Paired (Zae H) vs xs):Paired (Zae H') vs xs:=Paired.mapP h fun _ _ q=>FnA.mono (r:=some _) tm q
theorem Paired.snoc{α β:Type}{F:α->β->Prop}{a:α}{b:β}(h:F a b):∀ {xs:List α} {ys:List β},Paired F xs ys->Paired F (xs++[a]) (ys++[b])
 | [],_,.nil=>.cons h .nil
 |_::_,_,.cons h' r=>.cons h' (Paired.snoc h r)
inductive FdsC(t:Str)(n:Nat)(p:Pat):Nat->List (Nat×Yb)->Nat->Prop
 |no {s c:Nat}:FdC t n p s none c->FdsC t n p s [] c
 |more {s c c':Nat} {x:Nat×Yb} {xs:List (Nat×Yb)}:FdC t n p s (some x) c->s<=x.1->x.1<=x.2.1->x.2.1<=t.length->FdsC t n p (Zd7 x) xs c'->FdsC t n p s (x::xs) (c+c')
def Z3p(ra:Addr)(t:Str)(L:Int):List (Str×V):=[("rows",.ref ra),("text",.str t),("left",.int L)]
theorem Zdj{ra:Addr}{t:Str}{L:Int}:(Z3p ra t L).lookup ("rows":Str)=some (.ref ra):=Wl
theorem Z82{ra:Addr}{t:Str}{L:Int}:(Z3p ra t L).lookup ("text":Str)=some (.str t):=by unfold Z3p;rw[Zp (by decide +kernel),Wl]
theorem Z15{ra:Addr}{t:Str}{L:Int}:(Z3p ra t L).lookup ("left":Str)=some (.int L):=by unfold Z3p;rw[Zp (by decide +kernel),Zp (by decide +kernel),Wl]
theorem Z80{ra:Addr}{t:Str}{L L':Int}:Y7 "left" (.int L') (Z3p ra t L)=Z3p ra t L':=by unfold Z3p;rw[Zc (by decide +kernel),Zc (by decide +kernel),Tb]
theorem Zfg{m:Str}{ra:Addr}{t:Str}{L:Int}(h:(m=="rows")=false/\(m=="text")=false/\(m=="left")=false):(Z3p ra t L).lookup m=none:=by
 unfold Z3p
 rw[Zp h.1,Zp h.2.1,Zp h.2.2]
 rfl
structure TxtS(K:W.Frag)(CS:Addr):Prop where
 cl:Cls K CS
 a1:NoAttr K CS "rows"
 a2:NoAttr K CS "text"
 a3:NoAttr K CS "left"
structure RsAt(H:Hp)(ra:Addr)(p:Pat):Prop where
 ex:∃ys,H ra=some (.tup ys)/\Paired (RowAt H) ys ((Yd p).map Op.rw)/\ys.length<=1000000
theorem RsAt.mono{H H':Hp}{ra:Addr}{p:Pat}(h:RsAt H ra p)(tm:Tm H H'):RsAt H' ra p:=by
 obtain⟨ys,h1,h2,h3⟩:=h.ex
 exact⟨ys,tm _ _ h1,Y1 tm h2,h3⟩
section
variable{P:Program}{w:World}{K:W.Frag}{mg:Str->Option Value}{base:Heap}{f C CS:Addr}{fd:FuncData}
inductive spSInitI(CS:Addr)(vs:List V)(H:Hp)(Q:VK):Prop
 |mk (m dx:Addr) (v:V) (t:Str) (L:Int) (p:Pat) (_:vs=[.ref m,v,.str t,.int L]) (_:H m=some (.ins CS dx [])) (_:PatAt H 8 v p) (_:p.size<=20000) (_:∀(ra:Addr) (H':Hp),H' m=some (.ins CS dx (Z3p ra t L))->RsAt H' ra p->Gro [m] H H'->Q .non H')
def Z43(CS:Addr):Sp:=fun vs H Q _=>spSInitI CS vs H Q
abbrev X1:Stmt:=Xk (top 54) 0
theorem Tj:FnScope ["self","pattern","text","most"] ["self","pattern","text","most"] (Z9 X1):=Vm
theorem Zb4(MTS:TxtS K CS)(O_coded:Own P w K mg base 27 "coded" ["pattern"] Z48)(F:Fun K "__init__" "Seeker.__init__" X1 f fd):FnOk P w K mg base Wq 28 f fd ["self","pattern","text","most"] (Z43 CS):=by
 refine F.ok Tj (fun vs H Q E h=>?_) (fun cdv A outer s H vs Q E hr h=>?_)
 ·obtain⟨m,dx,v,t,L,p,rfl,_⟩:=h
  rfl
 obtain⟨m,dx,v,t,L,p,rfl,h0,hp,hz,q⟩:=h
 refine Vj ?_
 intro Xz
 refine⟨_,(Z1 (Ya (pv 0) (Zz (O_coded.mono (by omega)) hr rfl (Z0 (pv 1) Z2)) rfl)
  (Z1 (Ya (pv 0) (pv 2) rfl)
  (Z5 (Ya (pv 0) (pv 3) rfl)))),?_⟩
 refine Z27 ?_
 intro Ez Az1 Az2
 refine(Z7 rfl ⟨v,p,rfl,hp,hz,fun ra ys H1 hra hys g1=>?_⟩)
 rw[← Z31]at hys
 have hyl:ys.length<=1000000:=by
  have h1:=Pat.code_fits p 0
  rw[Paired.length hys,Z31,List.length_append]
  show(p.code 0).length+1<=_
  omega
 have h1:=g1.keep _ _ h0 (by simp)
 refine(Z7 rfl ⟨m,CS,dx,Z7 rfl ⟨h1,MTS.cl,MTS.a1,by simp,?_⟩⟩)
 have g2:Gro [m] H1 (Zq H1 m (.ins CS dx (Y7 "rows" (.ref ra) []))):=Gro.obj h1
 have e2:(Zq H1 m (.ins CS dx (Y7 "rows" (.ref ra) []))) m=some (.ins CS dx [("rows",.ref ra)]):=Z3
 generalize Zq H1 m (.ins CS dx (Y7 "rows" (.ref ra) []))=H2 at *
 refine(Z7 rfl (Z7 rfl ⟨m,CS,dx,Z7 rfl ⟨e2,MTS.cl,MTS.a2,by simp,?_⟩⟩))
 have g3:Gro [m] H2 (Zq H2 m (.ins CS dx (Y7 "text" (.str t) [("rows",.ref ra)]))):=Gro.obj e2
 have e3:(Zq H2 m (.ins CS dx (Y7 "text" (.str t) [("rows",.ref ra)]))) m=some (.ins CS dx [("rows",.ref ra),("text",.str t)]):=by rw[Z3,Zc (by decide +kernel),Vc]
 generalize Zq H2 m (.ins CS dx (Y7 "text" (.str t) [("rows",.ref ra)]))=H3 at *
 refine(Z7 rfl (Z7 rfl ⟨m,CS,dx,Z7 rfl ⟨e3,MTS.cl,MTS.a3,by simp,?_⟩⟩))
 have g4:Gro [m] H3 (Zq H3 m (.ins CS dx (Y7 "left" (.int L) [("rows",.ref ra),("text",.str t)]))):=Gro.obj e3
 have e4:(Zq H3 m (.ins CS dx (Y7 "left" (.int L) [("rows",.ref ra),("text",.str t)]))) m=some (.ins CS dx (Z3p ra t L)):=by rw[Z3,Zc (by decide +kernel),Zc (by decide +kernel),Vc];rfl
 have g24:=(g2.trans g3).trans g4
 exact q ra _ e4 ⟨ys,g24.tups _ _ hra,Y1 g24.tups hys,hyl⟩ ((g1.mono (by simp)).trans g24)
inductive spFAtXI(CS CO:Addr)(vs:List V)(H:Hp)(Q:VK)(E:XK):Prop
 |mk (s dx ra:Addr) (t:Str) (b n c:Nat) (L:Int) (p:Pat) (w:Option Yb) (_:vs=[.ref s,.int b]) (_:H s=some (.ins CS dx (Z3p ra t L))) (_:RsAt H ra p) (_:Ug ((Yd p).map Op.rw)=n) (_:n<=9) (_:t.length<=200) (_:b<=t.length) (_:Zfb t n p b w c)
  (_:(c:Int)<=L->∀(v:V) (H':Hp),FnA H' v (w.map fun w=>(b,w))->H' s=some (.ins CS dx (Z3p ra t (L-c)))->Gro [s] H H'->Q v H') (_:L<(c:Int)->∀H':Hp,Gro [s] H H'->E (.ref CO) none H')
def Z7l(CS CO:Addr):Sp:=fun vs H Q E=>spFAtXI CS CO vs H Q E
abbrev X8:Stmt:=Xk (top 54) 2
theorem sc_Seeker_find_at:FnScope ["self","begin","machine","answer"] ["self","begin"] (Z9 X8):=Vm
theorem Zec{CO CE:Addr}(MT:Txt K mg C)(MTS:TxtS K CS)(XC_Over:XC K mg "Over" CO CE)(O_Machine:OwnC P w K mg base 1 C "Machine" ["self","rows","text","at"] (Z7i C))(O_Machine_way:OwnM P w K mg base 6 C "way" ["self","most"] (Z4p C))(O_Machine_moves:OwnM P w K mg base 1 C "moves" ["self"] (Z46 C))
  (F:Fun K "find_at" "Seeker.find_at" X8 f fd):FnOk P w K mg base (Z7w P w) 7 f fd ["self","begin"] (Z7l CS CO):=by
 refine F.okX sc_Seeker_find_at (fun vs H Q E h=>?_) (fun cdv A outer s H vs Q E hr h LX=>?_)
 ·obtain⟨s,dx,ra,t,b,n,c,L,p,ws,rfl,_⟩:=h
  rfl
 obtain⟨s,dx,ra,t,b,n,c,L,p,ws,rfl,hs,hra,hcnt,hn,ht,hb,⟨j,cf',hT,hj,gw,hc,hc1⟩,q,qx⟩:=h
 refine Vj ?_
 intro Xz
 refine⟨_,(Z1 (Y0 (Ze Z6a (Zn (pv 0) rfl) Z6 (Zi _)) (Z5 (Jh LX rfl XC_Over rfl (Z0 Zk Z2))) Zm)
  (Z1 (pS 2 sc_Seeker_find_at.nd (Z87 (O_Machine.mono (by omega)) hr rfl (Z0 (Zn (pv 0) rfl) (Z0 (Zn (pv 0) rfl) (Z0 (pv 1) Z2)))))
  (Z1 (pS 3 sc_Seeker_find_at.nd (Xi (O_Machine_way.mono (by omega)) MT.cl hr (pv 2) (Z0 (Zn (pv 0) rfl) Z2)))
  (Z1 (T3 (pv 0) (Yf (O_Machine_moves.mono (by omega)) MT.cl hr (pv 2)) Zhg)
  (Z1 (Y0 (Ze Y4 (Zg Zd (pv 3) Z6 (fun _ _=>rfl)) Zk (Zi _)) (Z5 (Jh LX rfl XC_Over rfl (Z0 Zk Z2))) Zm)
  (Z5 (Zo (Xp (Ze Y4 (Zg Zd (pv 3) Z6 (fun _ _=>rfl)) Zk (Zi _)) (Zr (Z0 (pv 1) (Z0 (Zg Zd (pv 3) Z6 (fun _ _=>rfl)) (Z0 (Zg Zd (pv 3) Z6 (fun _ _=>rfl)) Z2)))) Z0q)))))))),?_⟩
 refine Zgb ?_
 intro Ez Az1 Az2 Az3 Az4 Az5 Az6 Az7
 refine(Z7 rfl ⟨s,CS,dx,_,_,rfl,hs,MTS.cl,MTS.a3,Z15,Va rfl rfl (Z7 rfl (V8 (fun hl=>?_) (fun hl=>?_)))⟩)
 ·have hl':L<1:=of_decide_eq_true hl
  exact⟨sz,qx (by omega) H Gro.refl⟩
 have hL:1<=L:=by
  have:¬L<1:=fun z=>hl (decide_eq_true z)
  omega
 refine(Z7 rfl ⟨s,CS,dx,_,_,rfl,hs,MTS.cl,MTS.a1,Zdj,Z7 rfl ⟨s,CS,dx,_,_,rfl,hs,MTS.cl,MTS.a2,Z82,Z7 rfl (fun m dm hm hdm hne=>?_)⟩⟩)
 have g1:Gro [] H (Zq (Zq H dm (.own m)) m (.ins C dm [])):=(Gro.new hdm _).trans (Gro.new (by rw[Zt (Ne.symm hne)];exact hm) _)
 have e1:(Zq (Zq H dm (.own m)) m (.ins C dm [])) m=some (.ins C dm []):=Z3
 generalize Zq (Zq H dm (.own m)) m (.ins C dm [])=H1 at *
 obtain⟨ys,hya,hyp,hyl⟩:=hra.ex
 have tame:∀r∈(Yd p).map Op.rw,r.tame:=fun r hr=>by
  obtain⟨o,_,rfl⟩:=List.mem_map.mp hr
  exact Zde o
 refine⟨m,dm,ra,t,b,ys,_,rfl,e1,g1.tups _ _ hya,Y1 g1.tups hyp,hyl,tame,by rw[hcnt];omega,by rw[hcnt];omega,fun ch gd H2 hcn hM2 hg2 g2=>⟨rfl,?_⟩⟩
 rw[hcnt]at hg2
 have hg2':H2 gd=some (.tup (List.replicate n .non)):=hg2
 have g12:Gro [] H H2:=⟨fun b o h _=>g2.keep b o (g1.keep b o h (by simp)) (by simpa using Za h hm),fun b xs h=>g2.tups _ _ (g1.tups _ _ h)⟩
 have mk2:MK C m ra ch t n (Yd p) H2 (.run ⟨0,b,List.replicate n none,[],[]⟩) 0:=Zbi hM2 hg2' (g12.tups _ _ hya) (Y1 g12.tups hyp) (by omega) (by omega)
 have s2:=g12.keep _ _ hs (by simp)
 have n1:s≠m:=Za hs hm
 have n2:s≠ch:=Za (g1.keep _ _ hs (by simp)) hcn
 obtain⟨⟨d2,s2',e2⟩,_⟩:=mk2.ob
 refine(Z7 rfl ⟨m,d2,Z7 rfl ⟨e2,Zh4 _,Z7 rfl ⟨s,CS,dx,_,_,rfl,s2,MTS.cl,MTS.a3,Z15,?_⟩⟩⟩)
 subst hc
 refine Zlp (E:=E0) mk2 hT gw (by show 0+j<=40000;omega) hL (fun hc H3 tt hK3 htt g3=>?_) (fun hc H3 tt cf2 j2 _ hK3 _ _ htt g3=>?_)
 ·obtain⟨M3,st3,hm3⟩:=id hK3
  obtain⟨⟨d3,e3⟩,_⟩:=id st3.at_
  have s3:=g3.keep _ _ s2 (by simp[n1,n2])
  refine(Z7 rfl ⟨s,CS,dx,_,_,rfl,s3,MTS.cl,MTS.a3,Z15,Z7 rfl ⟨m,d3,Z7 rfl ⟨e3,Z5s _,m,M3,rfl,st3.at_,Va rfl rfl ⟨dx,_,s3,by show 3<1000;decide,?_⟩⟩⟩⟩)
  rw[Z80,hm3]
  have g4:Gro [s] H3 (Zq H3 s (.ins CS dx (Z3p ra t (L-(0+(Z13 ws j:Int)))))):=Gro.obj s3
  have s4:(Zq H3 s (.ins CS dx (Z3p ra t (L-(0+(Z13 ws j:Int)))))) s=some (.ins CS dx (Z3p ra t (L-(0+(Z13 ws j:Int))))):=Z3
  have htt4:=htt.mono g4.tups
  generalize Zq H3 s (.ins CS dx (Z3p ra t (L-(0+(Z13 ws j:Int)))))=H4 at *
  have gg:Gro [s] H H4:=⟨fun a o h hx=>g4.keep a o (g3.keep a o (g12.keep a o h (by simp)) (by simp[Za h hm,Za (g1.keep a o h (by simp)) hcn])) hx,fun a xs h=>g4.tups _ _ (g3.tups _ _ (g12.tups _ _ h))⟩
  cases ws with
  |none =>
   have ha:H4 tt=some (.tup [.str "none"]):=htt4
   refine(W5 ha Z0d ⟨rfl,Z7 rfl (Zb (by decide +kernel) ?_)⟩)
   refine(W5 ha Z0d ⟨rfl,Z7 rfl (Zb (by decide +kernel) ?_)⟩)
   exact q hc .non H4 rfl (by simpa using s4) gg
  |some x =>
   obtain⟨gv,ha,hgv⟩:=htt4
   refine(W5 ha Z0d ⟨rfl,Z7 rfl (Zb (by decide +kernel) ?_)⟩)
   refine(W5 ha Z0d ⟨rfl,Z7 rfl (Zj (by decide +kernel) ?_)⟩)
   refine(Z7 rfl (W5 ha rfl (W5 ha rfl ⟨sz,fun o ho=>?_⟩)))
   have g5:=Gro.new (S:=[]) ho (.tup [.int b,.int x.1,gv])
   exact q hc (.ref o) _ ⟨o,gv,rfl,Z3,hgv.mono g5.tups⟩ (g5.keep _ _ (by simpa using s4) (by simp)) (gg.trans (g5.mono (by simp)))
 ·obtain⟨M3,st3,hm3⟩:=id hK3
  obtain⟨⟨d3,e3⟩,_⟩:=id st3.at_
  have s3:=g3.keep _ _ s2 (by simp[n1,n2])
  refine(Z7 rfl ⟨s,CS,dx,_,_,rfl,s3,MTS.cl,MTS.a3,Z15,Z7 rfl ⟨m,d3,Z7 rfl ⟨e3,Z5s _,m,M3,rfl,st3.at_,Va rfl rfl ⟨dx,_,s3,by show 3<1000;decide,?_⟩⟩⟩⟩)
  rw[Z80]
  have g4:Gro [s] H3 (Zq H3 s (.ins CS dx (Z3p ra t (L-M3.s.made)))):=Gro.obj s3
  have ha:=g4.tups _ _ htt
  generalize Zq H3 s (.ins CS dx (Z3p ra t (L-M3.s.made)))=H4 at *
  have gg:Gro [s] H H4:=⟨fun a o h hx=>g4.keep a o (g3.keep a o (g12.keep a o h (by simp)) (by simp[Za h hm,Za (g1.keep a o h (by simp)) hcn])) hx,fun a xs h=>g4.tups _ _ (g3.tups _ _ (g12.tups _ _ h))⟩
  refine(W5 ha Z0d ⟨rfl,Z7 rfl (Zj (by decide +kernel) ?_)⟩)
  exact⟨sz,qx hc H4 gg⟩
inductive spFromXI(CS CO:Addr)(vs:List V)(H:Hp)(Q:VK)(E:XK):Prop
 |mk (s dx ra:Addr) (t:Str) (b n c:Nat) (L:Int) (p:Pat) (r:Option (Nat×Yb)) (_:vs=[.ref s,.int b]) (_:H s=some (.ins CS dx (Z3p ra t L))) (_:0<=L) (_:RsAt H ra p) (_:Ug ((Yd p).map Op.rw)=n) (_:n<=9) (_:t.length<=200) (_:b<=t.length+1) (_:FdC t n p b r c)
  (_:(c:Int)<=L->∀(v:V) (H':Hp),FnA H' v r->H' s=some (.ins CS dx (Z3p ra t (L-c)))->Gro [s] H H'->Q v H') (_:L<(c:Int)->∀H':Hp,Gro [s] H H'->E (.ref CO) none H')
def Z47(CS CO:Addr):Sp:=fun vs H Q E=>spFromXI CS CO vs H Q E
abbrev Yv:Stmt:=Xk (top 54) 1
theorem sc_Seeker_first_from:FnScope ["self","start","begin","find"] ["self","start"] (Z9 Yv):=Vm
theorem Zb8{CO:Addr}(T:Blt mg)(MTS:TxtS K CS)(O_Seeker_find_at:OwnMX P w K mg base 7 CS "find_at" ["self","begin"] (Z7l CS CO))(F:Fun K "first_from" "Seeker.first_from" Yv f fd):FnOk P w K mg base (Z7w P w) 8 f fd ["self","start"] (Z47 CS CO):=by
 refine F.okX sc_Seeker_first_from (fun vs H Q E h=>?_) (fun cdv A outer s H vs Q E hr h LX=>?_)
 ·obtain⟨s,dx,ra,t,b,n,c,L0,p,r,rfl,_⟩:=h
  rfl
 obtain⟨s,dx,ra,t,b,n,c,L0,p,r,rfl,hs,hL0,hra,hcnt,hn,ht,hb,hF,q,qx⟩:=h
 refine Vj ?_
 intro Xz
 refine⟨_,(Z1 (Vb LeaveX.own rfl (Z36 rfl T.b_range (Z0 (pv 1) (Z0 (Yg Xh (Zh Xd rfl T.b_len PyProof.Rows.Boot.«len» (Z0 (Zn (pv 0) rfl) Z2)) Z6) Z2))) (pN 2 sc_Seeker_first_from.nd) (Z1 (pS 3 sc_Seeker_first_from.nd (Z1w LX.pass (O_Seeker_find_at.mono (by omega)) MTS.cl hr (pv 0) (Z0 (pv 2) Z2)))
  (Z5 (Y0 (Tv (Z8a (pv 3))) (Z5 (Zo (pv 3))) Zm))))
  (Z5 (Zo Z0q))),?_⟩
 refine Zg6 ?_
 intro Ez Az1 Az2 Az3 Az4
 refine(Z7 rfl (Z7 rfl ⟨s,CS,dx,_,_,rfl,hs,MTS.cl,MTS.a2,Z82,Z7 rfl ⟨Ye (by omega),Va rfl rfl ⟨_,_,rfl,⟨by omega,by omega,by omega,by omega⟩,?_⟩⟩⟩))
 refine T6 (fun k σ H'=>∃(u v:Option V) (c1 c2:Nat),σ=[some (.ref s),some (.int b),u,v]/\H' s=some (.ins CS dx (Z3p ra t (L0-c1)))/\(c1:Int)<=L0/\FdC t n p (b+k) r c2/\c1+c2=c/\Gro [s] H H')
  ⟨none,none,0,c,rfl,by simpa using hs,hL0,hF,by omega,Gro.refl⟩ ?_ ?_
 ·rintro k σ H1 hk ⟨u,v,c1,c2,rfl,hs1,hL,hF1,hcc,g1⟩
  have hbk:b+k<=t.length:=by omega
  have eb:(b:Int)+(k:Int)=((b+k:Nat):Int):=by omega
  rw[eb]
  have no1:(Z3p ra t (L0-c1)).lookup ("find_at":Str)=none:=Zfg (by decide +kernel)
  cases hF1 with
  |out h=>omega
  |hit _ hw =>
   refine(Z7 rfl ⟨s,dx,Z7 rfl ⟨hs1,no1,Z7 rfl ⟨s,dx,ra,t,b+k,n,_,_,p,_,rfl,hs1,hra.mono g1.tups,hcnt,hn,ht,hbk,hw,fun hc v H2 hv hs2 g2=>?_,fun hc H2 g2=>qx (by omega) H2 (g1.trans g2)⟩⟩⟩)
   obtain⟨a,gv,rfl,ha,hg⟩:=id hv
   refine(Z7 rfl (Z7 rfl (Zj (by simp) ?_)))
   exact Z7 rfl (q (by omega) _ H2 hv (by rw[hs2,show L0-(c1:Int)-(c2:Int)=L0-(c:Int) by omega]) (g1.trans g2))
  | @go _ c3 c4 _ _ hw hF2 =>
   refine(Z7 rfl ⟨s,dx,Z7 rfl ⟨hs1,no1,Z7 rfl ⟨s,dx,ra,t,b+k,n,_,_,p,_,rfl,hs1,hra.mono g1.tups,hcnt,hn,ht,hbk,hw,fun hc v H2 hv hs2 g2=>?_,fun hc H2 g2=>qx (by omega) H2 (g1.trans g2)⟩⟩⟩)
   obtain rfl:v=V.non:=hv
   refine(Z7 rfl (Z7 rfl (Zb (by decide) ?_)))
   exact⟨_,_,c1+c3,c4,rfl,by rw[hs2,show L0-(c1:Int)-(c3:Int)=L0-((c1+c3:Nat):Int) by omega],by omega,hF2,by omega,g1.trans g2⟩
 ·rintro σ H1 ⟨u,v,c1,c2,rfl,hs1,hL,hF1,hcc,g1⟩
  cases hF1 with
  |out _=>exact q (by omega) .non H1 rfl (by rw[hs1,show c1=c by omega]) g1
  |hit h _=>omega
  |go h _ _=>omega
inductive spAllXI(CO:Addr)(vs:List V)(H:Hp)(Q:VK)(E:XK):Prop
 |mk (v:V) (t:Str) (n c:Nat) (L:Int) (p:Pat) (xs:List (Nat×Yb)) (_:vs=[v,.str t,.int L]) (_:0<=L) (_:PatAt H 8 v p) (_:p.size<=20000) (_:Ug ((Yd p).map Op.rw)=n) (_:n<=9) (_:t.length<=200) (_:FdsC t n p 0 xs c)
  (_:(c:Int)<=L->∀(l:Addr) (us:List V) (H':Hp),H' l=some (.lst us)->Paired (Zae H') us xs->xs.length<=201->H l=none->Gro [] H H'->Q (.ref l) H') (_:L<(c:Int)->∀H':Hp,Gro [] H H'->E (.ref CO) none H')
def Z25(CO:Addr):Sp:=fun vs H Q E=>spAllXI CO vs H Q E
def Zlg(t:Str)(n:Nat)(p:Pat)(s:Nat)(r:Option (Nat×Yb))(xs:List (Nat×Yb))(c:Nat):Prop:=(r=none/\xs=[]/\c=0)∨∃(x:Nat×Yb) (ys:List (Nat×Yb)),r=some x/\xs=x::ys/\s<=x.1/\x.1<=x.2.1/\x.2.1<=t.length/\FdsC t n p (Zd7 x) ys c
theorem FdsC.step{t:Str}{n:Nat}{p:Pat}{s c:Nat}{xs:List (Nat×Yb)}(h:FdsC t n p s xs c):∃(r:Option (Nat×Yb)) (c1 c2:Nat),FdC t n p s r c1/\Zlg t n p s r xs c2/\c=c1+c2:=by
 cases h with
 |no hF=>exact⟨none,_,0,hF,.inl ⟨rfl,rfl,rfl⟩,rfl⟩
 |more hF h1 h2 h3 hr=>exact⟨_,_,_,hF,.inr ⟨_,_,rfl,rfl,h1,h2,h3,hr⟩,rfl⟩
theorem Zh3(x:Nat×Yb)(h:x.1<=x.2.1):x.1+1<=Zd7 x/\Zd7 x<=x.2.1+1:=by
 unfold Zd7
 split <;> omega
structure AllJX(CS s dx ra l:Addr)(t:Str)(n:Nat)(p:Pat)(xs:List (Nat×Yb))(c:Nat)(L:Int)(H0:Hp)(st:Nat)(v:V)(r:Option (Nat×Yb))(ys:List (Nat×Yb))(H:Hp):Prop where
 dn:∃(zs:List (Nat×Yb)) (us:List V),xs=zs++ys/\zs.length<=st/\H l=some (.lst us)/\Paired (Zae H) us zs
 ob:∃c1 c2:Nat,H s=some (.ins CS dx (Z3p ra t (L-c1)))/\(c1:Int)<=L/\Zlg t n p st r ys c2/\c1+c2=c
 fn:FnA H v r
 rs:RsAt H ra p
 gr:Gro [s,l] H0 H
 st_:st<=t.length+1
abbrev Vi:Stmt:=top 46
theorem sc_all_finds:FnScope ["pattern","text","most","seeker","finds","find","took_nothing"] ["pattern","text","most"] (Z9 Vi):=Vm
theorem Zee{CO:Addr}(MTS:TxtS K CS)(O_Seeker:OwnC P w K mg base 28 CS "Seeker" ["self","pattern","text","most"] (Z43 CS))(O_Seeker_first_from:OwnMX P w K mg base 8 CS "first_from" ["self","start"] (Z47 CS CO))(F:Fun K "all_finds" "all_finds" Vi f fd):FnOk P w K mg base (Z7w P w) 30 f fd ["pattern","text","most"] (Z25 CO):=by
 refine F.okX sc_all_finds (fun vs H Q E h=>?_) (fun cdv A outer s H vs Q E hr h LX=>?_)
 ·obtain⟨v,t,n,c,L,p,xs,rfl,_⟩:=h
  rfl
 obtain⟨v0,t,n,c,L,p,xs,rfl,hL0,hp,hz,hcnt,hn,ht,hF,q,qx⟩:=h
 refine Vj ?_
 intro Xz
 refine⟨_,(Z1 (pS 3 sc_all_finds.nd (Z87 (O_Seeker.mono (by omega)) hr rfl (Z0 (pv 0) (Z0 (pv 1) (Z0 (pv 2) Z2)))))
  (Z1 (pS 4 sc_all_finds.nd (Xg Z2))
  (Z1 (pS 5 sc_all_finds.nd (Z1w LX.pass (O_Seeker_first_from.mono (by omega)) MTS.cl hr (pv 3) (Z0 Z6 Z2)))
  (Z1 (Jg LeaveX.own (Tv (Z8a (pv 5))) (Z1 (Zf (Yr PySem.F.plainAttrs_list PySem.F.slot_list_append PySem.F.type_list_append Zw (pv 4) (Z0 (pv 5) Z2)))
  (Z1 (pS 6 sc_all_finds.nd (Yz Y4 (Zg Zd (pv 5) Z6 (fun _ _=>rfl)) (Zg Zd (pv 5) Z6 (fun _ _=>rfl)) (Zi _)))
  (Z5 (pS 5 sc_all_finds.nd (Z1w LX.pass (O_Seeker_first_from.mono (by omega)) MTS.cl hr (pv 3) (Z0 (Xp (Yw (pv 6)) (Yg Xh (Zg Zd (pv 5) Z6 (fun _ _=>rfl)) Z6) (Zg Zd (pv 5) Z6 (fun _ _=>rfl))) Z2)))))))
  (Z5 (Zo (pv 4))))))),?_⟩
 refine Zg4 ?_
 intro Ez Az1 Az2 Az3 Az4 Az5 Az6 Az7
 refine(Z7 rfl (Z7 rfl (Z7 rfl (fun m dx hm hdx hne=>?_))))
 have g1:Gro [] H (Zq (Zq H dx (.own m)) m (.ins CS dx [])):=(Gro.new hdx _).trans (Gro.new (by rw[Zt (Ne.symm hne)];exact hm) _)
 have e1:(Zq (Zq H dx (.own m)) m (.ins CS dx [])) m=some (.ins CS dx []):=Z3
 generalize Zq (Zq H dx (.own m)) m (.ins CS dx [])=H1 at *
 refine⟨m,dx,v0,t,_,p,rfl,e1,hp.mono g1.tups,hz,fun ra H2 hs2 hra2 g2=>⟨rfl,?_⟩⟩
 have g12:Gro [] H H2:=⟨fun a o h _=>g2.keep a o (g1.keep a o h (by simp)) (by simpa using Za h hm),fun a xs h=>g2.tups _ _ (g1.tups _ _ h)⟩
 refine⟨sz,fun l hl=>?_⟩
 have g3:=Gro.new (S:=[]) hl (.lst [])
 have hln:H l=none:=by
  cases h:H l with
  |none=>rfl
  |some o=>rw[g12.keep _ _ h (by simp)]at hl;cases hl
 have hl3:(Zq H2 l (.lst [])) l=some (.lst []):=Z3
 have hs3:=g3.keep _ _ hs2 (by simp)
 have hra3:=hra2.mono g3.tups
 have ml:m≠l:=Za hs2 hl
 have g13:Gro [] H (Zq H2 l (.lst [])):=g12.trans g3
 generalize Zq H2 l (.lst [])=H3 at *
 have no1:∀L:Int,(Z3p ra t L).lookup ("first_from":Str)=none:=fun L=>Zfg (by decide +kernel)
 have gx:∀H':Hp,Gro [m,l] H3 H'->Gro [] H H':=fun H' g=>⟨fun a o h _=>g.keep a o (g13.keep a o h (by simp)) (by
  have h3:a≠m:=Za h hm
  have h4:a≠l:=fun z=>by rw[z,hln]at h;cases h
  simp[h3,h4]),fun a ys h=>g.tups _ _ (g13.tups _ _ h)⟩
 obtain⟨r,c1,c2,hF1,hr1,hcc⟩:=hF.step
 refine(Z7 rfl ⟨m,dx,Z7 rfl ⟨hs3,no1 _,m,dx,ra,t,0,n,c1,L,p,r,rfl,hs3,hL0,hra3,hcnt,hn,ht,by omega,hF1,fun hc v2 H4 hv4 hs4 g4=>?_,fun hc H4 g4=>qx (by omega) H4 (gx H4 (g4.mono (by simp)))⟩⟩)
 have fin:∀(us:List V) (H':Hp),(c:Int)<=L->H' l=some (.lst us)->Paired (Zae H') us xs->xs.length<=201->Gro [m,l] H3 H'->Q (.ref l) H':=fun us H' hc h1 h2 h3 g=>q hc l us H' h1 h2 h3 hln (gx H' g)
 refine⟨fun μ σ H'=>∃(st:Nat) (v:V) (r:Option (Nat×Yb)) (ys:List (Nat×Yb)) (u:Option V),σ=[some v0,some (.str t),some (.int L),some (.ref m),some (.ref l),some v,u]/\μ=300-st/\AllJX CS m dx ra l t n p xs c L H3 st v r ys H',
  ⟨300,0,v2,r,xs,none,rfl,rfl,⟨⟨[],[],rfl,Nat.le_refl _,g4.keep _ _ hl3 (by simpa using Ne.symm ml),.nil⟩,⟨c1,c2,hs4,hc,hr1,hcc.symm⟩,hv4,hra3.mono g4.tups,g4.mono (by simp),by omega⟩⟩,?_⟩
 rintro μ σ H5 ⟨st,v,r,ys,u,rfl,rfl,⟨zs,us,hxs,hzl,hl5,hus⟩,⟨d1,d2,hs5,hL,hnx,hdd⟩,hfn,hrs,gr,hst⟩
 rcases hnx with⟨rfl,rfl,rfl⟩ | ⟨x,ys',rfl,rfl,h1,h2,h3,hF2⟩
 ·obtain rfl:v=V.non:=hfn
  refine(Z7 rfl (Z7 rfl (Zb (by decide) ?_)))
  exact Z7 rfl (fin us H5 (by omega) hl5 (by rw[hxs,List.append_nil];exact hus) (by rw[hxs,List.append_nil];omega) gr)
 obtain⟨a,gv9,rfl,ha,hg9⟩:=id hfn
 refine(Z7 rfl (Z7 rfl (Zj (by simp) ⟨fun σ' H'=>∃(st':Nat) (v:V) (r:Option (Nat×Yb)) (ys:List (Nat×Yb)) (u:Option V),st<st'/\σ'=[some v0,some (.str t),some (.int L),some (.ref m),some (.ref l),some v,u]/\AllJX CS m dx ra l t n p xs c L H3 st' v r ys H',fun σ' H' hh=>?_,?_⟩)))
 ·obtain⟨st',v',r',ys2,u',k1,k2,k3⟩:=hh
  exact⟨300-st',by have:=k3.st_;omega,st',v',r',ys2,u',k2,rfl,k3⟩
 have hul:us.length<=300:=by rw[Paired.length hus];omega
 refine(Z7 rfl ⟨.inl ⟨rfl,us,SqL.of hl5⟩,Z7 rfl ⟨l,us,_,rfl,rfl,hl5,Nat.lt_of_lt_of_le (by omega) (Ye (Nat.le_refl 1000)),?_⟩⟩)
 have g6:Gro [l] H5 (Zq H5 l (.lst (us++[.ref a]))):=Gro.set (by simp) hl5 _
 have ha6:=g6.tups _ _ ha
 have hl6:(Zq H5 l (.lst (us++[.ref a]))) l=some (.lst (us++[.ref a])):=Z3
 have hs6:=g6.keep _ _ hs5 (by simpa using ml)
 have hus6:Paired (Zae (Zq H5 l (.lst (us++[.ref a])))) (us++[.ref a]) (zs++[x]):=Paired.snoc (F:=Zae _) (FnA.mono (r:=some x) g6.tups hfn) (Yh g6.tups hus)
 have hrs6:=hrs.mono g6.tups
 generalize Zq H5 l (.lst (us++[.ref a]))=H6 at *
 refine(W5 ha6 Z0d (W5 ha6 rfl ⟨rfl,?_⟩))
 obtain⟨r2,c3,c4,hF3,hnx3,hc34⟩:=hF2.step
 have hgt:=Zh3 x h2
 have nl:l∉[m]:=by simpa using Ne.symm ml
 have grx:∀H':Hp,Gro [m] H6 H'->Gro [m,l] H3 H':=fun H' g=>gr.trans ((g6.mono (by simp)).trans (g.mono (by simp)))
 refine(Z7 rfl ⟨m,dx,Z7 rfl ⟨hs6,no1 _,?_⟩⟩)
 have nxt_ok:(x.1=x.2.1->(x.2.1:Int)+1=(Zd7 x:Int))/\(¬x.1=x.2.1->(x.2.1:Int)=(Zd7 x:Int)):=by
  unfold Zd7
  exact⟨fun h=>by rw[if_pos h.symm];omega,fun h=>by rw[if_neg (fun z=>h z.symm)];rfl⟩
 have last:∀(v7:V) (H7:Hp),(c3:Int)<=L-d1->FnA H7 v7 r2->H7 m=some (.ins CS dx (Z3p ra t (L-d1-c3)))->Gro [m] H6 H7->AllJX CS m dx ra l t n p xs c L H3 (Zd7 x) v7 r2 ys' H7:=fun v7 H7 hc7 hv7 hs7 g7 =>
  ⟨⟨zs++[x],us++[.ref a],by rw[hxs,List.append_assoc];rfl,by rw[List.length_append];show zs.length+1<=_;omega,g7.keep _ _ hl6 nl,Yh g7.tups hus6⟩,⟨d1+c3,c4,by rw[hs7,show L-(d1:Int)-(c3:Int)=L-((d1+c3:Nat):Int) by omega],by omega,hnx3,by omega⟩,hv7,hrs6.mono g7.tups,grx H7 g7,by omega⟩
 by_cases heq:x.1=x.2.1
 ·refine(Z7 rfl (Z7 rfl (Zj (decide_eq_true (by rw[heq])) (W5 ha6 rfl (Va rfl rfl ⟨m,dx,ra,t,Zd7 x,n,c3,L-d1,p,r2,congrArg (fun z=>[V.ref m,V.int z]) (nxt_ok.1 heq),hs6,by omega,hrs6,hcnt,hn,ht,by omega,hF3,fun hc v7 H7 hv7 hs7 g7=>?_,fun hc H7 g7=>qx (by omega) H7 (gx H7 (grx H7 g7))⟩)))))
  exact⟨Zd7 x,v7,r2,ys',_,by omega,rfl,last v7 H7 hc hv7 hs7 g7⟩
 ·refine(Z7 rfl (Z7 rfl (Zb (fun z=>heq (by have z':=of_decide_eq_true z;injection z' with z';omega)) (W5 ha6 rfl ⟨m,dx,ra,t,Zd7 x,n,c3,L-d1,p,r2,congrArg (fun z=>[V.ref m,V.int z]) (nxt_ok.2 heq),hs6,by omega,hrs6,hcnt,hn,ht,by omega,hF3,fun hc v7 H7 hv7 hs7 g7=>?_,fun hc H7 g7=>qx (by omega) H7 (gx H7 (grx H7 g7))⟩))))
  exact⟨Zd7 x,v7,r2,ys',_,by omega,rfl,last v7 H7 hc hv7 hs7 g7⟩
abbrev W9:List V:=[.str "times",.str "group",.str "once",.str "ahead",.str "notahead",.str "behind",.str "notbehind"]
def Z02:Sp:=fun vs H Q _=>∃(d:Nat) (v:V) (h:Hd) (ks:List Pat),vs=[v]/\PatAt H (d+1) v (.node h ks)/\∀(r:Addr) (kv:List V) (H':Hp),H' r=some (.tup kv)->kv.length<=10->Paired (PatAt H' d) kv ks->Gro [] H H'->Q (.ref r) H'
abbrev Vz:Stmt:=top 42
theorem sc_parts_of:FnScope ["pattern","kind"] ["pattern"] (Z9 Vz):=Vm
theorem Z53{pl:Addr}(Uj:mg "PART_LAST" = some (.ref pl))(hPL:∀H,SqT K H pl W9)(F:Fun K "parts_of" "parts_of" Vz f fd):FnOk P w K mg base Wq 1 f fd ["pattern"] Z02:=by
 refine F.ok sc_parts_of (fun vs H Q E h=>?_) (fun cdv A outer s H vs Q E hr h=>?_)
 ·obtain⟨d,v,h,ks,rfl,_⟩:=h
  rfl
 obtain⟨d,v,h,ks,rfl,hp,q⟩:=h
 refine Vj ?_
 intro Xz
 refine⟨_,(Z1 (pS 1 sc_parts_of.nd (Zg Zd (pv 0) Z6 (fun _ _=>rfl)))
  (Z1 (Y0 (PW.pt (Z68 (Ze Y4 (pv 1) Zk (Zi _)) (Z2c (Ze Y4 (pv 1) Zk (Zi _))))) (Z5 (Zo (Zg Zd (pv 0) Z6 (fun _ _=>rfl)))) Zm)
  (Z1 (Y0 (Ze Y4 (pv 1) Zk (Zi _)) (Z5 (Zo (Y8 Z26 (pv 0) (Y2 Z6) Wz))) Zm)
  (Z1 (Y0 (Ze T4 (pv 1) (Vk (v:=.ref _) rfl Uj rfl) (by with_unfolding_all rfl)) (Z5 (Zo (Y8 Z26 (pv 0) (Y2 (Z0z T8 Z6)) Wz))) Zm)
  (Z5 (Zo (Zr Z2))))))),?_⟩
 refine Zgo ?_
 intro Ez Az1 Az2 Az3 Az4 Az5 Az6 Az7
 obtain⟨a,kv,rfl,lay,hk⟩:=hp
 have q0:∀(r:Addr) (H':Hp),H' r=some (.tup kv)->kv.length<=10->Gro [] H H'->Q (.ref r) H':=fun r H' e z g=>q r kv H' e z (Z9m g.tups hk) g
 have leaf:∀ {x:Str} {r:List V},kv=[]->H a=some (.tup (.str x::r))->decide (V.str x=V.str "row")=false->decide (V.str x=V.str "or")=false->decide (V.str x=V.str "have")=false->Zfm (.str x) W9=false ->
   (Z8 (Z90 (Z6c (Z2h K) (We 0) (tC (.int 0))) (Z10 1)) (Z8 (Zx (Zl2 (Z00 (Z6c Zi8 (We 1) (tC (.str "row")))) (Z00 (Z6c Zi8 (We 1) (tC (.str "or"))))) (Z4m (Z6c (Z2h K) (We 0) (tC (.int 1)))) Zs)
    (Z8 (Zx (Z00 (Z6c Zi8 (We 1) (tC (.str "have")))) (Z4m (Zjp (Zd1 K) (We 0) (Z65 (tC (.int 2))) Jj)) Zs) (Z8 (Zx (Z00 (Z6c (Zl3 K false) (We 1) (tC (.ref pl)))) (Z4m (Zjp (Zd1 K) (We 0) (Z65 (Zl1 (rU fun i=>.int (-i)) (tC (.int 1)))) Jj)) Zs) (Z4m (Zd0 Z4n))))))
    { nx:=fun _ H'=>Q .non H',rt:=Q } [some (.ref a),none] H:=by
  intro x r e0 ea e1 e2 e3 e4
  refine⟨_,rfl,a,_,_,_,rfl,rfl,SqT.of ea,Z0d,?_⟩
  refine⟨_,rfl,rfl,_,rfl,Zb (by rw[e1];decide) ⟨_,rfl,rfl,_,rfl,Zb (by rw[e2];decide) ?_⟩⟩
  refine⟨_,rfl,rfl,_,rfl,Zb (by rw[e3];decide) ?_⟩
  refine⟨_,rfl,pl,W9,rfl,.inr (hPL _),rfl,rfl,_,rfl,Zb (by rw[e4];decide) ?_⟩
  exact⟨sz,fun p1 hp1=>q0 p1 _ (by rw[e0];exact Z3) (by simp[e0]) (Gro.new hp1 _)⟩
 have last:∀ {x:Str} {r:List V} {k:V},kv=[k]->H a=some (.tup (.str x::r))->Jz (.str x::r) (some (-1)) none=[k]->¬(HT.sIx (V.str x::r).length 0 (some (-1))=0/\HT.sIx (V.str x::r).length (V.str x::r).length none=(V.str x::r).length)->decide (V.str x=V.str "row")=false->decide (V.str x=V.str "or")=false->decide (V.str x=V.str "have")=false->Zfm (.str x) W9=true ->
   (Z8 (Z90 (Z6c (Z2h K) (We 0) (tC (.int 0))) (Z10 1)) (Z8 (Zx (Zl2 (Z00 (Z6c Zi8 (We 1) (tC (.str "row")))) (Z00 (Z6c Zi8 (We 1) (tC (.str "or"))))) (Z4m (Z6c (Z2h K) (We 0) (tC (.int 1)))) Zs)
    (Z8 (Zx (Z00 (Z6c Zi8 (We 1) (tC (.str "have")))) (Z4m (Zjp (Zd1 K) (We 0) (Z65 (tC (.int 2))) Jj)) Zs) (Z8 (Zx (Z00 (Z6c (Zl3 K false) (We 1) (tC (.ref pl)))) (Z4m (Zjp (Zd1 K) (We 0) (Z65 (Zl1 (rU fun i=>.int (-i)) (tC (.int 1)))) Jj)) Zs) (Z4m (Zd0 Z4n))))))
    { nx:=fun _ H'=>Q .non H',rt:=Q } [some (.ref a),none] H:=by
  intro x r k e0 ea ec hw e1 e2 e3 e4
  refine⟨_,rfl,a,_,_,_,rfl,rfl,SqT.of ea,Z0d,?_⟩
  refine⟨_,rfl,rfl,_,rfl,Zb (by rw[e1];decide) ⟨_,rfl,rfl,_,rfl,Zb (by rw[e2];decide) ?_⟩⟩
  refine⟨_,rfl,rfl,_,rfl,Zb (by rw[e3];decide) ?_⟩
  refine⟨_,rfl,pl,W9,rfl,.inr (hPL _),rfl,rfl,_,rfl,Zj (by show Zfm _ _=true;exact e4) ?_⟩
  exact⟨_,rfl,_,rfl,_,rfl,a,_,rfl,SqT.of ea,hw,fun p1 hp1=>q0 p1 _ (by rw[e0,← ec];exact Z3) (by simp[e0]) (Gro.new hp1 _)⟩
 cases h with
 |sign s=>exact leaf lay.1 lay.2.2 (by decide +kernel) (by decide +kernel) (by decide +kernel) (by decide +kernel)
 |any=>exact leaf lay.1 lay.2 (by decide +kernel) (by decide +kernel) (by decide +kernel) (by decide +kernel)
 |inn rs =>
  obtain⟨e0,r,e,_⟩:=lay
  exact leaf e0 e (by decide +kernel) (by decide +kernel) (by decide +kernel) (by decide +kernel)
 |out rs =>
  obtain⟨e0,r,e,_⟩:=lay
  exact leaf e0 e (by decide +kernel) (by decide +kernel) (by decide +kernel) (by decide +kernel)
 |beg=>exact leaf lay.1 lay.2 (by decide +kernel) (by decide +kernel) (by decide +kernel) (by decide +kernel)
 |fin=>exact leaf lay.1 lay.2 (by decide +kernel) (by decide +kernel) (by decide +kernel) (by decide +kernel)
 |again n=>exact leaf lay.2.1 lay.2.2 (by decide +kernel) (by decide +kernel) (by decide +kernel) (by decide +kernel)
 |row =>
  obtain⟨z,r,e,er⟩:=lay
  refine⟨_,rfl,a,_,_,_,rfl,rfl,SqT.of e,Z0d,?_⟩
  refine⟨_,rfl,rfl,_,rfl,Zj (by decide +kernel) (Z91 ?_)⟩
  exact⟨_,rfl,a,_,_,_,rfl,rfl,SqT.of e,rfl,q0 r H er z Gro.refl⟩
 |alt =>
  obtain⟨_,z,r,e,er⟩:=lay
  refine⟨_,rfl,a,_,_,_,rfl,rfl,SqT.of e,Z0d,?_⟩
  refine⟨_,rfl,rfl,_,rfl,Zb (by decide +kernel) ⟨_,rfl,rfl,_,rfl,Zj (by decide +kernel) ?_⟩⟩
  exact⟨_,rfl,a,_,_,_,rfl,rfl,SqT.of e,rfl,q0 r H er z Gro.refl⟩
 |times lo hi how =>
  obtain⟨_,k,e0,e⟩:=lay
  exact last e0 e rfl (fun z=>absurd (show HT.sIx 5 0 (some (-1))=0 from z.1) (by decide +kernel)) (by decide +kernel) (by decide +kernel) (by decide +kernel) (by decide +kernel)
 |grp n =>
  obtain⟨_,k,e0,e⟩:=lay
  exact last e0 e rfl (fun z=>absurd (show HT.sIx 3 0 (some (-1))=0 from z.1) (by decide +kernel)) (by decide +kernel) (by decide +kernel) (by decide +kernel) (by decide +kernel)
 |hav n =>
  obtain⟨_,y,z,e0,e⟩:=lay
  refine⟨_,rfl,a,_,_,_,rfl,rfl,SqT.of e,Z0d,?_⟩
  refine⟨_,rfl,rfl,_,rfl,Zb (by decide +kernel) ⟨_,rfl,rfl,_,rfl,Zb (by decide +kernel) ?_⟩⟩
  refine⟨_,rfl,rfl,_,rfl,Zj (by decide +kernel) ?_⟩
  exact⟨_,rfl,_,rfl,a,_,rfl,SqT.of e,fun z=>absurd (show HT.sIx 4 0 (some 2)=0 from z.1) (by decide +kernel),fun p1 hp1=>q0 p1 _ (by rw[e0];exact Z3) (by simp[e0]) (Gro.new hp1 _)⟩
 |look lk =>
  obtain⟨k,e0,e⟩:=lay
  cases lk <;> exact last e0 e rfl (fun z=>absurd (show HT.sIx 2 0 (some (-1))=0 from z.1) (by decide +kernel)) (by decide +kernel) (by decide +kernel) (by decide +kernel) (by decide +kernel)
def Zjq(n:Nat):Sp:=fun vs H Q _=>∃(v:V) (p:Pat),vs=[v]/\PatAt H n v p/\∀H',Gro [] H H'->Q (.int p.groups) H'
def Hd.own:Hd->Int
 |.grp _=>1
 |_=>0
theorem Z5b(h:Hd)(ks:List Pat):(Pat.node h ks).groups=h.own+Xs ks:=by cases h <;> simp[Pat.groups,Hd.own]
theorem Z5m(h:Hd):h.own=if decide (V.str h.word=V.str "group")=true then 1 else 0:=by
 cases h with
 |look lk=>cases lk <;> decide +kernel
 |sign s=>exact(if_neg (show ¬decide (V.str "sign" = V.str "group")=true by decide +kernel)).symm
 |inn s=>exact(if_neg (show ¬decide (V.str "in" = V.str "group")=true by decide +kernel)).symm
 |out s=>exact(if_neg (show ¬decide (V.str "out" = V.str "group")=true by decide +kernel)).symm
 |times a b c=>exact(if_neg (show ¬decide (V.str "times" = V.str "group")=true by decide +kernel)).symm
 |grp n=>exact(if_pos (show decide (V.str "group" = V.str "group")=true by decide +kernel)).symm
 |again n=>exact(if_neg (show ¬decide (V.str "again" = V.str "group")=true by decide +kernel)).symm
 |hav n=>exact(if_neg (show ¬decide (V.str "have" = V.str "group")=true by decide +kernel)).symm
 |_=>decide +kernel
def Zjj(H:Hp)(n:Nat):TS:=fun D σ H1=>∃(v:V) (h:Hd) (ks:List Pat),H1=H/\σ=[some v,some (.int h.own)]/\PatAt H (n+1) v (.node h ks)/\∀H',Gro [] H H'->D.rt (.int (Pat.node h ks).groups) H'
abbrev Wh:Stmt:=top 43
theorem sc_groups_in:FnScope ["pattern","own"] ["pattern"] (Z9 Wh):=Vm
theorem Z3t{n:Nat}(T:Blt mg)(O_parts_of:Own P w K mg base 1 "parts_of" ["pattern"] Z02)(O_groups_in:Own P w K mg base (2+n) "groups_in" ["pattern"] (Zjq n))(F:Fun K "groups_in" "groups_in" Wh f fd) :
  FnOk P w K mg base Wq (2+n+1) f fd ["pattern"] (Zjq (n+1)):=by
 refine F.ok sc_groups_in (fun vs H Q E h=>?_) (fun cdv A outer s H vs Q E hr h=>?_)
 ·obtain⟨v,p,rfl,_⟩:=h
  rfl
 obtain⟨v,⟨h,ks⟩,rfl,hp,q⟩:=h
 refine Vj ?_
 intro Xz
 refine⟨_,(Z1 (pS 1 sc_groups_in.nd (Xp (Ze Y4 (Zg Zd (pv 0) Z6 (fun _ _=>rfl)) Zk (Zi _)) Z6 Z6))
  (Jq (Zjj H n) (Z5 (Zo (Yg Xh (pv 1) (Zh (Zbx rfl) rfl T.b_sum PyProof.Rows.Boot.«sum» (Z0 (Vv rfl (show CScope _ ["pattern","own"] (Z9 Wh) _ from⟨rfl,by decide +kernel,rfl,by decide +kernel,by decide +kernel,by decide +kernel,by decide +kernel⟩) (Z2e (Zz (O_parts_of.mono (by omega)) hr rfl (Z0 (pv 0) Z2))) (fun _ _ _ _=>Jp) (fun _ _ _ _=>(Zz (O_groups_in.mono (by omega)) hr rfl (Z0 (pv 0) Z2)))) Z2))))) (fun D1 σ1 H1 hcut=>?cut1))),?_⟩
 case cut1 =>
  obtain⟨v,h,ks,rfl,rfl,hp,q⟩:=hcut
  refine⟨_,rfl,_,rfl,n,v,h,ks,rfl,hp,fun r kv H2 hr hlen hk g1=>⟨r,rfl,⟨kv,SqT.of hr⟩,?_⟩⟩
  have hkl:=Paired.length hk
  refine Zh5 (xs:=kv) (fun i ys H'=>∃ns:List Int,ys=ns.map V.int/\ns.length=i/\ns.sum=Xs (ks.take i)/\Gro [] H2 H') ⟨[],rfl,rfl,by simp[Xs],Gro.refl⟩ (Yp (by omega)) (fun i ys H' ⟨ns,e1,e2,_⟩=>by rw[e1,List.length_map,e2];exact Nat.le_refl _) (fun i ys H' ⟨_,_,_,_,g⟩=>SqT.of (g.tups _ _ hr)) ?_ ?_
  ·rintro i ys H3 x hx ⟨ns,rfl,e2,e3,g3⟩
   obtain⟨p,hpi,hpx⟩:=Y5 hk hx
   refine⟨_,rfl,x,p,rfl,hpx.mono g3.tups,fun H4 g4=>⟨ns++[p.groups],by simp,by simp[e2],?_,g3.trans g4⟩⟩
   rw[Xu hpi,Z1e,List.sum_append,e3]
   simp[Xs]
  ·rintro ys H3 ⟨ns,rfl,e2,e3,g3⟩ l hl
   refine⟨l,ns,rfl,SqL.of Z3,_,_,rfl,rfl,?_⟩
   rw[hkl,List.take_length]at e3
   have:=q _ ((g1.trans g3).tup (o:=.lst (ns.map V.int)) hl)
   rw[Z5b]at this
   show D1.rt (V.int (h.own+ns.sum)) _
   rw[e3]
   exact this
 refine Z28 ?_
 intro Ez Az1
 obtain⟨a,kv,rfl,lay,hk⟩:=id hp
 obtain⟨r,ea⟩:=lay.head
 have c:∀o:Int,o=h.own->Zjj H n { nx:=fun _ H'=>Q .non H',rt:=Q } [some (.ref a),some (.int o)] H:=fun o e=>⟨.ref a,h,ks,rfl,by rw[e],hp,q⟩
 refine⟨_,rfl,a,_,_,_,rfl,rfl,SqT.of ea,Z0d,rfl,_,rfl,V8 (fun z=>?_) (fun z=>?_)⟩
 ·exact c 1 (by rw[Z5m,if_pos z])
 ·exact c 0 (by rw[Z5m,if_neg z])
end
theorem Zkw{n:Nat}(h:n<=100000):n<=sizeLine:=Nat.le_trans h (by decide)
theorem Z3e:∀(k:Nat) (ms:List Str),ms.length=k->(Txt.join "" ms).length=(ms.map (·.length)).sum
 |0,ms,h=>by
  have:ms=[]:=List.eq_nil_of_length_eq_zero h
  subst this
  rfl
 |k+1,ms,h=>by
  rcases List.eq_nil_or_concat ms with e | ⟨ls,m,e⟩
  ·subst e;cases h
  ·subst e
   rw[List.concat_eq_append]at h ⊢
   rw[T5,Vl,Z3e k ls (by simpa using h),List.map_append,List.sum_append]
   simp
theorem Z4s{f:Str}{n:Nat}:∀(m p:Nat) (ps:List Pc),f.length-p<=m->pz f n p=some ps->ps.length<=f.length-p/\∀k,Pc.nm k∈ps->k<=n
 |m,p,ps,hm,h=>by
  by_cases hp:p<f.length
  ·cases hk:kd f n p with
   |sign =>
    rw[Jn hp hk]at h
    obtain⟨qs,hq,rfl⟩:=Option.map_eq_some_iff.mp h
    match m,hm with
    |0,hm=>omega
    |m+1,hm =>
     obtain⟨h1,h2⟩:=Z4s m (p+1) qs (by omega) hq
     refine⟨by rw[List.length_cons];omega,fun k hk'=>?_⟩
     rcases List.mem_cons.mp hk' with e | e
     ·cases e
     ·exact h2 k e
   |dollar =>
    rw[Z05 hp hk]at h
    obtain⟨qs,hq,rfl⟩:=Option.map_eq_some_iff.mp h
    match m,hm with
    |0,hm=>omega
    |m+1,hm =>
     obtain⟨h1,h2⟩:=Z4s m (p+2) qs (by omega) hq
     refine⟨by rw[List.length_cons];omega,fun k hk'=>?_⟩
     rcases List.mem_cons.mp hk' with e | e
     ·cases e
     ·exact h2 k e
   |num j =>
    have hj:j<=n:=by
     unfold kd at hk
     split at hk
     ·split at hk
      ·cases hk
      ·split at hk
       ·split at hk
        ·cases hk;assumption
        ·cases hk
       ·cases hk
     ·cases hk
    rw[Z2a hp hk]at h
    obtain⟨qs,hq,rfl⟩:=Option.map_eq_some_iff.mp h
    match m,hm with
    |0,hm=>omega
    |m+1,hm =>
     obtain⟨h1,h2⟩:=Z4s m (p+2) qs (by omega) hq
     refine⟨by rw[List.length_cons];omega,fun k hk'=>?_⟩
     rcases List.mem_cons.mp hk' with e | e
     ·cases e;exact hj
     ·exact h2 k e
   |bad=>rw[Z7n hp hk]at h;cases h
  ·rw[Z2b hp]at h
   cases h
   exact⟨Nat.zero_le _,fun k hk=>by simp at hk⟩
theorem Z1x{o:Option (List Pc)}{ps:List Pc}{c:Pc}:(o.map (c :: ·)).map (ps ++ ·)=o.map ((ps++[c]) ++ ·):=by cases o <;> simp
theorem Z07(ps:List Pc)(c:Pc):ps.map Zi9++[Zi9 c]=(ps++[c]).map Zi9:=by rw[List.map_append];rfl
theorem Z0e(t:Str)(a b:Option Int):(Txt.slice t a b).length<=t.length:=Txt.slice_le t _ _
theorem Z94{f:Str}{n:Nat}:∀(m p:Nat) (ps:List Pc),f.length-p<=m->pz f n p=some ps->∀s,Pc.tx s∈ps->s.length<=1
 |m,p,ps,hm,h=>by
  by_cases hp:p<f.length
  ·match m,hm with
   |0,hm=>omega
   |m+1,hm =>
    cases hk:kd f n p with
    |sign =>
     rw[Jn hp hk]at h
     obtain⟨qs,hq,rfl⟩:=Option.map_eq_some_iff.mp h
     intro s hs
     rcases List.mem_cons.mp hs with e | e
     ·cases e;exact Nat.le_refl 1
     ·exact Z94 m (p+1) qs (by omega) hq s e
    |dollar =>
     rw[Z05 hp hk]at h
     obtain⟨qs,hq,rfl⟩:=Option.map_eq_some_iff.mp h
     intro s hs
     rcases List.mem_cons.mp hs with e | e
     ·cases e;decide +kernel
     ·exact Z94 m (p+2) qs (by omega) hq s e
    |num j =>
     rw[Z2a hp hk]at h
     obtain⟨qs,hq,rfl⟩:=Option.map_eq_some_iff.mp h
     intro s hs
     rcases List.mem_cons.mp hs with e | e
     ·cases e
     ·exact Z94 m (p+2) qs (by omega) hq s e
    |bad=>rw[Z7n hp hk]at h;cases h
  ·rw[Z2b hp]at h
   cases h
   intro s hs
   simp at hs
structure PcOk(n m:Nat)(ps:List Pc):Prop where
 len:ps.length<=m
 num:∀k,Pc.nm k∈ps->k<=n
 txt:∀s,Pc.tx s∈ps->s.length<=1
theorem Zir{f:Str}{n:Nat}{ps:List Pc}(h:pz f n 0=some ps):PcOk n f.length ps:=by
 obtain⟨h1,h2⟩:=Z4s f.length 0 ps (by omega) h
 exact⟨by omega,h2,Z94 f.length 0 ps (by omega) h⟩
theorem Zdx{t:Str}{x:Nat×Yb}{c:Pc}(ht:t.length<=200)(hc:∀s,c=.tx s->s.length<=1):(Zi4 t x c).length<=200:=by
 cases c with
 |tx s=>exact Nat.le_trans (hc s rfl) (by decide)
 |nm k =>
  cases k with
  |zero=>exact Nat.le_trans (Z0e t _ _) ht
  |succ k =>
   show(Zl5 t (x.2.2.getD k none)).length<=200
   cases x.2.2.getD k none with
   |none=>exact Nat.zero_le _
   |some q=>exact Nat.le_trans (Z0e t _ _) ht
theorem Z41:∀ {ms:List Str},(∀m∈ms,m.length<=200)->(ms.map (·.length)).sum<=200*ms.length
 | [],_=>Nat.le_refl _
 |m::ms,h=>by
  rw[List.map_cons,List.sum_cons,List.length_cons]
  have h1:=h m (by simp)
  have h2:=Z41 (ms:=ms) fun m' hm=>h m' (by simp[hm])
  omega
theorem Z38{t:Str}{x:Nat×Yb}{ps:List Pc}{n m:Nat}(ok:PcOk n m ps)(ht:t.length<=200):∀s∈ps.map (Zi4 t x),s.length<=200:=fun s hs=>by
 obtain⟨c,hc,rfl⟩:=List.mem_map.mp hs
 exact Zdx ht fun s e=>ok.txt s (by rw[← e];exact hc)
theorem Zet{t:Str}{x:Nat×Yb}{ps:List Pc}{n m:Nat}(ok:PcOk n m ps)(ht:t.length<=200):(Zd8 t x ps).length<=200*m:=by
 unfold Zd8
 rw[Z3e _ _ rfl]
 have h1:=Z41 (Z38 (x:=x) ok ht)
 rw[List.length_map]at h1
 have:=ok.len
 omega
def tx(t:Str):Int->List (Nat×Yb)->List Str
 |e,[]=>[Txt.slice t (some e) none]
 |e,x::xs=>Txt.slice t (some e) (some x.1)::tx t x.2.1 xs
theorem Z7b(t:Str):∀(xs:List (Nat×Yb)) (e:Int),(tx t e xs).length=xs.length+1
 | [],_=>rfl
 |_::xs,_=>congrArg (· + 1) (Z7b t xs _)
theorem Z7y{t:Str}{e:Int}{ys:List Str}{xs:List (Nat×Yb)}{k:Nat}{x:Nat×Yb}(h:tx t 0 xs=ys++tx t e (xs.drop k))(hx:xs[k]? = some x):tx t 0 xs=(ys++[Txt.slice t (some e) (some x.1)])++tx t x.2.1 (xs.drop (k+1)):=by
 rw[h,List.drop_eq_getElem_cons (List.getElem?_eq_some_iff.mp hx).1,(List.getElem?_eq_some_iff.mp hx).2,List.append_assoc]
 rfl
theorem Zc1{t:Str}{e:Int}{ys:List Str}{xs:List (Nat×Yb)}{k:Nat}(h:tx t 0 xs=ys++tx t e (xs.drop k))(hk:xs.length<=k):tx t 0 xs=ys++[Txt.slice t (some e) none]:=by
 rw[h,List.drop_of_length_le hk]
 rfl
theorem Vw{ys:List Str}{y:Str}:ys.map V.str++[V.str y]=(ys++[y]).map V.str:=by simp
def Z12(t:Str)(e:Int):List (Nat×Yb)->Str
 | []=>Txt.slice t (some e) none
 |x::_=>Txt.slice t (some e) (some x.1)
theorem Zfd(t:Str)(e:Int):∀xs,∃r,tx t e xs=Z12 t e xs::r
 | []=>⟨[],rfl⟩
 |_::_=>⟨_,rfl⟩
theorem Z5f(t:Str):∀(xs:List (Nat×Yb)) (e:Int),∀m∈tx t e xs,m.length<=t.length
 | [],e,m,h=>by
  rw[List.mem_singleton.mp h]
  exact Txt.slice_le t _ _
 |x::xs,e,m,h=>by
  rcases List.mem_cons.mp h with h | h
  ·rw[h]
   exact Txt.slice_le t _ _
  ·exact Z5f t xs _ m h
theorem Zcr{t:Str}:∀ {xs:List (Nat×Yb)} {e:Int} {k:Nat} {x:Nat×Yb},xs[k]? = some x->(tx t e xs)[k+1]? = some (Z12 t x.2.1 (xs.drop (k+1)))
 |y::xs,e,0,x,h=>by
  have e1:y=x:=by simpa using h
  subst e1
  obtain⟨r,hr⟩:=Zfd t y.2.1 xs
  show(Txt.slice t (some e) (some y.1)::tx t y.2.1 xs)[1]? = _
  rw[hr]
  rfl
 |y::xs,e,k+1,x,h=>by
  have h':xs[k]? = some x:=by simpa using h
  have:=Zcr (t:=t) (e:=y.2.1) h'
  show(Txt.slice t (some e) (some y.1)::tx t y.2.1 xs)[k+1+1]? = _
  rw[List.getElem?_cons_succ,this]
  rfl
def gF(t:Str)(ps:List Pc):List (Nat×Yb)->Str
 | []=>""
 |x::xs=>Zd8 t x ps++(Z12 t x.2.1 xs++gF t ps xs)
theorem Zeq{t:Str}{ps:List Pc}{w:Str}{xs:List (Nat×Yb)}{k:Nat}{x:Nat×Yb}{z:Str}(h:w++gF t ps (xs.drop k)=z)(hx:xs[k]? = some x):((w++Zd8 t x ps)++Z12 t x.2.1 (xs.drop (k+1)))++gF t ps (xs.drop (k+1))=z:=by
 rw[List.drop_eq_getElem_cons (List.getElem?_eq_some_iff.mp hx).1,(List.getElem?_eq_some_iff.mp hx).2]at h
 rw[← h,Vt,Vt]
 rfl
theorem Zhi{t:Str}{ps:List Pc}{w:Str}{xs:List (Nat×Yb)}{k:Nat}{z:Str}(h:w++gF t ps (xs.drop k)=z)(hk:xs.length<=k):w=z:=by
 rw[List.drop_of_length_le hk]at h
 rw[← h]
 exact(Z8x w).symm
theorem cut1{x:V}{r:List V}:Jz (x::r) (some 1) none=r:=by
 simp[Jz,HT.sIx]
theorem FdC.good{t:Str}{n:Nat}{p:Pat}{b:Nat}{r:Option (Nat×Yb)}{c:Nat}(h:FdC t n p b r c):∀x,r=some x->x.2.2.length=n:=by
 induction h with
 |out _=>intro x e;cases e
 |hit _ hw =>
  intro x e
  cases e
  obtain⟨_,_,_,_,gw,_⟩:=hw
  exact(gw _ rfl).2.len
 |go _ _ _ ih=>exact ih
theorem FdsC.good{t:Str}{n:Nat}{p:Pat}{s:Nat}{xs:List (Nat×Yb)}{c:Nat}(h:FdsC t n p s xs c):∀x∈xs,x.2.2.length=n:=by
 induction h with
 |no _=>intro x e;cases e
 |more hF _ _ _ _ ih =>
  intro x e
  rcases List.mem_cons.mp e with e | e
  ·subst e
   exact hF.good _ rfl
  ·exact ih x e
theorem Z7z:∀ {ms:List Str},(∀m∈ms,m.length<=2400)->(ms.map (·.length)).sum<=2400*ms.length
 | [],_=>Nat.le_refl _
 |m::ms,h=>by
  have h1:=h m (by simp)
  have h2:=Z7z (ms:=ms) fun x hx=>h x (by simp[hx])
  simp only[List.map_cons,List.sum_cons,List.length_cons]
  omega
section
variable{P:Program}{w:World}{K:W.Frag}{mg:Str->Option Value}{base:Heap}{f C CS CN CE:Addr}{fd:FuncData}
inductive spMarkI(CN:Addr)(vs:List V)(H:Hp)(Q:VK)(E:XK):Prop
 |mk (s:Str) (n:Nat) (_:vs=[.str s,.int n]) (_:s.length<=1) (_:s="$"->Q (.str "$") H) (_:∀k,¬s="$"->Zf4 s=some k->k<=n->Q (.int k) H) (_:¬s="$"->(∀k,Zf4 s=some k->¬k<=n)->E (.ref CN) none H)
def Z7g(CN:Addr):Sp:=fun vs H Q E=>spMarkI CN vs H Q E
abbrev Xx:Stmt:=top 51
theorem sc_marked_piece:FnScope ["sign","groups","number"] ["sign","groups"] (Z9 Xx):=Vm
theorem Ze7{t1:Tok}(T:Blt mg)(Z22:mg "DIGITS" = some (.str digS t1))(XC_NoForm:XC K mg "NoForm" CN CE)(F:Fun K "marked_piece" "marked_piece" Xx f fd):FnOk P w K mg base (Z7w P w) 1 f fd ["sign","groups"] (Z7g CN):=by
 refine F.okX sc_marked_piece (fun vs H Q E h=>?_) (fun cdv A outer s H vs Q E hr h LX=>?_)
 ·obtain⟨s,n,rfl,_⟩:=h
  rfl
 obtain⟨s',n,rfl,hl,h1,h2,h3⟩:=h
 refine Vj ?_
 intro Xz
 refine⟨_,(Z1 (Y0 (Ze Y4 (pv 0) Zk (Zi _)) (Z5 (Zo (pv 0))) Zm)
  (Z1 (Y0 (PW.pt (Z68 (Ze Y4 (pv 0) Zk (Zi _)) (Z2c (Ze Z3s (pv 0) (Vk (v:=.str _) rfl Z22 ⟨_,rfl⟩) (by with_unfolding_all rfl))))) (Z5 (Jh LX rfl XC_NoForm rfl (Z0 Zk Z2))) Zm)
  (Z1 (pS 2 sc_marked_piece.nd (Vr Z3y rfl T.b_int PyProof.Rows.Boot.«int» (Z0 (pv 0) Z2)))
  (Z1 (Y0 (Ze Z96 (pv 2) (pv 1) (Zi _)) (Z5 (Jh LX rfl XC_NoForm rfl (Z0 Zk Z2))) Zm)
  (Z5 (Zo (pv 2))))))),?_⟩
 refine Zgm ?_
 intro Ez Az1 Az2 Az3 Az4 Az5 Az6 Az7
 refine Z7 rfl ⟨rfl,Z7 rfl (V8 (fun c=>?_) (fun c=>?_))⟩
 ·have e:s'="$":=by have z:=of_decide_eq_true c;injection z
  subst e
  exact Z7 rfl (h1 rfl)
 have nd:¬s'="$":=fun e=>c (decide_eq_true (by rw[e]))
 refine Z7 rfl ⟨rfl,Z7 rfl (V8 (fun c1=>Z91 ?_) (fun c1=>?_))⟩
 ·have e:s'="":=by have z:=of_decide_eq_true c1;injection z
  refine⟨sz,h3 nd fun k hk=>?_⟩
  rw[e,show Zf4 ("":Str)=none by decide +kernel]at hk
  cases hk
 have h1l:s'.length=1:=by
  have:¬s'.length=0:=fun z=>c1 (decide_eq_true (by rw[Zkj z]))
  omega
 have hd:=Zhk h1l
 refine Z7 rfl ⟨_,_,rfl,rfl,Z7 rfl (V8 (fun c2=>?_) (fun c2=>?_))⟩
 ·refine⟨sz,h3 nd fun k hk=>?_⟩
  rw[hd,hk]at c2
  cases c2
 rw[hd]at c2
 cases hk:Zf4 s' with
 |none=>rw[hk]at c2;exact absurd rfl c2
 |some k =>
  obtain⟨hi,_,hk9⟩:=Zev hk
  refine Z7 rfl ⟨s',k,rfl,hi,by omega,?_⟩
  refine Z7 rfl (Z7 rfl (Va rfl rfl (Z7 rfl (V8 (fun c3=>?_) (fun c3=>?_)))))
  ·have:(n:Int)<(k:Int):=of_decide_eq_true c3
   exact⟨sz,h3 nd fun j hj=>by rw[hk]at hj;cases hj;omega⟩
  ·have:¬(n:Int)<(k:Int):=fun z=>c3 (decide_eq_true z)
   exact Z7 rfl (h2 k nd hk (by omega))
inductive spFormI(CN:Addr)(vs:List V)(H:Hp)(Q:VK)(E:XK):Prop
 |mk (fm:Str) (n:Nat) (_:vs=[.str fm,.int n]) (_:fm.length<=100) (_:∀ps,pz fm n 0=some ps->∀(l:Addr) (H':Hp),H' l=some (.lst (ps.map Zi9))->H l=none->Gro [] H H'->Q (.ref l) H') (_:pz fm n 0=none->∀H',Gro [] H H'->E (.ref CN) none H')
def Z7j(CN:Addr):Sp:=fun vs H Q E=>spFormI CN vs H Q E
abbrev Wb:Stmt:=top 50
theorem sc_form_pieces:FnScope ["form","groups","pieces","place"] ["form","groups"] (Z9 Wb):=Vm
theorem Zea(T:Blt mg)(O_marked_piece:OwnX P w K mg base 1 "marked_piece" ["sign","groups"] (Z7g CN))(F:Fun K "form_pieces" "form_pieces" Wb f fd):FnOk P w K mg base (Z7w P w) 2 f fd ["form","groups"] (Z7j CN):=by
 refine F.okX sc_form_pieces (fun vs H Q E h=>?_) (fun cdv A outer s H vs Q E hr h LX=>?_)
 ·obtain⟨fm,n,rfl,_⟩:=h
  rfl
 obtain⟨fm,n,rfl,hf,q1,q2⟩:=h
 refine Vj ?_
 intro Xz
 refine⟨_,(Z1 (pS 2 sc_form_pieces.nd (Xg Z2))
  (Z1 (pS 3 sc_form_pieces.nd Z6)
  (Z1 (Jg LeaveX.own (Ze Z6a (pv 3) (Zh Xd rfl T.b_len PyProof.Rows.Boot.«len» (Z0 (pv 0) Z2)) (Zi _)) (Z5 (Y0 (Ze Y4 (Zg Tz (pv 0) (pv 3) (fun _ _=>rfl)) Zk (Zi _)) (Z1 (Zf (Yr PySem.F.plainAttrs_list PySem.F.slot_list_append PySem.F.type_list_append Zw (pv 2) (Z0 (U9 LX.pass (O_marked_piece.mono (by omega)) hr rfl (Z0 (Y8 Wj (pv 0) (Y2 (Yg Xh (pv 3) Z6)) (Y2 (Yg Xh (pv 3) Z6))) (Z0 (pv 1) Z2))) Z2)))
  (Z5 (Zca (i:=3) sc_form_pieces.nd rfl (by first | exact Or.inl rfl | exact Or.inr rfl) Z6 Zch))) (Z1 (Zf (Yr PySem.F.plainAttrs_list PySem.F.slot_list_append PySem.F.type_list_append Zw (pv 2) (Z0 (Zg Tz (pv 0) (pv 3) (fun _ _=>rfl)) Z2)))
  (Z5 (Zca (i:=3) sc_form_pieces.nd rfl (by first | exact Or.inl rfl | exact Or.inr rfl) Z6 Zch))))))
  (Z5 (Zo (pv 2)))))),?_⟩
 refine Zgl ?_
 intro Ez Az1 Az2 Az3 Az4 Az5 Az6 Az7 Az8
 refine⟨sz,fun l hl=>?_⟩
 have g1:=Gro.new (S:=[]) hl (.lst [])
 have hl1:(Zq H l (.lst [])) l=some (.lst []):=Z3
 generalize Zq H l (.lst [])=H1 at *
 have gro:∀H',Gro [l] H1 H'->Gro [] H H':=fun H' g2=>⟨fun a o h _=>g2.keep a o (g1.keep a o h (by simp)) (by simpa using Za h hl),fun a zs h=>g2.tups _ _ (g1.tups _ _ h)⟩
 refine⟨fun μ σ H'=>∃(p:Nat) (ps:List Pc),σ=[some (.str fm),some (.int n),some (.ref l),some (.int p)]/\H' l=some (.lst (ps.map Zi9))/\(pz fm n p).map (ps ++ ·)=pz fm n 0/\ps.length<=p/\p<=fm.length+1/\Gro [l] H1 H'/\μ=fm.length+2-p,⟨_,0,[],rfl,hl1,by simp,Nat.le_refl _,Nat.zero_le _,Gro.refl,rfl⟩,?_⟩
 rintro μ σ H' ⟨p,ps,rfl,hl',hpz,hpl,hple,g,rfl⟩
 refine Z7 rfl (Z7 rfl ⟨fm,rfl,Ye (by omega),Va rfl rfl (Z7 rfl (V8 (fun c=>?yes0) (fun c=>?no0)))⟩)
 case no0 =>
  have hc:¬p<fm.length:=fun z=>c (decide_eq_true (by omega))
  rw[Z2b hc]at hpz
  have e:pz fm n 0=some ps:=by rw[← hpz];simp
  exact Z7 rfl (q1 ps e l H' hl' hl (gro H' g))
 have hp:p<fm.length:=by have:=of_decide_eq_true c;omega
 have hch:=Z4w (t:=fm) (i:=(p:Int)) (by omega) (by omega)
 have ech:(⟨#[fm.cps.toList.getD (p:Int).toNat 0]⟩:Str)=Vo fm p:=by rw[Int.toNat_natCast];rfl
 refine⟨_,fun _ _ q'=>q',?_⟩
 refine Z7 rfl (Z7 rfl ⟨fm,_,_,rfl,rfl,Ye (by omega),hch,rfl,Z7 rfl (V8 (fun c1=>?_) (fun c1=>?_))⟩)
 ·have hd:Vo fm p="$":=by have z:=of_decide_eq_true c1;injection z
  have hs:Txt.slice fm (some ((p:Int)+1)) (some ((p:Int)+2))=Zd6 fm p:=by
   rw[show(p:Int)+1=((p+1:Nat):Int) by omega,show(p:Int)+2=((p+2:Nat):Int) by omega,Uv (by omega) (by omega)]
   rfl
  refine Z7 rfl ⟨.inl ⟨rfl,_,SqL.of hl'⟩,Z7 rfl (Z7 rfl (Va rfl rfl ⟨_,rfl,Z7 rfl (Va rfl rfl ⟨_,rfl,fm,rfl,Ye (by omega),Z7 rfl ⟨Zd6 fm p,n,congrArg (fun z=>[V.str z,V.int n]) hs,Zdd fm p,fun e=>?_,fun k e1 e2 e3=>?_,fun e1 e2=>?_⟩⟩)⟩))⟩
  ·refine⟨l,_,_,rfl,rfl,hl',Yp (by rw[List.length_map];omega),Z7 rfl (Va rfl rfl ⟨_,?_,p+2,ps++[.tx "$"],rfl,by rw[Z3,← Z07];rfl,?_,by simp;omega,by omega,g.trans (Gro.set (by simp) hl' _),rfl⟩)⟩
   ·omega
   ·rw[← hpz,Z05 hp (Zhb hd e),Z1x]
  ·refine⟨l,_,_,rfl,rfl,hl',Yp (by rw[List.length_map];omega),Z7 rfl (Va rfl rfl ⟨_,?_,p+2,ps++[.nm k],rfl,by rw[Z3,← Z07];rfl,?_,by simp;omega,by omega,g.trans (Gro.set (by simp) hl' _),rfl⟩)⟩
   ·omega
   ·rw[← hpz,Z2a hp (Z7r hd e1 e2 e3),Z1x]
  ·have hb:kd fm n p=.bad:=by
    cases hk:Zf4 (Zd6 fm p) with
    |none=>exact Zel hd e1 hk
    |some k=>exact Zek hd e1 hk (e2 k hk)
   rw[Z7n hp hb]at hpz
   exact q2 hpz.symm H' (gro H' g)
 ·have hd:¬Vo fm p="$":=fun z=>c1 (decide_eq_true (by rw[ech,z]))
  refine Z7 rfl ⟨.inl ⟨rfl,_,SqL.of hl'⟩,Z7 rfl (Z7 rfl ⟨fm,_,_,rfl,rfl,Ye (by omega),hch,?_⟩)⟩
  refine⟨l,_,_,rfl,rfl,hl',Yp (by rw[List.length_map];omega),Z7 rfl (Va rfl rfl ⟨_,?_,p+1,ps++[.tx (Vo fm p)],rfl,by rw[Z3,← Z07];rfl,?_,by simp;omega,by omega,g.trans (Gro.set (by simp) hl' _),rfl⟩)⟩
  ·omega
  ·rw[← hpz,Jn hp (Z7s hd),Z1x]
inductive spTknI(vs:List V)(H:Hp)(Q:VK):Prop
 |mk (t:Str) (a:Addr) (x:Nat×Yb) (k:Nat) (_:vs=[.int k,.str t,.ref a]) (_:Zae H (.ref a) x) (_:t.length<=1000) (_:k<=x.2.2.length) (_:x.2.2.length<=900) (_:Q (.str (Zi4 t x (.nm k))) H)
def Zct:Sp:=fun vs H Q _=>spTknI vs H Q
abbrev Wt:Stmt:=top 53
theorem sc_taken_text:FnScope ["number","text","find","entry"] ["number","text","find"] (Z9 Wt):=Vm
theorem Zh0(F:Fun K "taken_text" "taken_text" Wt f fd):FnOk P w K mg base Wq 1 f fd ["number","text","find"] Zct:=by
 refine F.ok sc_taken_text (fun vs H Q E h=>?_) (fun cdv A outer s H vs Q E hr h=>?_)
 ·obtain⟨t,a,x,k,rfl,_⟩:=h
  rfl
 obtain⟨t,a,x,k,rfl,hx,ht,hk,hn,q⟩:=h
 obtain⟨a',gv,e,ha,ga,es,rfl,hga,hes⟩:=hx
 cases e
 refine Vj ?_
 intro Xz
 refine⟨_,(Z1 (Y0 (Ze Y4 (pv 0) Z6 (Zi _)) (Z5 (Zo (Y8 Wj (pv 1) (Y2 (Zg Zd (pv 2) Z6 (fun _ _=>rfl))) (Y2 (Zg Zd (pv 2) Z6 (fun _ _=>rfl)))))) Zm)
  (Z1 (pS 3 sc_taken_text.nd (Zg Zd (Zg Zd (pv 2) Z6 (fun _ _=>rfl)) (Yg Te (pv 0) Z6) (fun _ _=>rfl)))
  (Z5 (Zo (Xp (Tv (Td (pv 3))) Zk (Y8 Wj (pv 1) (Y2 (Zg Zd (pv 3) Z6 (fun _ _=>rfl))) (Y2 (Zg Zd (pv 3) Z6 (fun _ _=>rfl))))))))),?_⟩
 refine Zgg ?_
 intro Ez Az1 Az2 Az3
 cases k with
 |zero =>
  refine(Z7 rfl ⟨rfl,Z7 rfl (Zj (by decide) ?_)⟩)
  exact Z7 rfl (W5 ha Z0d (Z7 rfl (W5 ha rfl (Z7 rfl (Z7 rfl ⟨Ye ht,q⟩)))))
 |succ j =>
  refine(Z7 rfl ⟨rfl,Z7 rfl (Zb (fun z=>by have z':=of_decide_eq_true z;injection z';omega) ?_)⟩)
  have hl:=Paired.length hes
  have hj:j<es.length:=by omega
  obtain⟨en,hen,hv⟩:=Y5 hes (List.getElem?_eq_getElem hj)
  have eix:Z6e es (((j+1:Nat):Int)-1)=some es[j]:=by
   rw[show((j+1:Nat):Int)-1=((j:Nat):Int) by omega]
   exact Wm (List.getElem?_eq_getElem hj)
  have ed:x.2.2.getD j none=en:=by rw[List.getD_eq_getElem?_getD,hen];rfl
  refine W5 ha rfl (Z7 rfl (Va rfl rfl ⟨ga,es,_,_,rfl,rfl,SqT.of hga,eix,?_⟩))
  have q':Q (.str (Zl5 t en)) H:=by
   rw[← ed]
   exact q
  cases en with
  |none =>
   have e0:es[j]=V.non:=hv
   rw[e0]
   exact Z7 rfl (Z7 rfl (Zj (by decide) q'))
  |some p =>
   obtain⟨pa,e0,hpa⟩:=hv
   rw[e0]
   exact Z7 rfl (Z7 rfl (Zb (by intro z;have z':=of_decide_eq_true z;cases z') (Z7 rfl (W5 hpa Z0d (Z7 rfl (W5 hpa rfl (Z7 rfl (Z7 rfl ⟨Ye ht,q'⟩))))))))
inductive spFillI(vs:List V)(H:Hp)(Q:VK):Prop
 |mk (ps:List Pc) (n:Nat) (t:Str) (l a:Addr) (x:Nat×Yb) (_:vs=[.ref l,.str t,.ref a]) (_:H l=some (.lst (ps.map Zi9))) (_:PcOk n 100 ps) (_:x.2.2.length=n) (_:n<=9) (_:Zae H (.ref a) x) (_:t.length<=200) (_:∀H',Gro [] H H'->Q (.str (Zd8 t x ps)) H')
def Z7k:Sp:=fun vs H Q _=>spFillI vs H Q
abbrev Ul:Stmt:=top 52
theorem Z9d:FnScope ["pieces","text","find"] ["pieces","text","find"] (Z9 Ul):=Vm
theorem Zeb(T:Blt mg)(O_taken_text:Own P w K mg base 1 "taken_text" ["number","text","find"] Zct)(F:Fun K "filled" "filled" Ul f fd):FnOk P w K mg base Wq 2 f fd ["pieces","text","find"] Z7k:=by
 refine F.ok Z9d (fun vs H Q E h=>?_) (fun cdv A outer s H vs Q E hr h=>?_)
 ·obtain⟨ps,n,t,l,a,x,rfl,_⟩:=h
  rfl
 obtain⟨ps,n,t,l,a,x,rfl,hl,ok,hxn,hn,hx,ht,q⟩:=h
 refine Vj ?_
 intro Xz
 refine⟨_,(Z5 (Zo (Yr PySem.F.plainAttrs_str PySem.F.slot_str_join PySem.F.type_str_join Z4f Zk (Z0 (Vv rfl (show CScope _ ["pieces","text","find"] (Z9 Ul) _ from⟨rfl,by decide +kernel,rfl,by decide +kernel,by decide +kernel,by decide +kernel,by decide +kernel⟩) (Jr (pv 0)) (fun _ _ _ _=>Jp) (fun _ _ _ _=>(Xp (Yw (Zh (Zu (T:="str") (Yo (by simp))) rfl T.b_isinstance PyProof.Rows.Boot.«isinstance» (Z0 (pv 0) (Z0 (Y9 (v:=.ty "str") rfl T.b_str PyProof.Rows.Boot.«str» rfl) Z2)))) (pv 0) (Zz (O_taken_text.mono (by omega)) hr rfl (Z0 (pv 0) (Z0 (pv 2) (Z0 (pv 3) Z2))))))) Z2)))),?_⟩
 have hpl:=ok.len
 refine⟨rfl,Z7 rfl ⟨l,rfl,⟨_,SqL.of hl⟩,?_⟩⟩
 have e0:("":Str).length=0:=rfl
 refine Z8k (xs:=ps.map Zi9) (fun i ys H'=>ys=((ps.take i).map (Zi4 t x)).map V.str/\H'=H) ⟨rfl,rfl⟩ (Yp (by rw[List.length_map];omega)) (fun i ys H' ⟨e,_⟩=>by rw[e,List.length_map,List.length_map,List.length_take];exact Nat.min_le_left _ _) (fun i ys H' ⟨_,e⟩=>by rw[e];exact SqL.of hl) ?_ ?_
 ·rintro i ys H' v hv ⟨rfl,rfl⟩
  rw[List.getElem?_map]at hv
  obtain⟨c,hc,rfl⟩:=Option.map_eq_some_iff.mp hv
  rw[Xu hc,List.map_append,List.map_append]
  cases c with
  |tx s'=>exact Z7 rfl ⟨_,_,rfl,rfl,Z7 rfl (Zj (by decide) (Z7 rfl ⟨rfl,rfl⟩))⟩
  |nm k=>exact Z7 rfl ⟨_,_,rfl,rfl,Z7 rfl (Zb (by decide) (Z7 rfl (Z7 rfl (Z7 rfl ⟨t,a,x,k,rfl,hx,by omega,by rw[hxn];exact ok.num k (List.mem_of_getElem? hc),by omega,rfl,rfl⟩))))⟩
 ·rintro ys H' ⟨rfl,rfl⟩ l2 hl2
  rw[List.length_map,List.take_length]
  have hs:=Z41 (Z38 (x:=x) ok ht)
  rw[List.length_map]at hs
  exact⟨_,l2,ps.map (Zi4 t x),rfl,rfl,SqL.of Z3,by rw[e0];exact Zkw (by omega),q _ (Gro.new hl2 _)⟩
inductive spAroundI(vs:List V)(H:Hp)(Q:VK):Prop
 |mk (t:Str) (l:Addr) (us:List V) (xs:List (Nat×Yb)) (_:vs=[.str t,.ref l]) (_:H l=some (.lst us)) (_:Paired (Zae H) us xs) (_:t.length<=1000) (_:us.length<=300) (_:∀(r:Addr) (H':Hp),H' r=some (.lst ((tx t 0 xs).map V.str))->H r=none->Gro [] H H'->Q (.ref r) H')
def J7:Sp:=fun vs H Q _=>spAroundI vs H Q
abbrev Xw:Stmt:=top 49
theorem sc_texts_around:FnScope ["text","finds","texts","end","find"] ["text","finds"] (Z9 Xw):=Vm
theorem Z9u(F:Fun K "texts_around" "texts_around" Xw f fd):FnOk P w K mg base Wq 1 f fd ["text","finds"] J7:=by
 refine F.ok sc_texts_around (fun vs H Q E h=>?_) (fun cdv A outer s H vs Q E hr h=>?_)
 ·obtain⟨t,l,us,xs,rfl,_⟩:=h
  rfl
 obtain⟨t,l,us,xs,rfl,hl,hu,ht,hul,q⟩:=h
 refine Vj ?_
 intro Xz
 refine⟨_,(Z1 (pS 2 sc_texts_around.nd (Xg Z2))
  (Z1 (pS 3 sc_texts_around.nd Z6)
  (Z1 (Vb PassesOwn.never rfl (Jr (pv 1)) (pN 4 sc_texts_around.nd) (Z1 (Zf (Yr PySem.F.plainAttrs_list PySem.F.slot_list_append PySem.F.type_list_append Zw (pv 2) (Z0 (Y8 Wj (pv 0) (Y2 (pv 3)) (Y2 (Zg Zd (pv 4) Z6 (fun _ _=>rfl)))) Z2)))
  (Z5 (pS 3 sc_texts_around.nd (Zg Zd (pv 4) Z6 (fun _ _=>rfl))))))
  (Z1 (Zf (Yr PySem.F.plainAttrs_list PySem.F.slot_list_append PySem.F.type_list_append Zw (pv 2) (Z0 (Y8 Wj (pv 0) (Y2 (pv 3)) Wz) Z2)))
  (Z5 (Zo (pv 2))))))),?_⟩
 refine Zgd ?_
 intro Ez Az1 Az2 Az3 Az4 Az5 Az6
 refine⟨sz,fun r hr0=>?_⟩
 have g1:=Gro.new (S:=[]) hr0 (.lst [])
 have hl1:=g1.keep _ _ hl (by simp)
 have hu1:=Yh g1.tups hu
 have hr1:(Zq H r (.lst [])) r=some (.lst []):=Z3
 have lr:l≠r:=Za hl hr0
 generalize Zq H r (.lst [])=H1 at *
 have hel:=Paired.length hu
 refine(Z7 rfl ⟨l,rfl,⟨us,SqL.of hl1⟩,?_⟩)
 refine Z21 (xs:=us) (fun k σ H'=>∃(e:Int) (ys:List Str) (u:Option V),σ=[some (.str t),some (.ref l),some (.ref r),some (.int e),u]/\H' r=some (.lst (ys.map V.str))/\ys.length=k/\tx t 0 xs=ys++tx t e (xs.drop k)/\Gro [r] H1 H')
  ⟨0,[],none,rfl,hr1,rfl,rfl,Gro.refl⟩ (fun k σ H' _ hh=>by obtain⟨_,_,_,_,_,_,_,g⟩:=hh;exact SqL.of (g.keep _ _ hl1 (by simpa using lr))) ?_ ?_
 ·rintro k v σ H2 hv ⟨e,ys,u,rfl,hr2,hyl,htx,g2⟩
  obtain⟨x,hx,hF⟩:=Y5 (Yh g2.tups hu1) hv
  obtain⟨a,gv,rfl,ha,_⟩:=hF
  have hk:k<us.length:=(List.getElem?_eq_some_iff.mp hv).1
  refine(Z7 rfl ⟨.inl ⟨rfl,_,SqL.of hr2⟩,Z7 rfl (Z7 rfl (Z7 rfl (W5 ha Z0d (Z7 rfl (Z7 rfl ⟨Ye ht,r,_,_,rfl,rfl,hr2,Nat.lt_of_lt_of_le (by rw[List.length_map];omega) (Ye (Nat.le_refl 1000)),?_⟩)))))⟩)
  have g3:Gro [r] H2 _:=Gro.set (by simp) hr2 (.lst (ys.map V.str++[.str (Txt.slice t (some e) (some (x.1:Int)))]))
  exact W5 (g3.tups _ _ ha) rfl ⟨_,ys++[Txt.slice t (some e) (some (x.1:Int))],_,rfl,by rw[Z3,Vw],by rw[List.length_append,hyl];rfl,Z7y htx hx,g2.trans g3⟩
 ·rintro σ H2 ⟨e,ys,u,rfl,hr2,hyl,htx,g2⟩
  refine(Z7 rfl ⟨.inl ⟨rfl,_,SqL.of hr2⟩,Z7 rfl (Z7 rfl (Z7 rfl (Z7 rfl ⟨Ye ht,r,_,_,rfl,rfl,hr2,Nat.lt_of_lt_of_le (by rw[List.length_map];omega) (Ye (Nat.le_refl 1000)),?_⟩)))⟩)
  have g3:Gro [r] H2 _:=Gro.set (by simp) hr2 (.lst (ys.map V.str++[.str (Txt.slice t (some e) none)]))
  have gg:=g2.trans g3
  refine Z7 rfl (q r _ ?_ hr0 ⟨fun a o h _=>gg.keep a o (g1.keep a o h (by simp)) (by simpa using Za h hr0),fun a zs h=>gg.tups _ _ (g1.tups _ _ h)⟩)
  rw[Z3,Vw,← Zc1 htx (by omega)]
theorem Uo{H H':Hp}{l:Addr}(g:Gro [] H H')(h:H' l=none):H l=none:=by
 cases e:H l with
 |none=>rfl
 |some o=>rw[g.keep _ _ e (by simp)]at h;cases h
inductive spReplXI(CO:Addr)(vs:List V)(H:Hp)(Q:VK)(E:XK):Prop
 |mk (v:V) (t fm:Str) (n c:Nat) (L:Int) (p:Pat) (ps:List Pc) (xs:List (Nat×Yb)) (_:vs=[v,.str t,.str fm,.int L]) (_:0<=L) (_:PatAt H 8 v p) (_:p.groups=n) (_:fm.length<=12) (_:pz fm n 0=some ps) (_:p.size<=20000) (_:Ug ((Yd p).map Op.rw)=n) (_:n<=9) (_:t.length<=200) (_:FdsC t n p 0 xs c)
  (_:(c:Int)<=L->∀H':Hp,Gro [] H H'->Q (.str (Z12 t 0 xs++gF t ps xs)) H') (_:L<(c:Int)->∀H':Hp,Gro [] H H'->E (.ref CO) none H')
def Z44(CO:Addr):Sp:=fun vs H Q E=>spReplXI CO vs H Q E
abbrev Vy:Stmt:=top 48
theorem sc_replaced:FnScope ["pattern","text","form","most","pieces","finds","around","made","find","behind"] ["pattern","text","form","most"] (Z9 Vy):=Vm
theorem Zb5{CO:Addr}(T:Blt mg)(Zcx:mg "zip" = none)(O_form_pieces:OwnX P w K mg base 2 "form_pieces" ["form","groups"] (Z7j CN))(O_groups_in:Own P w K mg base 10 "groups_in" ["pattern"] (Zjq 8))(O_all_finds:OwnX P w K mg base 30 "all_finds" ["pattern","text","most"] (Z25 CO))(O_texts_around:Own P w K mg base 1 "texts_around" ["text","finds"] J7)(O_filled:Own P w K mg base 2 "filled" ["pieces","text","find"] Z7k)
  (F:Fun K "replaced" "replaced" Vy f fd):FnOk P w K mg base (Z7w P w) 31 f fd ["pattern","text","form","most"] (Z44 CO):=by
 refine F.okX sc_replaced (fun vs H Q E h=>?_) (fun cdv A outer s H vs Q E hr h LX=>?_)
 ·obtain⟨v,t,fm,n,c,L,p,ps,xs,rfl,_⟩:=h
  rfl
 obtain⟨v,t,fm,n,c,L,p,ps,xs,rfl,hL0,hp,hgr,hfm,hps,hz,hcnt,hn,ht,hF,q,qx⟩:=h
 have hxn:=hF.good
 refine Vj ?_
 intro Xz
 refine⟨_,(Z1 (pS 4 sc_replaced.nd (U9 LX.pass (O_form_pieces.mono (by omega)) hr rfl (Z0 (pv 2) (Z0 (Zz (O_groups_in.mono (by omega)) hr rfl (Z0 (pv 0) Z2)) Z2))))
  (Z1 (pS 5 sc_replaced.nd (U9 LX.pass (O_all_finds.mono (by omega)) hr rfl (Z0 (pv 0) (Z0 (pv 1) (Z0 (pv 3) Z2)))))
  (Z1 (pS 6 sc_replaced.nd (Zz (O_texts_around.mono (by omega)) hr rfl (Z0 (pv 1) (Z0 (pv 5) Z2))))
  (Z1 (pS 7 sc_replaced.nd (Xg (Z0 (Zg X3 (pv 6) Z6 (fun _ _=>rfl)) Z2)))
  (Z1 (Vb LeaveX.own rfl (Zgv rfl Zcx (Z0 (pv 5) (Z0 (Y8 Zdh (pv 6) (Y2 Z6) Wz) Z2))) (Z7p rfl (Vu (pN 8 sc_replaced.nd) (Vu (pN 9 sc_replaced.nd) Z4a))) (Z1 (Zf (Yr PySem.F.plainAttrs_list PySem.F.slot_list_append PySem.F.type_list_append Zw (pv 7) (Z0 (Zz (O_filled.mono (by omega)) hr rfl (Z0 (pv 4) (Z0 (pv 1) (Z0 (pv 8) Z2)))) Z2)))
  (Z5 (Zf (Yr PySem.F.plainAttrs_list PySem.F.slot_list_append PySem.F.type_list_append Zw (pv 7) (Z0 (pv 9) Z2))))))
  (Z5 (Zo (Yr PySem.F.plainAttrs_str PySem.F.slot_str_join PySem.F.type_str_join Z4f Zk (Z0 (pv 7) Z2))))))))),?_⟩
 refine Zgk ?_
 intro Ez Az1 Az2 Az3 Az4 Az5 Az6 Az7
 refine(Z7 rfl (Z7 rfl ⟨v,p,rfl,hp,fun H1 g1=>?_⟩))
 refine⟨fm,n,by rw[hgr];rfl,by omega,fun ps' hps' lp H2 hlp hn2 g2=>?_,fun hb H2 g2=>absurd (hb.symm.trans hps) (by simp)⟩
 rw[hps]at hps'
 cases hps'
 have ok:=Zir hps
 have ok100:PcOk n 100 ps:=⟨Nat.le_trans ok.len (by omega),ok.num,ok.txt⟩
 have g12:=g1.trans g2
 refine(Z7 rfl (Z7 rfl (Z7 rfl ⟨v,t,n,c,L,p,xs,rfl,hL0,hp.mono g12.tups,hz,hcnt,hn,ht,hF,fun hc l us H3 hl hu hxl hln g3=>?_,fun hc H3 g3=>qx hc H3 (g12.trans g3)⟩)))
 have hlp3:=g3.keep _ _ hlp (by simp)
 have hel:=Paired.length hu
 refine(Z7 rfl (Z7 rfl ⟨t,l,us,xs,rfl,hl,hu,by omega,by omega,fun r H4 hr4 hrn g4=>?_⟩))
 have hlp4:=g4.keep _ _ hlp3 (by simp)
 have hl4:=g4.keep _ _ hl (by simp)
 have hu4:=Yh g4.tups hu
 obtain⟨r0,hr0⟩:=Zfd t 0 xs
 have hr4':H4 r=some (.lst (.str (Z12 t 0 xs)::r0.map V.str)):=by rw[hr4,hr0];rfl
 refine(Zjy hr4' Z0d ⟨sz,fun md hmd=>?_⟩)
 have g5:=Gro.new (S:=[]) hmd (.lst [.str (Z12 t 0 xs)])
 have hmd5:(Zq H4 md (.lst [.str (Z12 t 0 xs)])) md=some (.lst ([Z12 t 0 xs].map V.str)):=Z3
 have hlp5:=g5.keep _ _ hlp4 (by simp)
 have hl5:=g5.keep _ _ hl4 (by simp)
 have hu5:=Yh g5.tups hu4
 have hr5:=g5.keep _ _ hr4' (by simp)
 have n1:lp≠md:=Za hlp4 hmd
 have n2:l≠md:=Za hl4 hmd
 have g15:Gro [] H (Zq H4 md (.lst [.str (Z12 t 0 xs)])):=((g12.trans g3).trans g4).trans g5
 have hmn:H md=none:=Uo ((g12.trans g3).trans g4) hmd
 generalize Zq H4 md (.lst [.str (Z12 t 0 xs)])=H5 at *
 refine(Z7 rfl (Z7 rfl (Z7 rfl ⟨r,_,rfl,SqL.of hr5,fun sl hsl=>?_⟩)))
 rw[cut1]
 have g6:=Gro.new (S:=[]) hsl (.lst (r0.map V.str))
 have hs6:(Zq H5 sl (.lst (r0.map V.str))) sl=some (.lst (r0.map V.str)):=Z3
 have hlp6:=g6.keep _ _ hlp5 (by simp)
 have hl6:=g6.keep _ _ hl5 (by simp)
 have hu6:=Yh g6.tups hu5
 have hmd6:=g6.keep _ _ hmd5 (by simp)
 have n3:sl≠md:=Ne.symm (Za hmd5 hsl)
 have g16:=g15.trans g6
 generalize Zq H5 sl (.lst (r0.map V.str))=H6 at *
 have hr0l:r0.length=xs.length:=by
  have:=Z7b t xs 0
  rw[hr0]at this
  simpa using this
 have hdl:∀m∈tx t 0 xs,m.length<=2400:=fun m hm=>Nat.le_trans (Z5f t xs 0 m hm) (by omega)
 refine⟨l,sl,rfl,⟨_,SqL.of hl6⟩,⟨_,SqL.of hs6⟩,?_⟩
 refine Zes (xs:=us) (ys:=r0.map V.str) (fun k σ H'=>∃(ms:List Str) (u8 u9:Option V),σ=[some v,some (.str t),some (.str fm),some (.int L),some (.ref lp),some (.ref l),some (.ref r),some (.ref md),u8,u9]/\H' md=some (.lst (ms.map V.str))/\ms.length=2*k+1/\(∀m∈ms,m.length<=2400)/\Txt.join "" ms++gF t ps (xs.drop k)=Z12 t 0 xs++gF t ps xs/\Gro [md] H6 H')
  ⟨[Z12 t 0 xs],none,none,rfl,hmd6,rfl,fun m hm=>hdl m (by rw[hr0];simp at hm;simp[hm]),?_,Gro.refl⟩ (fun k σ H' _ hh=>by obtain⟨_,_,_,_,_,_,_,_,g⟩:=hh;exact⟨SqL.of (g.keep _ _ hl6 (by simpa using n2)),SqL.of (g.keep _ _ hs6 (by simpa using n3))⟩) (by rw[List.length_map];omega) ?_ ?_
 ·rfl
 ·rintro k x y σ H7 pr hx hy ⟨ms,u8,u9,rfl,hm7,hml,hms,hMd,g7⟩ hpr
  obtain⟨x9,hx9,hF9⟩:=Y5 (Yh g7.tups hu6) hx
  have ey:y=.str (Z12 t x9.2.1 (xs.drop (k+1))):=by
   have h1:=Zcr (t:=t) (e:=0) hx9
   rw[hr0,List.getElem?_cons_succ]at h1
   rw[List.getElem?_map,h1]at hy
   simpa using hy.symm
  subst ey
  have hk:k<us.length:=(List.getElem?_eq_some_iff.mp hx).1
  have g8:=Gro.new (S:=[]) hpr (.tup [x,.str (Z12 t x9.2.1 (xs.drop (k+1)))])
  have hm8:=g8.keep _ _ hm7 (by simp)
  have hlp8:=g8.keep _ _ (g7.keep _ _ hlp6 (by simpa using n1)) (by simp)
  have hF8:=FnA.mono (r:=some x9) g8.tups hF9
  obtain⟨a9,gv9,rfl,_⟩:=id hF9
  have hpr8:(Zq H7 pr (.tup [.ref a9,.str (Z12 t x9.2.1 (xs.drop (k+1)))])) pr=some (.tup [.ref a9,.str (Z12 t x9.2.1 (xs.drop (k+1)))]):=Z3
  generalize Zq H7 pr (.tup [.ref a9,.str (Z12 t x9.2.1 (xs.drop (k+1)))])=H8 at *
  refine⟨pr,_,rfl,SqT.of hpr8,rfl,_,_,rfl,_,_,rfl,rfl,?_⟩
  refine(Z7 rfl ⟨.inl ⟨rfl,_,SqL.of hm8⟩,Z7 rfl (Z7 rfl (Z7 rfl ⟨ps,n,t,lp,a9,x9,rfl,hlp8,ok100,hxn x9 (List.mem_of_getElem? hx9),hn,hF8,ht,fun H9 g9=>?_⟩))⟩)
  have hm9:=g9.keep _ _ hm8 (by simp)
  refine⟨md,_,_,rfl,rfl,hm9,Nat.lt_of_lt_of_le (by rw[List.length_map];omega) (Ye (Nat.le_refl 1000)),?_⟩
  have gA:Gro [md] H9 _:=Gro.set (by simp) hm9 (.lst (ms.map V.str++[.str (Zd8 t x9 ps)]))
  have hmA:(Zq H9 md (.lst (ms.map V.str++[.str (Zd8 t x9 ps)]))) md=some (.lst ((ms++[Zd8 t x9 ps]).map V.str)):=by rw[Z3,Vw]
  generalize Zq H9 md (.lst (ms.map V.str++[.str (Zd8 t x9 ps)]))=HA at *
  refine(Z7 rfl ⟨.inl ⟨rfl,_,SqL.of hmA⟩,Z7 rfl ⟨md,_,_,rfl,rfl,hmA,Nat.lt_of_lt_of_le (by rw[List.length_map,List.length_append];show ms.length+1<_;omega) (Ye (Nat.le_refl 1000)),?_⟩⟩)
  have gB:Gro [md] HA _:=Gro.set (by simp) hmA (.lst ((ms++[Zd8 t x9 ps]).map V.str++[.str (Z12 t x9.2.1 (xs.drop (k+1)))]))
  refine⟨(ms++[Zd8 t x9 ps])++[Z12 t x9.2.1 (xs.drop (k+1))],_,_,rfl,by rw[Z3,Vw],by rw[List.length_append,List.length_append];show ms.length+1+1=_;omega,fun m hm=>?_,by rw[T5,T5];exact Zeq hMd hx9,g7.trans ((g8.mono (by simp)).trans ((g9.mono (by simp)).trans (gA.trans gB)))⟩
  rcases List.mem_append.mp hm with hm | hm
  ·rcases List.mem_append.mp hm with hm | hm
   ·exact hms m hm
   ·rw[List.mem_singleton.mp hm]
    exact Nat.le_trans (Zet ok ht) (by omega)
  ·rw[List.mem_singleton.mp hm]
   exact hdl _ (List.mem_of_getElem? (Zcr (t:=t) (e:=0) hx9))
 ·rintro σ H7 ⟨ms,u8,u9,rfl,hm7,hml,hms,hMd,g7⟩
  have e0:("":Str).length=0:=rfl
  have hsum:=Z7z hms
  rw[hel]at hMd
  refine⟨rfl,Z7 rfl ⟨_,md,ms,rfl,rfl,SqL.of hm7,by rw[e0];omega,?_⟩⟩
  rw[Zhi hMd (Nat.le_refl _)]
  exact q hc _ ⟨fun a o h _=>g7.keep a o (g16.keep a o h (by simp)) (by simpa using Za h hmn),fun a zs h=>g7.tups _ _ (g16.tups _ _ h)⟩
inductive spPartXI(CO:Addr)(vs:List V)(H:Hp)(Q:VK)(E:XK):Prop
 |mk (v:V) (t:Str) (n c:Nat) (L:Int) (p:Pat) (xs:List (Nat×Yb)) (_:vs=[v,.str t,.int L]) (_:0<=L) (_:PatAt H 8 v p) (_:p.size<=20000) (_:Ug ((Yd p).map Op.rw)=n) (_:n<=9) (_:t.length<=200) (_:FdsC t n p 0 xs c)
  (_:(c:Int)<=L->∀(r:Addr) (H':Hp),H' r=some (.lst ((tx t 0 xs).map V.str))->Gro [] H H'->Q (.ref r) H') (_:L<(c:Int)->∀H':Hp,Gro [] H H'->E (.ref CO) none H')
def Z45(CO:Addr):Sp:=fun vs H Q E=>spPartXI CO vs H Q E
abbrev J9:Stmt:=top 47
theorem Z9b:FnScope ["pattern","text","most"] ["pattern","text","most"] (Z9 J9):=Vm
theorem Zb6{CO:Addr}(O_all_finds:OwnX P w K mg base 30 "all_finds" ["pattern","text","most"] (Z25 CO))(O_texts_around:Own P w K mg base 1 "texts_around" ["text","finds"] J7)(F:Fun K "parted" "parted" J9 f fd):FnOk P w K mg base (Z7w P w) 31 f fd ["pattern","text","most"] (Z45 CO):=by
 refine F.okX Z9b (fun vs H Q E h=>?_) (fun cdv A outer s H vs Q E hr h LX=>?_)
 ·obtain⟨v,t,n,c,L,p,xs,rfl,_⟩:=h
  rfl
 obtain⟨v,t,n,c,L,p,xs,rfl,hL0,hp,hz,hcnt,hn,ht,hF,q,qx⟩:=h
 refine Vj ?_
 intro Xz
 refine⟨_,(Z5 (Zo (Zz (O_texts_around.mono (by omega)) hr rfl (Z0 (pv 1) (Z0 (U9 LX.pass (O_all_finds.mono (by omega)) hr rfl (Z0 (pv 0) (Z0 (pv 1) (Z0 (pv 2) Z2)))) Z2))))),?_⟩
 refine(Z7 rfl (Z7 rfl (Z7 rfl (Z7 rfl ⟨v,t,n,c,L,p,xs,rfl,hL0,hp,hz,hcnt,hn,ht,hF,fun hc l us H3 hl hu hxl hln g3=>?_,fun hc H3 g3=>qx hc H3 g3⟩))))
 have hel:=Paired.length hu
 exact⟨t,l,us,xs,rfl,hl,hu,by omega,by omega,fun r H4 hr4 hrn g4=>q hc r H4 hr4 (g3.trans g4)⟩
end
theorem Z18(t:Str):t.cps.toList.length=t.length:=by simp[Str.length]
theorem Z8r(a b:Str):(a++b).cps.toList=a.cps.toList++b.cps.toList:=by
 show(a.cps++b.cps).toList=_
 simp
theorem Zbw{a b:Str}{j:Nat}(h:j<a.length):Vo (a++b) j=Vo a j:=by
 unfold Vo
 rw[Z8r,List.getD_eq_getElem?_getD,List.getD_eq_getElem?_getD,List.getElem?_append_left (by rw[Z18];exact h)]
theorem Za7{a b:Str}{j:Nat}:Vo (a++b) (a.length+j)=Vo b j:=by
 unfold Vo
 rw[Z8r,List.getD_eq_getElem?_getD,List.getD_eq_getElem?_getD,List.getElem?_append_right (by rw[Z18];omega),Z18,Nat.add_sub_cancel_left]
theorem Z8t{x:Str}{a b j:Nat}(h:a+j<b):Vo (sub x a b) j=Vo x (a+j):=by
 unfold Vo sub
 rw[List.getD_eq_getElem?_getD,List.getD_eq_getElem?_getD,List.toList_toArray,List.getElem?_take_of_lt (by omega),List.getElem?_drop]
theorem Zej{x:Str}{a b:Nat}(h:a<=b)(hb:b<=x.length):(sub x a b).length=b-a:=by
 show((x.cps.toList.drop a).take (b-a)).toArray.size=_
 rw[List.size_toArray,List.length_take,List.length_drop,Z18]
 omega
theorem Z8u{o:Str}(h:o.length=1):Vo o 0=o:=by
 obtain⟨a⟩:=o
 have:a.size=1:=h
 match a,this with
 | ⟨[c]⟩,_=>rfl
theorem Zdg{x y:Str}(hl:x.length=y.length)(h:∀j,j<x.length->Vo x j=Vo y j):x=y:=by
 obtain⟨⟨a⟩⟩:=x
 obtain⟨⟨b⟩⟩:=y
 have hl':a.length=b.length:=by simpa[Str.length] using hl
 have:a=b:=by
  refine List.ext_getElem? fun j=>?_
  by_cases hj:j<a.length
  ·have:=h j (by simpa[Str.length] using hj)
   unfold Vo at this
   injection this with this
   have e:a.getD j 0=b.getD j 0:=by simpa using this
   rw[List.getD_eq_getElem?_getD,List.getD_eq_getElem?_getD,List.getElem?_eq_getElem hj,List.getElem?_eq_getElem (by omega)]at e
   rw[List.getElem?_eq_getElem hj,List.getElem?_eq_getElem (by omega)]
   exact congrArg some (by simpa using e)
  ·rw[List.getElem?_eq_none (by omega),List.getElem?_eq_none (by omega)]
 rw[this]
theorem takes_sign{c t:Str}{i:Int}(h0:0<=i)(h:i<t.length):Zl (.sign c) t i=decide (V.str c=V.str (Vo t i.toNat)):=by
 unfold Zl
 rw[if_pos h]
 rfl
def Sg(s:Str):Pat:=.node (.sign s) []
theorem Zdi(s:Str):Yd (Sg s)=[.pat (.sign s),.found]:=rfl
theorem Zfu(s:Str):Ug ((Yd (Sg s)).map Op.rw)=((0:Nat):Int):=by
 rw[Zdi]
 unfold Ug
 rw[if_pos]
 ·rfl
 ·rfl
theorem Zfa(t:Str):GOk t 0 []:=⟨rfl,fun _ _ h=>by cases h⟩
theorem Zgt{s t:Str}{b:Nat}(hb:b<t.length)(h:Zl (.sign s) t b=true):Zfb t 0 (Sg s) b (some (b+1,[])) 2:=by
 refine⟨1,_,⟨[],Rc.one (o:=.pat (.sign s)) rfl (by show b<=_;omega) (Zfa t) trivial ?_,rfl⟩,by omega,fun x e=>?_,rfl,by omega⟩
 ·show(if Zl (.sign s) t (b:Nat)=true then _ else _)=_
  rw[if_pos h]
  rfl
 ·cases e
  exact⟨hb,Zfa t⟩
theorem Zds{s t:Str}{b:Nat}(hb:b<=t.length)(h:Zl (.sign s) t b=false):Zfb t 0 (Sg s) b none 1:=by
 refine⟨1,_,⟨Rc.one (o:=.pat (.sign s)) rfl (by show b<=_;omega) (Zfa t) trivial ?_,rfl⟩,by omega,fun x e=>(by cases e),rfl,by omega⟩
 show(if Zl (.sign s) t (b:Nat)=true then _ else _)=_
 rw[if_neg (by rw[h];decide)]
 rfl
theorem Uu(s t:Str):Zl (.sign s) t t.length=false:=by
 unfold Zl
 rw[if_neg (by omega)]
theorem Zfi{t:Str}{n:Nat}{p:Pat}{b d N:Nat}{ws:List Yb}(hnm:p.nm n)(hb:b<=t.length)(hw:Wy t d p b (List.replicate n none) ws N)(hc:3*d*N<=4000):∃c,c<=4001/\Zfb t n p b ws.head? c:=by
 have hgo:=Zen t n
 have gd':=Wy.good (t:=t) (n:=n) d p b _ ws N hnm hb hgo hw
 have hl:(Yd p).length-1=(p.ops 0).length:=by unfold Yd;rw[List.length_append];rfl
 have hs:Sits (Yd p) 0 (p.ops 0):=⟨[.found],rfl⟩
 have y:=Wy.yl (es:=Yd p) (t:=t) (n:=n) d p b _ ws N hnm hb hgo hw 0 [] [] hs
 have y':Yl (Yd p) t n ((Yd p).length-1) [] [] _ ws 4000:=(y.to (by rw[hl];omega)).mono hc
 cases y' with
 |nil r hk =>
  rename_i j
  have h1:1<=j:=by
   cases j with
   |zero=>exact absurd r.eq (by intro z;cases z)
   |succ j=>omega
  exact⟨j,by omega,j,_,⟨r,rfl⟩,by omega,fun x e=>(by cases e),rfl,h1⟩
 |cons r y2 hk =>
  rename_i j k' w ws xs
  exact⟨j+1,by omega,j,_,⟨_,r,rfl⟩,by omega,fun x e=>(by cases e;exact⟨(gd'.all w (by simp)).hi,(gd'.all w (by simp)).g⟩),rfl,by omega⟩
theorem FdsC.skip{t:Str}{n:Nat}{p:Pat}{b c c':Nat}{xs:List (Nat×Yb)}(hb:b<=t.length)(h:Zfb t n p b none c)(r:FdsC t n p (b+1) xs c'):FdsC t n p b xs (c+c'):=by
 cases r with
 |no hF=>exact .no (.go hb h hF)
 |more hF h1 h2 h3 hr =>
  rw[← Nat.add_assoc]
  exact .more (.go hb h hF) (by omega) h2 h3 hr
theorem FdsC.find{t:Str}{n:Nat}{p:Pat}{b e c c':Nat}{g:Gs}{xs:List (Nat×Yb)}(hb:b<=t.length)(h:Zfb t n p b (some (e,g)) c)(h1:b<=e)(h2:e<=t.length)(r:FdsC t n p (e+if e=b then 1 else 0) xs c'):FdsC t n p b ((b,(e,g))::xs) (c+c') :=
 .more (.hit hb h) (Nat.le_refl b) h1 h2 r
def Zd9(f:Nat->Bool)(sz b m:Nat):List (Nat×Yb):=((List.range' b m).filter f).map fun k=>(k,(k+sz,[]))
theorem Z4v{t:Str}{p:Pat}{f:Nat->Bool}{sz:Nat}{A:Nat->Nat->Prop}{S:Nat->Nat->Nat->Prop}(hsz:sz<=1)(h0:∀b,S 0 b 0)(hS:∀m b c c',A b c->S m (b+1) c'->S (m+1) b (c+c'))
  (h:∀b,b<=t.length->∃c,A b c/\Zfb t 0 p b (if f b=true then some (b+sz,[]) else none) c) (hf:∀b,b<=t.length->f b=true->b+sz<=t.length):∀m b,b+m=t.length+1->∃c,S m b c/\FdsC t 0 p b (Zd9 f sz b m) c
 |0,b,hm=>⟨0,h0 b,.no (.out (by omega))⟩
 |m+1,b,hm=>by
  obtain⟨c',hc',hr⟩:=Z4v hsz h0 hS h hf m (b+1) (by omega)
  obtain⟨c,hc,hp⟩:=h b (by omega)
  refine⟨c+c',hS m b c c' hc hc',?_⟩
  unfold Zd9
  rw[List.range'_succ,List.filter_cons]
  by_cases e:f b=true
  ·rw[if_pos e]at hp ⊢
   rw[List.map_cons]
   refine FdsC.find (by omega) hp (by omega) (hf b (by omega) e) ?_
   rw[show(b+sz+if b+sz=b then 1 else 0)=b+1 by split <;> omega]
   exact hr
  ·rw[if_neg e]at hp ⊢
   exact FdsC.skip (by omega) hp hr
def R0:Pat:=.node .row []
theorem Ziq{t:Str}{b:Nat}(hb:b<=t.length):Zfb t 0 R0 b (some (b,[])) 1 :=
 ⟨0,_,⟨[],⟨fun i hi=>absurd hi (Nat.not_lt_zero _),rfl⟩,rfl⟩,by omega,fun x e=>(by cases e;exact⟨hb,Zfa t⟩),rfl,by omega⟩
theorem Zfx(t:Str):FdsC t 0 R0 0 (Zd9 (fun _=>true) 0 0 (t.length+1)) (t.length+1):=by
 obtain⟨c,rfl,h⟩:=Z4v (t:=t) (p:=R0) (f:=fun _=>true) (sz:=0) (A:=fun _ c=>c=1) (S:=fun m _ c=>c=m) (by omega) (fun _=>rfl) (fun m b c c' h1 h2=>by omega) (fun b hb=>⟨1,rfl,by rw[if_pos rfl];exact Ziq hb⟩) (fun b hb _=>hb) (t.length+1) 0 (by omega)
 exact h
theorem Zft(s t:Str):FdsC t 0 (Sg s) 0 (Zd9 (fun b=>Zl (.sign s) t b) 1 0 (t.length+1)) (t.length+1+(Zd9 (fun b=>Zl (.sign s) t b) 1 0 (t.length+1)).length):=by
 have out:∀b:Nat,b<=t.length->Zl (.sign s) t b=true->b+1<=t.length:=fun b hb h=>by
  by_cases e:b=t.length
  ·rw[e,Uu]at h
   cases h
  ·omega
 obtain⟨c,hc,h⟩:=Z4v (t:=t) (p:=Sg s) (f:=fun b=>Zl (.sign s) t b) (sz:=1) (A:=fun b c=>c=if Zl (.sign s) t b=true then 2 else 1) (S:=fun m b c=>c=m+(Zd9 (fun b=>Zl (.sign s) t b) 1 b m).length) (by omega) (fun _=>rfl)
  (fun m b c c' h1 h2=>by
   unfold Zd9 at h2 ⊢
   rw[List.range'_succ,List.filter_cons]
   by_cases e:Zl (.sign s) t b=true
   ·rw[if_pos e]at h1 ⊢
    rw[List.map_cons,List.length_cons]
    omega
   ·rw[if_neg e]at h1 ⊢
    omega)
  (fun b hb=>by
   by_cases e:Zl (.sign s) t b=true
   ·exact⟨2,by rw[if_pos e],by rw[if_pos e];exact Zgt (out b hb e) e⟩
   ·exact⟨1,by rw[if_neg e],by rw[if_neg e];exact Zds hb (Bool.eq_false_iff.mpr e)⟩) out (t.length+1) 0 (by omega)
 rw[hc]at h
 exact h
def Bh(s o:Str):Pat:=.node .row [.node (.look .behind) [Sg s],Sg o]
def Z6d(s o t:Str)(b:Nat):Bool:=decide (1<=b)&&Zl (.sign s) t ((b-1:Nat):Int)&&Zl (.sign o) t b
theorem Z8w{s t:Str}{b:Nat}:∀k:Nat,(∀j:Nat,j<=k->j+1=b->Zl (.sign s) t j=false)->Bx (Wy t 1) (Sg s) b [] k [] (k+1)
 |0,h=>.last (vs:=if Zl (.sign s) t ((0:Nat):Int)=true then[(0+1,[])] else[]) ⟨rfl,rfl⟩ (by
   by_cases e:0+1=b
   ·rw[h 0 (Nat.le_refl _) e]
    rfl
   ·split
    ·simp[e]
    ·rfl)
 |k+1,h=>by
  have:=Bx.down (W:=Wy t 1) (p:=Sg s) (i:=b) (g:=[]) (k:=k) (vs:=if Zl (.sign s) t ((k+1:Nat):Int)=true then[(k+1+1,[])] else[]) (N:=1) ⟨rfl,rfl⟩ (by
   by_cases e:k+1+1=b
   ·rw[h (k+1) (Nat.le_refl _) e]
    rfl
   ·split
    ·simp[e]
    ·rfl) (Z8w k fun j hj=>h j (by omega))
  rw[Nat.add_comm 1]at this
  exact this
theorem Zj9{s o t:Str}{b:Nat}(hb:b<=t.length):∃N,N<=b+5/\Wy t 3 (Bh s o) b [] (if Z6d s o t b=true then[(b+1,[])] else[]) N:=by
 have sg:Wy t 2 (Sg o) b [] (if Zl (.sign o) t b=true then[(b+1,[])] else[]) 1:=⟨rfl,rfl⟩
 by_cases e:1<=b/\Zl (.sign s) t ((b-1:Nat):Int)=true
 ·obtain⟨e1,e2⟩:=e
  obtain⟨k,rfl⟩:∃k,b=k+1:=⟨b-1,by omega⟩
  rw[Nat.add_sub_cancel]at e2
  have lk:Wy t 2 (.node (.look .behind) [Sg s]) (k+1) [] [(k+1,[])] (1+1+1):=by
   refine⟨Sg s,[(k+1,[])],1+1,rfl,?_,rfl,rfl⟩
   show Bx (Wy t 1) (Sg s) (k+1) [] (k+1) [(k+1,[])] (1+1)
   have h2:(([(k+1,[])]:List Yb).filter fun w=>w.1==k+1)=[(k+1,[])]:=by simp
   have h1:=Bx.here (W:=Wy t 1) (p:=Sg s) (i:=k+1) (g:=[]) (k:=k) (vs:=[(k+1,[])]) (N:=1) ⟨by rw[if_pos e2],rfl⟩ (by rw[h2];simp)
   rw[h2]at h1
   exact Bx.down (vs:=if Zl (.sign s) t ((k+1:Nat):Int)=true then[(k+1+1,[])] else[]) ⟨rfl,rfl⟩ (by split <;> simp) h1
  have ef:Z6d s o t (k+1)=Zl (.sign o) t ((k+1:Nat):Int):=by
   unfold Z6d
   rw[Nat.add_sub_cancel,e2,decide_eq_true e1]
   rfl
  rw[ef]
  refine⟨(1+1+1+0)+(1+0+0)+1,by omega,_,.cons (.cons lk .nil) (.cons (.cons sg .nil) ?_),rfl⟩
  rw[List.append_nil]
  exact .nil
 ·have lk:Wy t 2 (.node (.look .behind) [Sg s]) b [] [] (b+1+1):=by
   refine⟨Sg s,[],b+1,rfl,?_,rfl,rfl⟩
   show Bx (Wy t 1) (Sg s) b [] b [] (b+1)
   refine Z8w b fun j hj hjb=>?_
   refine Bool.eq_false_iff.mpr fun z=>e ⟨by omega,?_⟩
   rw[show b-1=j by omega]
   exact z
  have ef:Z6d s o t b=false:=by
   unfold Z6d
   refine Bool.eq_false_iff.mpr fun z=>e ?_
   simp only[Bool.and_eq_true,decide_eq_true_eq]at z
   exact z.1
  rw[ef]
  exact⟨(b+1+1+0)+(0+0)+1,by omega,_,.cons (.cons lk .nil) (.cons .nil .nil),rfl⟩
theorem Zhm{s o t:Str}(ht:t.length<=199):∃c,c<=1000000/\FdsC t 0 (Bh s o) 0 (Zd9 (Z6d s o t) 1 0 (t.length+1)) c:=by
 have out:∀b:Nat,b<=t.length->Z6d s o t b=true->b+1<=t.length:=fun b hb h=>by
  unfold Z6d at h
  simp only[Bool.and_eq_true]at h
  by_cases e:b=t.length
  ·rw[e,Uu]at h
   cases h.2
  ·omega
 have nm:(Bh s o).nm ((0:Nat):Int):=by
  unfold Bh Sg
  simp[Pat.nm,Zia,Hd.nm]
 obtain⟨c,hc,h⟩:=Z4v (t:=t) (p:=Bh s o) (f:=Z6d s o t) (sz:=1) (A:=fun b c=>c<=4001) (S:=fun m b c=>c<=4001*m) (by omega) (fun _=>by omega) (fun m b c c' h1 h2=>by omega)
  (fun b hb=>by
   obtain⟨N,hN,hw⟩:=Zj9 (s:=s) (o:=o) (t:=t) (b:=b) hb
   obtain⟨c,hc,hp⟩:=Zfi nm hb hw (by omega)
   refine⟨c,hc,?_⟩
   by_cases e:Z6d s o t b=true
   ·rw[if_pos e]at hp ⊢
    exact hp
   ·rw[if_neg e]at hp ⊢
    exact hp) out (t.length+1) 0 (by omega)
 exact⟨c,by omega,h⟩
def gT(s:Str):Pat:=.node (.grp 1) [.node (.times ((1:Nat):Int) none .much) [Sg s]]
theorem Zj5{t s:Str}{a k:Nat}(r:Run t (fun i=>Zl (.sign s) t i) 1 none 0 a k):∃N,N<=2*(k+1)+2/\Wy t 3 (gT s) a [none] ((List.range k).map fun r=>(a+(k-r),[some (a,a+(k-r))])) N:=by
 obtain⟨N1,hN1,w1⟩:=Zag (lo:=1) (how:=.much) (g:=[none]) Nat.one_pos (Zdb (d:=0) (h:=.sign s) rfl) r
 refine⟨N1+1,by omega,_,_,N1,rfl,w1,rfl,?_⟩
 show _=((List.range (k+1-1)).map fun r=>((a+(k-r)*1,[none]):Yb)).map fun w=>(w.1,put w.2 1 a w.1)
 rw[List.map_map,Nat.add_sub_cancel]
 refine congrArg (fun f=>List.map f (List.range k)) (funext fun r=>?_)
 show _=(a+(k-r)*1,put [none] 1 a (a+(k-r)*1))
 rw[Nat.mul_one]
 rfl
theorem Zfk{t s:Str}{a k:Nat}(ht:t.length<=199)(r:Run t (fun i=>Zl (.sign s) t i) 1 none 0 a k):∃c,c<=4001/\Zfb t 1 (gT s) a (if k=0 then none else some (a+k,[some (a,a+k)])) c:=by
 have nm:(gT s).nm ((1:Nat):Int):=by
  unfold gT Sg
  simp[Pat.nm,Zia,Hd.nm]
 obtain⟨N,hN,hw⟩:=Zj5 r
 have hle:=r.le
 obtain⟨c,hc,hp⟩:=Zfi nm (by omega) hw (by omega)
 refine⟨c,hc,?_⟩
 cases k with
 |zero=>exact hp
 |succ k =>
  rw[if_neg (by omega)]
  rw[List.range_succ_eq_map,List.map_cons]at hp
  exact hp
inductive RnW(t s:Str)(m:Nat):Nat->List (Nat×Nat)->Prop
 |nil {b:Nat}:(∀i,b<=i->i<m->Vo t i≠s)->RnW t s m b []
 |cons {b a e:Nat} {rs:List (Nat×Nat)}:b<=a->a<e->e<=m->(∀i,b<=i->i<a->Vo t i≠s)->(∀i,a<=i->i<e->Vo t i=s)->(e=m∨Vo t e≠s)->RnW t s m e rs->RnW t s m b ((a,e)::rs)
theorem RnW.zero{t s:Str}:RnW t s 0 0 []:=.nil fun i _ h=>absurd h (Nat.not_lt_zero _)
theorem RnW.other{t s:Str}{m:Nat}(h:Vo t m≠s):∀ {b:Nat} {rs:List (Nat×Nat)},RnW t s m b rs->RnW t s (m+1) b rs
 |_,_,.nil h1=>.nil fun i h2 h3=>by
  by_cases e:i=m
  ·rw[e];exact h
  ·exact h1 i h2 (by omega)
 |_,_,.cons h1 h2 h3 h4 h5 h6 r=>.cons h1 h2 (by omega) h4 h5 (.inr (by rcases h6 with rfl | h6;exact h;exact h6)) (RnW.other h r)
theorem RnW.fresh{t s:Str}{m:Nat}(h:Vo t m=s):∀ {b:Nat} {rs:List (Nat×Nat)},RnW t s m b rs->b<=m->(∀a,rs.getLast? ≠ some (a,m))->RnW t s (m+1) b (rs++[(m,m+1)])
 |b,_,.nil h1,hb,_=>.cons hb (by omega) (Nat.le_refl _) h1 (fun i h2 h3=>by rw[show i=m by omega];exact h) (.inl rfl) (.nil fun i h2 h3=>by omega)
 |b,_,.cons (a:=a) (e:=e) (rs:=rs) h1 h2 h3 h4 h5 h6 r,hb,hl=>by
  have he:e≠m:=fun z=>by
   cases rs with
   |nil=>exact hl a (by rw[z];rfl)
   |cons x rs =>
    cases r with
    |cons g1 g2 g3 _ _ _ _=>omega
  refine .cons h1 h2 (by omega) h4 h5 (.inr (by rcases h6 with z | z;exact absurd z he;exact z)) (RnW.fresh h r h3 fun a' z=>?_)
  cases rs with
  |nil=>cases z
  |cons x rs=>exact hl a' (by rw[List.getLast?_cons_cons];exact z)
theorem RnW.grow{t s:Str}{m a:Nat}(h:Vo t m=s):∀ {b:Nat} {rs:List (Nat×Nat)},RnW t s m b (rs++[(a,m)])->RnW t s (m+1) b (rs++[(a,m+1)])
 |b,[],r=>by
  cases r with
  |cons h1 h2 h3 h4 h5 h6 r=>exact .cons h1 (by omega) (Nat.le_refl _) h4 (fun i g1 g2=>by
    by_cases e:i=m
    ·rw[e];exact h
    ·exact h5 i g1 (by omega)) (.inl rfl) (.nil fun i g1 g2=>by omega)
 |b,x::rs,r=>by
  cases r with
  |cons h1 h2 h3 h4 h5 h6 r =>
   rename_i a' e
   have he:e≠m:=fun z=>by
    subst z
    cases rs with
    |nil =>
     cases r with
     |cons g1 g2 g3 _ _ _ _=>omega
    |cons y rs =>
     cases r with
     |cons g1 g2 g3 _ _ _ _=>omega
   exact .cons h1 h2 (by omega) h4 h5 (.inr (by rcases h6 with z | z;exact absurd z he;exact z)) (RnW.grow h r)
def gX(r:Nat×Nat):Nat×Yb:=(r.1,(r.2,[some r]))
theorem J6{s t:Str}{i:Nat}(h:i<t.length->Vo t i≠s):Zl (.sign s) t i=false:=by
 by_cases e:i<t.length
 ·rw[takes_sign (by omega) (by omega)]
  refine decide_eq_false fun z=>h e ?_
  injection z with z
  exact z.symm
 ·unfold Zl
  rw[if_neg (by omega)]
theorem Z1u{s t:Str}{i:Nat}(h:i<t.length)(e:Vo t i=s):Zl (.sign s) t i=true:=by
 rw[takes_sign (by omega) (by omega)]
 show decide (V.str s=V.str (Vo t i))=true
 rw[e]
 exact decide_eq_true rfl
theorem Z4g{t s:Str}(ht:t.length<=199){xs:List (Nat×Yb)}{a c:Nat}(h:FdsC t 1 (gT s) a xs c)(ha:a<=t.length+1):∀m b,b+m=a->(∀i,b<=i->i<a->i<t.length->Vo t i≠s)->∃c',c'<=4001*m+c/\FdsC t 1 (gT s) b xs c'
 |0,b,hm,_=>by
  have:b=a:=by omega
  subst this
  exact⟨c,by omega,h⟩
 |m+1,b,hm,hn=>by
  obtain⟨c',hc',hr⟩:=Z4g ht h ha m (b+1) (by omega) fun i h1 h2 h3=>hn i (by omega) h2 h3
  obtain⟨c1,hc1,hp⟩:=Zfk (k:=0) (a:=b) ht ⟨fun j hj=>absurd hj (Nat.not_lt_zero _),.inl (by
   show Zl (.sign s) t ((b+0*1:Nat):Int)=false
   rw[Nat.zero_mul]
   exact J6 fun hb=>hn b (Nat.le_refl _) (by omega) hb),by omega⟩
  exact⟨c1+c',by omega,FdsC.skip (by omega) hp hr⟩
theorem Zcj{t s:Str}(ht:t.length<=199):∀ {b:Nat} {rs:List (Nat×Nat)},RnW t s t.length b rs->b<=t.length->∃c,c<=4001*(t.length+1-b)/\FdsC t 1 (gT s) b (rs.map gX) c
 |b,_,.nil h1,hb=>by
  obtain⟨c,hc,h⟩:=Z4g (s:=s) ht (xs:=[]) (a:=t.length+1) (c:=0) (.no (.out (by omega))) (Nat.le_refl _) (t.length+1-b) b (by omega) fun i g1 _ g3=>h1 i g1 g3
  exact⟨c,by omega,h⟩
 |b,_,.cons (a:=a) (e:=e) (rs:=rs) h1 h2 h3 h4 h5 h6 r,hb=>by
  obtain⟨c,hc,h⟩:=Zcj ht r h3
  obtain⟨c1,hc1,hp⟩:=Zfk (s:=s) (k:=e-a) (a:=a) ht ⟨fun j hj=>⟨by
   show Zl (.sign s) t ((a+j*1:Nat):Int)=true
   rw[Nat.mul_one]
   exact Z1u (by omega) (h5 _ (by omega) (by omega)),rfl⟩,.inl (by
   show Zl (.sign s) t ((a+(e-a)*1:Nat):Int)=false
   rw[Nat.mul_one,show a+(e-a)=e by omega]
   exact J6 fun he=>by
    rcases h6 with z | z
    ·omega
    ·exact z),by omega⟩
  rw[if_neg (by omega),show a+(e-a)=e by omega]at hp
  have hf:=FdsC.find (b:=a) (e:=e) (by omega) hp (by omega) h3 (by rw[if_neg (by omega)];exact h)
  obtain⟨c2,hc2,h'⟩:=Z4g ht hf (by omega) (a-b) b (by omega) fun i g1 g2 _=>h4 i g1 g2
  exact⟨c2,by omega,h'⟩
theorem Z99{K:W.Frag}{Cs:Addr}{n:Nat}{tb:XK->TS}{th:TS}{D:Ends}{σ:L2.St}{H:Hp}(G:Hp->Prop){C:Addr}(ca:Z6b K C Cs)(hth:∀H':Hp,G H'->th D (List.replicate n none) H')(hb:∀Eb:XK,(∀H',G H'->Eb (.ref C) none H')->tb Eb D σ H):Zja K Cs n tb th D σ H:=hb _ fun H' g=>⟨⟨C,rfl,ca⟩,hth H' g⟩
theorem Z3d{lo:Int}{n:Nat}{σ:L2.St}{tt:TT}{te:TE}{Fin:List V->Hp->Prop}{H1:Hp}(Pv:Nat->List V->Hp->Prop)(h0:Pv 0 [] H1)(hz:n<sizeLine)(hlen:∀i ys H,Pv i ys H->ys.length<=i)
  (hs:∀i ys H,i<n->Pv i ys H->tt (some (.int (lo+i))::σ) H fun b H2=>if b=true then te (some (.int (lo+i))::σ) H2 fun y H3=>Pv (i+1) (ys++[y]) H3 else Pv (i+1) ys H2) (hd:∀ys H,Pv n ys H->Fin ys H) :
  Zid (Zhu lo n) σ tt te Fin H1:=by
 refine Z2f (n:=n) Pv h0 hz hlen (fun i ys H hi p=>hi) (fun ys H p=>Nat.le_refl n) (fun i ys H x H' hi p y=>?_) hd
 obtain⟨e,y⟩:=y
 subst e y
 exact hs i ys _ hi p
section
variable{P:Program}{w:World}{K:W.Frag}{mg:Str->Option Value}{base:Heap}{f C CS CN CE CO:Addr}{fd:FuncData}
inductive spToldI(vs:List V)(H:Hp)(Q:VK):Prop
 |mk (k:Nat) (v:V) (t fm:Str) (n c:Nat) (L:Int) (p:Pat) (ps:List Pc) (xs:List (Nat×Yb)) (_:vs=[.int k,v,.str t,.int L,.str fm]) (_:0<=L) (_:k<=2) (_:PatAt H 8 v p) (_:p.groups=n) (_:fm.length<=12) (_:pz fm n 0=some ps) (_:p.size<=20000) (_:Ug ((Yd p).map Op.rw)=n) (_:n<=9) (_:t.length<=200) (_:FdsC t n p 0 xs c)
  (_:k=0->(c:Int)<=L->∀(l:Addr) (us:List V) (H':Hp),H' l=some (.lst us)->Paired (Zae H') us xs->xs.length<=201->Gro [] H H'->Q (.ref l) H')
  (_:k=1->(c:Int)<=L->∀(r:Addr) (H':Hp),H' r=some (.lst ((tx t 0 xs).map V.str))->Gro [] H H'->Q (.ref r) H')
  (_:k=2->(c:Int)<=L->∀H':Hp,Gro [] H H'->Q (.str (Z12 t 0 xs++gF t ps xs)) H')
  (_:L<(c:Int)->∀(a:Addr) (H':Hp),H' a=some (.tup [.str "over"])->Gro [] H H'->Q (.ref a) H')
def Z7d:Sp:=fun vs H Q _=>spToldI vs H Q
inductive spRnI(vs:List V)(H:Hp)(Q:VK):Prop
 |mk (t s:Str) (_:vs=[.str t,.str s]) (_:t.length<=200) (_:∀(l:Addr) (us:List V) (rs:List (Nat×Nat)) (H':Hp),H' l=some (.lst us)->Paired (EnA H') us (rs.map some)->us.length<=t.length->RnW t s t.length 0 rs->H l=none->Gro [] H H'->Q (.ref l) H')
def Zhv:Sp:=fun vs H Q _=>spRnI vs H Q
abbrev Ja:Stmt:=top 59
theorem Z9c:FnScope ["_law_way","_law_p","_law_text","_law_most","_law_form"] ["_law_way","_law_p","_law_text","_law_most","_law_form"] (Z9 Ja):=Vm
theorem Ze3(T:Blt mg)(XC_Over:XC K mg "Over" CO CE)(O_all_finds:OwnX P w K mg base 30 "all_finds" ["pattern","text","most"] (Z25 CO))(O_parted:OwnX P w K mg base 31 "parted" ["pattern","text","most"] (Z45 CO))(O_replaced:OwnX P w K mg base 31 "replaced" ["pattern","text","form","most"] (Z44 CO))
  (F:Fun K "_law_told" "_law_told" Ja f fd):FnOk P w K mg base Wq 32 f fd ["_law_way","_law_p","_law_text","_law_most","_law_form"] Z7d:=by
 refine F.ok Z9c (fun vs H Q E h=>?_) (fun cdv A outer s H vs Q E hr h=>?_)
 ·obtain⟨k,v,t,fm,n,c,L,p,ps,xs,rfl,_⟩:=h
  rfl
 obtain⟨k,v,t,fm,n,c,L,p,ps,xs,rfl,hL,hk,hP,hg,hfm,hps,hsz,hcnt,hn,ht,hF,q0,q1,q2,qx⟩:=h
 refine Vj ?_
 intro Xz
 refine⟨_,(Z5 (Zgq rfl rfl rfl XC_Over.mgx (fun _ _ _ hxb=>(Z1 (Y0 (Ze Y4 (pv 0) Z6 (Zi _)) (Z5 (Zo (U9 hxb (O_all_finds.mono (by omega)) hr rfl (Z0 (pv 1) (Z0 (pv 2) (Z0 (pv 3) Z2)))))) Zm)
  (Z1 (Y0 (Ze Y4 (pv 0) Z6 (Zi _)) (Z5 (Zo (U9 hxb (O_parted.mono (by omega)) hr rfl (Z0 (pv 1) (Z0 (pv 2) (Z0 (pv 3) Z2)))))) Zm)
  (Z5 (Zo (U9 hxb (O_replaced.mono (by omega)) hr rfl (Z0 (pv 1) (Z0 (pv 2) (Z0 (pv 4) (Z0 (pv 3) Z2)))))))))) (fun _=>(Z5 (Zo (Zr (Z0 Zk Z2))))))),?_⟩
 refine Z99 (fun H'=>Gro [] H H'/\L<(c:Int)) XC_Over.catch1 (fun H' hG=>?_) (fun Eb hE=>?_)
 ·exact⟨sz,fun o ho=>qx hG.2 o _ Z3 (hG.1.trans (Gro.new (S:=[]) ho _))⟩
 rcases(show k=0∨k=1∨k=2 by omega) with rfl | rfl | rfl
 ·refine Z7 rfl ⟨rfl,Z7 rfl (Zj (by decide) ?_)⟩
  exact Z7 rfl (Z7 rfl (Z7 rfl ⟨v,t,n,c,L,p,xs,rfl,hL,hP,hsz,hcnt,hn,ht,hF,fun hc l us H' hl hu hx _ g=>q0 rfl hc l us H' hl hu hx g,fun hc H' g=>hE H' ⟨g,hc⟩⟩))
 ·refine Z7 rfl ⟨rfl,Z7 rfl (Zb (by decide) ?_)⟩
  refine Z7 rfl ⟨rfl,Z7 rfl (Zj (by decide) ?_)⟩
  exact Z7 rfl (Z7 rfl (Z7 rfl ⟨v,t,n,c,L,p,xs,rfl,hL,hP,hsz,hcnt,hn,ht,hF,fun hc r H' hr g=>q1 rfl hc r H' hr g,fun hc H' g=>hE H' ⟨g,hc⟩⟩))
 ·refine Z7 rfl ⟨rfl,Z7 rfl (Zb (by decide) ?_)⟩
  refine Z7 rfl ⟨rfl,Z7 rfl (Zb (by decide) ?_)⟩
  exact Z7 rfl (Z7 rfl (Z7 rfl (Z7 rfl ⟨v,t,fm,n,c,L,p,ps,xs,rfl,hL,hP,hg,hfm,hps,hsz,hcnt,hn,ht,hF,fun hc H' g=>q2 rfl hc H' g,fun hc H' g=>hE H' ⟨g,hc⟩⟩)))
theorem Yk{H H':Hp}(tm:Tm H H'){us:List V}{g:Gs}(h:Paired (EnA H) us g):Paired (EnA H') us g:=Paired.mapP h fun _ _ q=>q.mono tm
theorem J4{α β:Type}{F:α->β->Prop}{y:β}:∀ {ys:List β} {xs:List α},Paired F xs (ys++[y])->∃zs z,xs=zs++[z]/\Paired F zs ys/\F z y
 | [],_,.cons h .nil=>⟨[],_,rfl,.nil,h⟩
 |_::_,_,.cons h r=>by
  obtain⟨zs,z,rfl,h1,h2⟩:=J4 r
  exact⟨_::zs,z,rfl,.cons h h1,h2⟩
theorem Zhf{us:List V}{x:V}:Zcy (us++[x]).length (-1)=some us.length:=by
 unfold Zcy
 rw[if_neg (by decide),if_pos (by rw[List.length_append];show -((us.length+1:Nat):Int) <= -1;omega),List.length_append]
 show some ((-1:Int)+((us.length+1:Nat):Int)).toNat=_
 congr 1
 omega
theorem map_some{rs:List (Nat×Nat)}{r:Nat×Nat}:(rs.map some)++[some r]=(rs++[r]).map (some:Nat×Nat->En):=by simp
abbrev Vf:Stmt:=top 60
theorem sc_l_runs_of:FnScope ["_law_text","_law_one","_law_runs","_law_k"] ["_law_text","_law_one"] (Z9 Vf):=Vm
theorem Ziu(T:Blt mg)(F:Fun K "_law_runs_of" "_law_runs_of" Vf f fd):FnOk P w K mg base Wq 1 f fd ["_law_text","_law_one"] Zhv:=by
 refine F.ok sc_l_runs_of (fun vs H Q E h=>?_) (fun cdv A outer s H vs Q E hr h=>?_)
 ·obtain⟨t,s,rfl,_⟩:=h
  rfl
 obtain⟨t,s',rfl,ht,q⟩:=h
 refine Vj ?_
 intro Xz
 refine⟨_,(Z1 (pS 2 sc_l_runs_of.nd (Xg Z2))
  (Z1 (Vb PassesOwn.never rfl (V5 rfl T.b_range (Z0 (Zh Xd rfl T.b_len PyProof.Rows.Boot.«len» (Z0 (pv 0) Z2)) Z2)) (pN 3 sc_l_runs_of.nd) (Z5 (Y0 (Ze Y4 (Zg Tz (pv 0) (pv 3) (fun _ _=>rfl)) (pv 1) (Zi _)) (Z5 (Y0 (PW.pt (Z2d (Ze (Zb2 hr.units0) (pv 2) (Xg Z2) (Zi _)) (Jo (Ze Y4 (Zg Zd (Zg X3 (pv 2) (Z0z T8 Z6) (fun _ _=>rfl)) Z6 (fun _ _=>rfl)) (pv 3) (Zi _))))) (Z5 (Uf (Zr (Z0 (Zg Zd (Zg X3 (pv 2) (Z0z T8 Z6) (fun _ _=>rfl)) Z6 (fun _ _=>rfl)) (Z0 (Yg Xh (pv 3) Z6) Z2))) (Ta (pv 2) (Z0z T8 Z6) Wn))) (Z5 (Zf (Yr PySem.F.plainAttrs_list PySem.F.slot_list_append PySem.F.type_list_append Zw (pv 2) (Z0 (Zr (Z0 (pv 3) (Z0 (Yg Xh (pv 3) Z6) Z2))) Z2)))))) Zm)))
  (Z5 (Zo (pv 2))))),?_⟩
 refine Zfy ?_
 intro Ez Az1 Az2 Az3 Az4 Az5 Az6
 refine⟨sz,fun l hl=>?_⟩
 have g0:=Gro.new (S:=[]) hl (.lst [])
 have hl0:(Zq H l (.lst [])) l=some (.lst []):=Z3
 generalize Zq H l (.lst [])=H0 at *
 refine Z7 rfl (Z7 rfl ⟨Ye (by omega),Z7 rfl ⟨by omega,by omega,?_⟩⟩)
 refine T6 (fun i σ H'=>∃(k:Option V) (us:List V) (rs:List (Nat×Nat)),σ=[some (.str t),some (.str s'),some (.ref l),k]/\H' l=some (.lst us)/\Paired (EnA H') us (rs.map some)/\us.length<=i/\RnW t s' i 0 rs/\Gro [l] H0 H') ⟨none,[],[],rfl,hl0,.nil,Nat.le_refl _,RnW.zero,Gro.refl⟩ ?_ ?_
 ·rintro i σ H1 hi ⟨k,us,rs,rfl,hl1,hu1,hul,hR,g1⟩
  have hit:i<t.length:=by simpa using hi
  rw[Int.zero_add]
  refine Z7 rfl (Z7 rfl ⟨t,_,_,rfl,rfl,Ye (by omega),Z4w (by omega) (by omega),Z7 rfl ⟨rfl,Z7 rfl ?_⟩⟩)
  by_cases e:Vo t i=s'
  ·refine Zj (decide_eq_true (show V.str (Vo t i)=V.str s' by rw[e])) ?_
   refine Z7 rfl ⟨sz,fun n hn=>?_⟩
   have g2:=Gro.new (S:=[l]) hn (.lst [])
   have hl2:=(Gro.new (S:=[]) hn (.lst [])).keep _ _ hl1 (by simp)
   have hn2:(Zq H1 n (.lst [])) n=some (.lst []):=Z3
   have hu2:=Yk g2.tups hu1
   generalize Zq H1 n (.lst [])=H2 at *
   refine⟨l,n,us,rfl,rfl,SqL.of hl2,SqL.of hn2,Z7 rfl ?_⟩
   have more:(∀a,rs.getLast? ≠ some (a,i))->∀D:Ends,(∀(σ:L2.St) (H':Hp),(∃(k:Option V) (us:List V) (rs:List (Nat×Nat)),σ=[some (.str t),some (.str s'),some (.ref l),k]/\H' l=some (.lst us)/\Paired (EnA H') us (rs.map some)/\us.length<=i+1/\RnW t s' (i+1) 0 rs/\Gro [l] H0 H')->D.nx σ H')->Az2 D [some (.str t),some (.str s'),some (.ref l),some (.int i)] H2:=fun hlast D hD=>by
    refine Z7 rfl ⟨.inl ⟨rfl,_,SqL.of hl2⟩,Z7 rfl (Z7 rfl (Va rfl rfl ⟨sz,fun o ho=>?_⟩))⟩
    refine⟨l,_,_,rfl,rfl,Xf hl2 ho,Nat.lt_of_lt_of_le (by omega) (Ye (Nat.le_refl 1000)),?_⟩
    have ga:=W4 (zs:=us++[.ref o]) (o:=.tup [.int i,.int ((i:Int)+1)]) hl2 ho
    refine hD _ _ ⟨_,us++[.ref o],rs++[(i,i+1)],rfl,Z3,?_,by rw[List.length_append];show us.length+1<=_;omega,hR.fresh e (Nat.zero_le _) hlast,(g1.trans g2).trans ga⟩
    rw[← map_some]
    exact Paired.snoc1 (Yk ga.tups hu2) ⟨o,rfl,W3 hl2 ho⟩
   rcases rs.eq_nil_or_concat with h | ⟨rs0,r,h⟩
   ·subst h
    cases hu2
    exact Zb (by decide) (Zb (by decide) (more (fun a z=>by cases z) _ fun σ H' h=>h))
   ·rw[List.concat_eq_append]at h
    subst h
    rw[← map_some]at hu2
    obtain⟨us0,x,rfl,hu0,hx⟩:=J4 hu2
    obtain⟨a,rfl,ha⟩:=hx
    have hl3:H2 l=some (.lst (us0++[.ref a])):=hl2
    refine Zj (by simp) ?_
    refine Z7 rfl (Z7 rfl ⟨l,_,_,_,rfl,rfl,SqL.of hl3,Z4j (by simp),⟨a,_,_,_,rfl,rfl,SqT.of ha,rfl,Z7 rfl ⟨rfl,Z7 rfl ?_⟩⟩⟩)
    by_cases er:r.2=i
    ·obtain⟨r1,r2⟩:=r
     have er':r2=i:=er
     subst er'
     refine Zj (decide_eq_true rfl) ?_
     refine Z7 rfl (Z7 rfl ⟨l,_,_,_,rfl,rfl,SqL.of hl3,Z4j (by simp),⟨a,_,_,_,rfl,rfl,SqT.of ha,rfl,Z7 rfl (Va rfl rfl ⟨sz,fun o ho=>?_⟩)⟩⟩)
     refine Z7 rfl (Z7 rfl ⟨l,_,_,us0.length,rfl,rfl,Xf hl3 ho,Zhf,?_⟩)
     have ga:=W4 (zs:=us0++[.ref o]) (o:=.tup [.int r1,.int ((r2:Int)+1)]) hl3 ho
     refine⟨_,us0++[.ref o],rs0++[(r1,r2+1)],rfl,by rw[Z3,T9 rfl],?_,by rw[List.length_append]at hul ⊢;show us0.length+1<=_;omega,RnW.grow e hR,?_⟩
     ·rw[← map_some,T9 rfl]
      exact Paired.snoc1 (Yk ga.tups hu0) ⟨o,rfl,W3 hl3 ho⟩
     ·rw[T9 rfl]
      exact(g1.trans g2).trans ga
    ·refine Zb (by intro y;have y':=of_decide_eq_true y;injection y' with y';omega) ?_
     refine more (fun a z=>er ?_) _ fun σ H' h=>h
     rw[List.getLast?_concat]at z
     injection z with z
     rw[z]
  ·refine Zb (by intro y;have y':=of_decide_eq_true y;injection y' with y';exact e y') ?_
   exact⟨_,us,rs,rfl,hl1,hu1,by omega,hR.other e,g1⟩
 ·rintro σ H1 ⟨k,us,rs,rfl,hl1,hu1,hul,hR,g1⟩
  exact Z7 rfl (q l us rs H1 hl1 hu1 (by simpa using hul) hR hl ⟨fun a o h _=>g1.keep a o (g0.keep a o h (by simp)) (by simpa using Za h hl),fun a zs h=>g1.tups _ _ (g0.tups _ _ h)⟩)
end
def kP(s o:Str):Nat->Pat
 |0=>R0
 |1=>Sg s
 |2=>gT s
 |_=>Bh s o
def kG:Nat->Nat
 |2=>1
 |_=>0
def kX(k:Nat)(r:Nat×Nat):Nat×Yb:=(r.1,(r.2,if k=2 then[some r] else[]))
def Z7u(f:Nat->Bool)(sz b i:Nat):List (Nat×Nat):=((List.range' b i).filter f).map fun j=>(j,j+sz)
theorem Z4i{f:Nat->Bool}{sz b i:Nat}(h:f (b+i)=true):Z7u f sz b (i+1)=Z7u f sz b i++[(b+i,b+i+sz)]:=by
 unfold Z7u
 rw[List.range'_1_concat,List.filter_append,List.map_append]
 simp[h]
theorem Z4u{f:Nat->Bool}{sz b i:Nat}(h:f (b+i)=false):Z7u f sz b (i+1)=Z7u f sz b i:=by
 unfold Z7u
 rw[List.range'_1_concat,List.filter_append,List.map_append]
 simp[h]
theorem Tg{f:Nat->Bool}{sz b i k:Nat}(hk:k≠2):(Z7u f sz b i).map (kX k)=Zd9 f sz b i:=by
 unfold Z7u Zd9
 rw[List.map_map]
 refine congrArg (fun g=>List.map g _) (funext fun j=>?_)
 show(j,(j+sz,if k=2 then[some (j,j+sz)] else[]))=_
 rw[if_neg hk]
def RK(k:Nat)(s o t:Str)(rs:List (Nat×Nat)):Prop:=(k=0/\rs=Z7u (fun _=>true) 0 0 (t.length+1))∨(k=1/\rs=Z7u (fun j=>Zl (.sign s) t j) 1 0 t.length)∨(k=2/\RnW t s t.length 0 rs)∨(k=3/\rs=Z7u (Z6d s o t) 1 1 (t.length-1))
theorem Zfw{k:Nat}{s o t:Str}{rs:List (Nat×Nat)}(h:RK k s o t rs)(ht:t.length<=199):∃c,FdsC t (kG k) (kP s o k) 0 (rs.map (kX k)) c/\(k<=1->c=t.length+1+if k=1 then rs.length else 0)/\(1<k->c<=1000000):=by
 rcases h with⟨rfl,rfl⟩ | ⟨rfl,rfl⟩ | ⟨rfl,h⟩ | ⟨rfl,rfl⟩
 ·refine⟨t.length+1,?_,fun _=>rfl,fun z=>by omega⟩
  rw[Tg (by decide)]
  exact Zfx t
 ·have e:Z7u (fun j=>Zl (.sign s) t j) 1 0 (t.length+1)=Z7u (fun j=>Zl (.sign s) t j) 1 0 t.length:=Z4u (by
   show Zl (.sign s) t ((0+t.length:Nat):Int)=false
   rw[Nat.zero_add]
   exact Uu s t)
  have h:=Zft s t
  refine⟨_,?_,fun _=>rfl,fun z=>by omega⟩
  rw[← e,Tg (by decide),if_pos rfl]
  have el:(Z7u (fun j=>Zl (.sign s) t j) 1 0 (t.length+1)).length=(Zd9 (fun j=>Zl (.sign s) t j) 1 0 (t.length+1)).length:=by rw[← Tg (k:=1) (by decide),List.length_map]
  rw[el]
  exact h
 ·obtain⟨c,hc,hF⟩:=Zcj ht h (Nat.zero_le _)
  refine⟨c,?_,fun z=>by omega,fun _=>by omega⟩
  have e:rs.map (kX 2)=rs.map gX:=rfl
  rw[e]
  exact hF
 ·obtain⟨c,hc,hF⟩:=Zhm (s:=s) (o:=o) ht
  refine⟨c,?_,fun z=>by omega,fun _=>hc⟩
  rw[Tg (by decide)]
  have f0:Z6d s o t 0=false:=rfl
  have e:Zd9 (Z6d s o t) 1 0 (t.length+1)=Zd9 (Z6d s o t) 1 1 (t.length-1):=by
   rw[← Tg (k:=3) (by decide),← Tg (k:=3) (by decide)]
   congr 1
   have hd:∀m,Z7u (Z6d s o t) 1 0 (m+1)=Z7u (Z6d s o t) 1 1 m:=fun m=>by
    unfold Z7u
    rw[List.range'_succ,List.filter_cons,if_neg (by rw[f0];decide)]
   rw[hd]
   by_cases z:t.length=0
   ·rw[z]
   ·obtain⟨m,hm⟩:∃m,t.length=m+1:=⟨t.length-1,by omega⟩
    rw[hm,Nat.add_sub_cancel]
    refine Z4u ?_
    unfold Z6d
    rw[show 1+m=t.length by omega,Uu,Bool.and_false]
  rw[← e]
  exact hF
theorem Z2v{s t:Str}{j:Nat}(hj:j<t.length):Zl (.sign s) t j=true↔Vo t j=s:=by
 refine⟨fun h=>?_,Z1u hj⟩
 by_cases e:Vo t j=s
 ·exact e
 ·rw[J6 fun _=>e]at h
  cases h
theorem Zew{s o t:Str}{j:Nat}(hs:s.length=1)(ho:o.length=1)(h1:1<=j)(hj:j<t.length):Txt.slice t (some ((j:Int)-1)) (some ((j:Int)+1))=s++o↔Z6d s o t j=true:=by
 obtain⟨k,rfl⟩:∃k,j=k+1:=⟨j-1,by omega⟩
 have e:Txt.slice t (some (((k+1:Nat):Int)-1)) (some (((k+1:Nat):Int)+1))=sub t k (k+2):=by
  rw[Uv (by omega) (by omega)]
  rw[show(((k+1:Nat):Int)-1).toNat=k by omega,show(((k+1:Nat):Int)+1).toNat=k+2 by omega]
 have l1:(sub t k (k+2)).length=2:=by rw[Zej (by omega) (by omega)];omega
 have l2:(s++o).length=2:=by rw[Vl,hs,ho]
 have c0:Vo (s++o) 0=s:=by rw[Zbw (by omega)];exact Z8u hs
 have c1:Vo (s++o) 1=o:=by
  have:=Za7 (a:=s) (b:=o) (j:=0)
  rw[hs]at this
  exact this.trans (Z8u ho)
 have d0:Vo (sub t k (k+2)) 0=Vo t k:=Z8t (by omega)
 have d1:Vo (sub t k (k+2)) 1=Vo t (k+1):=Z8t (by omega)
 have ef:Z6d s o t (k+1)=true↔Vo t k=s/\Vo t (k+1)=o:=by
  unfold Z6d
  rw[Bool.and_eq_true,Bool.and_eq_true,Nat.add_sub_cancel,Z2v (by omega),Z2v hj,decide_eq_true_eq]
  exact⟨fun h=>⟨h.1.2,h.2⟩,fun h=>⟨⟨h1,h.1⟩,h.2⟩⟩
 rw[e,ef]
 refine⟨fun h=>?_,fun h=>Zdg (by omega) fun i hi=>?_⟩
 ·rw[h]at d0 d1
  exact⟨d0.symm.trans c0,d1.symm.trans c1⟩
 ·rcases(show i=0∨i=1 by omega) with rfl | rfl
  ·rw[d0,c0];exact h.1
  ·rw[d1,c1];exact h.2
theorem Xq{X:Cx}{es' es:List Expr}{n:Nat}{pos':Pos}{te:TE}{t:TA}(ha:PE X (.Tuple es' n pos') te)(hr:PA X es t):PA X (.Tuple es' n pos'::es) (Z0x te t):=Z0 ha hr
theorem X0{X:Cx}{es:List Expr}{c:Const}{n:Nat}{pos':Pos}{te:TE}{t:TA}(ha:PE X (.Constant c n pos') te)(hr:PA X es t):PA X (.Constant c n pos'::es) (Z0x te t):=Z0 ha hr
theorem Ji{X:Cx}{es:List Expr}{x:Str}{pos':Pos}{te:TE}{t:TA}(ha:PE X (.Name x pos') te)(hr:PA X es t):PA X (.Name x pos'::es) (Z0x te t):=Z0 ha hr
theorem Zax{X:Cx}{f:Expr}{as es:List Expr}{ks:List Keyword}{pos':Pos}{te:TE}{t:TA}(ha:PE X (.Call f as ks pos') te)(hr:PA X es t):PA X (.Call f as ks pos'::es) (Z0x te t):=Z0 ha hr
section
variable{P:Program}{w:World}{K:W.Frag}{mg:Str->Option Value}{base:Heap}{f:Addr}{fd:FuncData}
inductive spKdI(vs:List V)(H:Hp)(Q:VK):Prop
 |mk (k:Nat) (s o t:Str) (_:vs=[.int k,.str s,.str o,.str t]) (_:k<=3) (_:s.length=1) (_:o.length=1) (_:t.length<=199)
  (_:∀(tp:Addr) (pv:V) (l:Addr) (us:List V) (rs:List (Nat×Nat)) (H':Hp),H' tp=some (.tup [pv,.ref l])->PatAt H' 8 pv (kP s o k)->H' l=some (.lst us)->Paired (EnA H') us (rs.map some)->us.length<=201->RK k s o t rs->H l=none->Gro [] H H'->Q (.ref tp) H')
def Zhw:Sp:=fun vs H Q _=>spKdI vs H Q
abbrev X6:Stmt:=top 61
theorem sc_l_of_kind:FnScope ["_law_kind","_law_one","_law_other","_law_text","_law_size","_law_runs"] ["_law_kind","_law_one","_law_other","_law_text"] (Z9 X6):=Vm
theorem Ziv(T:Blt mg)(O_l_runs_of:Own P w K mg base 1 "_law_runs_of" ["_law_text","_law_one"] Zhv)(F:Fun K "_law_of_kind" "_law_of_kind" X6 f fd):FnOk P w K mg base Wq 2 f fd ["_law_kind","_law_one","_law_other","_law_text"] Zhw:=by
 refine F.ok sc_l_of_kind (fun vs H Q E h=>?_) (fun cdv A outer s H vs Q E hr h=>?_)
 ·obtain⟨k,s,o,t,rfl,_⟩:=h
  rfl
 obtain⟨k,s',o,t,rfl,hk,hs,ho,ht,q⟩:=h
 refine Vj ?_
 intro Xz
 refine⟨_,(Z1 (pS 4 sc_l_of_kind.nd (Zh Xd rfl T.b_len PyProof.Rows.Boot.«len» (Z0 (pv 3) Z2)))
  (Z1 (Y0 (Ze Y4 (pv 0) Z6 (Zi _)) (Z5 (Zo (Zr (Z0 (Zr (Z0 Zk (Z0 (pv 1) Z2))) (Z0 (Vv rfl (show CScope _ ["_law_kind","_law_one","_law_other","_law_text","_law_size","_law_runs"] (Z9 X6) _ from⟨rfl,by decide +kernel,rfl,by decide +kernel,by decide +kernel,by decide +kernel,by decide +kernel⟩) (V5 rfl T.b_range (Z0 (pv 4) Z2)) (fun _ _ _ _=>(Z49 (Ze Y4 (Zg Tz (pv 4) (pv 0) (fun _ _=>rfl)) (pv 2) (Zi _)))) (fun _ _ _ _=>(Zr (Z0 (pv 0) (Z0 (Yg Xh (pv 0) Z6) Z2))))) Z2))))) Zm)
  (Z1 (by refine' Y0 ?h1 ?h2 ?h3;(case h1=>exact(Ze Y4 (pv 0) Z6 (Zi _)));(case h3=>exact Zm);case h2=>refine' Z5 ?h4;case h4=>refine' Zo ?h5;case h5=>refine' Zr ?h6;case h6=>refine' Xq ?h8 ?h7;(case h8=>refine' Zr ?h9;case h9=>refine' X0 ?h11 ?h10;(case h11=>exact Zk);case h10=>refine' X0 ?h13 ?h12;(case h13=>exact Z6);case h12=>refine' Xq ?h15 ?h14;(case h15=>refine' Zr ?h16;case h16=>refine' X0 ?h18 ?h17;(case h18=>exact Zk);case h17=>refine' X0 ?h20 ?h19;(case h20=>exact Z6);case h19=>refine' X0 ?h22 ?h21;(case h22=>exact Z0q);case h21=>refine' X0 ?h24 ?h23;(case h24=>exact Zk);case h23=>refine' Xq ?h26 ?h25;(case h26=>refine' Zr ?h27;case h27=>refine' X0 ?h29 ?h28;(case h29=>exact Zk);case h28=>refine' Ji ?h31 ?h30;(case h31=>exact(pv 1));case h30=>exact Z2);case h25=>exact Z2);case h14=>exact Z2);case h7=>refine' Zax ?h33 ?h32;(case h33=>exact(Zz (O_l_runs_of.mono (by omega)) hr rfl (Z0 (pv 3) (Z0 (pv 1) Z2))));case h32=>exact Z2)
  (Z1 (by refine' Y0 ?h34 ?h35 ?h36;(case h34=>exact(Ze Y4 (pv 0) Z6 (Zi _)));(case h36=>exact Zm);case h35=>refine' Z1 ?h37 ?h38;(case h37=>exact(Zat (i:=5) sc_l_of_kind.nd rfl rfl rfl (show CScope _ ["_law_kind","_law_one","_law_other","_law_text","_law_size","_law_runs"] (Z9 X6) _ from⟨rfl,by decide +kernel,rfl,by decide +kernel,by decide +kernel,by decide +kernel,by decide +kernel⟩) (Z36 rfl T.b_range (Z0 Z6 (Z0 (pv 4) Z2))) (fun _ _ _ _=>(Z49 (Ze Y4 (Y8 Wj (pv 4) (Y2 (Yg Te (pv 0) Z6)) (Y2 (Yg Xh (pv 0) Z6))) (Yg W8 (pv 2) (pv 3)) (Zi _)))) (fun _ _ _ _=>(Zr (Z0 (pv 0) (Z0 (Yg Xh (pv 0) Z6) Z2)))) rfl));case h38=>refine' Z5 ?h39;case h39=>refine' Zo ?h40;case h40=>refine' Zr ?h41;case h41=>refine' Xq ?h43 ?h42;(case h43=>refine' Zr ?h44;case h44=>refine' X0 ?h46 ?h45;(case h46=>exact Zk);case h45=>refine' Xq ?h48 ?h47;(case h48=>refine' Zr ?h49;case h49=>refine' Xq ?h51 ?h50;(case h51=>refine' Zr ?h52;case h52=>refine' X0 ?h54 ?h53;(case h54=>exact Zk);case h53=>refine' Xq ?h56 ?h55;(case h56=>refine' Zr ?h57;case h57=>refine' X0 ?h59 ?h58;(case h59=>exact Zk);case h58=>refine' Ji ?h61 ?h60;(case h61=>exact(pv 1));case h60=>exact Z2);case h55=>exact Z2);case h50=>refine' Xq ?h63 ?h62;(case h63=>refine' Zr ?h64;case h64=>refine' X0 ?h66 ?h65;(case h66=>exact Zk);case h65=>refine' Ji ?h68 ?h67;(case h68=>exact(pv 2));case h67=>exact Z2);case h62=>exact Z2);case h47=>exact Z2);case h42=>refine' Ji ?h70 ?h69;(case h70=>exact(pv 5));case h69=>exact Z2)
  (Z5 (Zo (by refine' Zr ?h71;case h71=>refine' Xq ?h73 ?h72;(case h73=>refine' Zr ?h74;case h74=>refine' X0 ?h76 ?h75;(case h76=>exact Zk);case h75=>refine' Xq ?h78 ?h77;(case h78=>refine' Zr ?h79;case h79=>exact Z2);case h77=>exact Z2);case h72=>refine' Z0 ?h81 ?h80;(case h81=>exact(Vv rfl (show CScope _ ["_law_kind","_law_one","_law_other","_law_text","_law_size","_law_runs"] (Z9 X6) _ from⟨rfl,by decide +kernel,rfl,by decide +kernel,by decide +kernel,by decide +kernel,by decide +kernel⟩) (V5 rfl T.b_range (Z0 (Yg Xh (pv 4) Z6) Z2)) (fun _ _ _ _=>Jp) (fun _ _ _ _=>(Zr (Z0 (pv 0) (Z0 (pv 0) Z2))))));case h80=>exact Z2))))))),?_⟩
 refine Zg2 ?_
 intro Ez Az1 Az2 Az3 Az4 Az5 Az6 Az7 Az8
 refine Z7 rfl (Z7 rfl ⟨Ye (by omega),?_⟩)
 have fin:∀(tp:Addr) (pv:V) (l:Addr) (us:List V) (rs:List (Nat×Nat)) (H':Hp),H' tp=none->PatAt H' 8 pv (kP s' o k)->H' l=some (.lst us)->Paired (EnA H') us (rs.map some)->us.length<=201->RK k s' o t rs->H l=none->Gro [] H H'->Q (.ref tp) (Zq H' tp (.tup [pv,.ref l])):=fun tp pv l us rs H' htp hP hl hu hul hR hln g=>by
  have g2:=Gro.new (S:=[]) htp (.tup [pv,.ref l])
  exact q tp pv l us rs _ Z3 (hP.mono g2.tups) (g2.keep _ _ hl (by simp)) (Yk g2.tups hu) hul hR hln (g.trans g2)
 rcases(show k=1∨k=2∨k=3∨k=0 by omega) with rfl | rfl | rfl | rfl
 ·refine Z7 rfl ⟨rfl,Z7 rfl (Zj (by decide) ?_)⟩
  refine Z7 rfl ⟨sz,fun p hp=>?_⟩
  have g1:=Gro.new (S:=[]) hp (.tup [.str "sign",.str s'])
  have hP:PatAt (Zq H p (.tup [.str "sign",.str s'])) 8 (.ref p) (Sg s'):=⟨p,[],rfl,⟨rfl,hs,Z3⟩,.nil⟩
  generalize Zq H p (.tup [.str "sign",.str s'])=H1 at *
  refine Z7 rfl (Z7 rfl ⟨by omega,by omega,?_⟩)
  refine Z3d (n:=t.length) (fun i ys H'=>Paired (EnA H') ys ((Z7u (fun j=>Zl (.sign s') t j) 1 0 i).map some)/\ys.length<=i/\Gro [] H1 H') ⟨.nil,Nat.le_refl _,Gro.refl⟩ (Yp (by omega)) (fun i ys H' h=>h.2.1) ?_ ?_
  ·rintro i ys H2 hi ⟨hy,hyl,g2⟩
   rw[Int.zero_add]
   refine Z7 rfl (Z7 rfl ⟨t,_,_,rfl,rfl,Ye (by omega),Z4w (by omega) (by omega),Z7 rfl ⟨rfl,Z7 rfl ?_⟩⟩)
   by_cases e:Vo t i=s'
   ·refine Zj (decide_eq_true (show V.str (Vo t i)=V.str s' by rw[e])) ?_
    refine Z7 rfl (Z7 rfl (Va rfl rfl ⟨sz,fun a ha=>?_⟩))
    have g3:=Gro.new (S:=[]) ha (.tup [.int i,.int ((i:Int)+1)])
    refine⟨?_,by rw[List.length_append];show ys.length+1<=_;omega,g2.trans g3⟩
    rw[Z4i (by rw[Nat.zero_add];exact Z1u hi e),Nat.zero_add,← map_some]
    exact Paired.snoc1 (Yk g3.tups hy) ⟨a,rfl,Z3⟩
   ·refine Zb (by intro y;have y':=of_decide_eq_true y;injection y' with y';exact e y') ?_
    refine⟨?_,by omega,g2⟩
    rw[Z4u (by rw[Nat.zero_add];exact J6 fun _=>e)]
    exact hy
  ·rintro ys H2 ⟨hy,hyl,g2⟩ l hl
   have g3:=Gro.new (S:=[]) hl (.lst ys)
   exact⟨sz,fun tp htp=>fin tp _ l ys _ _ htp ((hP.mono g2.tups).mono g3.tups) Z3 (Yk g3.tups hy) (by omega) (.inr (.inl ⟨rfl,rfl⟩)) (Uo (g1.trans g2) hl) ((g1.trans g2).trans g3)⟩
 ·refine Z7 rfl ⟨rfl,Z7 rfl (Zb (by decide) ?_)⟩
  refine Z7 rfl ⟨rfl,Z7 rfl (Zj (by decide) ?_)⟩
  refine Z7 rfl ⟨sz,fun p1 h1=>⟨sz,fun p2 h2=>⟨sz,fun p3 h3=>?_⟩⟩⟩
  have g1:=Gro.new (S:=[]) h1 (.tup [.str "sign",.str s'])
  have g2:=Gro.new (S:=[]) h2 (.tup [.str "times",.int 1,.non,.str "much",.ref p1])
  have g3:=Gro.new (S:=[]) h3 (.tup [.str "group",.int 1,.ref p2])
  have hP:PatAt (Zq (Zq (Zq H p1 (.tup [.str "sign",.str s'])) p2 (.tup [.str "times",.int 1,.non,.str "much",.ref p1])) p3 (.tup [.str "group",.int 1,.ref p2])) 8 (.ref p3) (gT s') :=
   ⟨p3,[.ref p2],rfl,⟨⟨by decide,by decide⟩,_,rfl,Z3⟩,.cons ⟨p2,[.ref p1],rfl,⟨⟨by decide,by decide,fun h z=>by cases z⟩,_,rfl,g3.tups _ _ Z3⟩,.cons ⟨p1,[],rfl,⟨rfl,hs,g3.tups _ _ (g2.tups _ _ Z3)⟩,.nil⟩ .nil⟩ .nil⟩
  have gg:=(g1.trans g2).trans g3
  generalize Zq (Zq (Zq H p1 (.tup [.str "sign",.str s'])) p2 (.tup [.str "times",.int 1,.non,.str "much",.ref p1])) p3 (.tup [.str "group",.int 1,.ref p2])=H1 at *
  refine Z7 rfl (Z7 rfl ⟨t,s',rfl,by omega,fun l us rs H' hl hu hul hR hln g=>⟨sz,fun tp htp=>?_⟩⟩)
  exact fin tp _ l us rs H' htp (hP.mono g.tups) hl hu (by omega) (.inr (.inr (.inl ⟨rfl,hR⟩))) (Uo gg hln) (gg.trans g)
 ·refine Z7 rfl ⟨rfl,Z7 rfl (Zb (by decide) ?_)⟩
  refine Z7 rfl ⟨rfl,Z7 rfl (Zb (by decide) ?_)⟩
  refine Z7 rfl ⟨rfl,Z7 rfl (Zj (by decide) ?_)⟩
  refine Z7 rfl ⟨_,_,rfl,⟨by omega,by omega,by omega,by omega⟩,?_⟩
  rw[show((t.length:Int)-1).toNat=t.length-1 by omega]
  refine Z3d (lo:=1) (n:=t.length-1) (fun i ys H'=>Paired (EnA H') ys ((Z7u (Z6d s' o t) 1 1 i).map some)/\ys.length<=i/\Gro [] H H') ⟨.nil,Nat.le_refl _,Gro.refl⟩ (Yp (by omega)) (fun i ys H' h=>h.2.1) ?_ ?_
  ·rintro i ys H2 hi ⟨hy,hyl,g2⟩
   rw[show(1:Int)+(i:Int)=((1+i:Nat):Int) by omega]
   refine Z7 rfl (Z7 rfl (Va rfl rfl (Z7 rfl (Z7 rfl (Va rfl rfl (Z7 rfl (Z7 rfl ⟨Ye (by omega),Z7 rfl (Z7 rfl (Va rfl rfl ⟨Ye (by omega),rfl,Z7 rfl ?_⟩))⟩)))))))
   have cd:=Zew (t:=t) (j:=1+i) hs ho (by omega) (by omega)
   by_cases e:Z6d s' o t (1+i)=true
   ·refine Zj (decide_eq_true (by rw[cd.mpr e])) ?_
    refine Z7 rfl (Z7 rfl (Va rfl rfl ⟨sz,fun a ha=>?_⟩))
    have g3:=Gro.new (S:=[]) ha (.tup [.int ((1+i:Nat):Int),.int (((1+i:Nat):Int)+1)])
    refine⟨?_,by rw[List.length_append];show ys.length+1<=_;omega,g2.trans g3⟩
    rw[Z4i e,← map_some]
    exact Paired.snoc1 (Yk g3.tups hy) ⟨a,rfl,Z3⟩
   ·refine Zb (by intro y;have y':=of_decide_eq_true y;injection y' with y';exact e (cd.mp y')) ?_
    refine⟨?_,by omega,g2⟩
    rw[Z4u (Bool.eq_false_iff.mpr e)]
    exact hy
  ·rintro ys H2 ⟨hy,hyl,g2⟩ l hl
   have g3:=Gro.new (S:=[]) hl (.lst ys)
   have hy3:=Yk g3.tups hy
   have hl3:(Zq H2 l (.lst ys)) l=some (.lst ys):=Z3
   have g23:=g2.trans g3
   have hln:=Uo g2 hl
   generalize Zq H2 l (.lst ys)=H3 at *
   refine Z7 rfl ⟨sz,fun p1 h1=>⟨sz,fun p2 h2=>Z7 rfl ⟨sz,fun p3 h3=>⟨sz,fun p4 h4=>⟨sz,fun p5 h5=>?_⟩⟩⟩⟩⟩
   have k1:=Gro.new (S:=[]) h1 (.tup [.str "sign",.str s'])
   have k2:=Gro.new (S:=[]) h2 (.tup [.str "behind",.ref p1])
   have k3:=Gro.new (S:=[]) h3 (.tup [.str "sign",.str o])
   have k4:=Gro.new (S:=[]) h4 (.tup [.ref p2,.ref p3])
   have k5:=Gro.new (S:=[]) h5 (.tup [.str "row",.ref p4])
   have e1:=k5.tups _ _ (k4.tups _ _ (k3.tups _ _ (k2.tups _ _ (Z3 (H:=H3) (a:=p1) (o:=.tup [.str "sign",.str s'])))))
   have hP:PatAt (Zq (Zq (Zq (Zq (Zq H3 p1 (.tup [.str "sign",.str s'])) p2 (.tup [.str "behind",.ref p1])) p3 (.tup [.str "sign",.str o])) p4 (.tup [.ref p2,.ref p3])) p5 (.tup [.str "row",.ref p4])) 8 (.ref p5) (Bh s' o) :=
    ⟨p5,[.ref p2,.ref p3],rfl,⟨by simp,p4,Z3,k5.tups _ _ Z3⟩,.cons ⟨p2,[.ref p1],rfl,⟨_,rfl,k5.tups _ _ (k4.tups _ _ (k3.tups _ _ Z3))⟩,.cons ⟨p1,[],rfl,⟨rfl,hs,e1⟩,.nil⟩ .nil⟩ (.cons ⟨p3,[],rfl,⟨rfl,ho,k5.tups _ _ (k4.tups _ _ Z3)⟩,.nil⟩ .nil)⟩
   have kk:=(((k1.trans k2).trans k3).trans k4).trans k5
   generalize Zq (Zq (Zq (Zq (Zq H3 p1 (.tup [.str "sign",.str s'])) p2 (.tup [.str "behind",.ref p1])) p3 (.tup [.str "sign",.str o])) p4 (.tup [.ref p2,.ref p3])) p5 (.tup [.str "row",.ref p4])=H4 at *
   refine Z7 rfl ⟨sz,fun tp htp=>?_⟩
   exact fin tp _ l ys _ _ htp hP (kk.keep _ _ hl3 (by simp)) (Yk kk.tups hy3) (by omega) (.inr (.inr (.inr ⟨rfl,rfl⟩))) hln (g23.trans kk)
 ·refine Z7 rfl ⟨rfl,Z7 rfl (Zb (by decide) ?_)⟩
  refine Z7 rfl ⟨rfl,Z7 rfl (Zb (by decide) ?_)⟩
  refine Z7 rfl ⟨rfl,Z7 rfl (Zb (by decide) ?_)⟩
  refine⟨sz,fun p1 h1=>⟨sz,fun p2 h2=>?_⟩⟩
  have k1:=Gro.new (S:=[]) h1 (.tup [])
  have k2:=Gro.new (S:=[]) h2 (.tup [.str "row",.ref p1])
  have hP:PatAt (Zq (Zq H p1 (.tup [])) p2 (.tup [.str "row",.ref p1])) 8 (.ref p2) R0:=⟨p2,[],rfl,⟨by decide,p1,Z3,k2.tups _ _ Z3⟩,.nil⟩
  have kk:=k1.trans k2
  generalize Zq (Zq H p1 (.tup [])) p2 (.tup [.str "row",.ref p1])=H1 at *
  refine Z7 rfl (Va rfl rfl (Z7 rfl ⟨by omega,by omega,?_⟩))
  refine Z5u (n:=t.length+1) (fun i ys H'=>Paired (EnA H') ys ((Z7u (fun _=>true) 0 0 i).map some)/\ys.length<=i/\Gro [] H1 H') ⟨.nil,Nat.le_refl _,Gro.refl⟩ (Yp (by omega)) (fun i ys H' h=>h.2.1) ?_ ?_
  ·rintro i ys H2 hi ⟨hy,hyl,g2⟩
   rw[Int.zero_add]
   refine Z7 rfl (Z7 rfl ⟨sz,fun a ha=>?_⟩)
   have g3:=Gro.new (S:=[]) ha (.tup [.int i,.int i])
   refine⟨?_,by rw[List.length_append];show ys.length+1<=_;omega,g2.trans g3⟩
   rw[Z4i rfl,Nat.zero_add,← map_some]
   exact Paired.snoc1 (Yk g3.tups hy) ⟨a,rfl,Z3⟩
  ·rintro ys H2 ⟨hy,hyl,g2⟩ l hl
   have g3:=Gro.new (S:=[]) hl (.lst ys)
   exact⟨sz,fun tp htp=>fin tp _ l ys _ _ htp ((hP.mono g2.tups).mono g3.tups) Z3 (Yk g3.tups hy) (by omega) (.inl ⟨rfl,rfl⟩) (Uo (kk.trans g2) hl) ((kk.trans g2).trans g3)⟩
end
theorem Z2g{H:Hp}{b l:Addr}(h:BoxAt H b)(hl:H l=none):l∉[b]:=by
 obtain⟨ns,e,_⟩:=h
 intro z
 rw[List.mem_singleton.mp z,e]at hl
 cases hl
theorem Z30{H:Hp}{n:Nat}:∀xs:List Str,Paired (Vd H (n+1)) (xs.map V.str) (xs.map V.str)
 | []=>.nil
 |_::xs=>.cons Z5g (Z30 xs)
theorem Z5v:∀xs:List Str,(Txt.join "" xs).length=(xs.map (·.length)).sum:=by
 have fold:∀(xs:List Str) (acc:Array Nat),(xs.foldl (fun a p=>a++("":Str).cps++p.cps) acc).size=acc.size+(xs.map (·.length)).sum:=by
  intro xs
  induction xs with
  |nil=>intro acc;simp
  |cons x xs ih =>
   intro acc
   rw[List.foldl_cons,ih,Array.size_append,Array.size_append,List.map_cons,List.sum_cons]
   show acc.size+0+x.length+_=_
   omega
 intro xs
 cases xs with
 |nil=>rfl
 |cons x xs =>
  show(xs.foldl (fun a p=>a++("":Str).cps++p.cps) x.cps).size=_
  rw[fold,List.map_cons,List.sum_cons]
  rfl
theorem Z5n:∀ {xs:List Str},(∀x∈xs,x.length=1)->(xs.map (·.length)).sum=xs.length
 | [],_=>rfl
 |x::xs,h=>by
  rw[List.map_cons,List.sum_cons,Z5n (fun y hy=>h y (by simp[hy])),h x (by simp),List.length_cons]
  omega
def kF(k:Nat):Str:=if k=2 then "<$1" else "<$0"
def Zf3(k:Nat):List Pc:=[.tx "<",.nm (kG k)]
theorem Zkk{k:Nat}(hk:k<=3):pz (kF k) (kG k) 0=some (Zf3 k):=by
 have e0:pz "<$0" 0 0=some [.tx "<",.nm 0]:=by
  rw[Jn (by decide +kernel) (Z7s (by decide +kernel)),Z2a (k:=0) (by decide +kernel) (Z7r (by decide +kernel) (by decide +kernel) (by decide +kernel) (Nat.le_refl 0)),Z2b (by decide +kernel)]
  rfl
 have e1:pz "<$1" 1 0=some [.tx "<",.nm 1]:=by
  rw[Jn (by decide +kernel) (Z7s (by decide +kernel)),Z2a (k:=1) (by decide +kernel) (Z7r (by decide +kernel) (by decide +kernel) (by decide +kernel) (Nat.le_refl 1)),Z2b (by decide +kernel)]
  rfl
 rcases(show k=0∨k=1∨k=2∨k=3 by omega) with rfl | rfl | rfl | rfl
 ·exact e0
 ·exact e0
 ·exact e1
 ·exact e0
theorem Zhe{k:Nat}:(kF k).length<=12:=by
 unfold kF
 split <;> decide
theorem Zbn{s o:Str}{k:Nat}(hk:k<=3):(kP s o k).groups=((kG k:Nat):Int):=by
 rcases(show k=0∨k=1∨k=2∨k=3 by omega) with rfl | rfl | rfl | rfl <;> rfl
theorem Zhc{s o:Str}{k:Nat}(hk:k<=3):(kP s o k).size<=20000:=by
 rcases(show k=0∨k=1∨k=2∨k=3 by omega) with rfl | rfl | rfl | rfl
 ·show(1+0:Nat)<=20000
  decide
 ·show(1+0:Nat)<=20000
  decide
 ·show(1+((1+((1+0)+0))+0):Nat)<=20000
  decide
 ·show(1+((1+((1+0)+0))+((1+0)+0)):Nat)<=20000
  decide
theorem Ziz{s o:Str}{k:Nat}(hk:k<=3):Ug ((Yd (kP s o k)).map Op.rw)=((kG k:Nat):Int):=by
 rcases(show k=0∨k=1∨k=2∨k=3 by omega) with rfl | rfl | rfl | rfl
 ·unfold Ug
  rw[if_pos (by rfl)]
  rfl
 ·exact Zfu s
 ·unfold Ug
  rw[if_neg (by intro z;cases z)]
  rfl
 ·unfold Ug
  rw[if_pos (by rfl)]
  rfl
theorem Zj1(k:Nat):kG k<=9:=by
 unfold kG
 split <;> decide
theorem Zkl{t:Str}{k:Nat}{r:Nat×Nat}(hk:k<=3):Zd8 t (kX k r) (Zf3 k)="<" ++ Txt.slice t (some (r.1:Int)) (some (r.2:Int)):=by
 have e:Zi4 t (kX k r) (.nm (kG k))=Txt.slice t (some (r.1:Int)) (some (r.2:Int)):=by
  rcases(show k=0∨k=1∨k=2∨k=3 by omega) with rfl | rfl | rfl | rfl <;> rfl
 show Txt.join "" ([("<":Str)]++[Zi4 t (kX k r) (.nm (kG k))])=_
 rw[T5,e]
 rfl
theorem Zhh{t:Str}{ps:List Pc}{e:Int}{m Z:Str}{xs:List (Nat×Yb)}{i:Nat}{x:Nat×Yb}(h:m++(Z12 t e (xs.drop i)++gF t ps (xs.drop i))=Z)(hx:xs[i]? = some x):((m++Txt.slice t (some e) (some (x.1:Int)))++Zd8 t x ps)++(Z12 t x.2.1 (xs.drop (i+1))++gF t ps (xs.drop (i+1)))=Z:=by
 rw[List.drop_eq_getElem_cons (List.getElem?_eq_some_iff.mp hx).1,(List.getElem?_eq_some_iff.mp hx).2]at h
 rw[← h,Vt,Vt]
 rfl
theorem Zj6{t:Str}{ps:List Pc}{e:Int}{m Z:Str}{xs:List (Nat×Yb)}{i:Nat}(h:m++(Z12 t e (xs.drop i)++gF t ps (xs.drop i))=Z)(hi:xs.length<=i):m++Txt.slice t (some e) none=Z:=by
 rw[List.drop_of_length_le hi]at h
 rw[← h]
 show m++Txt.slice t (some e) none=m++(Txt.slice t (some e) none++("":Str))
 rw[Z8x]
theorem Zal{t:Str}{e:Int}{ys:List Str}{rs:List (Nat×Nat)}{k i:Nat}{r:Nat×Nat}(h:tx t 0 (rs.map (kX k))=ys++tx t e ((rs.map (kX k)).drop i))(hx:(rs.map (kX k))[i]? = some (kX k r)):tx t 0 (rs.map (kX k))=(ys++[Txt.slice t (some e) (some (r.1:Int))])++tx t (r.2:Int) ((rs.map (kX k)).drop (i+1)):=by
 have h1:(kX k r).1=r.1:=rfl
 have h2:(kX k r).2.1=r.2:=rfl
 have q:=Z7y h hx
 rw[h1,h2]at q
 exact q
theorem Zep{t:Str}{e:Int}{m Z:Str}{rs:List (Nat×Nat)}{k i:Nat}{r:Nat×Nat}(hk:k<=3)(h:m++(Z12 t e ((rs.map (kX k)).drop i)++gF t (Zf3 k) ((rs.map (kX k)).drop i))=Z)(hx:(rs.map (kX k))[i]? = some (kX k r)) :
  (((m++Txt.slice t (some e) (some (r.1:Int)))++"<")++Txt.slice t (some (r.1:Int)) (some (r.2:Int)))++(Z12 t (r.2:Int) ((rs.map (kX k)).drop (i+1))++gF t (Zf3 k) ((rs.map (kX k)).drop (i+1)))=Z:=by
 have h1:(kX k r).1=r.1:=rfl
 have h2:(kX k r).2.1=r.2:=rfl
 have this:=Zhh h hx
 rw[h1,h2]at this
 rw[Zkl hk]at this
 rw[← this,Vt (m++Txt.slice t (some e) (some (r.1:Int))) "<"]
theorem Zix{t m:Str}{e a b:Int}{i:Nat}(ht:t.length<=199)(hm:m.length<=401*i):((((m++Txt.slice t (some e) (some a))++"<")++Txt.slice t (some a) (some b))).length<=401*(i+1):=by
 have s1:=Txt.slice_le t (some e) (some a)
 have s2:=Txt.slice_le t (some a) (some b)
 have e1:("<":Str).length=1:=rfl
 rw[Vl,Vl,Vl]
 omega
def DueIs(t:Str)(k:Nat)(xs:List (Nat×Yb))(H:Hp)(wy:Nat)(dv:V):Prop:=(wy=0/\∃l us,dv=.ref l/\H l=some (.lst us)/\Paired (Zae H) us xs)∨(wy=1/\∃l,dv=.ref l/\H l=some (.lst ((tx t 0 xs).map V.str)))∨(wy=2/\dv=.str (Z12 t 0 xs++gF t (Zf3 k) xs))
theorem DueIs.gro{t:Str}{k:Nat}{xs:List (Nat×Yb)}{H H':Hp}{wy:Nat}{dv:V}(g:Gro [] H H'):DueIs t k xs H wy dv->DueIs t k xs H' wy dv
 |.inl ⟨e,l,us,e1,e2,e3⟩=>.inl ⟨e,l,us,e1,g.keep _ _ e2 (by simp),Yh g.tups e3⟩
 |.inr (.inl ⟨e,l,e1,e2⟩)=>.inr (.inl ⟨e,l,e1,g.keep _ _ e2 (by simp)⟩)
 |.inr (.inr ⟨e,e1⟩)=>.inr (.inr ⟨e,e1⟩)
theorem Z5h{H:Hp}:∀ {xs:List (Nat×Yb)} {us vs:List V},Paired (Zae H) us xs->Paired (Zae H) vs xs->(∀x∈xs,x.2.2.length<=1000000)->Paired (Vd H 5) us vs
 | [],_,_,.nil,.nil,_=>.nil
 |x::_,_,_,.cons a r,.cons b r',h=>.cons (Z9h (n:=1) (r:=some x) a b fun y e=>(by cases e;exact h _ (by simp))) (Z5h r r' fun y hy=>h y (by simp[hy]))
theorem Zhd{k:Nat}{rs:List (Nat×Nat)}:∀x∈rs.map (kX k),x.2.2.length<=1000000:=fun x hx=>by
 obtain⟨r,_,rfl⟩:=List.mem_map.mp hx
 unfold kX
 show(if k=2 then[some r] else[]).length<=_
 split <;> simp
section
variable{P:Program}{w:World}{K:W.Frag}{mg:Str->Option Value}{base:Heap}{f:Addr}{fd:FuncData}{h:Heap}
inductive spLawI(K:W.Frag)(vs:List V)(H:Hp)(Q:VK):Prop
 |mk (a:Addr) (ns:List Int) (_:vs=[.ref a]) (_:SqL K H a (ns.map V.int)) (_:ns.length<=63) (_:∀H',Q (.bl true) H')
def Z3z(K:W.Frag):Sp:=fun vs H Q _=>spLawI K vs H Q
abbrev U7:Stmt:=top 62
theorem sc_law:FnScope ["_law_script","_law_box","_law_one","_law_other","_law_size","_law_text","_law_kind","_law_p","_law_runs","_law_need","_law_most","_law_due","_law_way","_law_parts","_law_begin","_law_made","_law_run"] ["_law_script"] (Z9 U7):=Vm
theorem Zh2(T:Blt mg)(O_l_take:Own P w K mg base 1 "_law_take" ["_law_box","_law_many"] Z7e)(O_l_sign:Own P w K mg base 1 "_law_sign" ["_law_cell"] Z7f)(O_l_alike:Own P w K mg base 8 "_law_alike" ["_law_found","_law_due"] Zc3)(O_l_told:Own P w K mg base 32 "_law_told" ["_law_way","_law_p","_law_text","_law_most","_law_form"] Z7d)(O_l_of_kind:Own P w K mg base 2 "_law_of_kind" ["_law_kind","_law_one","_law_other","_law_text"] Zhw)
  (F:Fun K "law" "law" U7 f fd):FnOk P w K mg base Wq 40 f fd ["_law_script"] (Z3z K):=by
 refine F.ok sc_law (fun vs H Q E h=>?_) (fun cdv A outer s H vs Q E hr h=>?_)
 ·obtain⟨a,ns,rfl,_⟩:=h
  rfl
 obtain⟨a,ns,rfl,hS,h63,q⟩:=h
 refine Vj ?_
 intro Xz
 refine⟨_,(Z1 (pS 1 sc_law.nd (Vr Z3x rfl T.b_list PyProof.Rows.Boot.«list» (Z0 (pv 0) Z2)))
  (Z1 (pS 2 sc_law.nd (Zz (O_l_sign.mono (by omega)) hr rfl (Z0 (Zz (O_l_take.mono (by omega)) hr rfl (Z0 (pv 1) (Z0 Z6 Z2))) Z2)))
  (Z1 (pS 3 sc_law.nd (Zz (O_l_sign.mono (by omega)) hr rfl (Z0 (Zz (O_l_take.mono (by omega)) hr rfl (Z0 (pv 1) (Z0 Z6 Z2))) Z2)))
  (Z1 (Y0 (Ze Y4 (pv 2) (pv 3) (Zi _)) (Z5 (Zo Wo)) Zm)
  (Z1 (pS 4 sc_law.nd (Zg X3 (Xg (Z0 (Zz (O_l_take.mono (by omega)) hr rfl (Z0 (pv 1) (Z0 Z6 Z2))) (Z0 (Zz (O_l_take.mono (by omega)) hr rfl (Z0 (pv 1) (Z0 Z6 Z2))) Z2))) (Zz (O_l_take.mono (by omega)) hr rfl (Z0 (pv 1) (Z0 Z6 Z2))) (fun _ _=>rfl)))
  (Z1 (pS 5 sc_law.nd (Yr PySem.F.plainAttrs_str PySem.F.slot_str_join PySem.F.type_str_join Z4f Zk (Z0 (Vv rfl (show CScope _ ["_law_script","_law_box","_law_one","_law_other","_law_size","_law_text","_law_kind","_law_p","_law_runs","_law_need","_law_most","_law_due","_law_way","_law_parts","_law_begin","_law_made","_law_run"] (Z9 U7) _ from⟨rfl,by decide +kernel,rfl,by decide +kernel,by decide +kernel,by decide +kernel,by decide +kernel⟩) (V5 rfl T.b_range (Z0 (pv 4) Z2)) (fun _ _ _ _=>Jp) (fun _ _ _ _=>(Zg (r:=Zf7 K) X3 (Xg (Z0 (pv 3) (Z0 (pv 4) Z2))) (Zz (O_l_take.mono (by omega)) hr rfl (Z0 (pv 2) (Z0 Z6 Z2))) (fun _ _=>rfl)))) Z2)))
  (Z1 (pS 6 sc_law.nd (Zz (O_l_take.mono (by omega)) hr rfl (Z0 (pv 1) (Z0 Z6 Z2))))
  (Z1 (Uf (Zz (O_l_of_kind.mono (by omega)) hr rfl (Z0 (pv 6) (Z0 (pv 2) (Z0 (pv 3) (Z0 (pv 5) Z2))))) (Z7p rfl (Vu (pN 7 sc_law.nd) (Vu (pN 8 sc_law.nd) Z4a))))
  (Z1 (pS 9 sc_law.nd (Yg Xh (pv 4) Z6))
  (Z1 (Y0 (Ze Y4 (pv 6) Z6 (Zi _)) (Z5 (pS 9 sc_law.nd (Yg Xh (pv 9) (Zh Zv rfl T.b_len PyProof.Rows.Boot.«len» (Z0 (pv 8) Z2))))) Zm)
  (Z1 (pS 10 sc_law.nd (Zh (Za8 rfl) rfl T.b_max PyProof.Rows.Boot.«max» (Z0 Z6 (Z0 (Yg Xh (pv 9) (Zg X3 (Xg (Z0 Z6 (Z0 (Z0z T8 Z6) (Z0 Z6 (Z0 Z6 Z2))))) (Zz (O_l_take.mono (by omega)) hr rfl (Z0 (pv 1) (Z0 Z6 Z2))) (fun _ _=>rfl))) Z2))))
  (Z1 (Y0 (Ze Z96 (pv 6) Z6 (Zi _)) (Z5 (pS 10 sc_law.nd Z6)) Zm)
  (Z1 (Z33 (i:=11) sc_law.nd rfl rfl rfl (show CScope3 "_law_run" ["_law_script","_law_box","_law_one","_law_other","_law_size","_law_text","_law_kind","_law_p","_law_runs","_law_need","_law_most","_law_due","_law_way","_law_parts","_law_begin","_law_made","_law_run"] ["_law_script","_law_box","_law_one","_law_other","_law_size","_law_text","_law_kind","_law_p","_law_runs","_law_need","_law_most","_law_due","_law_way","_law_parts","_law_begin","_law_made","0"] (Z9 U7) _ from⟨rfl,by decide +kernel,rfl,by decide +kernel,by decide +kernel,by decide +kernel,by decide +kernel,rfl,by decide +kernel⟩) (Jr (pv 8)) (fun _ _ _ _=>Jp) (fun _ _ _ _=>(Zr (Z0 (Zg (r:=Z2h K) Zd (pv 0) Z6 (fun _ _=>rfl)) (Z0 (Zg (r:=Z2h K) Zd (pv 0) Z6 (fun _ _=>rfl)) (Z0 (Zg (r:=Zf7 K) X3 (Xg (Z0 (Zr Z2) (Z0 (Zr (Z0 (pv 0) Z2)) Z2))) (Vr Z3i rfl T.b_int PyProof.Rows.Boot.«int» (Z0 (Yz Y4 (pv 7) Z6 (Zi _)) Z2)) (fun _ _=>rfl)) Z2))))) rfl)
  (Z1 (pS 12 sc_law.nd (Zz (O_l_take.mono (by omega)) hr rfl (Z0 (pv 1) (Z0 Z6 Z2))))
  (Z1 (pS 13 sc_law.nd (Xg Z2))
  (Z1 (pS 14 sc_law.nd Z6)
  (Z1 (pS 15 sc_law.nd Zk)
  (Z1 (Vb PassesOwn.never rfl (Jr (pv 8)) (pN 16 sc_law.nd) (Z1 (Zf (Yr PySem.F.plainAttrs_list PySem.F.slot_list_append PySem.F.type_list_append Zw (pv 13) (Z0 (Y8 Wj (pv 5) (Y2 (pv 14)) (Y2 (Zg Zd (pv 16) Z6 (fun _ _=>rfl)))) Z2)))
  (Z1 (pS 15 sc_law.nd (Yg W8 (Yg W8 (Yg W8 (pv 15) (Y8 Wj (pv 5) (Y2 (pv 14)) (Y2 (Zg Zd (pv 16) Z6 (fun _ _=>rfl))))) Zk) (Y8 Wj (pv 5) (Y2 (Zg Zd (pv 16) Z6 (fun _ _=>rfl))) (Y2 (Zg Zd (pv 16) Z6 (fun _ _=>rfl))))))
  (Z5 (pS 14 sc_law.nd (Zg Zd (pv 16) Z6 (fun _ _=>rfl)))))))
  (Z1 (Zf (Yr PySem.F.plainAttrs_list PySem.F.slot_list_append PySem.F.type_list_append Zw (pv 13) (Z0 (Y8 Wj (pv 5) (Y2 (pv 14)) Wz) Z2)))
  (Z1 (pS 11 sc_law.nd (Zg X3 (Xg (Z0 (pv 11) (Z0 (pv 13) (Z0 (Yg W8 (pv 15) (Y8 Wj (pv 5) (Y2 (pv 14)) Wz)) Z2)))) (pv 12) (fun _ _=>rfl)))
  (Z1 (Y0 (Ze Z6a (pv 10) (pv 9) (Zi _)) (Z5 (pS 11 sc_law.nd (Zr (Z0 Zk Z2)))) Zm)
  (Z5 (Zo (Zz (O_l_alike.mono (by omega)) hr rfl (Z0 (Zz (O_l_told.mono (by omega)) hr rfl (Z0 (pv 12) (Z0 (pv 7) (Z0 (pv 5) (Z0 (pv 10) (Z0 (Zg X3 (Xg (Z0 Zk (Z0 Zk Z2))) (Vr Z3i rfl T.b_int PyProof.Rows.Boot.«int» (Z0 (Yz Y4 (pv 6) Z6 (Zi _)) Z2)) (fun _ _=>rfl)) Z2)))))) (Z0 (pv 11) Z2)))))))))))))))))))))))))),?_⟩
 refine Zgf ?_
 intro Ez Az1 Az2 Az3 Az4 Az5 Az6 Az7 Az8 Az9 Az10 Az11 Az12 Az13 Az14 Az15 Az16 Az17 Az18 Az19 Az20 Az21 Az22 Az23 Az24 Az25 Az26 Az27 Az28
 refine(Z7 rfl ⟨a,Z7 rfl ⟨.inl hS,fun b hb=>?_⟩⟩)
 have hb0:BoxAt (Zq H b (.lst (ns.map V.int))) b:=⟨ns,Z3,h63⟩
 generalize Zq H b (.lst (ns.map V.int))=H0 at *
 have told:∀(H1:Hp) (s' o t:Str) (n:Int) (k wy c:Nat) (pv dv:V) (l:Addr) (rs:List (Nat×Nat)) (nd L e:Int) (m:Str) (pt:Addr) (u:Option V),k<=3->wy<=2->t.length<=199->0<=L->rs.length<=201->PatAt H1 8 pv (kP s' o k)->FdsC t (kG k) (kP s' o k) 0 (rs.map (kX k)) c ->
   (L<(c:Int)->∃ov,dv=.ref ov/\H1 ov=some (.tup [.str "over"]))->((c:Int)<=L->DueIs t k (rs.map (kX k)) H1 wy dv) ->
   Az8 Ez [some (.ref a),some (.ref b),some (.str s'),some (.str o),some (.int n),some (.str t),some (.int k),some pv,some (.ref l),some (.int nd),some (.int L),some dv,some (.int wy),some (.ref pt),some (.int e),some (.str m),u] H1:=by
  intro H1 s' o t n k wy c pv dv l rs nd L e m pt u hk hwy ht hL hrl hP hF hov hdu
  refine Z7 rfl (Z7 rfl (Z7 rfl (Z7 rfl ⟨sz,fun fl hfl=>Z7 rfl ⟨rfl,.inr ⟨_,rfl,?_⟩⟩⟩)))
  have g1:=Gro.new (S:=[]) hfl (.lst [.str "<$0",.str "<$1"])
  have hf1:(Zq H1 fl (.lst [.str "<$0",.str "<$1"])) fl=some (.lst [.str "<$0",.str "<$1"]):=Z3
  have hP1:=hP.mono g1.tups
  have hov1:L<(c:Int)->∃ov,dv=.ref ov/\(Zq H1 fl (.lst [.str "<$0",.str "<$1"])) ov=some (.tup [.str "over"]):=fun z=>by
   obtain⟨ov,e1,e2⟩:=hov z
   exact⟨ov,e1,g1.tups _ _ e2⟩
  have hdu1:=fun z=>(hdu z).gro g1
  generalize Zq H1 fl (.lst [.str "<$0",.str "<$1"])=H2 at *
  have at_:Z6e [V.str "<$0",V.str "<$1"] (if decide (V.int (k:Int)=V.int 2)=true then 1 else 0)=some (.str (kF k)):=by
   unfold kF
   by_cases z:k=2
   ·subst z
    rfl
   ·rw[if_neg z,if_neg (by intro y;have y':=of_decide_eq_true y;injection y' with y';omega)]
    rfl
  refine⟨fl,_,_,_,rfl,rfl,SqL.of hf1,at_,?_⟩
  refine⟨wy,pv,t,kF k,kG k,c,L,kP s' o k,Zf3 k,rs.map (kX k),rfl,hL,hwy,hP1,Zbn hk,Zhe,Zkk hk,Zhc hk,Ziz hk,Zj1 k,by omega,hF,?q0,?q1,?q2,?qx⟩
  case qx =>
   intro hc a' H3 ha' g
   obtain⟨ov,rfl,e2⟩:=hov1 hc
   refine Z7 rfl (.inl ⟨_,_,rfl,?_,q _⟩)
   exact .inr ⟨a',ov,_,_,rfl,rfl,ha',g.tups _ _ e2,by simp,.cons (.inl ⟨rfl,rfl⟩) .nil⟩
  case q0 =>
   intro e0 hc l' us H3 hl' hu' hx g
   rcases hdu1 hc with⟨_,l2,us2,rfl,e2,e3⟩ | ⟨z,_⟩ | ⟨z,_⟩
   ·refine Z7 rfl (.inr ⟨l',l2,us,us2,rfl,hl',g.keep _ _ e2 (by simp),?_,Z5h hu' (Yh g.tups e3) Zhd,q _⟩)
    rw[Paired.length hu']
    omega
   ·omega
   ·omega
  case q1 =>
   intro e0 hc r H3 hr' g
   rcases hdu1 hc with⟨z,_⟩ | ⟨_,l2,rfl,e2⟩ | ⟨z,_⟩
   ·omega
   ·refine Z7 rfl (.inr ⟨r,l2,_,_,rfl,hr',g.keep _ _ e2 (by simp),?_,Z30 _,q _⟩)
    rw[List.length_map,Z7b,List.length_map]
    omega
   ·omega
  case q2 =>
   intro e0 hc H3 g
   rcases hdu1 hc with⟨z,_⟩ | ⟨z,_⟩ | ⟨_,rfl⟩
   ·omega
   ·omega
   ·exact Z7 rfl (.inl ⟨_,_,rfl,Z5g,q _⟩)
 have over:∀(H1:Hp) (s' o t:Str) (n:Int) (k wy c:Nat) (pv dv:V) (l:Addr) (rs:List (Nat×Nat)) (nd L e:Int) (m:Str) (pt:Addr) (u:Option V),k<=3->wy<=2->t.length<=199->0<=L->rs.length<=201->PatAt H1 8 pv (kP s' o k)->FdsC t (kG k) (kP s' o k) 0 (rs.map (kX k)) c->(L<nd↔L<(c:Int))->DueIs t k (rs.map (kX k)) H1 wy dv ->
   Az9 Ez [some (.ref a),some (.ref b),some (.str s'),some (.str o),some (.int n),some (.str t),some (.int k),some pv,some (.ref l),some (.int nd),some (.int L),some dv,some (.int wy),some (.ref pt),some (.int e),some (.str m),u] H1:=by
  intro H1 s' o t n k wy c pv dv l rs nd L e m pt u hk hwy ht hL hrl hP hF hiff hdu
  refine Z7 rfl (Z7 rfl (Va rfl rfl (Z7 rfl ?_)))
  by_cases z:L<nd
  ·refine Zj (decide_eq_true z) ?_
   refine⟨sz,fun ov hov=>?_⟩
   have g1:=Gro.new (S:=[]) hov (.tup [.str "over"])
   exact told _ _ _ _ _ _ _ _ _ _ _ _ _ _ _ _ _ _ hk hwy ht hL hrl (hP.mono g1.tups) hF (fun _=>⟨ov,rfl,Z3⟩) (fun h=>absurd (hiff.mp z) (by omega))
  ·refine Zb (fun y=>z (of_decide_eq_true y)) ?_
   exact told _ _ _ _ _ _ _ _ _ _ _ _ _ _ _ _ _ _ hk hwy ht hL hrl hP hF (fun h=>absurd (hiff.mpr h) z) (fun _=>hdu)
 have loop:∀(H1:Hp) (s' o t:Str) (n:Int) (k wy c:Nat) (pv:V) (l dl pt:Addr) (us ds:List V) (rs:List (Nat×Nat)) (nd L:Int),k<=3->wy<=2->t.length<=199->0<=L->us.length<=201->PatAt H1 8 pv (kP s' o k)->FdsC t (kG k) (kP s' o k) 0 (rs.map (kX k)) c->(L<nd↔L<(c:Int)) ->
   H1 l=some (.lst us)->Paired (EnA H1) us (rs.map some)->H1 dl=some (.lst ds)->Paired (Zae H1) ds (rs.map (kX k))->H1 pt=some (.lst [])->l≠pt->dl≠pt ->
   Az12 Ez [some (.ref a),some (.ref b),some (.str s'),some (.str o),some (.int n),some (.str t),some (.int k),some pv,some (.ref l),some (.int nd),some (.int L),some (.ref dl),some (.int wy),some (.ref pt),some (.int 0),some (.str ""),none] H1:=by
  intro H1 s' o t n k wy c pv l dl pt us ds rs nd L hk hwy ht hL hul hP hF hiff hl hu hd hds hpt n1 n2
  have hrl:us.length=rs.length:=by rw[Paired.length hu,List.length_map]
  refine Z7 rfl ⟨l,rfl,⟨us,SqL.of hl⟩,?_⟩
  refine Z21 (xs:=us) (fun i σ H'=>∃(e:Int) (m:Str) (ys:List Str) (u:Option V),σ=[some (.ref a),some (.ref b),some (.str s'),some (.str o),some (.int n),some (.str t),some (.int k),some pv,some (.ref l),some (.int nd),some (.int L),some (.ref dl),some (.int wy),some (.ref pt),some (.int e),some (.str m),u]/\H' pt=some (.lst (ys.map V.str))/\ys.length=i/\m.length<=401*i/\tx t 0 (rs.map (kX k))=ys++tx t e ((rs.map (kX k)).drop i)/\m++(Z12 t e ((rs.map (kX k)).drop i)++gF t (Zf3 k) ((rs.map (kX k)).drop i))=Z12 t 0 (rs.map (kX k))++gF t (Zf3 k) (rs.map (kX k))/\Gro [pt] H1 H')
   ⟨0,"",[],none,rfl,hpt,rfl,Nat.zero_le _,rfl,Z8h _,Gro.refl⟩ (fun i σ H' _ hh=>by obtain⟨_,_,_,_,_,_,_,_,_,_,g⟩:=hh;exact SqL.of (g.keep _ _ hl (by simpa using n1))) ?_ ?_
  ·rintro i v σ H2 hv ⟨e,m,ys,u,rfl,hp2,hyl,hml,htx,hG,g2⟩
   have hi:i<us.length:=(List.getElem?_eq_some_iff.mp hv).1
   obtain⟨y,hy,hE⟩:=Y5 (Yk g2.tups hu) hv
   rw[List.getElem?_map]at hy
   obtain⟨r,hr',rfl⟩:=Option.map_eq_some_iff.mp hy
   obtain⟨ra,rfl,ha⟩:=hE
   have hx:(rs.map (kX k))[i]? = some (kX k r):=by rw[List.getElem?_map,hr'];rfl
   have s1:=Txt.slice_le t (some e) (some (r.1:Int))
   have s2:=Txt.slice_le t (some (r.1:Int)) (some (r.2:Int))
   have e1:("<":Str).length=1:=rfl
   refine(Z7 rfl ⟨.inl ⟨rfl,_,SqL.of hp2⟩,Z7 rfl (Z7 rfl (Z7 rfl (W5 ha Z0d (Z7 rfl (Z7 rfl ⟨Ye (by omega),pt,_,_,rfl,rfl,hp2,Nat.lt_of_lt_of_le (by rw[List.length_map];omega) (Ye (Nat.le_refl 1000)),?_⟩)))))⟩)
   have g3:Gro [pt] H2 _:=Gro.set (by simp) hp2 (.lst (ys.map V.str++[.str (Txt.slice t (some e) (some (r.1:Int)))]))
   have ha3:=g3.tups _ _ ha
   have hp3:(Zq H2 pt (.lst (ys.map V.str++[.str (Txt.slice t (some e) (some (r.1:Int)))]))) pt=some (.lst ((ys++[Txt.slice t (some e) (some (r.1:Int))]).map V.str)):=by rw[Z3,Vw]
   generalize Zq H2 pt (.lst (ys.map V.str++[.str (Txt.slice t (some e) (some (r.1:Int)))]))=H3 at *
   have bg:∀n:Nat,n<=1000000->n<=sizeLine:=fun n h=>Nat.le_of_lt (Z7v h)
   refine Z7 rfl (Z7 rfl (Z7 rfl (Z7 rfl (W5 ha3 Z0d (Z7 rfl (Z7 rfl ⟨Ye (by omega),Va rfl rfl ⟨bg _ (by show m.length+(Txt.slice t (some e) (some (r.1:Int))).length<=_;omega),Va rfl rfl ⟨bg _ (by rw[Vl];omega),?_⟩⟩⟩))))))
   refine Z7 rfl (W5 ha3 Z0d (Z7 rfl (W5 ha3 rfl (Z7 rfl (Z7 rfl ⟨Ye (by omega),Va rfl rfl ⟨bg _ (by rw[Vl,Vl];show m.length+(Txt.slice t (some e) (some (r.1:Int))).length+_+(Txt.slice t (some (r.1:Int)) (some (r.2:Int))).length<=_;omega),?_⟩⟩)))))
   have h1:=Zal htx hx
   have h2:=Zep hk hG hx
   have h3:=Zix (t:=t) (m:=m) (e:=e) (a:=(r.1:Int)) (b:=(r.2:Int)) (i:=i) ht hml
   have h4:(ys++[Txt.slice t (some e) (some (r.1:Int))]).length=i+1:=by rw[List.length_append,hyl];rfl
   refine W5 ha3 rfl ?_
   exact⟨(r.2:Int),_,ys++[Txt.slice t (some e) (some (r.1:Int))],_,rfl,hp3,h4,h3,h1,h2,g2.trans g3⟩
  ·rintro σ H2 ⟨e,m,ys,u,rfl,hp2,hyl,hml,htx,hG,g2⟩
   have s1:=Txt.slice_le t (some e) none
   have bg:∀n:Nat,n<=1000000->n<=sizeLine:=fun n h=>Nat.le_of_lt (Z7v h)
   refine(Z7 rfl ⟨.inl ⟨rfl,_,SqL.of hp2⟩,Z7 rfl (Z7 rfl (Z7 rfl (Z7 rfl ⟨Ye (by omega),pt,_,_,rfl,rfl,hp2,Nat.lt_of_lt_of_le (by rw[List.length_map];omega) (Ye (Nat.le_refl 1000)),?_⟩)))⟩)
   have g3:Gro [pt] H2 _:=Gro.set (by simp) hp2 (.lst (ys.map V.str++[.str (Txt.slice t (some e) none)]))
   have hp3:(Zq H2 pt (.lst (ys.map V.str++[.str (Txt.slice t (some e) none)]))) pt=some (.lst ((tx t 0 (rs.map (kX k))).map V.str)):=by rw[Z3,Vw,← Zc1 htx (by rw[List.length_map];omega)]
   have g13:=g2.trans g3
   generalize Zq H2 pt (.lst (ys.map V.str++[.str (Txt.slice t (some e) none)]))=H3 at *
   have hd3:=g13.keep _ _ hd (by simpa using n2)
   have hds3:=Yh g13.tups hds
   have hP3:=hP.mono g13.tups
   have hm:=Zj6 hG (by rw[List.length_map];omega)
   refine Z7 rfl (Z7 rfl (Z7 rfl (Z7 rfl (Z7 rfl (Z7 rfl (Z7 rfl ⟨Ye (by omega),Va rfl rfl ⟨bg _ (by show m.length+(Txt.slice t (some e) none).length<=_;omega),⟨sz,fun d2 hd2=>?_⟩⟩⟩))))))
   rw[hm]
   have g4:=Gro.new (S:=[]) hd2 (.lst [.ref dl,.ref pt,.str (Z12 t 0 (rs.map (kX k))++gF t (Zf3 k) (rs.map (kX k)))])
   have h4:(Zq H3 d2 (.lst [.ref dl,.ref pt,.str (Z12 t 0 (rs.map (kX k))++gF t (Zf3 k) (rs.map (kX k)))])) d2=some (.lst [.ref dl,.ref pt,.str (Z12 t 0 (rs.map (kX k))++gF t (Zf3 k) (rs.map (kX k)))]):=Z3
   have hd4:=g4.keep _ _ hd3 (by simp)
   have hp4:=g4.keep _ _ hp3 (by simp)
   have hds4:=Yh g4.tups hds3
   have hP4:=hP3.mono g4.tups
   generalize Zq H3 d2 (.lst [.ref dl,.ref pt,.str (Z12 t 0 (rs.map (kX k))++gF t (Zf3 k) (rs.map (kX k)))])=H4 at *
   have ov:=fun dv hdu=>over H4 s' o t n k wy c pv dv l rs nd L e m pt u hk hwy ht hL (by omega) hP4 hF hiff hdu
   rcases(show wy=0∨wy=1∨wy=2 by omega) with rfl | rfl | rfl
   ·exact Z7 rfl ⟨d2,_,_,_,rfl,rfl,SqL.of h4,rfl,ov (.ref dl) (.inl ⟨rfl,dl,ds,rfl,hd4,hds4⟩)⟩
   ·exact Z7 rfl ⟨d2,_,_,_,rfl,rfl,SqL.of h4,rfl,ov (.ref pt) (.inr (.inl ⟨rfl,pt,rfl,hp4⟩))⟩
   ·exact Z7 rfl ⟨d2,_,_,_,rfl,rfl,SqL.of h4,rfl,ov (.str _) (.inr (.inr ⟨rfl,rfl⟩))⟩
 have due:∀(H1:Hp) (s' o t:Str) (n:Int) (k c:Nat) (pv:V) (l:Addr) (us:List V) (rs:List (Nat×Nat)) (nd L:Int),BoxAt H1 b->k<=3->t.length<=199->0<=L->us.length<=201->PatAt H1 8 pv (kP s' o k)->FdsC t (kG k) (kP s' o k) 0 (rs.map (kX k)) c->(L<nd↔L<(c:Int)) ->
   H1 l=some (.lst us)->l∉[b]->Paired (EnA H1) us (rs.map some) ->
   Az17 Ez [some (.ref a),some (.ref b),some (.str s'),some (.str o),some (.int n),some (.str t),some (.int k),some pv,some (.ref l),some (.int nd),some (.int L),none,none,none,none,none,none] H1:=by
  intro H1 s' o t n k c pv l us rs nd L hb1 hk ht hL hul hP hF hiff hl hlb hu
  have hrl:us.length=rs.length:=by rw[Paired.length hu,List.length_map]
  refine Z7 rfl ⟨l,rfl,⟨us,SqL.of hl⟩,?_⟩
  refine Z8k (xs:=us) (fun i ys H'=>Paired (Zae H') ys ((rs.take i).map (kX k))/\ys.length<=i/\Gro [] H1 H') ⟨.nil,Nat.le_refl _,Gro.refl⟩ (Yp (by omega)) (fun i ys H' h=>h.2.1) (fun i ys H' h=>SqL.of (h.2.2.keep _ _ hl (by simp))) ?_ ?_
  ·rintro i ys H2 x hx ⟨hy,hyl,g2⟩
   obtain⟨y,hy',hE⟩:=Y5 (Yk g2.tups hu) hx
   rw[List.getElem?_map]at hy'
   obtain⟨r,hr',rfl⟩:=Option.map_eq_some_iff.mp hy'
   obtain⟨ra,rfl,ha⟩:=hE
   have ek:(rs.take (i+1)).map (kX k)=(rs.take i).map (kX k)++[kX k r]:=by rw[List.take_succ,hr',List.map_append];rfl
   rw[ek]
   refine W5 ha Z0d (W5 ha rfl ⟨sz,fun e he=>Z7 rfl ⟨sz,fun g hg=>⟨sz,fun li hli=>Z7 rfl ⟨rfl,.inr ⟨_,rfl,?_⟩⟩⟩⟩⟩)
   have k1:=Gro.new (S:=[]) he (.tup [])
   have k2:=Gro.new (S:=[]) hg (.tup [.ref ra])
   have k3:=Gro.new (S:=[]) hli (.lst [.ref e,.ref g])
   have kk:=(k1.trans k2).trans k3
   have he3:(Zq (Zq (Zq H2 e (.tup [])) g (.tup [.ref ra])) li (.lst [.ref e,.ref g])) e=some (.tup []):=k3.tups _ _ (k2.tups _ _ Z3)
   have hg3:(Zq (Zq (Zq H2 e (.tup [])) g (.tup [.ref ra])) li (.lst [.ref e,.ref g])) g=some (.tup [.ref ra]):=k3.tups _ _ Z3
   have hli3:(Zq (Zq (Zq H2 e (.tup [])) g (.tup [.ref ra])) li (.lst [.ref e,.ref g])) li=some (.lst [.ref e,.ref g]):=Z3
   generalize Zq (Zq (Zq H2 e (.tup [])) g (.tup [.ref ra])) li (.lst [.ref e,.ref g])=H3 at *
   by_cases z:k=2
   ·subst z
    refine⟨li,_,_,_,rfl,rfl,SqL.of hli3,rfl,⟨sz,fun fa hfa=>?_⟩⟩
    have k4:=Gro.new (S:=[]) hfa (.tup [.int r.1,.int r.2,.ref g])
    refine⟨Paired.snoc1 (Yh (kk.trans k4).tups hy) ⟨fa,.ref g,rfl,Z3,g,[.ref ra],rfl,k4.tups _ _ hg3,.cons ⟨ra,rfl,(kk.trans k4).tups _ _ ha⟩ .nil⟩,by rw[List.length_append];show ys.length+1<=_;omega,g2.trans (kk.trans k4)⟩
   ·rw[if_neg (by intro y;have y':=of_decide_eq_true y;injection y' with y';omega)]
    refine⟨li,_,_,_,rfl,rfl,SqL.of hli3,rfl,⟨sz,fun fa hfa=>?_⟩⟩
    have k4:=Gro.new (S:=[]) hfa (.tup [.int r.1,.int r.2,.ref e])
    have ex:kX k r=(r.1,(r.2,[])):=by unfold kX;rw[if_neg z]
    rw[ex]
    refine⟨Paired.snoc1 (Yh (kk.trans k4).tups hy) ⟨fa,.ref e,rfl,Z3,e,[],rfl,k4.tups _ _ he3,.nil⟩,by rw[List.length_append];show ys.length+1<=_;omega,g2.trans (kk.trans k4)⟩
  ·rintro ds H2 ⟨hy,hyl,g2⟩ dl hdl
   rw[List.take_of_length_le (by omega)]at hy
   have hb2:BoxAt H2 b:=hb1.gro g2 (by simp)
   have ndb:=Z2g hb2 hdl
   have g3:=Gro.new (S:=[]) hdl (.lst ds)
   have hd3:(Zq H2 dl (.lst ds)) dl=some (.lst ds):=Z3
   have hb3:BoxAt (Zq H2 dl (.lst ds)) b:=hb2.new hdl
   have g13:=g2.trans g3
   have hds3:=Yh g3.tups hy
   generalize Zq H2 dl (.lst ds)=H3 at *
   refine Z7 rfl ⟨b,3,rfl,hb3,by decide,by decide,fun wy' H4 w0 w1 hb4 g4=>?_⟩
   obtain⟨wy,rfl⟩:∃wy:Nat,wy'=wy:=⟨wy'.toNat,by omega⟩
   refine⟨sz,fun pt hpt=>?_⟩
   have hl4:=g4.keep _ _ (g13.keep _ _ hl (by simp)) hlb
   have hd4:=g4.keep _ _ hd3 ndb
   have g5:=Gro.new (S:=[]) hpt (.lst [])
   have tm:=fun x ys h=>g5.tups x ys (g4.tups x ys (g13.tups x ys h))
   exact loop _ s' o t n k wy c pv l dl pt us ds rs nd L hk (by omega) ht hL hul (hP.mono tm) hF hiff (g5.keep _ _ hl4 (by simp)) (Yk tm hu) (g5.keep _ _ hd4 (by simp)) (Yh g5.tups (Yh g4.tups hds3)) Z3 (Za hl4 hpt) (Za hd4 hpt)
 have most:∀(H1:Hp) (s' o t:Str) (n:Int) (k:Nat) (pv:V) (l:Addr) (us:List V) (rs:List (Nat×Nat)),BoxAt H1 b->k<=3->t.length<=199->us.length<=201->PatAt H1 8 pv (kP s' o k)->RK k s' o t rs->n=t.length ->
   H1 l=some (.lst us)->l∉[b]->Paired (EnA H1) us (rs.map some) ->
   Az21 Ez [some (.ref a),some (.ref b),some (.str s'),some (.str o),some (.int n),some (.str t),some (.int k),some pv,some (.ref l),none,none,none,none,none,none,none,none] H1:=by
  intro H1 s' o t n k pv l us rs hb1 hk ht hul hP hR hn hl hlb hu
  obtain⟨c,hF,c1,c2⟩:=Zfw hR ht
  have hrl:us.length=rs.length:=by rw[Paired.length hu,List.length_map]
  have rest:∀nd:Int,nd=t.length+1+(if k=1 then rs.length else 0:Nat)->Az19 Ez [some (.ref a),some (.ref b),some (.str s'),some (.str o),some (.int n),some (.str t),some (.int k),some pv,some (.ref l),some (.int nd),none,none,none,none,none,none,none] H1:=by
   intro nd hnd
   refine Z7 rfl (Z7 rfl ⟨sz,fun li hli=>Z7 rfl ⟨b,4,rfl,hb1.new hli,by decide,by decide,fun j H2 j0 j1 hb2 g2=>?_⟩⟩)
   have nb:=Z2g hb1 hli
   have g1:=Gro.new (S:=[b]) hli (.lst [.int 0,.int (-1),.int 1,.int 500])
   have hli2:H2 li=some (.lst [.int 0,.int (-1),.int 1,.int 500]):=g2.keep _ _ Z3 nb
   have gg:=g1.trans g2
   have hl2:=gg.keep _ _ hl hlb
   have on:∀L:Int,1<=L->Az18 Ez [some (.ref a),some (.ref b),some (.str s'),some (.str o),some (.int n),some (.str t),some (.int k),some pv,some (.ref l),some (.int nd),some (.int L),none,none,none,none,none,none] H2:=by
    intro L hL
    refine Z7 rfl (Va rfl rfl (Z7 rfl ?_))
    by_cases z:(1:Int)<k
    ·refine Zj (decide_eq_true z) ?_
     refine due H2 s' o t n k c pv l us rs nd 1000000 hb2 hk ht (by decide) hul (hP.mono gg.tups) hF ?_ hl2 hlb (Yk gg.tups hu)
     have:=c2 (by omega)
     rw[if_neg (by omega)]at hnd
     constructor
     ·intro y;omega
     ·intro y;omega
    ·refine Zb (fun y=>z (of_decide_eq_true y)) ?_
     refine due H2 s' o t n k c pv l us rs nd L hb2 hk ht (by omega) hul (hP.mono gg.tups) hF ?_ hl2 hlb (Yk gg.tups hu)
     have:=c1 (by omega)
     have e:nd=(c:Int):=by rw[hnd,this];omega
     rw[e]
   have all:∀m:Int,1<=(if m>1 then m else 1):=fun m=>by split <;> omega
   rcases(show j=0∨j=1∨j=2∨j=3 by omega) with rfl | rfl | rfl | rfl
   ·exact⟨li,_,_,_,rfl,rfl,SqL.of hli2,rfl,Va rfl rfl ⟨_,_,rfl,on _ (all _)⟩⟩
   ·exact⟨li,_,_,_,rfl,rfl,SqL.of hli2,rfl,Va rfl rfl ⟨_,_,rfl,on _ (all _)⟩⟩
   ·exact⟨li,_,_,_,rfl,rfl,SqL.of hli2,rfl,Va rfl rfl ⟨_,_,rfl,on _ (all _)⟩⟩
   ·exact⟨li,_,_,_,rfl,rfl,SqL.of hli2,rfl,Va rfl rfl ⟨_,_,rfl,on _ (all _)⟩⟩
  refine Z7 rfl (Va rfl rfl ?_)
  by_cases e:k=1
  ·subst e
   refine Z7 rfl ⟨rfl,Z7 rfl (Zj (by decide) ?_)⟩
   refine Z7 rfl (Z7 rfl ⟨l,us,rfl,.inl (SqL.of hl),Va rfl rfl ?_⟩)
   refine rest _ ?_
   rw[if_pos rfl,hn,hrl]
  ·refine Z7 rfl ⟨rfl,Z7 rfl (Zb (by intro y;have y':=of_decide_eq_true y;injection y' with y';omega) ?_)⟩
   refine rest _ ?_
   rw[if_neg e,hn]
   omega
 have kind:∀(H1:Hp) (s' o t:Str) (n:Int),BoxAt H1 b->s'.length=1->o.length=1->t.length<=199->n=t.length ->
   Az23 Ez [some (.ref a),some (.ref b),some (.str s'),some (.str o),some (.int n),some (.str t),none,none,none,none,none,none,none,none,none,none,none] H1:=by
  intro H1 s' o t n hb1 hs ho ht hn
  refine Z7 rfl ⟨b,4,rfl,hb1,by decide,by decide,fun k' H2 k0 k1 hb2 g2=>?_⟩
  obtain⟨k,rfl⟩:∃k:Nat,k'=k:=⟨k'.toNat,by omega⟩
  refine Z7 rfl (Z7 rfl (Z7 rfl (Z7 rfl ⟨k,s',o,t,rfl,by omega,hs,ho,ht,fun tp pv l us rs H3 htp hP hl hu hul hR hln g3=>?_⟩)))
  refine⟨tp,_,rfl,SqT.of htp,rfl,_,_,rfl,_,_,rfl,rfl,?_⟩
  exact most H3 s' o t n k pv l us rs (hb2.gro g3 (by simp)) (by omega) ht hul hP hR hn hl (Z2g hb2 hln) hu
 have text:∀(H1:Hp) (s' o:Str) (n:Nat),BoxAt H1 b->s'.length=1->o.length=1->n<=199 ->
   Az24 Ez [some (.ref a),some (.ref b),some (.str s'),some (.str o),some (.int n),none,none,none,none,none,none,none,none,none,none,none,none] H1:=by
  intro H1 s' o n hb1 hs ho hn
  refine⟨rfl,Z7 rfl (Z7 rfl ⟨by omega,by omega,?_⟩)⟩
  refine Z5u (n:=n) (fun i ys H'=>(∃xs:List Str,ys=xs.map V.str/\xs.length=i/\∀x∈xs,x.length=1)/\BoxAt H' b) ⟨⟨[],rfl,rfl,by simp⟩,hb1⟩ (Yp (by omega)) (fun i ys H' ⟨⟨xs,e1,e2,_⟩,_⟩=>by rw[e1,List.length_map,e2];exact Nat.le_refl _) ?_ ?_
  ·rintro i ys H2 hi ⟨⟨xs,rfl,e2,e3⟩,hb2⟩
   have add:∀(y:Str) (H3:Hp),y.length=1->BoxAt H3 b->(∃xs':List Str,xs.map V.str++[V.str y]=xs'.map V.str/\xs'.length=i+1/\∀x∈xs',x.length=1)/\BoxAt H3 b:=fun y H3 hy hb3=>⟨⟨xs++[y],by simp,by simp[e2],fun x hx=>by
    rcases List.mem_append.mp hx with z | z
    ·exact e3 x z
    ·rw[List.mem_singleton.mp z];exact hy⟩,hb3⟩
   refine Z7 rfl (Z7 rfl ⟨sz,fun li hli=>Z7 rfl ⟨b,2,rfl,hb2.new hli,by decide,by decide,fun j H3 j0 j1 hb3 g3=>?_⟩⟩)
   have hli3:=g3.keep _ _ (Z3 (H:=H2) (a:=li) (o:=.lst [.str s',.str o])) (Z2g hb2 hli)
   rcases(show j=0∨j=1 by omega) with rfl | rfl
   ·exact⟨li,_,_,_,rfl,rfl,SqL.of hli3,rfl,add s' H3 hs hb3⟩
   ·exact⟨li,_,_,_,rfl,rfl,SqL.of hli3,rfl,add o H3 ho hb3⟩
  ·rintro ys H2 ⟨⟨xs,rfl,e2,e3⟩,hb2⟩ l hl
   have hs':=Z5n e3
   have e0:("":Str).length=0:=rfl
   refine⟨_,l,xs,rfl,rfl,SqL.of Z3,by rw[hs',e0];omega,?_⟩
   exact kind _ s' o _ n (hb2.new hl) hs ho (by rw[Z5v,hs'];omega) (by rw[Z5v,hs',e2])
 refine Z7 rfl ⟨b,94,rfl,hb0,by decide,by decide,fun c H1 c0 c1 hb1 g1=>⟨c,rfl,fun s' hs=>?_⟩⟩
 refine Z7 rfl ⟨b,94,rfl,hb1,by decide,by decide,fun c' H2 c0' c1' hb2 g2=>⟨c',rfl,fun o ho=>?_⟩⟩
 refine Z7 rfl (Z7 rfl ⟨rfl,Z7 rfl ?_⟩)
 by_cases e:s'=o
 ·exact Zj (decide_eq_true (by rw[e])) (q _)
 refine Zb (by intro y;have y':=of_decide_eq_true y;injection y' with y';exact e y') ?_
 refine Z7 rfl ⟨b,13,rfl,hb2,by decide,by decide,fun n1 H3 n10 n11 hb3 g3=>Z7 rfl ⟨b,200,rfl,hb3,by decide,by decide,fun n2 H4 n20 n21 hb4 g4=>⟨sz,fun li hli=>Z7 rfl ⟨b,2,rfl,hb4.new hli,by decide,by decide,fun j H5 j0 j1 hb5 g5=>?_⟩⟩⟩⟩
 have hli5:=g5.keep _ _ (Z3 (H:=H4) (a:=li) (o:=.lst [.int n1,.int n2])) (Z2g hb4 hli)
 obtain⟨m1,rfl⟩:∃n:Nat,n1=n:=⟨n1.toNat,by omega⟩
 obtain⟨m2,rfl⟩:∃n:Nat,n2=n:=⟨n2.toNat,by omega⟩
 rcases(show j=0∨j=1 by omega) with rfl | rfl
 ·exact⟨li,_,_,_,rfl,rfl,SqL.of hli5,rfl,text _ _ _ m1 hb5 hs ho (by omega)⟩
 ·exact⟨li,_,_,_,rfl,rfl,SqL.of hli5,rfl,text _ _ _ m2 hb5 hs ho (by omega)⟩
theorem Yi{x:Str}{st:Stmt}{ps:List Str}{f:Addr}{oc:Value}{od an:Option Addr}{osl:Array (Option Value)}{kV doc pm cdv ct:Value}(X:K.In h)(G:h.Ns mainGlobals mg)(a:W.nsIn K mainGlobals x=some (some (.ref f)))
  (l:K.lookup f=some ⟨oc,od,.func (W.fnOf x x (Xt st) (X4 st) (Z9 st) .none kV doc pm an cdv ct),osl⟩) (c:W.codeIn K cdv x=true) (k:W.keepIn K (.ref f)=true)
  (hb:∀(kV doc pm:Value) (an:Option Addr) (cdv ct:Value) (us:List Value),us.length=ps.length->bindArgs (W.fnOf x x (Xt st) (X4 st) (Z9 st) .none kV doc pm an cdv ct) ⟨us,[]⟩=pure (ps.zip us)):Def K mg x st ps :=
 ⟨f,_,J1 (st:=st) l c k,W.mg_of X G a,(J1 (st:=st) l c k).binds hb⟩
theorem Z3h{x:Str}{pl:Addr}{od:Option Addr}{n:Nat}{sl:Array (Option Value)}{x1 x2 x3 x4 x5 x6 x7:Str}{t1 t2 t3 t4 t5 t6 t7:Tok}(X:K.In h)(G:h.Ns mainGlobals mg)(a:W.nsIn K mainGlobals x=some (some (.ref pl)))(l:K.lookup pl=some ⟨.type "tuple",od,.seq #[.str x1 t1,.str x2 t2,.str x3 t3,.str x4 t4,.str x5 t5,.str x6 t6,.str x7 t7] n,sl⟩) :
  ∃pl,mg x=some (.ref pl)/\∀H,SqT K H pl [.str x1,.str x2,.str x3,.str x4,.str x5,.str x6,.str x7]:=⟨pl,W.mg_of X G a,fun H=>.inr ⟨_,_,n,l,rfl,rfl,sz,(.cons ⟨_,rfl⟩ (.cons ⟨_,rfl⟩ (.cons ⟨_,rfl⟩ (.cons ⟨_,rfl⟩ (.cons ⟨_,rfl⟩ (.cons ⟨_,rfl⟩ (.cons ⟨_,rfl⟩ .nil)))))))⟩⟩
theorem Zfq{l:W.OpenLaw}{w:World}{fa f:Addr}{oc:Value}{od an:Option Addr}{osl:Array (Option Value)}{kV doc pm cdv ct:Value}(X:K.In h)(G:h.Ns mainGlobals mg)(hfa:mg "law" = some (.ref fa))(a:W.nsIn K mainGlobals "law" = some (some (.ref f)))
  (lk:K.lookup f=some ⟨oc,od,.func (W.fnOf "law" "law" (Xt U7) (X4 U7) (Z9 U7) .none kV doc pm an cdv ct),osl⟩) (c:W.codeIn K cdv "law" = true) (k:W.keepIn K (.ref f)=true)
  (rest:∀(base:Heap) (f:Addr) (fd:FuncData),Fun K "law" "law" U7 f fd->FnOk l.prog w K mg base Wq 40 f fd ["_law_script"] (Z3z K)) :
  ∃fd:FuncData,(∀(s:Shared) (v:Value),BindsTo s fd ⟨[v],[]⟩ [("_law_script",v)])/\∀base:Heap,K.In base->base.Ns mainGlobals mg->FnOk l.prog w K mg base Wq 40 fa fd ["_law_script"] (Z3z K):=by
 have e:=hfa.symm.trans (W.mg_of X G a)
 cases e
 exact⟨W.fnOf "law" "law" (Xt U7) (X4 U7) (Z9 U7) .none kV doc pm an cdv ct,fun s v=>.of_eq rfl,fun base _ _=>rest base _ _ (J1 (st:=U7) lk c k)⟩
theorem Z75{w:World}{x:Str}{pl:Addr}{n:Nat}{h1 h2 h3 h4 h5:Int}{k1 k2 k3 k4 k5 v1 v2 v3 v4 v5:Str}{t1 t2 t3 t4 t5 u1 u2 u3 u4 u5:Tok}(X:K.In h)(G:h.Ns mainGlobals mg)(a:W.nsIn K mainGlobals x=some (some (.ref pl)))
  (l:K.lookup pl=some ⟨.type "dict",none,.dict #[⟨h1,.str k1 t1,.str v1 u1⟩,⟨h2,.str k2 t2,.str v2 u2⟩,⟨h3,.str k3 t3,.str v3 u3⟩,⟨h4,.str k4 t4,.str v4 u4⟩,⟨h5,.str k5 t5,.str v5 u5⟩] n,#[]⟩) (hd:(pl==sysModules)=false)
  (e:h1=PyData.keyHash w.params k1/\h2=PyData.keyHash w.params k2/\h3=PyData.keyHash w.params k3/\h4=PyData.keyHash w.params k4/\h5=PyData.keyHash w.params k5) (nd:([(.inr k1),(.inr k2),(.inr k3),(.inr k4),(.inr k5)]:List Us).Nodup) :
  ∃pl,mg x=some (.ref pl)/\Zf5 K w pl [(.inr k1,.str v1),(.inr k2,.str v2),(.inr k3,.str v3),(.inr k4,.str v4),(.inr k5,.str v5)] :=
 ⟨pl,W.mg_of X G a,Zcn l hd (.cons (Up e.1) (.cons (Up e.2.1) (.cons (Up e.2.2.1) (.cons (Up e.2.2.2.1) (.cons (Up e.2.2.2.2) .nil))))) nd⟩
theorem Za5{x:Str}{pl:Addr}{od:Option Addr}{n:Nat}{sl:Array (Option Value)}{x1 x2:Str}{t1 t2:Tok}(X:K.In h)(G:h.Ns mainGlobals mg)(a:W.nsIn K mainGlobals x=some (some (.ref pl)))(l:K.lookup pl=some ⟨.type "tuple",od,.seq #[.str x1 t1,.str x2 t2] n,sl⟩) :
  ∃pl,mg x=some (.ref pl)/\∀H,SqT K H pl [.str x1,.str x2]:=⟨pl,W.mg_of X G a,fun H=>.inr ⟨_,_,n,l,rfl,rfl,sz,(.cons ⟨_,rfl⟩ (.cons ⟨_,rfl⟩ .nil))⟩⟩
theorem Za4{x y:Str}{t:Tok}(X:K.In h)(G:h.Ns mainGlobals mg)(a:W.nsIn K mainGlobals x=some (some (.str y t))):∃t,mg x=some (.str y t):=⟨t,W.mg_of X G a⟩
structure SeekDefs(K:W.Frag)(mg:Str->Option Value)(CS:Addr):Prop where
 mg_:mg "Seeker" = some (.ref CS)
 tx:TxtS K CS
 mks:W.makesIn K CS=true
 kc:W.keepIn K (.ref CS)=true
 init:MDef K CS "__init__" "Seeker.__init__" X1 ["self","pattern","text","most"]
 from_:MDef K CS "first_from" "Seeker.first_from" Yv ["self","start"]
 at_:MDef K CS "find_at" "Seeker.find_at" X8 ["self","begin"]
theorem Zdc{C:Addr}(pg:W.plainGet K C Str.empty=true)(hd:W.hasDictIn K C=true)(po:W.plainOver K C=true)(sa:W.findIn K (.ref C) "__setattr__" = some (some (.builtin "object.__setattr__")))
  (a1:W.findIn K (.ref C) "rows" = some none) (a2:W.findIn K (.ref C) "text" = some none) (a3:W.findIn K (.ref C) "left" = some none):TxtS K C:=⟨⟨pg,hd,po,sa⟩,a1,a2,a3⟩
theorem Def.ownX{P:Program}{w:World}{base:Heap}{x:Str}{st:Stmt}{ps:List Str}{k:Nat}{sp:Sp}(D:Def K mg x st ps)(h:∀f fd,Fun K x x st f fd->FnOk P w K mg base (Z7w P w) k f fd ps sp):OwnX P w K mg base k x ps sp:=by
 obtain⟨f,fd,F,m,b⟩:=D.ex
 exact⟨f,fd,h f fd F,m,F.kp,b⟩
theorem MDef.ownX{P:Program}{w:World}{base:Heap}{C:Addr}{m qual:Str}{st:Stmt}{ps:List Str}{k:Nat}{sp:Sp}(D:MDef K C m qual st ps)(h:∀f fd,Fun K m qual st f fd->FnOk P w K mg base (Z7w P w) k f fd ps sp):OwnMX P w K mg base k C m ps sp:=by
 obtain⟨f,fd,F,M,b⟩:=D
 exact⟨f,fd,h f fd F,M,b⟩
theorem Zfj{N:Addr}{oc:Value}{od:Option Addr}{es:Array DictEntry}{n:Nat}{osl:Array (Option Value)}(l:K.lookup N=some ⟨oc,od,.dict es n,osl⟩)(hs:(es.toList.all fun e=>match e.key with | .str _ _=>true | _=>false)=true):∀h,K.In h->h.Ns N (nsFind es):=fun h X=>by
 refine⟨_,es,n,X _ _ l,rfl,fun e he=>?_,fun _=>rfl⟩
 have:=List.all_eq_true.mp hs e (by simpa using he)
 cases hk:e.key with
 |str y t=>exact⟨y,t,rfl⟩
 |_=>rw[hk]at this;cases this
theorem Zfc{x:Str}{C C' N N':Addr}{nm q:Str}{bs:List Value}{hdct:Bool}{sn:List Str}{sub:List Value}{ab:Bool}{col:Option Bool}{dd:Option Addr}{k0 k1 k2 k3 k5:Option Value}{oc oc' c0':Value}{od od' dd':Option Addr}{es es':Array DictEntry}{n n':Nat}{osl osl' sl':Array (Option Value)}{nm' q':Str}{bs' mr':List Value}{hdct':Bool}{sn':List Str}{sub':List Value}{ab' hd':Bool}{col':Option Bool}
  (X:K.In h) (G:h.Ns mainGlobals mg) (a:W.nsIn K mainGlobals x=some (some (.ref C))) (l:K.lookup C=some ⟨.type "type",dd,.cls ⟨nm,bs,[.ref C,.ref C',.type "ValueError",.type "Exception",.type "BaseException",.type "object"],N,q,hdct,sn,sub,ab,col,false⟩,#[k0,k1,k2,k3,some (.builtin "ValueError.__new__"),k5]⟩) (ln:K.lookup N=some ⟨oc,od,.dict es n,osl⟩) (l':K.lookup C'=some ⟨c0',dd',.cls ⟨nm',bs',mr',N',q',hdct',sn',sub',ab',col',hd'⟩,sl'⟩) (ln':K.lookup N'=some ⟨oc',od',.dict es' n',osl'⟩)
  (s1:(es.toList.all fun e=>match e.key with | .str _ _=>true | _=>false)=true) (s2:(es'.toList.all fun e=>match e.key with | .str _ _=>true | _=>false)=true) (i1:nsFind es "__init__" = none) (i2:nsFind es' "__init__" = none):∃C C',XC K mg x C C' :=
 ⟨C,C',W.mg_of X G a,nm,q,N,bs,hdct,sn,sub,ab,col,dd,k0,k1,k2,k3,k5,es,l,Zfj ln s1,i1,fun h' X'=>.own (X' _ _ l') (Zfj ln' s2 h' X') i2 .base⟩
structure PDefs(K:W.Frag)(mg:Str->Option Value):Prop where
 coded:Def K mg "coded" Z17 ["pattern"]
 put:Def K mg "put" Z67 ["rows","pattern"]
 hold_place:Def K mg "hold_place" W2 ["rows"]
 put_or:Def K mg "put_or" Uk ["rows","branches"]
 put_times:Def K mg "put_times" Wg ["rows","low","high","how","part"]
 put_have:Def K mg "put_have" V7 ["rows","number","yes","no"]
 put_look:Def K mg "put_look" V6 ["rows","kind","part"]
 takes_sign:Def K mg "takes_sign" Xc ["row","text","at"]
 lies_in:Def K mg "lies_in" V2 ["runs","sign"]
 with_entry:Def K mg "with_entry" Xb ["groups","number","begin","end"]
structure LDefs(K:W.Frag)(mg:Str->Option Value):Prop where
 all_finds:Def K mg "all_finds" Vi ["pattern","text","most"]
 parted:Def K mg "parted" J9 ["pattern","text","most"]
 replaced:Def K mg "replaced" Vy ["pattern","text","form","most"]
 around:Def K mg "texts_around" Xw ["text","finds"]
 parts_of:Def K mg "parts_of" Vz ["pattern"]
 groups_in:Def K mg "groups_in" Wh ["pattern"]
 form_pieces:Def K mg "form_pieces" Wb ["form","groups"]
 marked_piece:Def K mg "marked_piece" Xx ["sign","groups"]
 filled:Def K mg "filled" Ul ["pieces","text","find"]
 taken_text:Def K mg "taken_text" Wt ["number","text","find"]
theorem Z4c{P:Program}{w:World}{base:Heap}{x:Str}{st:Stmt}{ps:List Str}{sp:Nat->Sp}(D:Def K mg x st ps)(no:∀vs H Q E,¬sp 0 vs H Q E)(step:∀n f fd,Own P w K mg base (2+n) x ps (sp n)->Fun K x x st f fd->FnOk P w K mg base Wq (2+n+1) f fd ps (sp (n+1))) :
  ∀n,Own P w K mg base (2+n) x ps (sp n)
 |0=>D.own fun f fd F=>FnOk.never no
 |n+1=>D.own fun f fd F=>step n f fd (Z4c D no step n) F
theorem Zh6{P:Program}{w:World}{it le ls C CS dn plA CE CO CN' CE':Addr}{t1:Tok}{ds:List (Us×V)}(T:Blt mg)(Vx:mg "ITSELF" = some (.ref it))(hIT:∀H,SqT K H it J0)(Wa:mg "LEANING" = some (.ref le))(hLE:∀H,SqT K H le V1)(X7:mg "LAST_ROWS" = some (.ref ls))(hLS:Zf5 K w ls V9)
  (MA:MachDefsA K mg C) (SD:SeekDefs K mg CS) (Uq:mg "DOINGS" = some (.ref dn)) (hDN:Zf5 K w dn ds) (DD:DoingsA K ds) (PD:PDefs K mg) (LD:LDefs K mg) (Zcx:mg "zip" = none) (Z22:mg "DIGITS" = some (.str digS t1)) (Uj:mg "PART_LAST" = some (.ref plA)) (hPL:∀H,SqT K H plA W9)
  (d1:Def K mg "_law_take" Jb ["_law_box","_law_many"]) (d2:Def K mg "_law_sign" Jc ["_law_cell"]) (d3:Def K mg "_law_alike" V3 ["_law_found","_law_due"]) (d4:Def K mg "_law_told" Ja ["_law_way","_law_p","_law_text","_law_most","_law_form"]) (d5:Def K mg "_law_runs_of" Vf ["_law_text","_law_one"]) (d6:Def K mg "_law_of_kind" X6 ["_law_kind","_law_one","_law_other","_law_text"])
  (xn:XC K mg "NoForm" CN' CE') (xc:XC K mg "Over" CO CE)
  (base:Heap) (f:Addr) (fd:FuncData) (F:Fun K "law" "law" U7 f fd):FnOk P w K mg base Wq 40 f fd ["_law_script"] (Z3z K):=by
 have noA:∀vs H Q E,¬Z2j 0 vs H Q E:=fun vs H Q E ⟨x,y,_,hp,_⟩=>hp.elim
 have al:=Z4c (P:=P) (w:=w) (base:=base) (sp:=Z2j) d3 noA (fun n f fd O F=>Zcf T O F)
 have am:=Zb0 T d3 al
 have pu:=Z8b (P:=P) (w:=w) (base:=base) T Vx hIT Wa hLE X7 hLS PD.put PD.hold_place PD.put_or PD.put_times PD.put_have PD.put_look 8
 have co:Own P w K mg base 27 "coded" ["pattern"] Z48:=PD.coded.own fun _ _ F=>Zbb T pu F
 have ta:Own P w K mg base 1 "_law_take" ["_law_box","_law_many"] Z7e:=d1.own fun _ _ F=>Ze4 F
 have sg:Own P w K mg base 1 "_law_sign" ["_law_cell"] Z7f:=d2.own fun _ _ F=>Ze5 F
 have wc:=Zay (P:=P) (w:=w) (base:=base) T MA Uq hDN DD PD.takes_sign PD.lies_in PD.with_entry
 have fa:OwnMX P w K mg base 7 CS "find_at" ["self","begin"] (Z7l CS CO):=SD.at_.ownX fun _ _ F=>Zec MA.base_.tx SD.tx xc (Zaz T MA.base_) wc (Z9o MA.base_) F
 have fr:OwnMX P w K mg base 8 CS "first_from" ["self","start"] (Z47 CS CO):=SD.from_.ownX fun _ _ F=>Zb8 T SD.tx fa F
 obtain⟨fi,fdi,Fi,Mi,bi⟩:=SD.init
 have si:OwnC P w K mg base 28 CS "Seeker" ["self","pattern","text","most"] (Z43 CS):=⟨fi,fdi,Zb4 SD.tx co Fi,⟨SD.mks,Mi.at_,Mi.fn,SD.kc⟩,SD.mg_,bi⟩
 have fs:OwnX P w K mg base 30 "all_finds" ["pattern","text","most"] (Z25 CO):=LD.all_finds.ownX fun _ _ F=>Zee SD.tx si fr F
 have ar:Own P w K mg base 1 "texts_around" ["text","finds"] J7:=LD.around.own fun _ _ F=>Z9u F
 have pt:OwnX P w K mg base 31 "parted" ["pattern","text","most"] (Z45 CO):=LD.parted.ownX fun _ _ F=>Zb6 fs ar F
 have po:Own P w K mg base 1 "parts_of" ["pattern"] Z02:=LD.parts_of.own fun _ _ F=>Z53 Uj hPL F
 have noG:∀vs H Q E,¬Zjq 0 vs H Q E:=fun vs H Q E h=>by obtain⟨v,p,_,hp,_⟩:=h;exact hp.elim
 have gi:=Z4c (P:=P) (w:=w) (base:=base) (sp:=Zjq) LD.groups_in noG (fun n f fd O F=>Z3t T po O F)
 have mp:OwnX P w K mg base 1 "marked_piece" ["sign","groups"] (Z7g CN'):=LD.marked_piece.ownX fun _ _ F=>Ze7 T Z22 xn F
 have fp:OwnX P w K mg base 2 "form_pieces" ["form","groups"] (Z7j CN'):=LD.form_pieces.ownX fun _ _ F=>Zea T mp F
 have tk:Own P w K mg base 1 "taken_text" ["number","text","find"] Zct:=LD.taken_text.own fun _ _ F=>Zh0 F
 have fl:Own P w K mg base 2 "filled" ["pieces","text","find"] Z7k:=LD.filled.own fun _ _ F=>Zeb T tk F
 have rp:OwnX P w K mg base 31 "replaced" ["pattern","text","form","most"] (Z44 CO):=LD.replaced.ownX fun _ _ F=>Zb5 T Zcx fp (gi 8) fs ar fl F
 have tl:Own P w K mg base 32 "_law_told" ["_law_way","_law_p","_law_text","_law_most","_law_form"] Z7d:=d4.own fun _ _ F=>Ze3 T xc fs pt rp F
 have rn:Own P w K mg base 1 "_law_runs_of" ["_law_text","_law_one"] Zhv:=d5.own fun _ _ F=>Ziu T F
 have kd:Own P w K mg base 2 "_law_of_kind" ["_law_kind","_law_one","_law_other","_law_text"] Zhw:=d6.own fun _ _ F=>Ziv T rn F
 exact Zh2 T ta sg am tl kd F
end
theorem Zk6{l:W.OpenLaw}{q:Program}{loose:List Str}{XP:(Str->Option Value)->Heap->Prop}{YP:World->Heap->Prop}{d:DefRec}{K:Params->W.Frag}(hn:l.most=some 63)(hdf:d.params.defaults=[])
  (hY:∀(w:World) (h:Heap),YP w h->(K w.params).In h)
  (F:∀(w:World) (mg:Str->Option Value) (fa:Addr) (h:Heap),(K w.params).In h->h.Ns mainGlobals mg->mg d.name=some (.ref fa) ->
   ∃fd:FuncData,(∀(s:Shared) (u:Value),BindsTo s fd ⟨[u],[]⟩ [("_law_script",u)])/\∀base:Heap,(K w.params).In base->base.Ns mainGlobals mg->FnOk l.prog w (K w.params) mg base Wq 40 fa fd ["_law_script"] (Z3z (K w.params))) :
  W.WalkO q loose XP YP l.row.toRowW d [] (fun f vs=>PySem.call f vs) :=
 Zda (n:=63) (k:=40) (x:="_law_script") (CX:=fun _=>Wq) (sp:=fun w=>Z3z (K w.params)) hn (by decide) hdf ⟨rfl,by decide,by decide⟩ hY F (fun _ _ a ns hl _ hS=>⟨a,ns,rfl,hS,hl,fun _=>rfl⟩) fun _ _ _ _ _ z=>z
end Seek
namespace PySem.W.Fast
def tw4628578627227108633:=0
def tw3043975736006643630:=0
def tw18321506072113440002:=0
def tw1290669510923670191:=0
def tw16190102319690951218:=0
def tw14680949813916644947:=0
def tw15988312583972207541:=0
def tw12612143169373660567:=0
def tw4081286441614341058:=0
def tw12561544544869712332:=0
def tw3554734559132689846:=0
def tw15343778504985457866:=0
def tw1093263191339203055:=0
def tw703505397334311433:=0
def tw15602944653278201022:=0
def tw9014252546075595979:=0
def tw16138213118933961661:=0
def tw17595121618494706238:=0
def tw6502050384366285112:=0
def tw6976213619760885109:=0
def tw6975399277958228853:=0
def tw14418345047076166114:=0
def tw4367102553657718175:=0
def tw14257631118845542100:=0
def tw15066638587524064386:=0
def tw17551954665578999709:=0
def tw16599833094503083435:=0
def tw16970869956901807473:=0
def tw2830670860169432477:=0
def tw1055289123592163608:=0
def tw8935483758309147464:=0
def tw17969601594339018815:=0
def tw3628709741477655163:=0
def tw15982255544047441799:=0
def tw11601598210074785785:=0
def tw9419330293053233411:=0
def tw8992551296847298350:=0
def tw5276285869366608379:=0
def tw15767566115550926586:=0
def tw710744091555087025:=0
def tw17724424509647853260:=0
def tw7931815561949151292:=0
def tw295381194860733820:=0
def tw15964648039103448224:=0
def tw8837368568571376794:=0
def tw11503143878872336316:=0
def tw5028612530389935561:=0
def tw2411703387945744682:=0
def tw7366804258137050797:=0
def tw6846431654971903458:=0
def tw13048322779767585525:=0
def tw8385316170308854339:=0
def tw3382291744673422991:=0
def tw10359099953662227918:=0
def tw9319057176987268615:=0
def tw5253056715105240314:=0
def tw10553602494803298698:=0
def tw3650677925117480594:=0
def tw11862811698388636469:=0
def tw3593569234896062127:=0
def tw2363171770597573397:=0
def tw1470729772381361427:=0
def tw8890878131759437429:=0
def tw13262170754714720307:=0
def tw16975244369180991813:=0
def tw15622910480330711930:=0
def tw16783817062402697829:=0
def tw1546070123434374382:=0
def tw2338669228068184014:=0
def tw5527315893580713742:=0
def tw2634183961330229873:=0
def tw5591723422830393731:=0
def tw16767325036534549674:=0
def tw2036844232207277157:=0
def tw12189318934383918356:=0
def tw9465771023982145640:=0
def tw3105434727146456570:=0
def tw13680613602581218211:=0
def tw16235121472594251238:=0
def tw3718982146149162316:=0
def tw15572306623003066141:=0
def tw15091040740390895602:=0
def tw7723548682684286747:=0
def tw14595187566234600229:=0
def tw14754973643977453447:=0
def tw4183958247278701794:=0
def tw11140239610086358192:=0
def tw5442467872273804557:=0
def tw8308988542996825265:=0
def tw9798706477412855171:=0
def tw13208263031878338004:=0
def tw44201936011262915:=0
def tw15447158611998351181:=0
def tw2151137041175411324:=0
def tw16223659215161866064:=0
def tw5985958162475542856:=0
def tw4249628108563082830:=0
def tw11596119860264233375:=0
def tw15455523415326569577:=0
def tw16477005301887766559:=0
def tw18411862409929024448:=0
def tw5696917498791485199:=0
def tw16156093690086996417:=0
def tw6328020449653377289:=0
def tw16426938852488273199:=0
def tw4860832669068223801:=0
def tw12334009889088397374:=0
def tw18243289229575193541:=0
def tw8858426798241491714:=0
def tw11415285156515085264:=0
def tw165177381618395438:=0
def tw3689503871255095992:=0
def tw12228020342036562821:=0
def tw11714809953168730096:=0
def tw3724096412968809274:=0
def tw2258642201071365820:=0
def tw14818616112502715925:=0
def tw5152194363775179059:=0
def tw11020803328091068331:=0
def tw7101374229489558548:=0
def tw1547004675222087600:=0
def tw11570781587887106145:=0
def tw15769130592715776933:=0
def tw2320540473360240227:=0
def tw9632705639241563130:=0
def tw2613563295301834676:=0
def tw5258309162011803467:=0
def tw1697093363313510594:=0
def tw16760044433002614580:=0
def tw11902294947251209702:=0
def tw17347579093245366082:=0
def tw210151908659184074:=0
def tw17877707289928580885:=0
def tw8176633039470624693:=0
def tw2212979415710861083:=0
def tw5185729897942319911:=0
def tw13122278761675449654:=0
def tw13384241787842028470:=0
def tw591521156919024662:=0
def tw15868121074988518724:=0
def tw15217723883261321071:=0
def tw5218694981086513455:=0
def tw11217413731423330781:=0
def tw8114206971475825931:=0
def tw18324865686606407524:=0
def tw7081001563657452638:=0
def tw3880965795419557827:=0
def tw9349324891727129413:=0
def tw1360317512760470571:=0
def tw13364632769362413724:=0
def tw514958053419259092:=0
def tw12337704359599445740:=0
def tw9509570836317768307:=0
def tw14846784407324727587:=0
def tw3932768023546087355:=0
def tw5841165294921173287:=0
def tw14715806248601642821:=0
def tw16824941864575534006:=0
def tw7429396461809522322:=0
def tw18168403780361847601:=0
def tw15818861471858939050:=0
def tw16285835525242676635:=0
def tw666242817485673031:=0
def tw16391158900565439329:=0
def tw6196266191631956211:=0
def tw5680087050071252064:=0
def tw7904554371440287407:=0
def tw2927451060882945174:=0
def tw9808026128343307749:=0
def tw12358070892376667424:=0
def tw3683992419749391682:=0
def tw17715293806346209664:=0
def tw4090192566379431350:=0
def tw1430210981900345922:=0
def tw4545528747805706211:=0
def tw2497255437753427822:=0
def tw15208848387173566154:=0
def tw7212648530012368430:=0
def tw4639206985901657287:=0
def tw18239711824349707309:=0
def tw16265938133056212958:=0
def tw12254260695544466254:=0
def tw3630781302537965894:=0
def tw13697185688374019945:=0
def tw16341678751830388803:=0
def tw6517743391855656176:=0
def tw4233128626801334901:=0
def tw1803528702490674543:=0
def tw14910050741135037852:=0
def tw6906215959740204781:=0
def tw2600213651797440596:=0
def tw11213884532303937347:=0
def tw14011335441971235020:=0
def tw10713136910649188686:=0
def tw3778275904431342534:=0
def tw13539841846556421588:=0
def tw5124453256902497084:=0
def tw7197588718236941585:=0
def tw3951384152204976323:=0
def tw2005005638988311162:=0
def tw14241171961146048919:=0
def tw14243363198151967429:=0
def tw12552322593637622898:=0
def tw16977914005144557323:=0
def tw5744147641877165684:=0
def tw5245074834941680142:=0
def tw16995982741633008989:=0
def tw1310924395629357285:=0
def tw10177037337163543029:=0
def tw5995286737335987369:=0
def tw13782153436430616328:=0
def tw3298705548832284038:=0
def tw13860132694933987707:=0
def tw17014255382940609952:=0
def tw3546141419384270066:=0
def tw7226830457782701879:=0
def tw4704351125688675766:=0
def tw3759241529135630906:=0
def tw8438138809325845879:=0
def tw2169790439597898969:=0
def tw17754297242328679873:=0
def tw6860773041723678515:=0
def tw17144365790965372890:=0
def tw10882039562674040569:=0
def tw10290640344307149066:=0
def tw2119859894613638290:=0
def tw13035271633089763224:=0
end PySem.W.Fast
open PySem PySem.W PyProof.Rows Seek L2
set_option maxRecDepth 100000 in
set_option maxHeartbeats 0 in
theorem PySem.Challenge.cw_seek_k28_whole_many_finds_holds : PySem.Challenge.rw_seek_k28_whole_many_finds.Holds := by
 w_on;o_law;k_head;(case hw=>w_witness2)
 k_fill
 refine Zk6 (l:=PySem.Challenge.rw_seek_k28_whole_many_finds) rfl rfl (fun w h Y=>W.kIn_of Y) ?F
 case F =>
  intro w mg fa h KX G hmg
  have z:∀ {x:Str} {K:W.Frag},K.In h->W.nsIn K mainGlobals x=some none->mg x=none:=fun X e=>W.mg_none_of X G e
  have T:Seek.Blt mg:=by
   refine'⟨z KX ?b1,z KX ?b2,z KX ?b3,z KX ?b4,z KX ?b5,z KX ?b6,z KX ?b7,z KX ?b8,z KX ?b9,z KX ?b10,z KX ?b11,z KX ?b12,z KX ?b13⟩
   (case b1=>k_is);(case b2=>k_is);(case b3=>k_is);(case b4=>k_is);(case b5=>k_is);(case b6=>k_is);(case b7=>k_is);(case b8=>k_is);(case b9=>k_is);(case b10=>k_is);(case b11=>k_is);(case b12=>k_is);(case b13=>k_is)
  have mc:∃C,Seek.MachDefsA (Z8z KX) mg C:=by
   dsimp only[Z8z]
   exact(by
   refine'⟨_,⟨⟨W.mg_of KX G ?aC,Zfp ?pg ?hd ?po ?sa ?na1 ?na2 ?na3 ?na4 ?na5 ?na6 ?na7 ?na8 ?na9 ?na10,?mk,?kc,Xj (m:="__init__") (qual:="Machine.__init__") (st:=Ym) (ps:=["self","rows","text","at"]) ?m0a ?m0i ?m0l ?m0c ?m0k (fun _ _ _ _ _ _ us hl=>match us,hl with | [_,_,_,_],_=>rfl),Xj (m:="way") (qual:="Machine.way") (st:=Wc) (ps:=["self","most"]) ?m1a ?m1i ?m1l ?m1c ?m1k (fun _ _ _ _ _ _ us hl=>match us,hl with | [_,_],_=>rfl),Xj (m:="moves") (qual:="Machine.moves") (st:=Xm) (ps:=["self"]) ?m2a ?m2i ?m2l ?m2c ?m2k (fun _ _ _ _ _ _ us hl=>match us,hl with | [_],_=>rfl),Xj (m:="move") (qual:="Machine.move") (st:=Xy) (ps:=["self"]) ?m3a ?m3i ?m3l ?m3c ?m3k (fun _ _ _ _ _ _ us hl=>match us,hl with | [_],_=>rfl),Xj (m:="enter") (qual:="Machine.enter") (st:=Xo) (ps:=["self","state"]) ?m4a ?m4i ?m4l ?m4c ?m4k (fun _ _ _ _ _ _ us hl=>match us,hl with | [_,_],_=>rfl),Xj (m:="go_back") (qual:="Machine.go_back") (st:=X2) (ps:=["self"]) ?m5a ?m5i ?m5l ?m5c ?m5k (fun _ _ _ _ _ _ us hl=>match us,hl with | [_],_=>rfl)⟩,Xj (m:="hold") (qual:="Machine.hold") (st:=W0) (ps:=["self","number"]) ?m10a ?m10i ?m10l ?m10c ?m10k (fun _ _ _ _ _ _ us hl=>match us,hl with | [_,_],_=>rfl),Xj (m:="let_go") (qual:="Machine.let_go") (st:=X9) (ps:=["self"]) ?m11a ?m11i ?m11l ?m11c ?m11k (fun _ _ _ _ _ _ us hl=>match us,hl with | [_],_=>rfl),Xj (m:="drop_choices") (qual:="Machine.drop_choices") (st:=Yj) (ps:=["self","size"]) ?m12a ?m12i ?m12l ?m12c ?m12k (fun _ _ _ _ _ _ us hl=>match us,hl with | [_,_],_=>rfl),Xj (m:="entry") (qual:="Machine.entry") (st:=Xn) (ps:=["self","number"]) ?m13a ?m13i ?m13l ?m13c ?m13k (fun _ _ _ _ _ _ us hl=>match us,hl with | [_,_],_=>rfl)⟩⟩
   (case aC=>k_is);(case pg=>k_is);(case hd=>k_is);(case po=>k_is);(case sa=>k_is);(case na1=>k_is);(case na2=>k_is);(case na3=>k_is);(case na4=>k_is);(case na5=>k_is);(case na6=>k_is);(case na7=>k_is);(case na8=>k_is);(case na9=>k_is);(case na10=>k_is);(case mk=>k_is);(case kc=>k_is);(case m0a=>k_is);(case m0i=>k_is);(case m0l=>k_is);(case m0c=>k_is);(case m0k=>k_is);(case m1a=>k_is);(case m1i=>k_is);(case m1l=>k_is);(case m1c=>k_is);(case m1k=>k_is);(case m2a=>k_is);(case m2i=>k_is);(case m2l=>k_is);(case m2c=>k_is);(case m2k=>k_is);(case m3a=>k_is);(case m3i=>k_is);(case m3l=>k_is);(case m3c=>k_is);(case m3k=>k_is);(case m4a=>k_is);(case m4i=>k_is);(case m4l=>k_is);(case m4c=>k_is);(case m4k=>k_is);(case m5a=>k_is);(case m5i=>k_is);(case m5l=>k_is);(case m5c=>k_is);(case m5k=>k_is);(case m10a=>k_is);(case m10i=>k_is);(case m10l=>k_is);(case m10c=>k_is);(case m10k=>k_is);(case m11a=>k_is);(case m11i=>k_is);(case m11l=>k_is);(case m11c=>k_is);(case m11k=>k_is);(case m12a=>k_is);(case m12i=>k_is);(case m12l=>k_is);(case m12c=>k_is);(case m12k=>k_is);(case m13a=>k_is);(case m13i=>k_is);(case m13l=>k_is);(case m13c=>k_is);(case m13k=>k_is))
  have dc:∃dn ds,mg "DOINGS" = some (.ref dn)/\Zf5 (Z8z KX) w dn ds/\Seek.DoingsA (Z8z KX) ds:=by
   dsimp only[Z8z]
   exact(by
   refine'⟨_,_,W.mg_of KX G ?da,Zcn ?dl ?dd ?dp ?dn,?dq⟩
   (case da=>k_is);(case dl=>k_is);(case dd=>decide);(case dp=>exact .cons (Y3 rfl) (.cons (Y3 rfl) (.cons (Y3 rfl) (.cons (Y3 rfl) (.cons (Y3 rfl) (.cons (Y3 rfl) (.cons (Y3 rfl) (.cons (Y3 rfl) (.cons (Y3 rfl) (.cons (Y3 rfl) (.cons (Y3 rfl) (.cons (Y3 rfl) (.cons (Y3 rfl) (.cons (Y3 rfl) (.cons (Y3 rfl) (.cons (Y3 rfl) (.cons (Y3 rfl) (.cons (Y3 rfl) (.cons (Y3 rfl) (.cons (Y3 rfl) (.cons (Y3 rfl) (.cons (Y3 rfl) (.cons (Y3 rfl) (.nil))))))))))))))))))))))));(case dn=>decide +kernel)
   refine'⟨?w1,?w2,?w3,?w4,?w5,?w6,?w7,?w8,?w9,?w10,?w11,?w12,?w13,?w14,?w15,?w16,?w17,?w18,?w19,?w20,?w21,?w22,?w23⟩
   (case w1=>refine' Xl (x:="do_sign") (st:=Yy) (ps:=["machine","row"]) ?v ?l ?c ?k (fun _ _ _ _ _ _ us hl=>match us,hl with | [_,_],_=>rfl);(case v=>with_unfolding_all rfl);(case l=>k_is);(case c=>k_is);(case k=>k_is))
   (case w2=>refine' Xl (x:="do_sign") (st:=Yy) (ps:=["machine","row"]) ?v ?l ?c ?k (fun _ _ _ _ _ _ us hl=>match us,hl with | [_,_],_=>rfl);(case v=>with_unfolding_all rfl);(case l=>k_is);(case c=>k_is);(case k=>k_is))
   (case w3=>refine' Xl (x:="do_sign") (st:=Yy) (ps:=["machine","row"]) ?v ?l ?c ?k (fun _ _ _ _ _ _ us hl=>match us,hl with | [_,_],_=>rfl);(case v=>with_unfolding_all rfl);(case l=>k_is);(case c=>k_is);(case k=>k_is))
   (case w4=>refine' Xl (x:="do_sign") (st:=Yy) (ps:=["machine","row"]) ?v ?l ?c ?k (fun _ _ _ _ _ _ us hl=>match us,hl with | [_,_],_=>rfl);(case v=>with_unfolding_all rfl);(case l=>k_is);(case c=>k_is);(case k=>k_is))
   (case w5=>refine' Xl (x:="do_begin") (st:=U2) (ps:=["machine","row"]) ?v ?l ?c ?k (fun _ _ _ _ _ _ us hl=>match us,hl with | [_,_],_=>rfl);(case v=>with_unfolding_all rfl);(case l=>k_is);(case c=>k_is);(case k=>k_is))
   (case w6=>refine' Xl (x:="do_end") (st:=Je) (ps:=["machine","row"]) ?v ?l ?c ?k (fun _ _ _ _ _ _ us hl=>match us,hl with | [_,_],_=>rfl);(case v=>with_unfolding_all rfl);(case l=>k_is);(case c=>k_is);(case k=>k_is))
   (case w7=>refine' Xl (x:="do_again") (st:=U3) (ps:=["machine","row"]) ?v ?l ?c ?k (fun _ _ _ _ _ _ us hl=>match us,hl with | [_,_],_=>rfl);(case v=>with_unfolding_all rfl);(case l=>k_is);(case c=>k_is);(case k=>k_is))
   (case w8=>refine' Xl (x:="do_try") (st:=Jd) (ps:=["machine","row"]) ?v ?l ?c ?k (fun _ _ _ _ _ _ us hl=>match us,hl with | [_,_],_=>rfl);(case v=>with_unfolding_all rfl);(case l=>k_is);(case c=>k_is);(case k=>k_is))
   (case w9=>refine' Xl (x:="do_go") (st:=Z16) (ps:=["machine","row"]) ?v ?l ?c ?k (fun _ _ _ _ _ _ us hl=>match us,hl with | [_,_],_=>rfl);(case v=>with_unfolding_all rfl);(case l=>k_is);(case c=>k_is);(case k=>k_is))
   (case w10=>refine' Xl (x:="do_have") (st:=T2) (ps:=["machine","row"]) ?v ?l ?c ?k (fun _ _ _ _ _ _ us hl=>match us,hl with | [_,_],_=>rfl);(case v=>with_unfolding_all rfl);(case l=>k_is);(case c=>k_is);(case k=>k_is))
   (case w11=>refine' Xl (x:="do_hold") (st:=V4) (ps:=["machine","row"]) ?v ?l ?c ?k (fun _ _ _ _ _ _ us hl=>match us,hl with | [_,_],_=>rfl);(case v=>with_unfolding_all rfl);(case l=>k_is);(case c=>k_is);(case k=>k_is))
   (case w12=>refine' Xl (x:="do_hold") (st:=V4) (ps:=["machine","row"]) ?v ?l ?c ?k (fun _ _ _ _ _ _ us hl=>match us,hl with | [_,_],_=>rfl);(case v=>with_unfolding_all rfl);(case l=>k_is);(case c=>k_is);(case k=>k_is))
   (case w13=>refine' Xl (x:="do_close") (st:=U1) (ps:=["machine","row"]) ?v ?l ?c ?k (fun _ _ _ _ _ _ us hl=>match us,hl with | [_,_],_=>rfl);(case v=>with_unfolding_all rfl);(case l=>k_is);(case c=>k_is);(case k=>k_is))
   (case w14=>refine' Xl (x:="do_turn") (st:=Uw) (ps:=["machine","row"]) ?v ?l ?c ?k (fun _ _ _ _ _ _ us hl=>match us,hl with | [_,_],_=>rfl);(case v=>with_unfolding_all rfl);(case l=>k_is);(case c=>k_is);(case k=>k_is))
   (case w15=>refine' Xl (x:="do_next") (st:=Uy) (ps:=["machine","row"]) ?v ?l ?c ?k (fun _ _ _ _ _ _ us hl=>match us,hl with | [_,_],_=>rfl);(case v=>with_unfolding_all rfl);(case l=>k_is);(case c=>k_is);(case k=>k_is))
   (case w16=>refine' Xl (x:="do_once") (st:=Ux) (ps:=["machine","row"]) ?v ?l ?c ?k (fun _ _ _ _ _ _ us hl=>match us,hl with | [_,_],_=>rfl);(case v=>with_unfolding_all rfl);(case l=>k_is);(case c=>k_is);(case k=>k_is))
   (case w17=>refine' Xl (x:="do_kept") (st:=T0) (ps:=["machine","row"]) ?v ?l ?c ?k (fun _ _ _ _ _ _ us hl=>match us,hl with | [_,_],_=>rfl);(case v=>with_unfolding_all rfl);(case l=>k_is);(case c=>k_is);(case k=>k_is))
   (case w18=>refine' Xl (x:="do_peeked") (st:=Vg) (ps:=["machine","row"]) ?v ?l ?c ?k (fun _ _ _ _ _ _ us hl=>match us,hl with | [_,_],_=>rfl);(case v=>with_unfolding_all rfl);(case l=>k_is);(case c=>k_is);(case k=>k_is))
   (case w19=>refine' Xl (x:="do_bar") (st:=Jf) (ps:=["machine","row"]) ?v ?l ?c ?k (fun _ _ _ _ _ _ us hl=>match us,hl with | [_,_],_=>rfl);(case v=>with_unfolding_all rfl);(case l=>k_is);(case c=>k_is);(case k=>k_is))
   (case w20=>refine' Xl (x:="do_barred") (st:=Vh) (ps:=["machine","row"]) ?v ?l ?c ?k (fun _ _ _ _ _ _ us hl=>match us,hl with | [_,_],_=>rfl);(case v=>with_unfolding_all rfl);(case l=>k_is);(case c=>k_is);(case k=>k_is))
   (case w21=>refine' Xl (x:="do_lean") (st:=Uz) (ps:=["machine","row"]) ?v ?l ?c ?k (fun _ _ _ _ _ _ us hl=>match us,hl with | [_,_],_=>rfl);(case v=>with_unfolding_all rfl);(case l=>k_is);(case c=>k_is);(case k=>k_is))
   (case w22=>refine' Xl (x:="do_here") (st:=T1) (ps:=["machine","row"]) ?v ?l ?c ?k (fun _ _ _ _ _ _ us hl=>match us,hl with | [_,_],_=>rfl);(case v=>with_unfolding_all rfl);(case l=>k_is);(case c=>k_is);(case k=>k_is))
   (case w23=>refine' Xl (x:="do_found") (st:=U0) (ps:=["machine","row"]) ?v ?l ?c ?k (fun _ _ _ _ _ _ us hl=>match us,hl with | [_,_],_=>rfl);(case v=>with_unfolding_all rfl);(case l=>k_is);(case c=>k_is);(case k=>k_is)))
  have sk:∃CS,Seek.SeekDefs (Z8z KX) mg CS:=by
   dsimp only[Z8z]
   exact(by
   refine'⟨_,⟨W.mg_of KX G ?aC,Zdc ?pg ?hd ?po ?sa ?na1 ?na2 ?na3,?mk,?kc,Xj (m:="__init__") (qual:="Seeker.__init__") (st:=X1) (ps:=["self","pattern","text","most"]) ?m0a ?m0i ?m0l ?m0c ?m0k (fun _ _ _ _ _ _ us hl=>match us,hl with | [_,_,_,_],_=>rfl),Xj (m:="first_from") (qual:="Seeker.first_from") (st:=Yv) (ps:=["self","start"]) ?m1a ?m1i ?m1l ?m1c ?m1k (fun _ _ _ _ _ _ us hl=>match us,hl with | [_,_],_=>rfl),Xj (m:="find_at") (qual:="Seeker.find_at") (st:=X8) (ps:=["self","begin"]) ?m2a ?m2i ?m2l ?m2c ?m2k (fun _ _ _ _ _ _ us hl=>match us,hl with | [_,_],_=>rfl)⟩⟩
   (case aC=>k_is);(case pg=>k_is);(case hd=>k_is);(case po=>k_is);(case sa=>k_is);(case na1=>k_is);(case na2=>k_is);(case na3=>k_is);(case mk=>k_is);(case kc=>k_is);(case m0a=>k_is);(case m0i=>k_is);(case m0l=>k_is);(case m0c=>k_is);(case m0k=>k_is);(case m1a=>k_is);(case m1i=>k_is);(case m1l=>k_is);(case m1c=>k_is);(case m1k=>k_is);(case m2a=>k_is);(case m2i=>k_is);(case m2l=>k_is);(case m2c=>k_is);(case m2k=>k_is))
  have p0:=(by
   refine' Yi (x:="coded") (st:=Z17) (ps:=["pattern"]) KX G ?a ?l ?c ?k (fun _ _ _ _ _ _ us hl=>match us,hl with | [_],_=>rfl)
   (case a=>k_is);(case l=>k_is);(case c=>k_is);(case k=>k_is))
  have p1:=(by
   refine' Yi (x:="put") (st:=Z67) (ps:=["rows","pattern"]) KX G ?a ?l ?c ?k (fun _ _ _ _ _ _ us hl=>match us,hl with | [_,_],_=>rfl)
   (case a=>k_is);(case l=>k_is);(case c=>k_is);(case k=>k_is))
  have p2:=(by
   refine' Yi (x:="hold_place") (st:=W2) (ps:=["rows"]) KX G ?a ?l ?c ?k (fun _ _ _ _ _ _ us hl=>match us,hl with | [_],_=>rfl)
   (case a=>k_is);(case l=>k_is);(case c=>k_is);(case k=>k_is))
  have p3:=(by
   refine' Yi (x:="put_or") (st:=Uk) (ps:=["rows","branches"]) KX G ?a ?l ?c ?k (fun _ _ _ _ _ _ us hl=>match us,hl with | [_,_],_=>rfl)
   (case a=>k_is);(case l=>k_is);(case c=>k_is);(case k=>k_is))
  have p4:=(by
   refine' Yi (x:="put_times") (st:=Wg) (ps:=["rows","low","high","how","part"]) KX G ?a ?l ?c ?k (fun _ _ _ _ _ _ us hl=>match us,hl with | [_,_,_,_,_],_=>rfl)
   (case a=>k_is);(case l=>k_is);(case c=>k_is);(case k=>k_is))
  have p5:=(by
   refine' Yi (x:="put_have") (st:=V7) (ps:=["rows","number","yes","no"]) KX G ?a ?l ?c ?k (fun _ _ _ _ _ _ us hl=>match us,hl with | [_,_,_,_],_=>rfl)
   (case a=>k_is);(case l=>k_is);(case c=>k_is);(case k=>k_is))
  have p6:=(by
   refine' Yi (x:="put_look") (st:=V6) (ps:=["rows","kind","part"]) KX G ?a ?l ?c ?k (fun _ _ _ _ _ _ us hl=>match us,hl with | [_,_,_],_=>rfl)
   (case a=>k_is);(case l=>k_is);(case c=>k_is);(case k=>k_is))
  have p7:=(by
   refine' Yi (x:="takes_sign") (st:=Xc) (ps:=["row","text","at"]) KX G ?a ?l ?c ?k (fun _ _ _ _ _ _ us hl=>match us,hl with | [_,_,_],_=>rfl)
   (case a=>k_is);(case l=>k_is);(case c=>k_is);(case k=>k_is))
  have p8:=(by
   refine' Yi (x:="lies_in") (st:=V2) (ps:=["runs","sign"]) KX G ?a ?l ?c ?k (fun _ _ _ _ _ _ us hl=>match us,hl with | [_,_],_=>rfl)
   (case a=>k_is);(case l=>k_is);(case c=>k_is);(case k=>k_is))
  have p9:=(by
   refine' Yi (x:="with_entry") (st:=Xb) (ps:=["groups","number","begin","end"]) KX G ?a ?l ?c ?k (fun _ _ _ _ _ _ us hl=>match us,hl with | [_,_,_,_],_=>rfl)
   (case a=>k_is);(case l=>k_is);(case c=>k_is);(case k=>k_is))
  have l0:=(by
   refine' Yi (x:="all_finds") (st:=Vi) (ps:=["pattern","text","most"]) KX G ?a ?l ?c ?k (fun _ _ _ _ _ _ us hl=>match us,hl with | [_,_,_],_=>rfl)
   (case a=>k_is);(case l=>k_is);(case c=>k_is);(case k=>k_is))
  have l1:=(by
   refine' Yi (x:="parted") (st:=J9) (ps:=["pattern","text","most"]) KX G ?a ?l ?c ?k (fun _ _ _ _ _ _ us hl=>match us,hl with | [_,_,_],_=>rfl)
   (case a=>k_is);(case l=>k_is);(case c=>k_is);(case k=>k_is))
  have l2:=(by
   refine' Yi (x:="replaced") (st:=Vy) (ps:=["pattern","text","form","most"]) KX G ?a ?l ?c ?k (fun _ _ _ _ _ _ us hl=>match us,hl with | [_,_,_,_],_=>rfl)
   (case a=>k_is);(case l=>k_is);(case c=>k_is);(case k=>k_is))
  have l3:=(by
   refine' Yi (x:="texts_around") (st:=Xw) (ps:=["text","finds"]) KX G ?a ?l ?c ?k (fun _ _ _ _ _ _ us hl=>match us,hl with | [_,_],_=>rfl)
   (case a=>k_is);(case l=>k_is);(case c=>k_is);(case k=>k_is))
  have l4:=(by
   refine' Yi (x:="parts_of") (st:=Vz) (ps:=["pattern"]) KX G ?a ?l ?c ?k (fun _ _ _ _ _ _ us hl=>match us,hl with | [_],_=>rfl)
   (case a=>k_is);(case l=>k_is);(case c=>k_is);(case k=>k_is))
  have l5:=(by
   refine' Yi (x:="groups_in") (st:=Wh) (ps:=["pattern"]) KX G ?a ?l ?c ?k (fun _ _ _ _ _ _ us hl=>match us,hl with | [_],_=>rfl)
   (case a=>k_is);(case l=>k_is);(case c=>k_is);(case k=>k_is))
  have l6:=(by
   refine' Yi (x:="form_pieces") (st:=Wb) (ps:=["form","groups"]) KX G ?a ?l ?c ?k (fun _ _ _ _ _ _ us hl=>match us,hl with | [_,_],_=>rfl)
   (case a=>k_is);(case l=>k_is);(case c=>k_is);(case k=>k_is))
  have l7:=(by
   refine' Yi (x:="marked_piece") (st:=Xx) (ps:=["sign","groups"]) KX G ?a ?l ?c ?k (fun _ _ _ _ _ _ us hl=>match us,hl with | [_,_],_=>rfl)
   (case a=>k_is);(case l=>k_is);(case c=>k_is);(case k=>k_is))
  have l8:=(by
   refine' Yi (x:="filled") (st:=Ul) (ps:=["pieces","text","find"]) KX G ?a ?l ?c ?k (fun _ _ _ _ _ _ us hl=>match us,hl with | [_,_,_],_=>rfl)
   (case a=>k_is);(case l=>k_is);(case c=>k_is);(case k=>k_is))
  have l9:=(by
   refine' Yi (x:="taken_text") (st:=Wt) (ps:=["number","text","find"]) KX G ?a ?l ?c ?k (fun _ _ _ _ _ _ us hl=>match us,hl with | [_,_,_],_=>rfl)
   (case a=>k_is);(case l=>k_is);(case c=>k_is);(case k=>k_is))
  have q0:=(by
   refine' Yi (x:="_law_take") (st:=Jb) (ps:=["_law_box","_law_many"]) KX G ?a ?l ?c ?k (fun _ _ _ _ _ _ us hl=>match us,hl with | [_,_],_=>rfl)
   (case a=>k_is);(case l=>k_is);(case c=>k_is);(case k=>k_is))
  have q1:=(by
   refine' Yi (x:="_law_sign") (st:=Jc) (ps:=["_law_cell"]) KX G ?a ?l ?c ?k (fun _ _ _ _ _ _ us hl=>match us,hl with | [_],_=>rfl)
   (case a=>k_is);(case l=>k_is);(case c=>k_is);(case k=>k_is))
  have q2:=(by
   refine' Yi (x:="_law_alike") (st:=V3) (ps:=["_law_found","_law_due"]) KX G ?a ?l ?c ?k (fun _ _ _ _ _ _ us hl=>match us,hl with | [_,_],_=>rfl)
   (case a=>k_is);(case l=>k_is);(case c=>k_is);(case k=>k_is))
  have q3:=(by
   refine' Yi (x:="_law_told") (st:=Ja) (ps:=["_law_way","_law_p","_law_text","_law_most","_law_form"]) KX G ?a ?l ?c ?k (fun _ _ _ _ _ _ us hl=>match us,hl with | [_,_,_,_,_],_=>rfl)
   (case a=>k_is);(case l=>k_is);(case c=>k_is);(case k=>k_is))
  have q4:=(by
   refine' Yi (x:="_law_runs_of") (st:=Vf) (ps:=["_law_text","_law_one"]) KX G ?a ?l ?c ?k (fun _ _ _ _ _ _ us hl=>match us,hl with | [_,_],_=>rfl)
   (case a=>k_is);(case l=>k_is);(case c=>k_is);(case k=>k_is))
  have q5:=(by
   refine' Yi (x:="_law_of_kind") (st:=X6) (ps:=["_law_kind","_law_one","_law_other","_law_text"]) KX G ?a ?l ?c ?k (fun _ _ _ _ _ _ us hl=>match us,hl with | [_,_,_,_],_=>rfl)
   (case a=>k_is);(case l=>k_is);(case c=>k_is);(case k=>k_is))
  have xn:∃CN CE,L2.XC (Z8z KX) mg "NoForm" CN CE:=by
   dsimp only[Z8z]
   refine' Zfc KX G ?a ?l ?ln ?l2 ?ln2 ?s1 ?s2 ?i1 ?i2
   (case a=>k_is);(case l=>k_is);(case ln=>k_is);(case l2=>k_is);(case ln2=>k_is);(case s1=>kernel_rfl);(case s2=>kernel_rfl);(case i1=>kernel_rfl);(case i2=>kernel_rfl)
  have xc:∃CO CE,L2.XC (Z8z KX) mg "Over" CO CE:=by
   dsimp only[Z8z]
   refine' Zfc KX G ?a ?l ?ln ?l2 ?ln2 ?s1 ?s2 ?i1 ?i2
   (case a=>k_is);(case l=>k_is);(case ln=>k_is);(case l2=>k_is);(case ln2=>k_is);(case s1=>kernel_rfl);(case s2=>kernel_rfl);(case i1=>kernel_rfl);(case i2=>kernel_rfl)
  have bz:mg "zip" = none:=by
   refine' z KX ?b
   (case b=>k_is)
  have c1:∃pl,mg "ITSELF" = some (.ref pl)/\∀H,L2.SqT (Z8z KX) H pl J0:=by
   dsimp only[Z8z]
   refine' Z3h KX G ?a ?l
   (case a=>k_is);(case l=>k_is)
  have c2:∃pl,mg "LEANING" = some (.ref pl)/\∀H,L2.SqT (Z8z KX) H pl V1:=by
   dsimp only[Z8z]
   refine' Za5 KX G ?a ?l
   (case a=>k_is);(case l=>k_is)
  have c3:∃pl,mg "LAST_ROWS" = some (.ref pl)/\Zf5 (Z8z KX) w pl V9:=by
   dsimp only[Z8z]
   refine' Z75 KX G ?a ?l ?d ?e ?n
   (case a=>k_is);(case l=>k_is);(case d=>decide);(case e=>exact⟨rfl,rfl,rfl,rfl,rfl⟩);(case n=>decide +kernel)
  have c4:∃pl,mg "PART_LAST" = some (.ref pl)/\∀H,L2.SqT (Z8z KX) H pl W9:=by
   dsimp only[Z8z]
   refine' Z3h KX G ?a ?l
   (case a=>k_is);(case l=>k_is)
  have c5:∃t1,mg "DIGITS" = some (.str Seek.digS t1):=by
   refine' Za4 KX G ?a
   (case a=>k_is)
  obtain⟨CN',CE',xn⟩:=xn
  obtain⟨CO,CE,xc⟩:=xc
  obtain⟨plA,hpa,hPL⟩:=c4
  obtain⟨t1,hdg⟩:=c5
  obtain⟨it,hit,hIT⟩:=c1
  obtain⟨le,hle,hLE⟩:=c2
  obtain⟨ls,hls,hLS⟩:=c3
  obtain⟨C,MA⟩:=mc
  obtain⟨CS,SD⟩:=sk
  obtain⟨dn,ds,hdn,hDN,DD⟩:=dc
  refine' Zfq KX G hmg ?a ?l ?c ?k (Zh6 T hit hIT hle hLE hls hLS MA SD hdn hDN DD ⟨p0,p1,p2,p3,p4,p5,p6,p7,p8,p9⟩ ⟨l0,l1,l2,l3,l4,l5,l6,l7,l8,l9⟩ bz hdg hpa hPL q0 q1 q2 q3 q4 q5 xn xc)
  (case a=>k_is);(case l=>k_is);(case c=>k_is);(case k=>k_is)